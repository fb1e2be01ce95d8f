/-
  The greatest of a list of numbers that lie apart.
-/
import Derived.Test.YthahoabkehcgbaaGreatDoorNr1
import Derived.Test.YthahoabkehcgbaaGreatDoorBX
namespace Go.Proofs.YthahoabkehcgbaaGreatDoor
open Go.RowKit
set_option linter.unusedVariables false
set_option maxRecDepth 8000
set_option linter.unusedSimpArgs false

/-- The greatest of the first n, nought the least. -/
def mxV (V : Nat → Int) : Nat → Int
  | 0 => 0
  | n + 1 => if mxV V n < V n then V n else mxV V n
theorem mxV_nonneg (V : Nat → Int) : ∀ n, 0 ≤ mxV V n
  | 0 => Int.le_refl _
  | n + 1 => by have := mxV_nonneg V n; unfold mxV; split <;> omega
theorem cmpD_pos {L V U : Int} {a b : DE} (h1 : IsV L V a) (h2 : IsV L U b) : cmpDI (wval a.1 a.2.1) a.2.2 (wval b.1 b.2.1) b.2.2 = cmpI V U := by
  obtain ⟨x1, n1, e1⟩ := h1
  obtain ⟨x2, n2, e2⟩ := h2
  unfold cmpDI
  rw [← cmpI_scale _ _ (min a.2.2 b.2.2 - L).toNat, pow_step _ (by omega) (by omega), pow_step _ (by omega) (by omega), e1, e2]
theorem IsV.low {L V m : Int} {d : DE} (h : IsV L V d) (hL : L ≤ m) (hm : m ≤ d.2.2) : IsV L V (d.1, limbs ((val d.2.1).toNat * 2 ^ (d.2.2 - m).toNat), m) := by
  obtain ⟨x, n, e⟩ := h
  refine ⟨hL, limbs_nrm _, ?_⟩
  dsimp only
  rw [shl_val d.1 n, pow_step _ hm hL, e]
theorem NV.low {L V m : Int} {d : DE} (h : NV L V d) (hL : L ≤ m) (hm : m ≤ d.2.2) (hV : V.natAbs < 2 ^ AA) : NV L V (d.1, limbs ((val d.2.1).toNat * 2 ^ (d.2.2 - m).toNat), m) := by
  have hh := h.1.low hL hm
  have hl := hh.len hV (show AA ≤ 16 * 2500 by decide)
  exact ⟨hh, Nat.le_trans hl (by decide), by have := h.2.2; show m ≤ 40000; omega⟩
/-- The first k pointers of G are to the numbers F; no two share a block; U are their lists. -/
structure NumL (w0 w : World) (k : Nat) (G : Nat → Nat) (U : Nat → Value) (F : Nat → DE) : Prop where
  n : ∀ p, p < k → Num w0.heap.size w (G p) (U p) (F p).2.1 ∧ Sd w (G p) (F p).1 ∧ Ex w (G p) (F p).2.2 ∧ w0.heap.size ≤ G p
  ap : ∀ p q, p < k → q < k → p ≠ q → G p ≠ G q ∧ (U p).ownBlock ≠ some (G q) ∧ (∀ i, (U p).ownBlock = some i → (U q).ownBlock ≠ some i)
  k0 : Kept 0 0 w0 w
theorem NumL.two {w0 w : World} {k p q : Nat} {G : Nat → Nat} {U : Nat → Value} {F : Nat → DE} (h : NumL w0 w k G U F) (hp : p < k) (hq : q < k) (hne : p ≠ q) : Two w0 w (G p) (G q) (U p) (U q) (F p).2.1 (F q).2.1 :=
  ⟨(h.n p hp).1, (h.n q hq).1, (h.ap p q hp hq hne).1, (h.ap p q hp hq hne).2.1, (h.ap q p hq hp (fun e => hne e.symm)).2.1, (h.ap p q hp hq hne).2.2, h.k0, (h.n p hp).2.2.2, (h.n q hq).2.2.2⟩
def upd2 {A : Type} (f : Nat → A) (p q : Nat) (a b : A) : Nat → A := fun i => if i = p then a else if i = q then b else f i
theorem upd2_p {A : Type} (f : Nat → A) (p q : Nat) (a b : A) : upd2 f p q a b p = a := by unfold upd2; rw [if_pos rfl]
theorem upd2_q {A : Type} (f : Nat → A) {p q : Nat} (h : p ≠ q) (a b : A) : upd2 f p q a b q = b := by unfold upd2; rw [if_neg (fun e => h e.symm), if_pos rfl]
theorem upd2_o {A : Type} (f : Nat → A) {p q i : Nat} (h1 : i ≠ p) (h2 : i ≠ q) (a b : A) : upd2 f p q a b i = f i := by unfold upd2; rw [if_neg h1, if_neg h2]
theorem Sd.mod {S : Nat → Prop} {w w' : World} {g : Nat} {s : Bool} (h : Sd w g s) (m : Mod S w w') (hS : ¬ S g) : Sd w' g s := ⟨m.cell (a := ⟨g, 1, none⟩) hS h.1, m.loose (a := ⟨g, 1, none⟩) hS h.lt h.2⟩
theorem Ex.mod {S : Nat → Prop} {w w' : World} {g : Nat} {x : Int} (h : Ex w g x) (m : Mod S w w') (hS : ¬ S g) : Ex w' g x := ⟨m.cell (a := ⟨g, 2, none⟩) hS h.1, m.loose (a := ⟨g, 2, none⟩) hS h.lt h.2⟩
theorem NumL.put2 {w0 w w' : World} {k p q : Nat} {G : Nat → Nat} {U : Nat → Value} {F : Nat → DE} (h : NumL w0 w k G U F) (hp : p < k) (hq : q < k) (hne : p ≠ q) {v1 v2 : Value} {d1 d2 : DE} (t : Two w0 w' (G p) (G q) v1 v2 d1.2.1 d2.2.1) (s1 : Sd w' (G p) d1.1) (s2 : Sd w' (G q) d2.1) (e1 : Ex w' (G p) d1.2.2) (e2 : Ex w' (G q) d2.2.2)
    (m : Mod (fun i => i = G p ∨ i = G q) w w') (o1 : ∀ i, v1.ownBlock = some i → (U p).ownBlock = some i ∨ w.heap.size ≤ i) (o2 : ∀ i, v2.ownBlock = some i → (U q).ownBlock = some i ∨ w.heap.size ≤ i) : NumL w0 w' k G (upd2 U p q v1 v2) (upd2 F p q d1 d2) := by
  have hGl : ∀ i, i < k → G i < w.heap.size := fun i hi => (h.n i hi).1.lt
  have hUl : ∀ i b, i < k → (U i).ownBlock = some b → b < w.heap.size := fun i b hi hb => ((h.n i hi).1.own.lt b hb).2
  have hqp : q ≠ p := fun e => hne e.symm
  -- what the new lists are not
  have f1 : ∀ i, i < k → i ≠ p → i ≠ q → v1.ownBlock ≠ some (G i) ∧ (∀ b, v1.ownBlock = some b → (U i).ownBlock ≠ some b) ∧ (U i).ownBlock ≠ some (G p) := fun i hi h1 h2 => by
    refine ⟨fun e => ?_, fun b hb hb2 => ?_, (h.ap i p hi hp h1).2.1⟩
    · rcases o1 _ e with e' | e'
      · exact (h.ap p i hp hi (fun e => h1 e.symm)).2.1 e'
      · have := hGl i hi; omega
    · rcases o1 _ hb with e' | e'
      · exact (h.ap p i hp hi (fun e => h1 e.symm)).2.2 _ e' hb2
      · have := hUl i b hi hb2; omega
  have f2 : ∀ i, i < k → i ≠ p → i ≠ q → v2.ownBlock ≠ some (G i) ∧ (∀ b, v2.ownBlock = some b → (U i).ownBlock ≠ some b) ∧ (U i).ownBlock ≠ some (G q) := fun i hi h1 h2 => by
    refine ⟨fun e => ?_, fun b hb hb2 => ?_, (h.ap i q hi hq h2).2.1⟩
    · rcases o2 _ e with e' | e'
      · exact (h.ap q i hq hi (fun e => h2 e.symm)).2.1 e'
      · have := hGl i hi; omega
    · rcases o2 _ hb with e' | e'
      · exact (h.ap q i hq hi (fun e => h2 e.symm)).2.2 _ e' hb2
      · have := hUl i b hi hb2; omega
  refine ⟨fun i hi => ?_, fun i j hi hj hij => ?_, t.k⟩
  · by_cases h1 : i = p
    · subst h1; rw [upd2_p, upd2_p]; exact ⟨t.n1, s1, e1, t.b1⟩
    · by_cases h2 : i = q
      · subst h2; rw [upd2_q U hne, upd2_q F hne]; exact ⟨t.n2, s2, e2, t.b2⟩
      · rw [upd2_o U h1 h2, upd2_o F h1 h2]
        obtain ⟨a1, a2, a3, a4⟩ := h.n i hi
        have g1 : ¬ (G i = G p ∨ G i = G q) := fun e => e.elim (h.ap i p hi hp h1).1 (h.ap i q hi hq h2).1
        exact ⟨a1.mod m g1 (fun b hb e => e.elim (fun e => (h.ap i p hi hp h1).2.1 (e ▸ hb)) (fun e => (h.ap i q hi hq h2).2.1 (e ▸ hb))), a2.mod m g1, a3.mod m g1, a4⟩
  · have hG := (h.ap i j hi hj hij).1
    refine ⟨hG, ?_⟩
    by_cases i1 : i = p
    · subst i1
      rw [upd2_p]
      by_cases j2 : j = q
      · subst j2; rw [upd2_q U hne]; exact ⟨t.o12, t.oo⟩
      · have j1 : j ≠ i := fun e => hij e.symm
        rw [upd2_o U j1 j2]; exact ⟨(f1 j hj j1 j2).1, (f1 j hj j1 j2).2.1⟩
    · by_cases i2 : i = q
      · subst i2
        rw [upd2_q U hne]
        by_cases j1 : j = p
        · subst j1; rw [upd2_p]; exact ⟨t.o21, fun b hb hb2 => t.oo b hb2 hb⟩
        · have j2 : j ≠ i := fun e => hij e.symm
          rw [upd2_o U j1 j2]; exact ⟨(f2 j hj j1 j2).1, (f2 j hj j1 j2).2.1⟩
      · rw [upd2_o U i1 i2]
        by_cases j1 : j = p
        · subst j1; rw [upd2_p]; exact ⟨(f1 i hi i1 i2).2.2, fun b hb hb2 => (f1 i hi i1 i2).2.1 b hb2 hb⟩
        · by_cases j2 : j = q
          · subst j2; rw [upd2_q U hne]; exact ⟨(f2 i hi i1 i2).2.2, fun b hb hb2 => (f2 i hi i1 i2).2.1 b hb2 hb⟩
          · rw [upd2_o U j1 j2]; exact (h.ap i j hi hj hij).2
theorem NumL.kept {w0 w w' : World} {k : Nat} {G : Nat → Nat} {U : Nat → Value} {F : Nat → DE} (h : NumL w0 w k G U F) (m : Kept 0 0 w w') : NumL w0 w' k G U F :=
  ⟨fun p hp => ⟨(h.n p hp).1.kept m, (h.n p hp).2.1.kept m, (h.n p hp).2.2.1.kept m, (h.n p hp).2.2.2⟩, h.ap, h.k0.trans m⟩
theorem Nums.listL {w0 w : World} {k : Nat} {S : Nat → Prop} {G : Nat → Nat} {F : Nat → DE} (h : Nums w0.heap.size S w k G F) (k0 : Kept 0 0 w0 w) : ∃ U, NumL w0 w k G U F := by
  obtain ⟨L, H, h1, h2⟩ := h
  have hc : ∀ p, ∃ u, p < k → Num 0 w (G p) u (F p).2.1 ∧ Sd w (G p) (F p).1 ∧ Ex w (G p) (F p).2.2 ∧ L p ≤ G p ∧ G p < H p ∧ ∀ i, u.ownBlock = some i → L p ≤ i ∧ i < H p := fun p => by
    by_cases hp : p < k
    · obtain ⟨⟨u, hu⟩, -⟩ := h1 p hp
      exact ⟨u, fun _ => hu⟩
    · exact ⟨.pointer none, fun h => absurd h hp⟩
  refine ⟨fun p => Classical.choose (hc p), fun p hp => ?_, fun p q hp hq hne => ?_, k0⟩
  · obtain ⟨n, s, e, x1, x2, x3⟩ := Classical.choose_spec (hc p) hp
    have hb := (h1 p hp).2.1
    exact ⟨⟨n.cell, n.loose, own_base n.own (fun i hi => by have := x3 i hi; omega), n.apart⟩, s, e, by omega⟩
  · obtain ⟨n, s, e, x1, x2, x3⟩ := Classical.choose_spec (hc p) hp
    obtain ⟨n', s', e', y1, y2, y3⟩ := Classical.choose_spec (hc q) hq
    have ha := h2 p q hp hq hne
    exact ⟨by omega, fun hh => by have := x3 _ hh; omega, fun i hi hj => by have := x3 i hi; have := y3 i hj; omega⟩

theorem in_cmpD : ∀ (w : World) (args : Array Value), (callFunc 150 args).run Tryz.prog w = .ok (.enter 150 args) w := enters Tryz.func150 (by decide) (fun h => by cases h)

set_option maxHeartbeats 4000000 in
theorem maxP_impl {L : Int} {V : Nat → Int} {gl k c : Nat} {G : Nat → Nat} {U : Nat → Value} {F : Nat → DE} (w0 w : World) (hL : -40000 ≤ L) (h0 : 0 < k) (hk : k ≤ 1000) (hc : k ≤ c) (hV : ∀ p, p < k → 0 ≤ V p ∧ (V p).natAbs < 2 ^ AA) (nl : NumL w0 w k G U F) (nv : ∀ p, p < k → NV L (V p) (F p)) (hl : ∀ q, q < k → w.cell? ⟨gl, q, none⟩ = some (.pointer (some ⟨G q, 0, none⟩))) (hg : ∀ p, p < k → gl ≠ G p) :
    Calls Tryz.prog 149 #[.slice (some ⟨gl, 0, none⟩) k c, .func (.func 150) #[] #[]] w fun e w' => ∃ p U' F', p < k ∧ e = .returned (.pointer (some ⟨G p, 0, none⟩)) ∧ NumL w0 w' k G U' F' ∧ (∀ p, p < k → NV L (V p) (F' p)) ∧ V p = mxV V k := by
  have l0 := hl 0 h0
  have HL := hide hl
  have HV := hide hV
  have HG := hide hg
  have NL := hide nl
  have NW := hide nv
  have v1 : Hid (V 0 = mxV V 1) := by
    show _ = if mxV V 0 < V 0 then V 0 else mxV V 0
    have := (hV 0 h0).1
    show _ = if (0 : Int) < V 0 then V 0 else 0
    split <;> omega
  clear hl hV hg nl nv
  have hx1 : ¬ k < 1 := by omega
  go_enter Tryz.func149, Tryz.ntmps149
  go_wp2_with fail
  clear l0 hx1
  go_loopw [6, 5] (fun s6 s5 wr => ∃ (i b : Nat), s6 = .int .i64 i ∧ s5 = .pointer (some ⟨G b, 0, none⟩) ∧ 1 ≤ i ∧ i ≤ k ∧ b < i ∧ Hid (V b = mxV V i) ∧ Hid (∃ U' F', NumL w0 wr k G U' F' ∧ ∀ p, p < k → NV L (V p) (F' p)) ∧ Hid (∀ q, q < k → wr.cell? ⟨gl, q, none⟩ = some (.pointer (some ⟨G q, 0, none⟩)))) (fun s6 _ _ => k - (intOf s6).toNat)
  case atStart => exact ⟨1, 0, rfl, rfl, Nat.le_refl _, h0, by decide, v1, ⟨U, F, unhide NL, unhide NW⟩, HL⟩
  case round =>
    clear v1 NL NW HL
    obtain ⟨i, b, rfl, rfl, hi1, hik, hbi, hb, hN, hC⟩ := hrel
    have hwi : IntKind.i64.wrap ((i : Int) + 1) = ((i + 1 : Nat) : Int) := by rw [IntKind.wrap_i64]; omega
    by_cases hlt : i < k
    · obtain ⟨U', F', nl, nv⟩ := unhide hN
      have hne : i ≠ b := by omega
      have hbk : b < k := by omega
      have ci := unhide hC i hlt
      obtain ⟨ni, si, ei, -⟩ := nl.n i hlt
      obtain ⟨nb, sb, eb, -⟩ := nl.n b hbk
      have v1 := nv i hlt
      have v2 := nv b hbk
      have b1 := v1.1.1
      have b2 := v2.1.1
      have hcm := compareDyadic_modW (nl.two hlt hbk hne) si sb ei eb v1.1.2.1 v2.1.2.1 (by have := v1.2.1; omega) (by have := v2.2.1; omega) (by omega) v1.2.2 (by omega) v2.2.2
      rw [cmpD_pos v1.1 v2.1] at hcm
      have HCM := hide hcm
      have NL := hide nl
      have NW := hide nv
      have m1 : Hid (L ≤ min (F' i).2.2 (F' b).2.2) := by show _ ≤ _; omega
      clear ni si ei nb sb eb v1 v2 b1 b2 hcm nl nv hN
      have W2 : Hid (∀ w', Mod (fun x => x = G i ∨ x = G b) wr w' → ∀ q, q < k → w'.cell? ⟨gl, q, none⟩ = some (.pointer (some ⟨G q, 0, none⟩))) := fun w' m q hq => m.cell (a := ⟨gl, q, none⟩) (fun e => e.elim (unhide HG i hlt) (unhide HG b hbk)) (unhide hC q hq)
      clear hC
      go_wp2_with fail
      refine (unhide HCM).mono ?_
      rintro e w3 ⟨rfl, u1, u2, t3, s1, s2, e1, e2, m3, o1, o2⟩
      have N3 : Hid (∃ U' F', NumL w0 w3 k G U' F' ∧ ∀ p, p < k → NV L (V p) (F' p)) := by
        refine ⟨_, upd2 F' i b ((F' i).1, limbs ((val (F' i).2.1).toNat * 2 ^ ((F' i).2.2 - min (F' i).2.2 (F' b).2.2).toNat), min (F' i).2.2 (F' b).2.2) ((F' b).1, limbs ((val (F' b).2.1).toNat * 2 ^ ((F' b).2.2 - min (F' i).2.2 (F' b).2.2).toNat), min (F' i).2.2 (F' b).2.2), (unhide NL).put2 hlt hbk hne t3 s1 s2 e1 e2 m3 o1 o2, fun p hp => ?_⟩
        by_cases h1 : p = i
        · subst h1; rw [upd2_p]; exact (unhide NW p hp).low (unhide m1) (by omega) (unhide HV p hp).2
        · by_cases h2 : p = b
          · subst h2; rw [upd2_q F' hne]; exact (unhide NW p hp).low (unhide m1) (by omega) (unhide HV p hp).2
          · rw [upd2_o F' h1 h2]; exact unhide NW p hp
      have C3 := hide (unhide W2 w3 m3)
      have ci3 := unhide C3 i hlt
      have hb' := unhide hb
      clear HCM t3 s1 s2 e1 e2 m3 o1 o2 NL NW W2 m1 ci hb
      by_cases hgt : V b < V i
      · have B3 : Hid (V i = mxV V (i + 1)) := by show _ = if mxV V i < V i then V i else mxV V i; rw [← hb', if_pos hgt]
        have hpos : cmpI (V i) (V b) = 1 := cmpI_gt hgt
        rw [hpos]
        clear hgt hb' hpos
        go_wp2
        go_roundw
        case rel => exact ⟨i + 1, i, by simp, rfl, by omega, hlt, by omega, B3, N3, C3⟩
        case measure => simp [intOf]; omega
      · have B3 : Hid (V b = mxV V (i + 1)) := by show _ = if mxV V i < V i then V i else mxV V i; rw [← hb', if_neg hgt]
        obtain ⟨C, hC⟩ : ∃ C, cmpI (V i) (V b) = C := ⟨_, rfl⟩
        have hpos : ¬ C > 0 := by
          rw [← hC]; unfold cmpI
          split
          · decide
          · first | decide | (rw [if_neg hgt]; decide)
        rw [hC]
        clear hgt hb' hC ci3
        go_wp2
        go_roundw
        case rel => exact ⟨i + 1, b, by simp, rfl, by omega, hlt, by omega, B3, N3, C3⟩
        case measure => simp [intOf]; omega
    · have hik2 : i = k := by omega
      subst hik2
      obtain ⟨U', F', nl, nv⟩ := unhide hN
      have FF : Hid (NumL w0 wr i G U' F' ∧ ∀ p, p < i → NV L (V p) (F' p)) := ⟨nl, nv⟩
      clear nl nv hN hC
      go_wp2
      go_ret
      exact ⟨b, U', F', hbi, rfl, (unhide FF).1, (unhide FF).2, unhide hb⟩

set_option maxHeartbeats 8000000 in
theorem total_new {L : Int} {gl m c base : Nat} {P : Nat → Nat} {F : Nat → DE} {V : Nat → Int} (w : World) (hL : -40000 ≤ L) (h0 : 0 < m) (hm : m ≤ 1000) (hc : m ≤ c) (hc2 : c ≤ 9223372036854775807) (hb : base ≤ w.heap.size) (hl : ∀ q, q < m → w.cell? ⟨gl, q, none⟩ = some (.pointer (some ⟨P q, 0, none⟩))) (hn : ∀ q, q < m → DyP (fun x => x < base) w (P q) (F q) ∧ NV L (V q) (F q)) (hs : ∀ q, q ≤ m → (psum V q).natAbs < 2 ^ AA) :
    Calls Tryz.prog 148 #[.slice (some ⟨gl, 0, none⟩) m c] w fun e w' => ∃ g d, e = .returned (.pointer (some ⟨g, 0, none⟩)) ∧ DyP (fun x => x < base) w' g d ∧ NV L (psum V m) d ∧ Kept 0 0 w w' ∧ (2 ≤ m → DyP (fun x => x < w.heap.size) w' g d) := by
  have l0 := hl 0 h0
  by_cases hm1 : m = 1
  · subst hm1
    have D : Hid (DyP (fun x => x < base) w (P 0) (F 0) ∧ NV L (psum V 1) (F 0)) := ⟨(hn 0 h0).1, by show NV L (0 + V 0) _; rw [Int.zero_add]; exact (hn 0 h0).2⟩
    clear hl hn hs hb
    by_cases hc1 : c = 1
    · subst hc1
      go_enter Tryz.func148, Tryz.ntmps148
      go_wp2_with fail
      go_loopw [12, 3] (fun s12 s3 wr => s12 = .int .i64 0 ∧ s3 = .pointer (some ⟨P 0, 0, none⟩) ∧ w = wr) (fun s12 _ _ => 1)
      case atStart => exact ⟨rfl, rfl, rfl⟩
      case round =>
        obtain ⟨rfl, rfl, rfl⟩ := hrel
        go_wp2
        go_ret
        exact ⟨_, _, rfl, (unhide D).1, (unhide D).2, Kept.refl _ _ _, fun h => absurd h (by omega)⟩
    · have hc3 : 1 < c := by omega
      have hc4 : c - 1 ≠ 0 := by omega
      go_enter Tryz.func148, Tryz.ntmps148
      go_wp2_with fail
      go_loopw [12, 3] (fun s12 s3 wr => s12 = .int .i64 0 ∧ s3 = .pointer (some ⟨P 0, 0, none⟩) ∧ w = wr) (fun s12 _ _ => 1)
      case atStart => exact ⟨rfl, rfl, rfl⟩
      case round =>
        obtain ⟨rfl, rfl, rfl⟩ := hrel
        go_wp2
        go_ret
        exact ⟨_, _, rfl, (unhide D).1, (unhide D).2, Kept.refl _ _ _, fun h => absurd h (by omega)⟩
  have hc3 : 1 < c := by omega
  have hc4 : c - 1 ≠ 0 := by omega
  have hc5 : c ≠ 1 := by omega
  have HL := hide hl
  have HN := hide hn
  have HS := hide hs
  have HB := hide hb
  have hfu := plus_is
  clear hl hn hs hb
  go_enter Tryz.func148, Tryz.ntmps148
  go_wp2_with fail
  go_loopw [12, 3] (fun s12 s3 wr => ∃ (i g : Nat) (d : DE), s12 = .int .i64 i ∧ s3 = .pointer (some ⟨g, 0, none⟩) ∧ i + 1 ≤ m ∧ Hid (DyP (fun x => x < base) wr g d ∧ NV L (psum V (i + 1)) d) ∧ Kept 0 0 w wr ∧ Hid (1 ≤ i → DyP (fun x => x < w.heap.size) wr g d)) (fun s12 _ _ => m - (intOf s12).toNat)
  case atStart => exact ⟨0, P 0, F 0, rfl, rfl, h0, ⟨(unhide HN 0 h0).1, by show NV L (0 + V 0) _; rw [Int.zero_add]; exact (unhide HN 0 h0).2⟩, Kept.refl _ _ _, fun h => absurd h (by omega)⟩
  case round =>
    obtain ⟨i, g, d, rfl, rfl, hi, hD, k, hNW⟩ := hrel
    have hwi : IntKind.i64.wrap ((i : Int) + 1) = ((i + 1 : Nat) : Int) := by rw [IntKind.wrap_i64]; omega
    by_cases hlt : i < m - 1
    · have hlt2 : i + 1 < m := by omega
      have hcl := k.cell0 (unhide HL (i + 1) hlt2)
      have hcl2 : wr.cell? ⟨gl, 1 + i, none⟩ = some (.pointer (some ⟨P (i + 1), 0, none⟩)) := by rw [Nat.add_comm 1 i]; exact hcl
      obtain ⟨u1, n1, d1, e1⟩ := (unhide hD).1.parts
      obtain ⟨u2, n2, d2, e2⟩ := ((unhide HN (i + 1) hlt2).1.kept k).parts
      have hp := plusD_impl wr hL n1 d1 e1 n2 d2 e2 (unhide hD).2 (unhide HN (i + 1) hlt2).2 (unhide HS (i + 2) (by omega))
      have K := hide k
      have BB := hide (Nat.le_trans (unhide HB) k.size)
      have BW := hide k.size
      clear hNW
      clear n1 d1 e1 n2 d2 e2 k hD hcl
      go_wp2_with fail
      refine hp.mono ?_
      rintro e w3 ⟨g3, d3, rfl, dp, nv, k3⟩
      have DD : Hid (DyP (fun x => x < base) w3 g3 d3 ∧ NV L (psum V (i + 1 + 1)) d3) := ⟨dp.less (fun x hx _ => by have := unhide BB; omega), nv⟩
      have ND : Hid (1 ≤ i + 1 → DyP (fun x => x < w.heap.size) w3 g3 d3) := fun _ => dp.less (fun x hx _ => by have := unhide BW; omega)
      have K3 := hide ((unhide K).trans k3)
      clear hp dp nv k3 K BB BW hcl2
      go_wp2
      go_roundw
      case rel => exact ⟨i + 1, g3, d3, by simp, rfl, hlt2, DD, unhide K3, ND⟩
      case measure => simp [intOf]; omega
    · have him : i + 1 = m := by omega
      have ND : Hid (2 ≤ m → DyP (fun x => x < w.heap.size) wr g d) := fun h => unhide hNW (by omega)
      rw [him] at hD
      have K := hide k
      clear k him hNW
      go_wp2
      go_ret
      exact ⟨_, _, rfl, (unhide hD).1, (unhide hD).2, unhide K, unhide ND⟩

end Go.Proofs.YthahoabkehcgbaaGreatDoor
