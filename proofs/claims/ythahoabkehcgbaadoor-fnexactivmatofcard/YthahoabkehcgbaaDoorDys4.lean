/-
  Marks in a list of dyadic numbers that a call owns, and whether they are held.
-/
import Derived.Test.YthahoabkehcgbaaDoorBM
namespace Go.Proofs.YthahoabkehcgbaaDoor
open Go.RowKit
set_option linter.unusedVariables false
set_option maxRecDepth 8000
set_option linter.unusedSimpArgs false

/-- A list of the call's own, with its places named. -/
structure DysW (lo hi g off n : Nat) (b : Nat → Nat) (f : Nat → DE) (w : World) : Prop where
  g1 : lo ≤ g
  g2 : g < hi
  lt : g < w.heap.size
  el : ∀ i, i < n → ((f i).2.1 ≠ [] → lo ≤ b i ∧ b i < hi ∧ b i ≠ g) ∧ DyAt true (b i) (b i + 1) w g (off + i * 3) (f i)
  loose : ∀ k, k < n * 3 → w.frozen? ⟨g, off + k, none⟩ = false
  apart : ∀ i j, i < j → j < n → (f i).2.1 ≠ [] → (f j).2.1 ≠ [] → b i ≠ b j

theorem DyAt.set1 {bw : Bool} {lo hi : Nat} {w : World} {g o p : Nat} {d : DE} (h : DyAt bw lo hi w g o d) (x : Value) (hg : d.2.1 ≠ [] → g < lo ∨ hi ≤ g) (hp : o + 3 ≤ p ∨ p < o) : DyAt bw lo hi (w.setCell ⟨g, p, none⟩ x) g o d := by
  obtain ⟨u, c0, c1, c2, r⟩ := h
  have k : Kept g (g + 1) w (w.setCell ⟨g, p, none⟩ x) := (Kept.refl g (g + 1) w).setCell (p := ⟨g, p, none⟩) (Nat.le_refl _) (Nat.lt_succ_self _) _
  have rr : Row .i64 bw lo hi (w.setCell ⟨g, p, none⟩ x) u d.2.1 := by
    by_cases e : d.2.1 = []
    · exact r.none e
    · have := hg e
      exact r.kept k (by omega)
  exact ⟨u, cell_off _ _ _ _ _ _ c0 (by omega), cell_off _ _ _ _ _ _ c1 (by omega), cell_off _ _ _ _ _ _ c2 (by omega), rr⟩
theorem DyAt.setS {bw : Bool} {lo hi : Nat} {w : World} {g o : Nat} {d : DE} (h : DyAt bw lo hi w g o d) (s : Bool) (hg : d.2.1 ≠ [] → g < lo ∨ hi ≤ g) : DyAt bw lo hi (w.setCell ⟨g, o, none⟩ (.bool s)) g o (s, d.2.1, d.2.2) := by
  obtain ⟨u, c0, c1, c2, r⟩ := h
  have k : Kept g (g + 1) w (w.setCell ⟨g, o, none⟩ (.bool s)) := (Kept.refl g (g + 1) w).setCell (p := ⟨g, o, none⟩) (Nat.le_refl _) (Nat.lt_succ_self _) _
  have rr : Row .i64 bw lo hi (w.setCell ⟨g, o, none⟩ (.bool s)) u d.2.1 := by
    by_cases e : d.2.1 = []
    · exact r.none e
    · have := hg e
      exact r.kept k (by omega)
  exact ⟨u, cell_on _ _ _ _ _ c0, cell_off _ _ _ _ _ _ c1 (by omega), cell_off _ _ _ _ _ _ c2 (by omega), rr⟩
theorem DyAt.setY {bw : Bool} {lo hi : Nat} {w : World} {g o : Nat} {d : DE} (h : DyAt bw lo hi w g o d) (y : Int) (hg : d.2.1 ≠ [] → g < lo ∨ hi ≤ g) : DyAt bw lo hi (w.setCell ⟨g, o + 2, none⟩ (.int .i64 y)) g o (d.1, d.2.1, y) := by
  obtain ⟨u, c0, c1, c2, r⟩ := h
  have k : Kept g (g + 1) w (w.setCell ⟨g, o + 2, none⟩ (.int .i64 y)) := (Kept.refl g (g + 1) w).setCell (p := ⟨g, o + 2, none⟩) (Nat.le_refl _) (Nat.lt_succ_self _) _
  have rr : Row .i64 bw lo hi (w.setCell ⟨g, o + 2, none⟩ (.int .i64 y)) u d.2.1 := by
    by_cases e : d.2.1 = []
    · exact r.none e
    · have := hg e
      exact r.kept k (by omega)
  exact ⟨u, cell_off _ _ _ _ _ _ c0 (by omega), cell_off _ _ _ _ _ _ c1 (by omega), cell_on _ _ _ _ _ c2, rr⟩

/-- One number of a list turned. -/
def upE (f : Nat → DE) (j : Nat) (d : DE) (i : Nat) : DE := if i = j then d else f i
theorem upE_same (f : Nat → DE) (j : Nat) (d : DE) : upE f j d j = d := if_pos rfl
theorem upE_other (f : Nat → DE) {i j : Nat} (d : DE) (h : i ≠ j) : upE f j d i = f i := if_neg h

theorem DysW.setS {lo hi g off n : Nat} {b : Nat → Nat} {f : Nat → DE} {w : World} (h : DysW lo hi g off n b f w) {j : Nat} (hj : j < n) (s : Bool) : DysW lo hi g off n b (upE f j (s, (f j).2.1, (f j).2.2)) (w.setCell ⟨g, off + j * 3, none⟩ (.bool s)) := by
  have hz : ∀ i, (upE f j (s, (f j).2.1, (f j).2.2) i).2.1 = (f i).2.1 := fun i => by by_cases e : i = j; subst e; rw [upE_same]; rw [upE_other _ _ e]
  refine ⟨h.g1, h.g2, by rw [size_set]; exact h.lt, fun i hi => ?_, fun k hk => by rw [frozen_set]; exact h.loose k hk, fun i i' h1 h2 e1 e2 => h.apart i i' h1 h2 (by rw [← hz]; exact e1) (by rw [← hz]; exact e2)⟩
  obtain ⟨q1, q2⟩ := h.el i hi
  refine ⟨fun e => q1 (by rw [← hz]; exact e), ?_⟩
  by_cases e : i = j
  · subst e; rw [upE_same]; exact q2.setS s (fun e => by have := q1 e; omega)
  · rw [upE_other _ _ e]; exact q2.set1 _ (fun e => by have := q1 e; omega) (by omega)
theorem DysW.setY {lo hi g off n : Nat} {b : Nat → Nat} {f : Nat → DE} {w : World} (h : DysW lo hi g off n b f w) {j : Nat} (hj : j < n) (y : Int) : DysW lo hi g off n b (upE f j ((f j).1, (f j).2.1, y)) (w.setCell ⟨g, off + j * 3 + 2, none⟩ (.int .i64 y)) := by
  have hz : ∀ i, (upE f j ((f j).1, (f j).2.1, y) i).2.1 = (f i).2.1 := fun i => by by_cases e : i = j; subst e; rw [upE_same]; rw [upE_other _ _ e]
  refine ⟨h.g1, h.g2, by rw [size_set]; exact h.lt, fun i hi => ?_, fun k hk => by rw [frozen_set]; exact h.loose k hk, fun i i' h1 h2 e1 e2 => h.apart i i' h1 h2 (by rw [← hz]; exact e1) (by rw [← hz]; exact e2)⟩
  obtain ⟨q1, q2⟩ := h.el i hi
  refine ⟨fun e => q1 (by rw [← hz]; exact e), ?_⟩
  by_cases e : i = j
  · subst e; rw [upE_same]; exact q2.setY y (fun e => by have := q1 e; omega)
  · rw [upE_other _ _ e]; exact q2.set1 _ (fun e => by have := q1 e; omega) (by omega)

/-- The row of one number, with the blocks that it may write. -/
theorem DysW.row {lo hi g off n : Nat} {b : Nat → Nat} {f : Nat → DE} {w : World} (h : DysW lo hi g off n b f w) {j : Nat} (hj : j < n) :
    ∃ p q a c, w.cell? ⟨g, off + j * 3, none⟩ = some (.bool (f j).1) ∧ w.cell? ⟨g, off + j * 3 + 1, none⟩ = some (.slice a (f j).2.1.length c) ∧ w.cell? ⟨g, off + j * 3 + 2, none⟩ = some (.int .i64 (f j).2.2) ∧ Row .i64 true p q w (.slice a (f j).2.1.length c) (f j).2.1 ∧ ((f j).2.1 ≠ [] → p = b j ∧ q = b j + 1) ∧ ((f j).2.1 = [] → p = 0 ∧ q = 0) := by
  obtain ⟨q1, u, c0, c1, c2, r⟩ := h.el j hj
  obtain ⟨a, c, rfl⟩ := Row.form' r
  by_cases e : (f j).2.1 = []
  · exact ⟨0, 0, a, c, c0, c1, c2, r.none e, fun h => absurd e h, fun _ => ⟨rfl, rfl⟩⟩
  · exact ⟨_, _, a, c, c0, c1, c2, r, fun _ => ⟨rfl, rfl⟩, fun h => absurd h e⟩
theorem DysW.turn {lo hi g off n p q c : Nat} {a : Option Addr} {b : Nat → Nat} {f : Nat → DE} {w w' : World} {z : List Int} (h : DysW lo hi g off n b f w) {j : Nat} (hj : j < n)
    (hc : w.cell? ⟨g, off + j * 3 + 1, none⟩ = some (.slice a (f j).2.1.length c)) (h1 : (f j).2.1 ≠ [] → p = b j ∧ q = b j + 1) (h2 : (f j).2.1 = [] → p = 0 ∧ q = 0) (k : Kept p q w w') (r : Row .i64 true p q w' (.slice a (f j).2.1.length c) z) (hz : z = [] ↔ (f j).2.1 = []) :
    DysW lo hi g off n b (upE f j ((f j).1, z, (f j).2.2)) w' := by
  have hne : ∀ i, (upE f j ((f j).1, z, (f j).2.2) i).2.1 ≠ [] → (f i).2.1 ≠ [] := fun i hi e => by
    by_cases e' : i = j
    · subst e'; rw [upE_same] at hi; exact hi (hz.2 e)
    · rw [upE_other _ _ e'] at hi; exact hi e
  have hgo : g < p ∨ q ≤ g := by
    by_cases e : (f j).2.1 = []
    · have := h2 e; omega
    · have := h1 e; have := (h.el j hj).1 e; omega
  have hb := k.block g h.lt hgo
  refine ⟨h.g1, h.g2, Nat.lt_of_lt_of_le h.lt k.size, fun i hi => ?_, fun k' hk' => (World.frozen?_of_block (w := w) (a := ⟨g, off + k', none⟩) hb).trans (h.loose k' hk'), fun i i' q1 q2 e1 e2 => h.apart i i' q1 q2 (hne i e1) (hne i' e2)⟩
  obtain ⟨q1, q2⟩ := h.el i hi
  refine ⟨fun e => q1 (hne i e), ?_⟩
  by_cases e : i = j
  · subst e
    rw [upE_same]
    obtain ⟨u, c0, c1, c2, r0⟩ := q2
    rw [c1] at hc
    cases hc
    have rr : Row .i64 true (b i) (b i + 1) w' (.slice a (f i).2.1.length c) z := by
      by_cases e : (f i).2.1 = []
      · exact r.none (hz.2 e)
      · obtain ⟨rfl, rfl⟩ := h1 e; exact r
    exact ⟨_, (World.cell?_of_block (w := w) (a := ⟨g, off + i * 3, none⟩) hb).trans c0, (World.cell?_of_block (w := w) (a := ⟨g, off + i * 3 + 1, none⟩) hb).trans c1, (World.cell?_of_block (w := w) (a := ⟨g, off + i * 3 + 2, none⟩) hb).trans c2, rr⟩
  · rw [upE_other _ _ e]
    refine q2.keptE k (fun ne => ?_) hgo
    by_cases ej : (f j).2.1 = []
    · have := h2 ej; omega
    · have := h1 ej
      have : b i ≠ b j := by
        rcases Nat.lt_or_gt_of_ne e with h3 | h3
        · exact h.apart i j h3 hj ne ej
        · exact (h.apart j i h3 hi ej ne).symm
      omega

/-- The mark that the number i begins with. -/
def kAt (ds : List DE) (s : Int) (i : Nat) : Int := s + limT ds i + 2 * i
theorem kAt_zero (ds : List DE) (s : Int) : kAt ds s 0 = s := by simp [kAt, limT]
theorem kAt_succ (ds : List DE) (s : Int) (i : Nat) : kAt ds s (i + 1) = kAt ds s i + (ds.getD i de0).2.1.length + 2 := by
  have : limT ds (i + 1) = limT ds i + (ds.getD i de0).2.1.length := rfl
  unfold kAt
  omega
theorem kAt_ge (ds : List DE) (s : Int) (i : Nat) (h : 0 ≤ s) : 0 ≤ kAt ds s i := by unfold kAt; omega
theorem kAt_le (ds : List DE) (s : Int) : kAt ds s ds.length ≤ s + 2 * szT ds := by unfold kAt szT; omega
/-- A number that is marked. -/
def mkE (ds : List DE) (s : Int) (i : Nat) : DE := (kAt ds s i % 3 == 0, marks .i64 (kAt ds s i + 1) (ds.getD i de0).2.1.length, kAt ds s i + 1 + (ds.getD i de0).2.1.length)
/-- The first j are marked. -/
def mkJ (ds : List DE) (s : Int) (j : Nat) (i : Nat) : DE := if i < j then mkE ds s i else ds.getD i de0
def mkL (ds : List DE) (s : Int) : List DE := (List.range ds.length).map (mkE ds s)
theorem mkL_length (ds : List DE) (s : Int) : (mkL ds s).length = ds.length := by simp [mkL]
theorem mkL_at (ds : List DE) (s : Int) (i : Nat) (h : i < ds.length) : (mkL ds s).getD i de0 = mkE ds s i := by simp [mkL, List.getD, h]
theorem marks_nil_iff (k : IntKind) (s : Int) (z : List Int) : marks k s z.length = [] ↔ z = [] := by
  constructor
  · intro h
    have := congrArg List.length h
    rw [marks_length] at this
    exact List.length_eq_zero_iff.1 this
  · intro h; subst h; rfl
theorem upE3 (f : Nat → DE) (j : Nat) (d1 d2 d3 : DE) : upE (upE (upE f j d1) j d2) j d3 = upE f j d3 := by
  funext i
  by_cases e : i = j
  · subst e; rw [upE_same, upE_same]
  · rw [upE_other _ _ e, upE_other _ _ e, upE_other _ _ e, upE_other _ _ e]
theorem mkJ_step (ds : List DE) (s : Int) (j : Nat) : upE (mkJ ds s j) j (mkE ds s j) = mkJ ds s (j + 1) := by
  funext i
  by_cases e : i = j
  · subst e; rw [upE_same]; unfold mkJ; rw [if_pos (Nat.lt_succ_self _)]
  · rw [upE_other _ _ e]
    unfold mkJ
    by_cases h : i < j
    · rw [if_pos h, if_pos (by omega)]
    · rw [if_neg h, if_neg (by omega)]

theorem DysO.open {lo hi n c : Nat} {w : World} {a : Option Addr} {ds : List DE} (r : DysO lo hi w (.slice a n c) ds) (h : ds ≠ []) : ∃ g off b, a = some ⟨g, off, none⟩ ∧ DysW lo hi g off ds.length b (fun i => ds.getD i de0) w := by
  obtain ⟨a', c', e, h1, h2, h3⟩ := r
  cases e
  obtain ⟨g, off, b, rfl, hl, hh, hs, hc, hf, hi'⟩ := h3 h
  exact ⟨g, off, b, rfl, hl, hh, hs, hc, hf, hi'⟩
theorem DysW.shut {lo hi g off c : Nat} {b : Nat → Nat} {f : Nat → DE} {w : World} {ds : List DE} (h : DysW lo hi g off ds.length b f w) (hf : ∀ i, i < ds.length → f i = ds.getD i de0) (h1 : ds.length ≤ c) (h2 : c ≤ maxLen) : DysO lo hi w (.slice (some ⟨g, off, none⟩) ds.length c) ds := by
  refine ⟨_, c, rfl, h1, h2, fun _ => ⟨g, off, b, rfl, h.g1, h.g2, h.lt, fun i hi => ?_, h.loose, fun i j q1 q2 e1 e2 => h.apart i j q1 q2 (by rw [hf i (by omega)]; exact e1) (by rw [hf j q2]; exact e2)⟩⟩
  have := h.el i hi
  rw [hf i hi] at this
  exact this

set_option maxHeartbeats 8000000 in
theorem markDyS_any {lo hi : Nat} {v : Value} {ds : List DE} (w : World) (s : Int) (hs0 : 0 ≤ s) (hs1 : s ≤ 900000000) (hn : szT ds ≤ 1048576) (r : DysO lo hi w v ds) :
    Calls Tryd.prog 24 #[v, .int .i64 s] w fun e w' => e = .returned (.int .i64 (kAt ds s ds.length)) ∧ DysO lo hi w' v (mkL ds s) ∧ Kept lo hi w w' := by
  obtain ⟨a, c, rfl, hc1, hc2⟩ := r.read.form
  obtain ⟨hsl, hs00⟩ := szT_len ds
  by_cases hne : ds = []
  · subst hne
    go_enter Tryd.func24, Tryd.ntmps24
    go_wp2
    go_loopw [1, 5] (fun s1 s5 wr => s1 = .int .i64 s ∧ s5 = .int .i64 0 ∧ wr = w) (fun _ _ _ => 0)
    case atStart => exact ⟨rfl, rfl, rfl⟩
    case round =>
      obtain ⟨rfl, rfl, rfl⟩ := hrel
      go_wp2
      go_ret
      exact ⟨by rw [kAt_zero]; rfl, r, Kept.refl _ _ _⟩
  obtain ⟨g, off, b, rfl, W0⟩ := r.open hne
  have heach : ∀ i, i < ds.length → ((ds.getD i de0).2.1.length : Int) ≤ szT ds := szT_each ds
  have hkb : ∀ i, i ≤ ds.length → 0 ≤ kAt ds s i ∧ kAt ds s i ≤ s + 3 * szT ds := fun i hi => by
    have h1 := limT_mono ds (a := i) (b := ds.length) hi
    have h2 : szT ds = ds.length + limT ds ds.length := rfl
    unfold kAt
    omega
  obtain ⟨n, hnn⟩ : ∃ n, n = ds.length := ⟨_, rfl⟩
  have HN := hide hnn
  have HE := hide heach
  have HKB := hide hkb
  have HC1 := hide hc1
  have HC2 := hide hc2
  have hn16 : n ≤ 1048576 := by omega
  rw [← hnn] at W0 ⊢
  have W1 : Hid (DysW lo hi g off n b (mkJ ds s 0) w) := by
    show DysW _ _ _ _ _ _ _ _
    have e : mkJ ds s 0 = fun i => ds.getD i de0 := by funext i; simp [mkJ]
    rw [e]; exact W0
  obtain ⟨SZ, hSZ⟩ : ∃ SZ, SZ = szT ds := ⟨_, rfl⟩
  have HSZ := hide hSZ
  rw [← hSZ] at hn hsl
  clear r W0 hnn heach hkb hc1 hc2 hSZ hs00 hsl
  go_enter Tryd.func24, Tryd.ntmps24
  go_wp2
  go_loopw [1, 5] (fun s1 s5 wr => ∃ (j : Nat) (k : Int), s1 = .int .i64 k ∧ s5 = .int .i64 j ∧ j ≤ n ∧ Hid (k = kAt ds s j) ∧ Hid (DysW lo hi g off n b (mkJ ds s j) wr) ∧ Kept lo hi w wr) (fun _ s5 _ => n - (intOf s5).toNat)
  case atStart => exact ⟨0, s, rfl, rfl, Nat.zero_le _, by show _ = _; rw [kAt_zero], W1, Kept.refl _ _ _⟩
  case round =>
    clear W1
    obtain ⟨j, k, rfl, rfl, hj, hk, hW, kp⟩ := hrel
    by_cases hlt : j < n
    · have hjl : j < ds.length := by rw [← unhide HN]; exact hlt
      have hb := unhide HKB j (by omega)
      have hb' := unhide HE j hjl
      rw [← unhide hk, ← unhide HSZ] at hb
      rw [← unhide HSZ] at hb'
      have hfj : mkJ ds s j j = ds.getD j de0 := by unfold mkJ; rw [if_neg (Nat.lt_irrefl _)]
      have W0 := unhide hW
      have hdj : (mkJ ds s j j).2.1 = (ds.getD j de0).2.1 := by rw [hfj]
      obtain ⟨z0, hz0⟩ : ∃ z, z = (ds.getD j de0).2.1 := ⟨_, rfl⟩
      rw [← hz0] at hdj hb'
      obtain ⟨fd, hfd⟩ : ∃ fd, fd = mkJ ds s j := ⟨_, rfl⟩
      rw [← hfd] at W0 hdj
      obtain ⟨p, q, a0, c0, e0, e1, e2, rr, hp1, hp2⟩ := W0.row hlt
      have W2 := W0.setS hlt (k % 3 == 0)
      obtain ⟨p', q', a1, c1, -, e1', -, rr', hp1', hp2'⟩ := W2.row hlt
      have e3 := cell_off wr g (off + j * 3 + 1) (off + j * 3) (.bool (k % 3 == 0)) _ e1 (by omega)
      rw [upE_same] at rr' hp1' hp2' e1'
      rw [e3] at e1'
      cases e1'
      have f0 := W0.loose (j * 3) (by omega)
      rw [hdj] at rr' e1 rr e3 hp1' hp2'
      have e3' : (wr.setCell ⟨g, off + j * 3, none⟩ (.bool (k % 3 == 0))).cell? ⟨g, off + j * 3 + 1, none⟩ = some (.slice a0 (upE fd j ((k % 3 == 0), (fd j).2.1, (fd j).2.2) j).2.1.length c0) := by rw [upE_same]; dsimp only; rw [hdj]; exact e3
      have hwk : IntKind.i64.wrap (k + 1) = k + 1 := by rw [IntKind.wrap_i64]; omega
      have hmk := markIntS_wide _ (k + 1) (by omega) (by omega) (by omega) rr'
      have W2' := hide W2
      have H1 := hide hp1'
      have H2 := hide hp2'
      have E3 := hide e3'
      have HD := hide hdj
      have HZ := hide hz0
      have HF := hide hfd
      have kp2 : Kept lo hi w (wr.setCell ⟨g, off + j * 3, none⟩ (.bool (k % 3 == 0))) := kp.setCell (p := ⟨g, off + j * 3, none⟩) W0.g1 W0.g2 _
      have KP2 := hide kp2
      have hgb := hide (W0.el j hlt).1
      clear W2 hp1' hp2' e3' hdj hz0 hfd hfj rr e3 hp1 hp2 rr' kp kp2 W0 hW
      go_wp2_with fail
      refine hmk.mono ?_
      rintro e w3 ⟨rfl, r3, k3, -⟩
      have W3 := (unhide W2').turn (z := marks .i64 (k + 1) z0.length) hlt (unhide E3) (by rw [upE_same]; dsimp only; rw [unhide HD]; exact unhide H1) (by rw [upE_same]; dsimp only; rw [unhide HD]; exact unhide H2) k3 (by rw [upE_same]; dsimp only; rw [unhide HD]; exact r3) (by rw [upE_same]; dsimp only; rw [unhide HD]; exact marks_nil_iff _ _ _)
      have W4 := W3.setY hlt (k + 1 + z0.length)
      rw [upE3, upE_same, upE_same] at W4
      obtain ⟨-, -, -, -, -, -, e2', -, -, -⟩ := W3.row hlt
      have f2 : w3.frozen? ⟨g, off + j * 3 + 2, none⟩ = false := W3.loose (j * 3 + 2) (by omega)
      have e0w : fd = mkJ ds s j := unhide HF
      have ekj : mkE ds s j = (k % 3 == 0, marks .i64 (k + 1) z0.length, k + 1 + z0.length) := by unfold mkE; rw [← unhide hk, ← unhide HZ]
      dsimp only at W4
      rw [← ekj, e0w, mkJ_step] at W4
      have kkp : Kept lo hi (wr.setCell ⟨g, off + j * 3, none⟩ (.bool (k % 3 == 0))) w3 := by
        by_cases ez : z0 = []
        · obtain ⟨rfl, rfl⟩ := unhide H2 ez; exact k3.any
        · obtain ⟨rfl, rfl⟩ := unhide H1 ez
          have := unhide hgb (by rw [unhide HD]; exact ez)
          exact k3.wider (by omega) (by omega)
      have K4 := hide (((unhide KP2).trans kkp).setCell (p := ⟨g, off + j * 3 + 2, none⟩) W3.g1 W3.g2 (.int .i64 (k + 1 + z0.length)))
      have hkn : kAt ds s (j + 1) = k + 1 + z0.length + 1 := by rw [kAt_succ, ← unhide hk, ← unhide HZ]; omega
      have W4' := hide W4
      have HKN := hide hkn
      have hwj : IntKind.i64.wrap ((j : Int) + 1) = ((j + 1 : Nat) : Int) := by rw [IntKind.wrap_i64]; omega
      have hwk2 : IntKind.i64.wrap (k + 1 + (z0.length : Int) + 1) = k + 1 + z0.length + 1 := by rw [IntKind.wrap_i64]; omega
      clear W3 W4 hmk r3 k3 kkp e0w ekj hkn e0 e1 e2 f0 hwk
      generalize hyj : (upE (upE fd j (k % 3 == 0, (fd j).2.1, (fd j).2.2)) j _ j).2.2 = yj at e2'
      clear hyj
      go_wp2
      go_roundw
      case rel => exact ⟨j + 1, k + 1 + z0.length + 1, rfl, by simp, hlt, by show _ = _; rw [unhide HKN], W4', unhide K4⟩
      case measure => simp [intOf]; omega
    · have hjn : j = n := by omega
      subst hjn
      have hfin : kAt ds s j = k := (unhide hk).symm
      have D := (unhide hW)
      have D2 : DysO lo hi wr (.slice (some ⟨g, off, none⟩) j c) (mkL ds s) := by
        have hl := unhide HN
        have hml : (mkL ds s).length = j := by rw [mkL_length, hl]
        have := DysW.shut (ds := mkL ds s) (c := c) (f := mkJ ds s j) (by rw [hml]; exact D) (fun i hi => by rw [hml] at hi; rw [mkL_at _ _ _ (by omega)]; unfold mkJ; rw [if_pos hi]) (by rw [hml, hl]; exact unhide HC1) (unhide HC2)
        rw [hml] at this
        exact this
      have DD := hide D2
      have HFN := hide hfin
      clear D D2 hfin hW
      go_wp2
      go_ret
      exact ⟨by rw [unhide HFN]; rfl, unhide DD, kp⟩

set_option maxHeartbeats 2000000 in
theorem markMat_wide {lo hi : Nat} {v : Value} {ds : List DE} (m : Int) (w : World) (s : Int) (hs0 : 0 ≤ s) (hs1 : s ≤ 900000000) (hn : szT ds ≤ 1048576) (r : DysO lo hi w v ds) :
    Calls Tryd.prog 10 #[.agg #[.int .i64 m, v], .int .i64 s] w fun e w' => e = .returned (.int .i64 (kAt ds s ds.length)) ∧ DysO lo hi w' v (mkL ds s) ∧ Kept lo hi w w' := by
  have k0 := (Kept.refl 0 0 w).alloc (.cells #[.int .i64 m, v] 33)
  have r0 := r.kept k0 (by omega)
  have c1 : (w.alloc (.cells #[.int .i64 m, v] 33)).cell? ⟨w.heap.size, 1, none⟩ = some v := new_cell2 _ _ _ _ _ _ rfl rfl
  obtain ⟨a, c, rfl⟩ := r.form'
  clear r
  have hm := markDyS_any _ s hs0 hs1 hn r0
  obtain ⟨A, hA⟩ : ∃ A, kAt ds s ds.length = A := ⟨_, rfl⟩
  rw [hA] at hm ⊢
  clear hA
  go_enter Tryd.func10, Tryd.ntmps10
  go_wp2_with fail
  refine hm.mono ?_
  rintro e w1 ⟨rfl, d1, k1⟩
  have K1 := hide ((k0.any (lo := lo) (hi := hi)).trans k1)
  have D1 := hide d1
  clear hm k0 k1 d1 r0
  go_wp2
  go_ret
  exact ⟨rfl, unhide D1, unhide K1⟩

end Go.Proofs.YthahoabkehcgbaaDoor
