/-
  Contracts that the proofs of this seat share: ISide, INat22, IWh1.
-/
import Derived.Test.YthahoabkehcgbaaDoorBF
import Derived.Test.YthahoabkehcgbaaDoorBB
import Derived.Test.YthahoabkehcgbaaDoorBE
import Derived.Test.YthahoabkehcgbaaDoorBC
namespace Go.Proofs.YthahoabkehcgbaaDoor
open Go.RowKit
set_option linter.unusedVariables false
set_option maxRecDepth 8000

/-- Behind its first cell block g is as it was. -/
def SameSide (g : Nat) (w w' : World) : Prop := ∀ o, 1 ≤ o → w'.cell? ⟨g, o, none⟩ = w.cell? ⟨g, o, none⟩ ∧ w'.frozen? ⟨g, o, none⟩ = w.frozen? ⟨g, o, none⟩
theorem SameSide.refl (g : Nat) (w : World) : SameSide g w w := fun _ _ => ⟨rfl, rfl⟩
theorem SameSide.trans {g : Nat} {a b c : World} (h : SameSide g a b) (k : SameSide g b c) : SameSide g a c := fun o ho => ⟨(k o ho).1.trans (h o ho).1, (k o ho).2.trans (h o ho).2⟩
theorem SameSide.drewN {g : Nat} {a w : World} (h : SameSide g a w) (n : Nat) : SameSide g a (w.drewN n) := h
theorem side_setAt (w : World) (g p o : Nat) (u : Value) (ho : p ≠ o) : (w.setCell ⟨g, p, none⟩ u).cell? ⟨g, o, none⟩ = w.cell? ⟨g, o, none⟩ := by
  unfold World.cell? World.setCell
  simp only [Array.getElem?_modify]
  cases hb : w.heap[g]? with
  | none => simp
  | some b => cases b <;> simp [ho]
theorem side_set (w : World) (g : Nat) (u : Value) : (w.setCell ⟨g, 0, none⟩ u).cell? ⟨g, 1, none⟩ = w.cell? ⟨g, 1, none⟩ := side_setAt w g 0 1 u (by decide)
theorem SameSide.set0 {g : Nat} {a w : World} (h : SameSide g a w) (u : Value) : SameSide g a (w.setCell ⟨g, 0, none⟩ u) :=
  fun o ho => ⟨(side_setAt w g 0 o u (by omega)).trans (h o ho).1, (frozen_set w g 0 _ u).trans (h o ho).2⟩
theorem SameSide.far {g : Nat} {a w : World} (h : SameSide g a w) {p o : Nat} (hp : p ≠ g) (u : Value) : SameSide g a (w.setCell ⟨p, o, none⟩ u) :=
  fun q hq => ⟨(World.cell?_of_block (w := w) (a := ⟨g, q, none⟩) (Below.heap_setCell _ _ _ _ (fun e => hp e.symm))).trans (h q hq).1, (frozen_set w p o _ u).trans (h q hq).2⟩
theorem SameSide.ofBlock {g : Nat} {w w' : World} (h : w'.heap[g]? = w.heap[g]?) : SameSide g w w' :=
  fun q hq => ⟨World.cell?_of_block (w := w) (a := ⟨g, q, none⟩) h, World.frozen?_of_block (w := w) (a := ⟨g, q, none⟩) h⟩
theorem Kept.side {g : Nat} {w w' : World} (k : Kept 0 0 w w') (hg : g < w.heap.size) : SameSide g w w' := SameSide.ofBlock (k.block g hg (by omega))
theorem Mod.side {S : Nat → Prop} {g : Nat} {w w' : World} (k : Mod S w w') (hg : g < w.heap.size) (hS : ¬ S g) : SameSide g w w' := SameSide.ofBlock (k.block g hg hS)

/-- Behind its first two cells block g is as it was. -/
def SameTail (g : Nat) (w w' : World) : Prop := ∀ o, 2 ≤ o → w'.cell? ⟨g, o, none⟩ = w.cell? ⟨g, o, none⟩ ∧ w'.frozen? ⟨g, o, none⟩ = w.frozen? ⟨g, o, none⟩
theorem SameTail.refl (g : Nat) (w : World) : SameTail g w w := fun _ _ => ⟨rfl, rfl⟩
theorem SameTail.trans {g : Nat} {a b c : World} (h : SameTail g a b) (k : SameTail g b c) : SameTail g a c := fun o ho => ⟨(k o ho).1.trans (h o ho).1, (k o ho).2.trans (h o ho).2⟩
theorem SameTail.drew {g : Nat} {a w : World} (h : SameTail g a w) : SameTail g a w.drew := h
theorem SameTail.drewN {g : Nat} {a w : World} (h : SameTail g a w) (n : Nat) : SameTail g a (w.drewN n) := h
theorem SameSide.tail {g : Nat} {w w' : World} (h : SameSide g w w') : SameTail g w w' := fun o ho => h o (by omega)
theorem SameTail.set1 {g : Nat} {a w : World} (h : SameTail g a w) (u : Value) : SameTail g a (w.setCell ⟨g, 1, none⟩ u) :=
  fun o ho => ⟨(side_setAt w g 1 o u (by omega)).trans (h o ho).1, (frozen_set w g 1 _ u).trans (h o ho).2⟩

set_option maxHeartbeats 4000000 in
theorem trim_side {b g : Nat} {v : Value} {zs : List Int} (w : World) (h : Num b w g v zs) (hl : Lim zs) :
    Calls Tryd.prog 84 #[.pointer (some ⟨g, 0, none⟩)] w fun e w' => (∃ r, e = .returned r) ∧ ∃ u, Num b w' g u (limbs (val zs).toNat) ∧ u.ownBlock = v.ownBlock ∧ Mod (fun i => i = g) w w' ∧ SameSide g w w' := by
  have hm := h.row.len
  unfold maxLen at hm
  have HL := hide hl
  clear hl
  go_enter Tryd.func84, Tryd.ntmps84
  go_wp2
  go_loopw [] (fun wr => ∃ (m : Nat) (u : Value), m ≤ zs.length ∧ Hid (∀ i, m ≤ i → i < zs.length → zs.getD i 0 = 0) ∧ Num b wr g u (zs.take m) ∧ Hid (u.ownBlock = v.ownBlock) ∧ Mod (fun i => i = g) w wr ∧ SameSide g w wr) (fun wr => lenAt wr g)
  case atStart => exact ⟨zs.length, v, Nat.le_refl _, hide (fun i h1 h2 => by omega), by rw [List.take_length]; exact h, hide rfl, Mod.refl _ _, SameSide.refl _ _⟩
  case round =>
    clear h
    obtain ⟨m, u, hmz, hz, n, ho, hmod, hsd⟩ := hrel
    have SS := hide hsd
    clear hsd
    have hlen : (zs.take m).length = m := by simp; omega
    have hlo := n.loose
    by_cases h0 : m = 0
    · subst h0
      obtain ⟨a1, c1, hv⟩ := n.form
      rw [hlen] at hv
      subst hv
      have hce := n.cell
      have e1 := take_limbs zs (unhide HL) 0 (by omega) (unhide hz) (.inl rfl)
      rw [e1] at n
      have NN := hide n
      have MM := hide hmod
      have hd : decide ((0 : Int) < ((0 : Nat) : Int)) = false := rfl
      clear e1 n hmod hlen hz
      go_wp2
      go_quiet (fail)
      go_wp2
      exact bodyPost_end (v := .tuple #[]) (by simp [results, Tryd.results84, go_sem]) rfl ⟨⟨_, rfl⟩, _, (unhide NN).kept ((Kept.refl 0 0 _).drewN _), unhide ho, (unhide MM).drewN _, (unhide SS).drewN _⟩
    · obtain ⟨gb, cap, hv, hxz, hfz, hgb⟩ := n.at (m - 1) (by omega)
      rw [hlen] at hv
      subst hv
      have hce := n.cell
      have hz1 : (zs.take m).getD (m - 1) 0 = zs.getD (m - 1) 0 := by
        simp only [List.getD, List.getElem?_take]
        rw [if_pos (by omega)]
      rw [hz1] at hxz
      have hpos : (0 : Int) < (m : Int) := by omega
      have hposN : 0 < m := by omega
      have h1m : (1 : Int) ≤ (m : Int) := by omega
      have hcap : (m : Int) - 1 ≤ (cap : Int) := by
        have h5 := n.own
        rw [hlen] at h5
        obtain ⟨g5, cap5, e5, -, h6, -⟩ := own_form h5 (by omega)
        cases e5
        omega
      have ew : IntKind.i64.wrap ((m : Int) - 1) = (m : Int) - 1 := wrap_small _ (by omega) (by omega)
      have et : ((m : Int) - 1).toNat = m - 1 := by omega
      have hi0 : (0 : Int) ≤ (m : Int) - 1 := by omega
      have hi1 : (m : Int) - 1 < (m : Int) := by omega
      have hz1' : ∀ z, zs.getD (m - 1) 0 = z → (z = 0 → ∀ i, m - 1 ≤ i → i < zs.length → zs.getD i 0 = 0) ∧ (z ≠ 0 → zs.take m = limbs (val zs).toNat) := by
        intro z e
        refine ⟨fun e0 i h1 h2 => ?_, fun e0 => take_limbs zs (unhide HL) m (by omega) (unhide hz) (.inr (by rw [e]; exact e0))⟩
        by_cases h3 : i = m - 1
        · rw [h3, e, e0]
        · exact unhide hz i (by omega) h2
      generalize zs.getD (m - 1) 0 = zl at *
      obtain ⟨hza, hzb⟩ := hz1' zl rfl
      clear hz1' hz
      by_cases hzz : zl = 0
      · subst hzz
        have HZ := hide (hza rfl)
        have NC := hide (fun k => (n.kept ((Kept.refl 0 0 _).drewN k)).cut hlen.symm (m - 1) (by omega))
        have MC := hide (fun k => (hmod.drewN k).set (p := ⟨g, 0, none⟩) (.inl rfl) (.slice (some ⟨gb, 0, none⟩) (m - 1) cap))
        have e1 : (zs.take m).take (m - 1) = zs.take (m - 1) := by rw [List.take_take, Nat.min_eq_left (by omega)]
        have E1 := hide e1
        clear hza hzb n hmod hlen e1
        go_wp2
        go_quiet (fail)
        go_wp2
        go_region
        go_wp2
        go_roundw
        case rel => exact ⟨m - 1, .slice (some ⟨gb, 0, none⟩) (m - 1) cap, by omega, HZ, by rw [← unhide E1]; exact unhide NC _, hide (unhide ho), unhide MC _, ((unhide SS).drewN _).set0 _⟩
        case measure => rw [lenAt_of hce, lenAt_of (unhide NC _).cell]; omega
      · have e1 := hzb hzz
        rw [e1] at n
        have NN := hide n
        have MM := hide hmod
        have hb : (zl == 0) = false := beq_eq_false_iff_ne.2 hzz
        clear e1 n hmod hlen hza hzb
        go_wp2
        go_quiet (fail)
        go_wp2
        exact bodyPost_end (v := .tuple #[]) (by simp [results, Tryd.results84, go_sem]) rfl ⟨⟨_, rfl⟩, _, (unhide NN).kept ((Kept.refl 0 0 _).drewN _), unhide ho, (unhide MM).drewN _, (unhide SS).drewN _⟩

/-- Two numbers that lie apart, newer than w0; since wb only the first one's blocks have turned, and of its cell's block only the first cell. -/
structure TwoS (wb : World) (u0 : Value) (w0 wx : World) (g1 g2 : Nat) (u1 u2 : Value) (xs ys : List Int) : Prop where
  two : Two w0 wx g1 g2 u1 u2 xs ys
  d1 : SameSide g1 wb wx
  m : Mod (Own1 g1 u0) wb wx
  ob : ∀ i, u1.ownBlock = some i → u0.ownBlock = some i ∨ wb.heap.size ≤ i

section
variable {wb w0 wx w w' W : World} {g1 g2 : Nat} {u0 u1 u1' u2 v v' : Value} {xs ys zs qs : List Int}
theorem Two.startS (t : Two w0 w g1 g2 u1 u2 xs ys) : TwoS w u1 w0 w g1 g2 u1 u2 xs ys := ⟨t, SameSide.refl _ _, Mod.refl _ _, fun _ h => .inl h⟩
theorem TwoS.n1 (t : TwoS wb u0 w0 wx g1 g2 u1 u2 xs ys) : Num w0.heap.size wx g1 u1 xs := t.two.n1
theorem TwoS.n2 (t : TwoS wb u0 w0 wx g1 g2 u1 u2 xs ys) : Num w0.heap.size wx g2 u2 ys := t.two.n2
theorem TwoS.k (t : TwoS wb u0 w0 wx g1 g2 u1 u2 xs ys) : Kept 0 0 w0 wx := t.two.k
theorem TwoS.kept (t : TwoS wb u0 w0 W g1 g2 u1 u2 xs ys) (k : Kept 0 0 W w') : TwoS wb u0 w0 w' g1 g2 u1 u2 xs ys := ⟨t.two.kept k, t.d1.trans (k.side t.n1.lt), t.m.kept k, t.ob⟩
theorem TwoS.put {gb cap j n : Nat} (t : TwoS wb u0 w0 w g1 g2 (.slice (some ⟨gb, 0, none⟩) n cap) u2 zs ys) (hn : zs.length = n) (z : Int) :
    TwoS wb u0 w0 (w.setCell ⟨gb, j, none⟩ (.int .i64 z)) g1 g2 (.slice (some ⟨gb, 0, none⟩) n cap) u2 (zs.set j z) ys :=
  ⟨t.two.put hn z, t.d1.far (fun e => t.n1.apart (by simp [Value.ownBlock, e])) _, t.m.set (p := ⟨gb, j, none⟩) ((t.ob gb rfl).imp (fun h => .inr h) id) _, t.ob⟩
theorem TwoS.snoc (t : TwoS wb u0 w0 w g1 g2 v u2 zs ys) (o : Obj) (hg : (w.alloc o).grownBy w' v.ownBlock) (hat : v'.ownBlock = v.ownBlock ∨ v'.ownBlock = some (w.heap.size + 1))
    (hown : w'.ownsRow w0.heap.size 3 1 v' qs.length (qs.map (Value.int .i64))) :
    w'.cell? ⟨g1, 0, none⟩ = some v ∧ w'.frozen? ⟨g1, 0, none⟩ = false ∧ TwoS wb u0 w0 (w'.setCell ⟨g1, 0, none⟩ v') g1 g2 v' u2 qs ys := by
  obtain ⟨e1, e2, t2⟩ := t.two.snoc o hg hat hown
  have k := (Kept.refl 0 0 w).alloc o
  have l1 := t.n1.lt
  have s1 : SameSide g1 (w.alloc o) w' := SameSide.ofBlock (hg.block g1 (by simp; omega) (fun e => t.n1.apart e.symm))
  have hm := ((t.m.kept k).grow hg (fun i hi => (t.ob i hi).imp (fun h => .inr h) id)).set (p := ⟨g1, 0, none⟩) (.inl (.inl rfl)) v'
  refine ⟨e1, e2, t2, ((t.d1.trans (k.side l1)).trans s1).set0 _, hm, fun i hi => ?_⟩
  rcases hat with e | e
  · exact t.ob i (by rw [← e]; exact hi)
  · rw [e] at hi
    simp at hi
    have := t.m.size
    exact .inr (by omega)
theorem TwoS.mod1 (t : TwoS wb u0 w0 W g1 g2 u1 u2 xs ys) (n : Num w0.heap.size w' g1 u1' zs) (ho : u1'.ownBlock = u1.ownBlock) (m : Mod (fun i => i = g1) W w') (s : SameSide g1 W w') : TwoS wb u0 w0 w' g1 g2 u1' u2 zs ys :=
  ⟨t.two.mod1 n ho m, t.d1.trans s, t.m.then m (fun i e => .inl (.inl e)), by rw [ho]; exact t.ob⟩
end

end Go.Proofs.YthahoabkehcgbaaDoor

namespace Go.Proofs.YthahoabkehcgbaaDoor
open Go.RowKit
set_option linter.unusedVariables false
set_option maxRecDepth 8000

set_option maxHeartbeats 1000000 in
theorem isZero_impl {b g : Nat} {v : Value} {zs : List Int} (w : World) (h : Num b w g v zs) :
    Calls Tryd.prog 68 #[.pointer (some ⟨g, 0, none⟩)] w fun e w' => e = .returned (.bool (decide (zs.length = 0))) ∧ w' = w := by
  have hc := h.cell
  obtain ⟨a1, c1, rfl⟩ := h.form
  clear h
  go_enter Tryd.func68, Tryd.ntmps68
  go_wp2
  go_ret
  refine ⟨?_, rfl⟩
  cases zs with
  | nil => simp
  | cons z t => simp; omega

set_option maxHeartbeats 1000000 in
theorem shiftUp_zero {b g : Nat} {v : Value} (w : World) (h : Num b w g v []) (k : Int) :
    Calls Tryd.prog 94 #[.pointer (some ⟨g, 0, none⟩), .int .i64 k] w fun e w' => (∃ r, e = .returned r) ∧ w' = w := by
  have hz := isZero_impl w h
  have e : (decide (([] : List Int).length = 0)) = true := rfl
  rw [e] at hz
  have HZ := hide hz
  clear hz h e
  go_enter Tryd.func94, Tryd.ntmps94
  go_wp2_with (go_at_call 68; refine (unhide HZ).mono ?_; rintro e w' ⟨rfl, rfl⟩)
  exact bodyPost_ret (v := .tuple #[]) (by simp [results, Tryd.results94, go_sem]) rfl ⟨⟨_, rfl⟩, rfl⟩

set_option maxHeartbeats 8000000 in
theorem shiftUp_impl {b g : Nat} {v : Value} {xs : List Int} (w : World) (h : Num b w g v xs) (hx : Lim xs) (hne : xs ≠ []) (nx : xs.length ≤ 50000) (k : Nat) (hk : k ≤ 800000) :
    Calls Tryd.prog 94 #[.pointer (some ⟨g, 0, none⟩), .int .i64 (k : Int)] w fun e w' => (∃ r, e = .returned r) ∧ ∃ u, Num w.heap.size w' g u (limbs ((val xs).toNat * 2 ^ k)) ∧ Mod (fun i => i = g) w w' := by
  obtain ⟨q, s, hs, rfl⟩ : ∃ q s : Nat, s < 16 ∧ k = 16 * q + s := ⟨k / 16, k % 16, by omega, by omega⟩
  obtain ⟨K, hK⟩ : ∃ K : Int, K = ((16 * q + s : Nat) : Int) := ⟨_, rfl⟩
  have e3 : K.tdiv 16 = (q : Int) := by rw [Int.tdiv_eq_ediv_of_nonneg (by omega)]; omega
  have e4 : K.tmod 16 = (s : Int) := by rw [Int.tmod_eq_emod_of_nonneg (by omega)]; omega
  have hq63 : q ≤ 50000 := by omega
  have hKK : 0 ≤ K ∧ K ≤ 800000 := by omega
  rw [← hK]
  obtain ⟨M, hM⟩ : ∃ M, M = xs.length := ⟨_, rfl⟩
  obtain ⟨T, hT⟩ : ∃ T, T = q + M + 1 := ⟨_, rfl⟩
  have hM0 : 0 < M := by rw [hM]; exact List.length_pos_iff.2 hne
  have htot := shl_total xs hx q s
  generalize hA : (val xs).toNat * 2 ^ (16 * q + s) = A at *
  obtain ⟨D, hD⟩ : ∃ D : Int, D = ((2 ^ s : Nat) : Int) := ⟨_, rfl⟩
  rw [← hD] at htot
  have hDp : 0 < D := by rw [hD]; have := Nat.pow_pos (n := s) (show 0 < 2 by decide); omega
  have hDE : D * ((2 ^ (16 - s) : Nat) : Int) = 65536 := by
    rw [hD, ← Int.natCast_mul, ← Nat.pow_add, show s + (16 - s) = 16 by omega]; rfl
  have hDm : D ≤ 65536 := by
    rw [hD]; have := Nat.pow_le_pow_right (n := 2) (by decide) (show s ≤ 16 by omega); omega
  have HTOT := hide htot
  have HDE := hide hDE
  have ep : (2 : Int) ^ s = D := by rw [hD]; simp
  obtain ⟨a1, c1, hv1⟩ := h.form
  rw [← hM] at hv1
  subst hv1
  have hnx : M ≤ 50000 := by omega
  have HM := hide hM
  have HT := hide hT
  have hTT : (q : Int) + (M : Int) + 1 = (T : Int) := by omega
  have hnT : T ≤ 100001 := by omega
  have HA1 := hide ((row_cell h.row).2.2.2)
  have N1 := hide h
  have hz := isZero_impl w h
  rw [decide_eq_false (by omega)] at hz
  have HZ := hide hz
  obtain ⟨i0, hi0, hz0, hz1, hz2⟩ := info_parts Tryd.info3'
  obtain ⟨w2, hrun, hown2, hgrow2⟩ := run_make_full (P := Tryd.prog) w w.heap.size 46 3 i0 (.int .i64 0) 1 Tryd.underlying46 hi0 hz0 hz1 .i64 .i64 T (by rw [hz2]; omega) (by unfold maxLen; omega) (Nat.le_refl _)
  have hf0 := made_fresh (Kept.refl 0 0 w) hown2 hgrow2
  have HF := hide hf0
  have hce1 := hf0.k.cell0 h.cell
  have hce1w := h.cell
  obtain ⟨G, hG0⟩ : ∃ G, G = w.heap.size := ⟨_, rfl⟩
  rw [← hG0] at hrun HF
  have hs0 : ¬ ((s : Int) < 0) := by omega
  have hs64 : (s : Int) < 64 := by omega
  have HEP := hide ep
  clear hown2 hgrow2 hf0 hG0 hi0 hz0 hz1 hz2 htot hDE hD h hz hK hA hT hM nx hne hk ep
  go_enter Tryd.func94, Tryd.ntmps94
  go_wp2_with (go_at_call 68; refine (unhide HZ).mono ?_; rintro e w' ⟨rfl, rfl⟩)
  clear hrun hce1 hce1w
  go_loopw [30] (fun ii wr => ∃ (zs : List Int) (i : Nat), ii = .int .i64 (i : Int) ∧ i ≤ M ∧ zs.length = T ∧ Lim zs ∧ Hid (zs.getD (q + i) 0 ≤ D - 1) ∧ Hid (∀ p, q + i < p → zs.getD p 0 = 0) ∧ Hid (val zs = 65536 ^ q * (val (xs.take i) * D)) ∧ Fresh w' wr (.slice (some ⟨G, 0, none⟩) T T) zs) (fun ii _ => M - (intOf ii).toNat)
  case atStart => exact ⟨List.replicate T 0, 0, rfl, Nat.zero_le _, by simp, Lim.zeros T, by show _ ≤ _; have := Bnd.zeros T (q + 0); omega, fun p _ => by have := Bnd.zeros T p; omega, by show _ = _; rw [val_zeros]; simp [val], unhide HF⟩
  case round =>
    clear HF
    obtain ⟨zs, i, rfl, hi, hs', hlz, hc, hp, hV, hf⟩ := hrel
    by_cases hA : i < M
    · have hi1 : (i : Int) < (M : Int) := by omega
      have hx0 := hx.at i
      obtain ⟨gA, oA, rfl, x1⟩ := unhide HA1 i (by have := unhide HM; omega)
      replace x1 := hf.k.cell0 x1
      have hik : q + i + 1 < T := by have := unhide HT; omega
      obtain ⟨y1, y2⟩ := hf.at hs'.symm (q + i) (by omega)
      obtain ⟨y3, y4⟩ := hf.at hs'.symm (q + i + 1) hik
      have hz1 := unhide hp (q + i + 1) (by omega)
      rw [hz1] at y3
      have hsl := shl_limb hDp (unhide HDE) hx0
      have hput := shl_put zs xs q i D _ (by rw [← unhide HM]; exact hA) (by omega) rfl hz1 (unhide hV)
      have hzc := hlz.at (q + i)
      have hcc := unhide hc
      generalize hva : xs.getD i 0 = va at *
      generalize hvz : zs.getD (q + i) 0 = vz at *
      have hl1 := (hlz.set (q + i) (x := vz + va * D % 65536) (by omega) (by omega)).set (q + i + 1) (x := va * D / 65536) (by omega) (by omega)
      have HL1 := hide hl1
      have HPUT := hide hput
      have hX : 0 ≤ va * D ∧ va * D ≤ 4294967296 := by omega
      have HC2 : Hid (((zs.set (q + i) (vz + va * D % 65536)).set (q + i + 1) (va * D / 65536)).getD (q + (i + 1)) 0 ≤ D - 1) := by
        show _ ≤ _
        rw [show q + (i + 1) = q + i + 1 from rfl, getD_set_eq _ _ _ (by rw [List.length_set]; omega)]
        omega
      have HP2 : Hid (∀ p, q + (i + 1) < p → ((zs.set (q + i) (vz + va * D % 65536)).set (q + i + 1) (va * D / 65536)).getD p 0 = 0) := fun p h => by
        rw [getD_set_ne _ _ _ _ (by omega), getD_set_ne _ _ _ _ (by omega)]; exact unhide hp p (by omega)
      have hls : ((zs.set (q + i) (vz + va * D % 65536)).set (q + i + 1) (va * D / 65536)).length = T := by simpa using hs'
      have HLS := hide hls
      have hpt := (hf.put hs'.symm (q + i) (vz + va * D % 65536))
      have y3' := cell_off _ G (q + i + 1) (q + i) (.int .i64 (vz + va * D % 65536)) _ y3 (by omega)
      have hpt2 := hpt.put (by rw [List.length_set]; exact hs'.symm) (q + i + 1) (va * D / 65536)
      have HPT := hide hpt2
      have hij : (q : Int) + (i : Int) < (T : Int) := by omega
      have hij0 : 0 ≤ (q : Int) + (i : Int) := by omega
      have hij1 : (q : Int) + (i : Int) + 1 < (T : Int) := by omega
      have hij2 : 0 ≤ (q : Int) + (i : Int) + 1 := by omega
      have et : (va * D).tmod 65536 = va * D % 65536 := by rw [Int.tmod_eq_emod_of_nonneg (by omega)]
      have ed : (va * D).tdiv 65536 = va * D / 65536 := by rw [Int.tdiv_eq_ediv_of_nonneg (by omega)]
      have hep := unhide HEP
      clear hV hput hc hp hva hvz hf hs' hls hlz hpt hpt2 hl1 hz1
      go_wp2
      go_roundw
      case rel => exact ⟨_, i + 1, by go_num, by omega, unhide HLS, unhide HL1, HC2, HP2, HPUT, unhide HPT⟩
      case measure => simp [intOf]; omega
    · have hiM : i = M := by omega
      have hi1 : ¬ (i : Int) < (M : Int) := by omega
      have hv := unhide hV
      rw [List.take_of_length_le (by rw [← unhide HM]; omega), unhide HTOT] at hv
      have hlt1 := (unhide N1).lt
      have hG := (hf.own.lt G rfl).1
      have hc1' := hf.k.cell0 (unhide N1).cell
      have hf1' := hf.k.loose0 (a := ⟨g, 0, none⟩) hlt1 (unhide N1).loose
      have hown := hf.own
      rw [hs'] at hown
      have hnum : Num w'.heap.size (wr.setCell ⟨g, 0, none⟩ (.slice (some ⟨G, 0, none⟩) T T)) g (.slice (some ⟨G, 0, none⟩) T T) zs :=
        ⟨cell_on _ _ _ _ _ hc1', by rw [frozen_set]; exact hf1', by rw [hs']; exact own_apart hown (p := ⟨g, 0, none⟩) (by simp [Value.ownBlock]; omega) _, by simp [Value.ownBlock]; omega⟩
      have hmod : Mod (fun i => i = g) w' (wr.setCell ⟨g, 0, none⟩ (.slice (some ⟨G, 0, none⟩) T T)) := Mod.set (S := fun i => i = g) hf.k.toMod (p := ⟨g, 0, none⟩) (.inl rfl) _
      have NU := hide hnum
      have MO := hide hmod
      have HVV := hide hv
      clear hnum hmod hv hown hf hc hp hV hiM
      go_wp2_with fail
      refine (trim_impl _ (unhide NU) hlz).mono ?_
      rintro e w6 ⟨⟨r6, rfl⟩, u6, n6, ho6, m6⟩
      have N6 := hide n6
      rw [unhide HVV, Int.toNat_natCast] at N6
      have M6 := hide ((unhide MO).trans m6)
      clear n6 ho6 m6
      go_wp2
      exact bodyPost_end (v := .tuple #[]) (by simp [results, Tryd.results94, go_sem]) rfl ⟨⟨_, rfl⟩, _, unhide N6, unhide M6⟩

end Go.Proofs.YthahoabkehcgbaaDoor

namespace Go.Proofs.YthahoabkehcgbaaDoor
open Go.RowKit
set_option linter.unusedVariables false
set_option maxRecDepth 8000
set_option linter.unusedSimpArgs false

/-- The second cell of block g tells the sign s, and may be written. -/
def Sd (w : World) (g : Nat) (s : Bool) : Prop := w.cell? ⟨g, 1, none⟩ = some (.bool s) ∧ w.frozen? ⟨g, 1, none⟩ = false
theorem Sd.same {w w' : World} {g : Nat} {s : Bool} (h : Sd w g s) (k : SameSide g w w') : Sd w' g s := ⟨(k 1 (Nat.le_refl 1)).1.trans h.1, (k 1 (Nat.le_refl 1)).2.trans h.2⟩
theorem Sd.lt {w : World} {g : Nat} {s : Bool} (h : Sd w g s) : g < w.heap.size := World.block_lt_of_cell? _ ⟨g, 1, none⟩ h.1
theorem Sd.kept {w w' : World} {g : Nat} {s : Bool} (h : Sd w g s) (k : Kept 0 0 w w') : Sd w' g s := h.same (k.side h.lt)

set_option maxHeartbeats 1000000 in
theorem wok_impl {bw : Bool} {lo hi : Nat} {v : Value} {zs : List Int} (b : Bool) (w : World) (r : Row .i64 bw lo hi w v zs) :
    Calls Tryd.prog 65 #[.agg #[.bool b, v]] w fun e w' => e = .returned (.bool (wokB b zs)) ∧ Kept 0 0 w w' := by
  have k0 := (Kept.refl 0 0 w).alloc (.cells #[.bool b, v] 50)
  have q := r.kept k0 (by omega)
  have c0 : (w.alloc (.cells #[.bool b, v] 50)).cell? ⟨w.heap.size, 0, none⟩ = some (.bool b) := new_cell2 _ _ _ _ _ _ rfl rfl
  have c1 : (w.alloc (.cells #[.bool b, v] 50)).cell? ⟨w.heap.size, 1, none⟩ = some v := new_cell2 _ _ _ _ _ _ rfl rfl
  obtain ⟨a, c, rfl⟩ := Row.form' r
  clear r
  go_enter Tryd.func65, Tryd.ntmps65
  go_wp2_with fail
  generalize w.alloc (.cells #[.bool b, .slice a zs.length c] 50) = W at *
  refine (ok_impl _ q).mono ?_
  rintro e w1 ⟨rfl, k1⟩
  replace c0 := k1.cell0 c0
  replace c1 := k1.cell0 c1
  have K := hide (k0.trans k1)
  clear k0 k1 q
  cases hok : okB zs
  · have HK := hide (wokB_bad (b := b) hok)
    clear hok
    go_wp2
    go_ret
    exact ⟨by rw [unhide HK]; rfl, unhide K⟩
  · have HK : Hid (wokB b zs = (!b || decide (0 < (zs.length : Int)))) := by show _ = _; unfold wokB; rw [hok]; rfl
    clear hok
    cases b
    · go_wp2
      go_ret
      exact ⟨by rw [unhide HK]; rfl, unhide K⟩
    · go_wp2
      go_ret
      exact ⟨by rw [unhide HK]; simp, unhide K⟩

theorem in_limbsOf : ∀ (w : World) (args : Array Value), (callFunc 67 args).run Tryd.prog w = .ok (.enter 67 args) w := enters Tryd.func67 (by decide) (fun h => by cases h)

set_option maxHeartbeats 1000000 in
theorem signedOf_impl {bw : Bool} {lo hi : Nat} {v : Value} {zs : List Int} (b : Bool) (w : World) (r : Row .i64 bw lo hi w v zs) (hl : zs.length ≤ 1000000) :
    Calls Tryd.prog 55 #[.agg #[.bool b, v]] w fun e w' => ∃ v', e = .returned (.agg #[v', .bool b]) ∧ w'.ownsRow w.heap.size 3 1 v' zs.length (zs.map (Value.int .i64)) ∧ Kept 0 0 w w' := by
  have k0 : Kept 0 0 w ((w.alloc (.cells #[.bool b, v] 50)).alloc (.cells #[.slice none 0 0, .bool false] 82)) := (((Kept.refl 0 0 w).alloc (.cells #[.bool b, v] 50)).alloc (.cells #[.slice none 0 0, .bool false] 82))
  have p0 : ((w.alloc (.cells #[.bool b, v] 50)).alloc (.cells #[.slice none 0 0, .bool false] 82)).cell? ⟨w.heap.size, 0, none⟩ = some (.bool b) := old_cell _ (new_cell2 _ _ _ _ _ _ (by simp) rfl)
  have p1 : ((w.alloc (.cells #[.bool b, v] 50)).alloc (.cells #[.slice none 0 0, .bool false] 82)).cell? ⟨w.heap.size, 1, none⟩ = some (v) := old_cell _ (new_cell2 _ _ _ _ _ _ (by simp) rfl)
  have q0 : ((w.alloc (.cells #[.bool b, v] 50)).alloc (.cells #[.slice none 0 0, .bool false] 82)).cell? ⟨w.heap.size + 1, 0, none⟩ = some (.slice none 0 0) := new_cell2 _ _ _ _ _ _ (by simp) rfl
  have qf0 : ((w.alloc (.cells #[.bool b, v] 50)).alloc (.cells #[.slice none 0 0, .bool false] 82)).frozen? ⟨w.heap.size + 1, 0, none⟩ = false := new_loose2 _ _ _ _ _ (by simp)
  have q1 : ((w.alloc (.cells #[.bool b, v] 50)).alloc (.cells #[.slice none 0 0, .bool false] 82)).cell? ⟨w.heap.size + 1, 1, none⟩ = some (.bool false) := new_cell2 _ _ _ _ _ _ (by simp) rfl
  have qf1 : ((w.alloc (.cells #[.bool b, v] 50)).alloc (.cells #[.slice none 0 0, .bool false] 82)).frozen? ⟨w.heap.size + 1, 1, none⟩ = false := new_loose2 _ _ _ _ _ (by simp)
  replace r := r.kept k0 (by omega)
  have s0 : ((w.alloc (.cells #[.bool b, v] 50)).alloc (.cells #[.slice none 0 0, .bool false] 82)).heap.size = w.heap.size + 2 := by simp
  obtain ⟨a, c, hv⟩ := Row.form' r
  subst hv
  have K := hide (k0)
  clear k0
  have S0 := hide s0
  clear s0
  go_enter Tryd.func55, Tryd.ntmps55
  go_wp2_with fail
  generalize ((w.alloc (.cells #[.bool b, .slice a zs.length c] 50)).alloc (.cells #[.slice none 0 0, .bool false] 82)) = W at *
  have kd := (Kept.refl 0 0 W).drew
  replace r := r.kept kd (by omega)
  replace qf0 := kd.loose0 (World.block_lt_of_cell? _ _ q0) qf0
  replace qf1 := kd.loose0 (World.block_lt_of_cell? _ _ q1) qf1
  replace p0 := kd.cell0 p0
  replace p1 := kd.cell0 p1
  replace q0 := kd.cell0 q0
  replace q1 := kd.cell0 q1
  replace K := hide ((unhide K).trans kd)
  have z1 := kd.size
  clear kd
  refine wp_region_held_drew (S := (fun w' => w'.cell? ⟨w.heap.size, 0, none⟩ = some (.bool b) ∧ w'.cell? ⟨w.heap.size, 1, none⟩ = some (.slice a zs.length c))) (by kernel_rfl) ?_ (fun hHeld => ?_)
  · exact ⟨p0, p1⟩
  refine wpAnyH_take (i := 0) (oi := _) (v := .pointer (some ⟨w.heap.size, 1, none⟩)) rfl (by kernel_rfl) (by kernel_rfl) (by kernel_rfl) (fun _ _ _ h => h) (Or.inl ⟨by rfl, ?_⟩) hHeld ?_
  · intro wq hSw
    try dsimp only at hSw
    go_simp
  try simp only [Act.put, List.getElem_toArray, List.getElem_cons_succ, List.getElem_cons_zero, List.setIfInBounds_toArray, List.set_cons_zero, List.set_cons_succ]
  refine wpAnyH_take (i := 1) (oi := _) (v := .agg #[.slice a zs.length c]) rfl (by kernel_rfl) (by kernel_rfl) (by kernel_rfl) (fun _ _ _ h => h) (Or.inl ⟨by rfl, ?_⟩) hHeld ?_
  · intro wq hSw
    try dsimp only at hSw
    go_simp
  try simp only [Act.put, List.getElem_toArray, List.getElem_cons_succ, List.getElem_cons_zero, List.setIfInBounds_toArray, List.set_cons_zero, List.set_cons_succ]
  refine wpAnyH_take (i := 3) (oi := _) (v := .pointer (some ⟨w.heap.size, 0, none⟩)) rfl (by kernel_rfl) (by kernel_rfl) (by kernel_rfl) (fun _ _ _ h => h) (Or.inl ⟨by rfl, ?_⟩) hHeld ?_
  · intro wq hSw
    try dsimp only at hSw
    go_simp
  try simp only [Act.put, List.getElem_toArray, List.getElem_cons_succ, List.getElem_cons_zero, List.setIfInBounds_toArray, List.set_cons_zero, List.set_cons_succ]
  refine wpAnyH_take (i := 4) (oi := _) (v := .bool b) rfl (by kernel_rfl) (by kernel_rfl) (by kernel_rfl) (fun _ _ _ h => h) (Or.inl ⟨by rfl, ?_⟩) hHeld ?_
  · intro wq hSw
    try dsimp only at hSw
    go_simp
  try simp only [Act.put, List.getElem_toArray, List.getElem_cons_succ, List.getElem_cons_zero, List.setIfInBounds_toArray, List.set_cons_zero, List.set_cons_succ]
  refine wpAnyH_ready (rs := [2]) (by kernel_rfl) (by simp) ?_
  refine AllReadyH.cons rfl (fun KK hK => ?_) AllReadyH.nil
  simp only [List.getElem_toArray, List.getElem_cons_succ, List.getElem_cons_zero]
  rw [if_pos (by rfl)]
  refine wps1 67 (.tmp 4) _ rfl in_limbsOf (.agg #[.slice a zs.length c]) rfl (limbsOf_impl _ r hl) ?_
  rintro e w2 ⟨v3, rfl, o3, k2⟩
  refine ⟨_, rfl, ?_⟩
  replace r := r.kept k2 (by omega)
  replace qf0 := k2.loose0 (World.block_lt_of_cell? _ _ q0) qf0
  replace qf1 := k2.loose0 (World.block_lt_of_cell? _ _ q1) qf1
  replace p0 := k2.cell0 p0
  replace p1 := k2.cell0 p1
  replace q0 := k2.cell0 q0
  replace q1 := k2.cell0 q1
  replace K := hide ((unhide K).trans k2)
  have z3 := k2.size
  clear k2
  clear hHeld
  refine hK.out _ _ ?_ (fun hHeld => ?_)
  · exact ⟨p0, p1⟩
  clear hK KK
  try simp only [Act.put, List.getElem_toArray, List.getElem_cons_succ, List.getElem_cons_zero, List.setIfInBounds_toArray, List.set_cons_zero, List.set_cons_succ]
  obtain ⟨a3, c3, hv⟩ := own_slice o3
  subst hv
  refine wpAnyH_take (i := 5) (oi := _) (v := .agg #[.slice a3 zs.length c3, .bool b]) rfl (by kernel_rfl) (by kernel_rfl) (by kernel_rfl) (fun _ _ _ h => h) (Or.inl ⟨by rfl, ?_⟩) hHeld ?_
  · intro wq hSw
    try dsimp only at hSw
    go_simp
  try simp only [Act.put, List.getElem_toArray, List.getElem_cons_succ, List.getElem_cons_zero, List.setIfInBounds_toArray, List.set_cons_zero, List.set_cons_succ]
  refine wpAnyH_ready (rs := [6]) (by kernel_rfl) (by simp) ?_
  refine AllReadyH.cons rfl (fun KK hK => ?_) AllReadyH.nil
  simp only [List.getElem_toArray, List.getElem_cons_succ, List.getElem_cons_zero]
  rw [if_pos (by rfl)]
  go_simp
  clear hHeld
  refine hK.out _ _ ?_ (fun hHeld => ?_)
  · exact ⟨(cell_aside _ (by have := unhide S0; dsimp only; omega) (cell_aside _ (by have := unhide S0; dsimp only; omega) p0)), (cell_aside _ (by have := unhide S0; dsimp only; omega) (cell_aside _ (by have := unhide S0; dsimp only; omega) p1))⟩
  clear hK KK
  try simp only [Act.put, List.getElem_toArray, List.getElem_cons_succ, List.getElem_cons_zero, List.setIfInBounds_toArray, List.set_cons_zero, List.set_cons_succ]
  refine wpAnyH_done (by kernel_rfl) ?_ _
  clear hHeld
  have o3l := o3.lt
  have o3l := o3.lt
  have O := hide (own_less (own_apart (own_apart o3 (p := ⟨w.heap.size + 1, 0, none⟩) (fun e => by have := (o3l _ e).1; have := unhide S0; dsimp only at *; omega) (.slice a3 zs.length c3)) (p := ⟨w.heap.size + 1, 1, none⟩) (fun e => by have := (o3l _ e).1; have := unhide S0; dsimp only at *; omega) (.bool b)) (base' := w.heap.size) (by have := unhide S0; omega))
  have K7 := hide (((unhide K).setNew (p := ⟨w.heap.size + 1, 0, none⟩) (by simp) (.slice a3 zs.length c3)).setNew (p := ⟨w.heap.size + 1, 1, none⟩) (by simp) (.bool b))
  clear o3 o3l r K
  go_wp2_with fail
  exact bodyPost_ret (v := .agg #[.slice a3 zs.length c3, .bool b]) (by simp [results, Tryd.results55, go_sem, q0, q1]) rfl ⟨_, rfl, unhide O, unhide K7⟩

set_option maxHeartbeats 1000000 in
theorem isBelow_impl {b g : Nat} {v : Value} {zs : List Int} {s : Bool} (w : World) (h : Num b w g v zs) (d : Sd w g s) :
    Calls Tryd.prog 72 #[.pointer (some ⟨g, 0, none⟩)] w fun e w' => e = .returned (.bool (s && decide (0 < zs.length))) ∧ w' = w := by
  have hc := h.cell
  have hd := d.1
  have hz := isZero_impl w h
  obtain ⟨a1, c1, rfl⟩ := h.form
  have HZ := hide hz
  clear hz h d
  cases s
  · go_enter Tryd.func72, Tryd.ntmps72
    go_wp2
    go_ret
    exact ⟨rfl, rfl⟩
  · go_enter Tryd.func72, Tryd.ntmps72
    go_wp2_with (go_at_call 68; refine (unhide HZ).mono ?_; rintro e w' ⟨rfl, rfl⟩)
    go_ret
    refine ⟨?_, rfl⟩
    cases zs <;> simp

theorem in_isBelow : ∀ (w : World) (args : Array Value), (callFunc 72 args).run Tryd.prog w = .ok (.enter 72 args) w := enters Tryd.func72 (by decide) (fun h => by cases h)

set_option maxHeartbeats 2000000 in
theorem toldSigned_impl {b g : Nat} {v : Value} {zs : List Int} {s : Bool} (w : World) (h : Num b w g v zs) (d : Sd w g s) :
    Calls Tryd.prog 57 #[.pointer (some ⟨g, 0, none⟩)] w fun e w' => ∃ v', e = .returned (.tuple #[.agg #[.bool (decide (zs.length ≤ 100) && (s && decide (0 < zs.length))), v'], .bool (decide (zs.length ≤ 100))]) ∧ Row .i64 true w.heap.size w'.heap.size w' v' (tell zs) ∧ Kept 0 0 w w' := by
  have hb : (if zs.length ≤ 100 then tell zs = zs else tell zs = []) := by unfold tell; split <;> rfl
  obtain ⟨zz, hzz⟩ : ∃ zz, tell zs = zz := ⟨_, rfl⟩
  rw [hzz] at hb
  rw [hzz]
  have HZ := hide hzz
  clear hzz
  have k0 : Kept 0 0 w (w.alloc (.cells #[.bool false, .slice none 0 0] 50)) := ((Kept.refl 0 0 w).alloc (.cells #[.bool false, .slice none 0 0] 50))
  have q0 : (w.alloc (.cells #[.bool false, .slice none 0 0] 50)).cell? ⟨w.heap.size, 0, none⟩ = some (.bool false) := new_cell2 _ _ _ _ _ _ (by simp) rfl
  have qf0 : (w.alloc (.cells #[.bool false, .slice none 0 0] 50)).frozen? ⟨w.heap.size, 0, none⟩ = false := new_loose2 _ _ _ _ _ (by simp)
  have q1 : (w.alloc (.cells #[.bool false, .slice none 0 0] 50)).cell? ⟨w.heap.size, 1, none⟩ = some (.slice none 0 0) := new_cell2 _ _ _ _ _ _ (by simp) rfl
  have qf1 : (w.alloc (.cells #[.bool false, .slice none 0 0] 50)).frozen? ⟨w.heap.size, 1, none⟩ = false := new_loose2 _ _ _ _ _ (by simp)
  have s0 : (w.alloc (.cells #[.bool false, .slice none 0 0] 50)).heap.size = w.heap.size + 1 := by simp
  have K := hide (k0)
  clear k0
  have S0 := hide s0
  clear s0
  replace h := h.kept (unhide K)
  replace d := d.kept (unhide K)
  go_enter Tryd.func57, Tryd.ntmps57
  go_wp2_with fail
  generalize (w.alloc (.cells #[.bool false, .slice none 0 0] 50)) = W at *
  refine (told_impl _ h).mono ?_
  rintro e w1 ⟨v1, rfl, r1, k1⟩
  replace h := h.kept k1
  replace d := d.kept k1
  replace qf0 := k1.loose0 (World.block_lt_of_cell? _ _ q0) qf0
  replace qf1 := k1.loose0 (World.block_lt_of_cell? _ _ q1) qf1
  replace q0 := k1.cell0 q0
  replace q1 := k1.cell0 q1
  replace K := hide ((unhide K).trans k1)
  have z2 := k1.size
  clear k1
  rw [unhide HZ] at r1
  obtain ⟨a1, c1, hv⟩ := Row.form' r1
  subst hv
  have k2 := (Kept.refl 0 0 w1).alloc (.cells #[.slice a1 zz.length c1] 48)
  have y0 : (w1.alloc (.cells #[.slice a1 zz.length c1] 48)).cell? ⟨w1.heap.size, 0, none⟩ = some (.slice a1 zz.length c1) := new_cell2 _ _ _ _ _ _ rfl rfl
  replace r1 := r1.kept k2 (by omega)
  replace h := h.kept k2
  replace d := d.kept k2
  replace qf0 := k2.loose0 (World.block_lt_of_cell? _ _ q0) qf0
  replace qf1 := k2.loose0 (World.block_lt_of_cell? _ _ q1) qf1
  replace q0 := k2.cell0 q0
  replace q1 := k2.cell0 q1
  replace K := hide ((unhide K).trans k2)
  have z3 := k2.size
  clear k2
  by_cases hl : zs.length ≤ 100
  · rw [if_pos hl] at hb
    subst hb
    rw [decide_eq_true hl]
    go_wp2_with fail
    generalize w1.alloc (.cells #[.slice a1 zz.length c1] 48) = W2 at *
    obtain ⟨sg, hsg⟩ : ∃ sg, (s && decide (0 < zz.length)) = sg := ⟨_, rfl⟩
    have hbl := isBelow_impl W2.drew (h.kept (Kept.refl 0 0 W2).drew) (d.kept (Kept.refl 0 0 W2).drew)
    rw [hsg] at hbl
    have HSG := hide hsg
    have hbk : Calls Tryd.prog 72 #[.pointer (some ⟨g, 0, none⟩)] W2.drew fun e w' => e = .returned (.bool sg) ∧ Kept 0 0 W2.drew w' := hbl.mono (fun e w' h => ⟨h.1, by rw [h.2]; exact Kept.refl 0 0 _⟩)
    clear hsg hbl
    have kd := (Kept.refl 0 0 W2).drew
    replace r1 := r1.kept kd (by omega)
    replace h := h.kept kd
    replace d := d.kept kd
    replace qf0 := kd.loose0 (World.block_lt_of_cell? _ _ q0) qf0
    replace qf1 := kd.loose0 (World.block_lt_of_cell? _ _ q1) qf1
    replace q0 := kd.cell0 q0
    replace q1 := kd.cell0 q1
    replace y0 := kd.cell0 y0
    replace K := hide ((unhide K).trans kd)
    have z4 := kd.size
    clear kd
    refine wp_region_held_drew (S := (fun w' => w'.cell? ⟨w1.heap.size, 0, none⟩ = some (.slice a1 zz.length c1))) (by kernel_rfl) ?_ (fun hHeld => ?_)
    · exact y0
    refine wpAnyH_take (i := 0) (oi := _) (v := .pointer (some ⟨g, 0, none⟩)) rfl (by kernel_rfl) (by kernel_rfl) (by kernel_rfl) (fun _ _ _ h => h) (Or.inl ⟨by rfl, ?_⟩) hHeld ?_
    · intro wq hSw
      try dsimp only at hSw
      go_simp
    try simp only [Act.put, List.getElem_toArray, List.getElem_cons_succ, List.getElem_cons_zero, List.setIfInBounds_toArray, List.set_cons_zero, List.set_cons_succ]
    refine wpAnyH_take (i := 2) (oi := _) (v := .agg #[.slice a1 zz.length c1]) rfl (by kernel_rfl) (by kernel_rfl) (by kernel_rfl) (fun _ _ _ h => h) (Or.inl ⟨by rfl, ?_⟩) hHeld ?_
    · intro wq hSw
      try dsimp only at hSw
      go_simp
    try simp only [Act.put, List.getElem_toArray, List.getElem_cons_succ, List.getElem_cons_zero, List.setIfInBounds_toArray, List.set_cons_zero, List.set_cons_succ]
    refine wpAnyH_ready (rs := [1]) (by kernel_rfl) (by simp) ?_
    refine AllReadyH.cons rfl (fun KK hK => ?_) AllReadyH.nil
    simp only [List.getElem_toArray, List.getElem_cons_succ, List.getElem_cons_zero]
    rw [if_pos (by rfl)]
    refine wps1 72 (.tmp 16) _ rfl in_isBelow (.pointer (some ⟨g, 0, none⟩)) rfl hbk ?_
    rintro e w5 ⟨rfl, k5⟩
    refine ⟨_, rfl, ?_⟩
    replace r1 := r1.kept k5 (by omega)
    replace h := h.kept k5
    replace d := d.kept k5
    replace qf0 := k5.loose0 (World.block_lt_of_cell? _ _ q0) qf0
    replace qf1 := k5.loose0 (World.block_lt_of_cell? _ _ q1) qf1
    replace q0 := k5.cell0 q0
    replace q1 := k5.cell0 q1
    replace y0 := k5.cell0 y0
    replace K := hide ((unhide K).trans k5)
    have z6 := k5.size
    clear k5
    clear hHeld
    refine hK.out _ _ ?_ (fun hHeld => ?_)
    · exact y0
    clear hK KK
    try simp only [Act.put, List.getElem_toArray, List.getElem_cons_succ, List.getElem_cons_zero, List.setIfInBounds_toArray, List.set_cons_zero, List.set_cons_succ]
    refine wpAnyH_take (i := 3) (oi := _) (v := .agg #[.bool sg, .slice a1 zz.length c1]) rfl (by kernel_rfl) (by kernel_rfl) (by kernel_rfl) (fun _ _ _ h => h) (Or.inl ⟨by rfl, ?_⟩) hHeld ?_
    · intro wq hSw
      try dsimp only at hSw
      go_simp
    try simp only [Act.put, List.getElem_toArray, List.getElem_cons_succ, List.getElem_cons_zero, List.setIfInBounds_toArray, List.set_cons_zero, List.set_cons_succ]
    refine wpAnyH_ready (rs := [4]) (by kernel_rfl) (by simp) ?_
    refine AllReadyH.cons rfl (fun KK hK => ?_) AllReadyH.nil
    simp only [List.getElem_toArray, List.getElem_cons_succ, List.getElem_cons_zero]
    rw [if_pos (by rfl)]
    go_simp
    clear hHeld
    refine hK.out _ _ ?_ (fun hHeld => ?_)
    · exact (cell_aside _ (by have := unhide S0; dsimp only; omega) (cell_aside _ (by have := unhide S0; dsimp only; omega) y0))
    clear hK KK
    try simp only [Act.put, List.getElem_toArray, List.getElem_cons_succ, List.getElem_cons_zero, List.setIfInBounds_toArray, List.set_cons_zero, List.set_cons_succ]
    refine wpAnyH_take (i := 5) (oi := _) (v := .bool true) rfl (by kernel_rfl) (by kernel_rfl) (by kernel_rfl) (fun _ _ _ h => h) (Or.inl ⟨by rfl, ?_⟩) hHeld ?_
    · intro wq hSw
      try dsimp only at hSw
      go_simp
    try simp only [Act.put, List.getElem_toArray, List.getElem_cons_succ, List.getElem_cons_zero, List.setIfInBounds_toArray, List.set_cons_zero, List.set_cons_succ]
    refine wpAnyH_done (by kernel_rfl) ?_ _
    clear hHeld
    clear hbk
    have hz0 : w.heap.size < W.heap.size := by have := unhide S0; omega
    have bX : w.heap.size < w5.heap.size := World.block_lt_of_cell? _ _ q0
    have R := hide (((r1.set_other (p := ⟨w.heap.size, 0, none⟩) (.inl (by have := unhide S0; dsimp only; omega)) (.bool sg)).set_other (p := ⟨w.heap.size, 1, none⟩) (.inl (by have := unhide S0; dsimp only; omega)) (.slice a1 zz.length c1)).tight.wider (lo' := w.heap.size) (by have := unhide S0; omega) (Nat.le_refl _))
    have K7 := hide (((unhide K).setNew (p := ⟨w.heap.size, 0, none⟩) (by simp) (.bool sg)).setNew (p := ⟨w.heap.size, 1, none⟩) (by simp) (.slice a1 zz.length c1))
    clear r1 h d K
    go_wp2_with fail
    exact bodyPost_ret (v := .tuple #[.agg #[.bool sg, .slice a1 zz.length c1], .bool true]) (by simp [results, Tryd.results57, go_sem, q0, q1]) rfl ⟨_, by simp only [decide_eq_true hl, Bool.true_and, unhide HSG], unhide R, unhide K7⟩
  · rw [if_neg hl] at hb
    subst hb
    rw [decide_eq_false hl]
    have K' := hide (((unhide K).setNew (p := ⟨w.heap.size, 0, none⟩) (by simp) (.bool false)).setNew (p := ⟨w.heap.size, 1, none⟩) (by simp) (.slice none 0 0))
    simp only [List.length_nil] at K' q0 q1 qf0 qf1
    clear r1 h d K y0
    go_wp2_with fail
    exact bodyPost_ret (v := .tuple #[.agg #[.bool false, .slice none 0 0], .bool false]) (by simp [results, Tryd.results57, go_sem, q0, q1]) rfl ⟨_, by rw [decide_eq_false hl]; rfl, Row.nil _ _ _ _ _, unhide K'⟩

end Go.Proofs.YthahoabkehcgbaaDoor
