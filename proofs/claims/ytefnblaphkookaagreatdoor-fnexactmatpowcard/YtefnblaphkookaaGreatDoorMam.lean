/-
  MatMul of the program.
-/
import Derived.Test.YtefnblaphkookaaGreatDoorBT
import Derived.Test.YtefnblaphkookaaGreatDoorMaa
namespace Go.Proofs.YtefnblaphkookaaGreatDoor
open Go.RowKit
set_option linter.unusedVariables false
set_option maxRecDepth 8000
set_option linter.unusedSimpArgs false

theorem psum_lt {f : Nat → Int} {A : Nat} : ∀ (m : Nat), (∀ q, q < m → (f q).natAbs < 2 ^ A) → (psum f m).natAbs < 2 ^ (A + m)
  | 0, _ => Nat.pow_pos (by decide)
  | m + 1, h => by
    have h1 := psum_lt m (fun q hq => h q (by omega))
    have h2 := lt_up (h m (by omega)) (show A ≤ A + m by omega)
    exact add_lt h1 h2
/-- What a product's number is worth, of matrices that may be. -/
def mulV (n : Nat) (ds1 ds2 : List DE) (p : Nat) : Int := mulW n (fun q => dv (-3000) (ds1.getD q de0)) (fun q => dv (-3000) (ds2.getD q de0)) p
theorem prod_lt {ds1 ds2 : List DE} {p q : Nat} (h1 : dOkE (ds1.getD p de0) = true) (h2 : dOkE (ds2.getD q de0) = true) {A : Nat} (hA : A = 7600) : (dv (-3000) (ds1.getD p de0) * dv (-3000) (ds2.getD q de0)).natAbs < 2 ^ (A + A) := mul_lt (dv_lt h1 hA) (dv_lt h2 hA)
theorem mulS_lt {k m i j : Nat} {ds1 ds2 : List DE} (h4 : k ≤ 4) (hi : i < k) (hj : j < k) (hm : m ≤ k) (U1 : ∀ p, p < k * k → dOkE (ds1.getD p de0) = true) (U2 : ∀ p, p < k * k → dOkE (ds2.getD p de0) = true) : (psum (fun q => dv (-3000) (ds1.getD (i * k + q) de0) * dv (-3000) (ds2.getD (q * k + j) de0)) m).natAbs < 2 ^ AA := by
  obtain ⟨A, hA⟩ : ∃ A : Nat, A = 7600 := ⟨_, rfl⟩
  exact lt_up (psum_lt m (fun q hq => prod_lt (U1 _ (place_lt hi (by omega))) (U2 _ (place_lt (by omega) hj)) hA)) (by unfold AA; omega)
theorem dok_x {d : DE} (h : dOkE d = true) : d.2.2 ≤ 3000 := by
  obtain ⟨h1, h2, h3, -, -⟩ := dok_parts h
  exact h3
theorem mul_fn {k : Nat} {n2 : Int} {ds1 ds2 : List DE} (w : World) (h : bothB (k : Int) ds1 n2 ds2 = true) : SqFn 38 (mulV (k : Int).toNat ds1 ds2) (-6000) k w ds1 ds2 := by
  obtain ⟨h0, h4, -, -, U1, U2⟩ := both_dok h
  intro w' R1 G1 S1 b1 R2 G2 S2 b2 kk s1 m1 s2 m2
  refine (timesS_impl (L1 := -3000) (L2 := -3000) (V1 := fun p => dv (-3000) (ds1.getD p de0)) (V2 := fun p => dv (-3000) (ds2.getD p de0)) w' h0 (by omega) (by decide) (by decide) s1 m1 s2 m2 (fun p hp => ⟨dok_nv (U1 p hp) (by decide), by have := dok_x (U1 p hp); omega⟩) (fun p hp => ⟨dok_nv (U2 p hp) (by decide), by have := dok_x (U2 p hp); omega⟩) (fun p q hp hq => ?_) (fun i j m hi hj hm => mulS_lt h4 hi hj hm U1 U2)).mono ?_
  · obtain ⟨A, hA⟩ : ∃ A : Nat, A = 7600 := ⟨_, rfl⟩
    exact lt_up (prod_lt (U1 p hp) (U2 q hq) hA) (by unfold AA; omega)
  · rintro e w'' ⟨R, G, S, F, rfl, q1, q2, q3, q4, q5⟩
    exact ⟨R, G, S, F, rfl, q1, q2, fun p hp => by rw [Int.toNat_natCast]; exact q3 p hp, q5⟩

theorem in_impl_MatMul : ∀ (w : World) (args : Array Value), (callFunc 19 args).run Tryz.prog w = .ok (.enter 19 args) w := enters Tryz.func19 (by decide) (fun h => by cases h)

theorem in_fn_mul : ∀ (w : World) (args : Array Value), (callFunc 38 args).run Tryz.prog w = .ok (.enter 38 args) w := enters Tryz.func38 (by decide) (fun h => by cases h)

set_option maxHeartbeats 8000000 in
theorem matmul_impl {lo1 hi1 lo2 hi2 : Nat} {v1 v2 : Value} {ds1 ds2 : List DE} (n1 n2 : Int) (w : World) (hw1 : WfD ds1) (hw2 : WfD ds2) (r1 : Dys lo1 hi1 w v1 ds1) (r2 : Dys lo2 hi2 w v2 ds2) (T : TabB w) :
    Calls Tryz.prog 19 #[.agg #[.int .i64 n1, v1], .agg #[.int .i64 n2, v2]] w fun e w' => ∃ v', e = .returned (.tuple #[.agg #[.int .i64 (twN (bothB n1 ds1 n2 ds2) (mulV n1.toNat ds1 ds2) (-6000) n1), v'], .bool (twB (bothB n1 ds1 n2 ds2) (mulV n1.toNat ds1 ds2) (-6000) n1)]) ∧ DysO w.heap.size w'.heap.size w' v' (twL (bothB n1 ds1 n2 ds2) (mulV n1.toNat ds1 ds2) (-6000) n1) ∧ Kept 0 0 w w' := by
  obtain ⟨W, hW⟩ : ∃ W, W = ((w.alloc (.cells #[.int .i64 n1, v1] 28)).alloc (.cells #[.int .i64 n2, v2] 28)).alloc (.cells #[.int .i64 0, .slice none 0 0] 28) := ⟨_, rfl⟩
  have k0 : Kept 0 0 w W := by rw [hW]; exact (((Kept.refl 0 0 w).alloc _).alloc _).alloc _
  have c0 : W.cell? ⟨w.heap.size, 0, none⟩ = some (.int .i64 n1) := by rw [hW]; exact old_cell _ (old_cell _ (new_cell2 _ _ _ _ _ _ (by simp) rfl))
  have c1 : W.cell? ⟨w.heap.size, 1, none⟩ = some v1 := by rw [hW]; exact old_cell _ (old_cell _ (new_cell2 _ _ _ _ _ _ (by simp) rfl))
  have d0 : W.cell? ⟨w.heap.size + 1, 0, none⟩ = some (.int .i64 n2) := by rw [hW]; exact old_cell _ (new_cell2 _ _ _ _ _ _ (by simp) rfl)
  have d1 : W.cell? ⟨w.heap.size + 1, 1, none⟩ = some v2 := by rw [hW]; exact old_cell _ (new_cell2 _ _ _ _ _ _ (by simp) rfl)
  have q0 : W.cell? ⟨w.heap.size + 2, 0, none⟩ = some (.int .i64 0) := by rw [hW]; exact new_cell2 _ _ _ _ _ _ (by simp) rfl
  have q1 : W.cell? ⟨w.heap.size + 2, 1, none⟩ = some (.slice none 0 0) := by rw [hW]; exact new_cell2 _ _ _ _ _ _ (by simp) rfl
  have f0 : W.frozen? ⟨w.heap.size + 2, 0, none⟩ = false := by rw [hW]; exact new_loose2 _ _ _ _ _ (by simp)
  have f1 : W.frozen? ⟨w.heap.size + 2, 1, none⟩ = false := by rw [hW]; exact new_loose2 _ _ _ _ _ (by simp)
  have sW : W.heap.size = w.heap.size + 3 := by rw [hW]; simp
  have ho := ofTwo_impl n1 n2 38 in_fn_mul (mulV n1.toNat ds1 ds2) (-6000) (by decide) W hw1 hw2 (r1.kept k0 (by omega)) (r2.kept k0 (by omega)) (T.kept k0) (fun k hk hb => by subst hk; exact mul_fn W hb)
  obtain ⟨a1, e1, rfl, -, -⟩ := r1.form
  obtain ⟨a2, e2, rfl, -, -⟩ := r2.form
  obtain ⟨X1, hX1⟩ : ∃ x, x = twN (bothB n1 ds1 n2 ds2) (mulV n1.toNat ds1 ds2) (-6000) n1 := ⟨_, rfl⟩
  obtain ⟨X2, hX2⟩ : ∃ x, x = twB (bothB n1 ds1 n2 ds2) (mulV n1.toNat ds1 ds2) (-6000) n1 := ⟨_, rfl⟩
  obtain ⟨X3, hX3⟩ : ∃ x, x = twL (bothB n1 ds1 n2 ds2) (mulV n1.toNat ds1 ds2) (-6000) n1 := ⟨_, rfl⟩
  rw [← hX1, ← hX2, ← hX3] at ho ⊢
  rw [hW] at ho
  clear r1 r2 T hX1 hX2 hX3
  go_enter Tryz.func19, Tryz.ntmps19
  go_wp2_with fail
  rw [← hW] at ho ⊢
  clear hW
  refine ho.mono ?_
  rintro e w5 ⟨v5, rfl, r5, k5⟩
  obtain ⟨a5, d5, hv5⟩ := r5.form'
  subst hv5
  replace f0 := k5.loose0 (World.block_lt_of_cell? _ _ q0) f0
  replace f1 := k5.loose0 (World.block_lt_of_cell? _ _ q1) f1
  replace q0 := k5.cell0 q0
  replace q1 := k5.cell0 q1
  have z5 := k5.size
  have K7 := hide (((k0.trans k5).setNew (p := ⟨w.heap.size + 2, 0, none⟩) (by dsimp only; omega) (.int .i64 X1)).setNew (p := ⟨w.heap.size + 2, 1, none⟩) (by dsimp only; omega) (.slice a5 X3.length d5))
  have ks : Kept (w.heap.size + 2) (w.heap.size + 3) w5 ((w5.setCell ⟨w.heap.size + 2, 0, none⟩ (.int .i64 X1)).setCell ⟨w.heap.size + 2, 1, none⟩ (.slice a5 X3.length d5)) :=
    ((Kept.refl _ _ _).setCell (p := ⟨w.heap.size + 2, 0, none⟩) (Nat.le_refl _) (Nat.lt_succ_self _) _).setCell (p := ⟨w.heap.size + 2, 1, none⟩) (Nat.le_refl _) (Nat.lt_succ_self _) _
  have hsz : ((w5.setCell ⟨w.heap.size + 2, 0, none⟩ (.int .i64 X1)).setCell ⟨w.heap.size + 2, 1, none⟩ (.slice a5 X3.length d5)).heap.size = w5.heap.size := by rw [size_set, size_set]
  have R7 := hide ((r5.kept ks (by omega)).wider (lo' := w.heap.size) (hi' := ((w5.setCell ⟨w.heap.size + 2, 0, none⟩ (.int .i64 X1)).setCell ⟨w.heap.size + 2, 1, none⟩ (.slice a5 X3.length d5)).heap.size) (by omega) (by omega))
  clear ho r5 k5 ks hsz k0 c0 c1 d0 d1
  go_wp2
  exact bodyPost_ret (v := .tuple #[.agg #[.int .i64 X1, .slice a5 X3.length d5], .bool X2]) (by simp [results, Tryz.results19, go_sem, q0, q1]) rfl ⟨.slice a5 X3.length d5, rfl, unhide R7, unhide K7⟩

end Go.Proofs.YtefnblaphkookaaGreatDoor
