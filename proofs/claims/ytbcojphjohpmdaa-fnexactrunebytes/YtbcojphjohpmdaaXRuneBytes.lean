/-
  The walk of the law FnExactRuneBytes: it returns true at every int.
-/
import Derived.Test.YtbcojphjohpmdaaRB
namespace Go.Proofs.Ytbcojphjohpmdaa
open Go.RowKit

set_option maxHeartbeats 400000 in
theorem law_RuneBytes (a0 : Int) (_ : (Lit.int .i64 a0).wf = true) (w : World) :
    Calls Try.prog 7 #[.int .i64 a0] w fun e w' => e = .returned (.bool true) ∧ Below w.heap.size w w' := by
  have hlen := rb_length a0
  go_enter Try.func7, Try.ntmps7
  go_wp2_with fail
  refine (rb_spec a0 _).mono ?_
  rintro e w1 ⟨v0, rfl, r0, k1⟩
  go_wp2_with fail
  refine (rb_impl a0 _).mono ?_
  rintro e w2 ⟨v1, rfl, r1, k2⟩
  have r0 := r0.kept k2 (by omega)
  go_wp2_with fail
  refine (eqByteS_same _ r1 r0).mono ?_
  rintro e w3 ⟨rfl, n3, rfl⟩
  go_wp2_with fail
  refine (markByteS_any _ 1 (by omega) (by omega) (by omega) (r1.drewN n3)).mono ?_
  rintro e w4 ⟨rfl, r1', k4, -⟩
  have r0 := (r0.drewN n3).kept k4 (by omega)
  go_wp2_with fail
  refine (heldByteS_any _ 1 (by omega) (by omega) (by omega) r1').mono ?_
  rintro e w5 ⟨rfl, rfl⟩
  go_wp2_with fail
  refine (rb_impl a0 _).mono ?_
  rintro e w6 ⟨v2, rfl, r2, k6⟩
  have r0 := r0.kept k6 (by omega)
  have r1' := r1'.kept k6 (by omega)
  go_wp2_with fail
  refine (eqByteS_same _ r2 r0).mono ?_
  rintro e w7 ⟨rfl, n7, rfl⟩
  go_wp2_with fail
  refine (heldByteS_any _ 1 (by omega) (by omega) (by omega) (r1'.drewN n7)).mono ?_
  rintro e w8 ⟨rfl, rfl⟩
  have b1 := k1.toBelow
  have b2 := below_step b1 k2 (Nat.le_refl _) (by omega)
  have b3 := below_step b2 ((Kept.refl 0 0 w2).drewN n3) (Nat.le_refl _) (by omega)
  have b4 := below_step b3 k4 (Nat.le_refl _) (.inl k1.size)
  have b6 := below_step b4 k6 (Nat.le_refl _) (by omega)
  have b7 := below_step b6 ((Kept.refl 0 0 w6).drewN n7) (Nat.le_refl _) (by omega)
  clear b1 b2 b3 b4 b6
  go_wp2
  go_ret
  exact ⟨rfl, b7⟩
end Go.Proofs.Ytbcojphjohpmdaa
