/-
  The walk of the law FnExactRuneAt: it returns true at every slice of bytes and every place.
-/
import Derived.Test.YtbcojphjohpmdaaImpl1
namespace Go.Proofs.Ytbcojphjohpmdaa
open Go.RowKit

set_option maxHeartbeats 400000 in
theorem law_RuneAt {v : Value} {zs : List Int} {w : World} (r : Row .u8 false 0 w.heap.size w v zs) (hb0 : ∀ z ∈ zs, (Lit.int .u8 z).wf = true) (p : Int) (_ : (Lit.int .i64 p).wf = true) :
    Calls Try.prog 5 #[v, .int .i64 p] w fun e w' => e = .returned (.bool true) ∧ Below w.heap.size w w' := by
  have hb := bytes_of_wf hb0
  clear hb0
  have r' := r
  obtain ⟨a, c, rfl, q1, m1, q3⟩ := r
  unfold maxLen at m1
  clear q3
  by_cases hbig : 1048576 < (zs.length : Int)
  · go_enter Try.func5, Try.ntmps5
    go_wp2
    go_ret
    exact ⟨rfl, Below.refl _ _⟩
  · have hn : zs.length ≤ 1048576 := by omega
    go_enter Try.func5, Try.ntmps5
    go_wp2_with fail
    refine (toByteS_any _ (by omega) r').mono ?_
    rintro e w1 ⟨v1, rfl, r1, k1⟩
    have r' := r'.kept k1 (by omega)
    go_wp2_with fail
    refine (runeAt_spec _ r1 hb p (by omega)).mono ?_
    rintro e w2 ⟨rfl, rfl⟩
    go_wp2_with fail
    refine (toByteS_any _ (by omega) r').mono ?_
    rintro e w3 ⟨v3, rfl, r3, k3⟩
    have r' := r'.kept k3 (by omega)
    go_wp2_with fail
    refine (runeAt_impl _ r3 hb p (by omega)).mono ?_
    rintro e w4 ⟨rfl, k4⟩
    have r' := r'.kept k4 (by omega)
    have r3 := r3.kept k4 (by omega)
    generalize arune zs p = F
    go_wp2_with fail
    refine (toByteS_any _ (by omega) r').mono ?_
    rintro e w5 ⟨v5, rfl, r5, k5⟩
    have r3 := r3.kept k5 (by omega)
    go_wp2_with fail
    refine (eqByteS_same _ r3 r5).mono ?_
    rintro e w6 ⟨rfl, n6, rfl⟩
    have b1 := k1.toBelow
    have b3 := below_step b1 k3 (Nat.le_refl _) (by omega)
    have b4 := below_step b3 k4 (Nat.le_refl _) (by omega)
    have b5 := below_step b4 k5 (Nat.le_refl _) (by omega)
    have b6 := below_step b5 ((Kept.refl 0 0 w5).drewN n6) (Nat.le_refl _) (by omega)
    clear b1 b3 b4 b5
    go_wp2
    go_ret
    exact ⟨rfl, b6⟩
end Go.Proofs.Ytbcojphjohpmdaa
