/-
  The walk of the law FnExactClean: it returns true at every slice of bytes.
-/
import Derived.Test.YtbcojphjohpmdaaClean
import Derived.Test.YtbcojphjohpmdaaXRuneAt
namespace Go.Proofs.Ytbcojphjohpmdaa
open Go.RowKit

set_option maxHeartbeats 1000000 in
theorem law_Clean {v : Value} {zs : List Int} {w : World} (r : Row .u8 false 0 w.heap.size w v zs) (hb0 : ∀ z ∈ zs, (Lit.int .u8 z).wf = true) :
    Calls Try.prog 8 #[v] w fun e w' => e = .returned (.bool true) ∧ Below w.heap.size w w' := by
  have hb := bytes_of_wf hb0
  clear hb0
  have ra := r
  obtain ⟨a, c, rfl, q1, m1, q3⟩ := r
  unfold maxLen at m1
  clear q3
  by_cases hbig : 1048576 < (zs.length : Int)
  · go_enter Try.func8, Try.ntmps8
    go_wp2
    go_ret
    exact ⟨rfl, Below.refl _ _⟩
  · have hn : zs.length ≤ 1048576 := by omega
    clear q1 m1
    go_enter Try.func8, Try.ntmps8
    go_wp2_with fail
    refine (toByteS_any _ (by omega) ra).mono ?_
    rintro e w1 ⟨v1, rfl, r1, k1⟩
    replace ra := ra.kept k1 (by omega)
    go_wp2_with fail
    refine (clean_spec _ r1 hb).mono ?_
    rintro e w2 ⟨rfl, rfl⟩
    clear r1
    go_wp2_with fail
    refine (toByteS_any _ (by omega) ra).mono ?_
    rintro e w3 ⟨v3, rfl, rx, k3⟩
    replace ra := ra.kept k3 (by omega)
    go_wp2_with fail
    refine (clean_impl _ rx hb).mono ?_
    rintro e w4 ⟨rfl, k4⟩
    replace ra := ra.kept k4 (by omega)
    replace rx := rx.kept k4 (by omega)
    generalize clean zs = b
    go_wp2_with fail
    refine (toByteS_any _ (by omega) ra).mono ?_
    rintro e w5 ⟨v5, rfl, r5, k5⟩
    replace rx := rx.kept k5 (by omega)
    go_wp2_with fail
    refine (eqByteS_same _ rx r5).mono ?_
    rintro e w6 ⟨rfl, n6, rfl⟩
    have bel := k1.toBelow
    replace bel := below_step bel k3 (Nat.le_refl _) (by omega)
    replace bel := below_step bel k4 (Nat.le_refl _) (by omega)
    replace bel := below_step bel k5 (Nat.le_refl _) (by omega)
    replace bel := below_step bel ((Kept.refl 0 0 w5).drewN n6) (Nat.le_refl _) (by omega)
    go_wp2
    go_ret
    exact ⟨rfl, bel⟩
end Go.Proofs.Ytbcojphjohpmdaa
