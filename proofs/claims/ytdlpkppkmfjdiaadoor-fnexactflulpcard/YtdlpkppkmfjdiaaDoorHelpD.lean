/-
  Contracts of the laws' own helpers on dyadic numbers: szDy, toDy, eqDy, markDy, heldDy.
-/
import Derived.Test.YtdlpkppkmfjdiaaDoorBC
namespace Go.Proofs.YtdlpkppkmfjdiaaDoor
open Go.RowKit
set_option linter.unusedVariables false
set_option maxRecDepth 8000

set_option maxHeartbeats 1000000 in
theorem eqDy_same {b1 b2 : Bool} {l1 h1 l2 h2 : Nat} {v1 v2 : Value} {zs : List Int} (b : Bool) (x : Int) (w : World) (r1 : Row .i64 b1 l1 h1 w v1 zs) (r2 : Row .i64 b2 l2 h2 w v2 zs) :
    Calls Tryd.prog 49 #[.agg #[.bool b, v1, .int .i64 x], .agg #[.bool b, v2, .int .i64 x]] w fun e w' => e = .returned (.bool true) ∧ Kept 0 0 w w' := by
  have kk := ((Kept.refl 0 0 w).alloc (.cells #[.bool b, v1, .int .i64 x] 44)).alloc (.cells #[.bool b, v2, .int .i64 x] 44)
  have c1 : ((w.alloc (.cells #[.bool b, v1, .int .i64 x] 44)).alloc (.cells #[.bool b, v2, .int .i64 x] 44)).cell? ⟨w.heap.size, 2, none⟩ = some (.int .i64 x) := old_cell _ (new_cell2 _ _ _ _ _ _ (by simp) rfl)
  have c2 : ((w.alloc (.cells #[.bool b, v1, .int .i64 x] 44)).alloc (.cells #[.bool b, v2, .int .i64 x] 44)).cell? ⟨w.heap.size + 1, 2, none⟩ = some (.int .i64 x) := new_cell2 _ _ _ _ _ _ (by simp) rfl
  have s1 := r1.kept kk (by omega)
  have s2 := r2.kept kk (by omega)
  have KK := hide kk
  obtain ⟨a1, d1, rfl, -⟩ := r1
  obtain ⟨a2, d2, rfl, -⟩ := r2
  have hbb : (x != x) = false := by simp
  clear kk
  go_enter Tryd.func49, Tryd.ntmps49
  go_wp2_with fail
  refine (eqWhole_same _ _ s1 s2).mono ?_
  rintro e w6 ⟨rfl, k6⟩
  replace c1 := k6.cell0 c1
  replace c2 := k6.cell0 c2
  have K := hide ((unhide KK).trans k6)
  clear s1 s2 k6 KK
  go_wp2
  go_ret
  exact ⟨rfl, unhide K⟩

set_option maxHeartbeats 1000000 in
theorem markDy_wide {lo hi : Nat} {v : Value} {zs : List Int} (b : Bool) (x : Int) (w : World) (s : Int) (hs0 : 0 ≤ s) (hs1 : s ≤ 1000000000) (hn : zs.length ≤ 1099511627776) (r : Row .i64 true lo hi w v zs) :
    Calls Tryd.prog 50 #[.agg #[.bool b, v, .int .i64 x], .int .i64 s] w fun e w' => e = .returned (.int .i64 (s + zs.length)) ∧ Row .i64 true lo hi w' v (marks .i64 s zs.length) ∧ Kept lo hi w w' := by
  have s1 := r.kept ((Kept.refl 0 0 w).alloc (.cells #[.bool b, v, .int .i64 x] 44)) (by omega)
  obtain ⟨a1, c1, rfl, -⟩ := r
  go_enter Tryd.func50, Tryd.ntmps50
  go_wp2_with fail
  refine (markWhole_wide _ _ s hs0 hs1 hn s1).mono ?_
  rintro e w6 ⟨rfl, r6, k6⟩
  have R6 := hide r6
  have K6 := hide (((Kept.refl lo hi w).alloc _).trans k6)
  clear s1 r6 k6
  go_wp2
  go_ret
  exact ⟨rfl, unhide R6, unhide K6⟩

set_option maxHeartbeats 1000000 in
theorem heldDy_any {bw : Bool} {lo hi : Nat} {v : Value} {n : Nat} (b : Bool) (x : Int) (w : World) (s : Int) (hs0 : 0 ≤ s) (hs1 : s ≤ 1000000) (hn : n ≤ 1099511627776) (r : Row .i64 bw lo hi w v (marks .i64 s n)) :
    Calls Tryd.prog 51 #[.agg #[.bool b, v, .int .i64 x], .int .i64 s] w fun e w' => e = .returned (.int .i64 (s + n)) ∧ Kept 0 0 w w' := by
  have k0 := (Kept.refl 0 0 w).alloc (.cells #[.bool b, v, .int .i64 x] 44)
  have s1 := r.kept k0 (by omega)
  obtain ⟨a1, c1, rfl, -⟩ := r
  have h0 : ¬ (s + (n : Int)) < 0 := by omega
  go_enter Tryd.func51, Tryd.ntmps51
  go_wp2_with fail
  refine (heldWhole_any _ _ s hs0 hs1 hn s1).mono ?_
  rintro e w6 ⟨rfl, k6⟩
  have K := hide (k0.trans k6)
  clear s1 k0 k6
  go_wp2
  go_ret
  exact ⟨rfl, unhide K⟩

end Go.Proofs.YtdlpkppkmfjdiaaDoor
