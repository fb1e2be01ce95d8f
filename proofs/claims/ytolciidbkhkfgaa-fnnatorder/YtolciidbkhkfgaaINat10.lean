/-
  The contract of the model's NatCmp.
-/
import Derived.Test.YtolciidbkhkfgaaINat9
namespace Go.Proofs.Ytolciidbkhkfgaa
open Go.RowKit
set_option linter.unusedVariables false
set_option maxRecDepth 8000

set_option maxHeartbeats 1000000 in
theorem natCmp_spec {b1 b2 : Bool} {l1 h1 l2 h2 : Nat} {v1 v2 : Value} {xs ys : List Int} (w : World) (r1 : Row .i64 b1 l1 h1 w v1 xs) (r2 : Row .i64 b2 l2 h2 w v2 ys) :
    Calls Try.prog 62 #[.agg #[v1], .agg #[v2]] w fun e w' => e = .returned (.int .i64 (cmpN xs ys)) ∧ Kept 0 0 w w' := by
  have k0 := ((Kept.refl 0 0 w).alloc (.cells #[v1] 26)).alloc (.cells #[v2] 26)
  have q1 := r1.kept k0 (by omega)
  have q2 := r2.kept k0 (by omega)
  have c1 : ((w.alloc (.cells #[v1] 26)).alloc (.cells #[v2] 26)).cell? ⟨w.heap.size, 0, none⟩ = some v1 := old_cell _ (new_cell_at _ _ _ _ rfl)
  have c2 : ((w.alloc (.cells #[v1] 26)).alloc (.cells #[v2] 26)).cell? ⟨w.heap.size + 1, 0, none⟩ = some v2 := new_cell_at _ _ _ _ (by simp)
  obtain ⟨a1, d1, rfl⟩ := Row.form' r1
  obtain ⟨a2, d2, rfl⟩ := Row.form' r2
  clear r1 r2
  go_enter Try.func62, Try.ntmps62
  go_wp2_with fail
  generalize (w.alloc (.cells #[.slice a1 xs.length d1] 26)).alloc (.cells #[.slice a2 ys.length d2] 26) = W at *
  refine (ok_spec _ q1).mono ?_
  rintro e w1 ⟨rfl, k1⟩
  replace c1 := k1.cell0 c1
  replace c2 := k1.cell0 c2
  replace q1 := q1.kept k1 (by omega)
  replace q2 := q2.kept k1 (by omega)
  have K := hide (k0.trans k1)
  clear k0 k1
  cases hok1 : okB xs
  · have HK := hide hok1
    clear q1 q2 hok1
    go_wp2_with fail
    go_ret
    exact ⟨by rw [cmpN_bad1 (unhide HK)]; rfl, unhide K⟩
  have HK1 := hide hok1
  clear hok1
  go_wp2_with fail
  refine (ok_spec _ q2).mono ?_
  rintro e w2 ⟨rfl, k2⟩
  replace c1 := k2.cell0 c1
  replace c2 := k2.cell0 c2
  replace q1 := q1.kept k2 (by omega)
  replace q2 := q2.kept k2 (by omega)
  replace K := hide ((unhide K).trans k2)
  clear k2
  cases hok2 : okB ys
  · have HK := hide hok2
    clear q1 q2 hok2
    go_wp2_with fail
    go_ret
    exact ⟨by rw [cmpN_bad2 (unhide HK)]; rfl, unhide K⟩
  have HK2 := hide hok2
  clear hok2
  have hn1 := ((okB_iff xs).1 (unhide HK1)).2
  have hn2 := ((okB_iff ys).1 (unhide HK2)).2
  go_wp2_with fail
  refine (cmp_spec _ q1 q2 hn1 hn2).mono ?_
  rintro e w6 ⟨rfl, k6⟩
  have K6 := hide ((unhide K).trans k6)
  clear q1 q2 k6 hn1 hn2
  go_wp2_with fail
  go_ret
  exact ⟨by rw [cmpN_ok (unhide HK1) (unhide HK2)]; rfl, unhide K6⟩

end Go.Proofs.Ytolciidbkhkfgaa
