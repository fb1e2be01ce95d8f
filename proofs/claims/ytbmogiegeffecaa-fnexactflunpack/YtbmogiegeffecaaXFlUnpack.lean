/-
  The walk of the law FnExactFlUnpack: it returns true at every two ints.
-/
import Derived.Test.YtbmogiegeffecaaFl5
namespace Go.Proofs.Ytbmogiegeffecaa
open Go.RowKit
set_option linter.unusedVariables false

set_option maxHeartbeats 1000000 in
theorem law_FlUnpack (hi : Int) (wf0 : (Lit.int .i64 hi).wf = true) (lo : Int) (wf1 : (Lit.int .i64 lo).wf = true) (w : World) :
    Calls Try.prog 5 #[.int .i64 hi, .int .i64 lo] w fun r w' => r = .returned (.bool true) ∧ Below w.heap.size w w' := by
  have HS := hide (fun w => flun_spec hi lo w)
  have HI := hide (fun w => flun_impl hi lo w)
  generalize fun2 hi lo = q at HS HI
  generalize okU hi lo = o at HS HI
  obtain ⟨q0, q1, q2, q3⟩ := q
  clear wf0 wf1
  go_enter Try.func5, Try.ntmps5
  go_wp2_with fail
  refine (unhide HS _).mono ?_
  rintro r w1 ⟨rfl, k1⟩
  have K0 := hide k1
  clear k1 HS
  go_wp2_with fail
  have F1 := FB.new w1 q0 q1 q2 q3 25
  replace K0 := (unhide K0).alloc (flc q0 q1 q2 q3 25)
  refine (unhide HI _).mono ?_
  rintro r w2 ⟨rfl, k2⟩
  replace K0 := hide (K0.trans k2)
  replace F1 := F1.kept k2
  clear k2 HI
  have lt0 := F1.lt
  have c0 := F1.c0
  have c1 := F1.c1
  have c2 := F1.c2
  have c3 := F1.c3
  clear F1
  go_wp2_with (go_at_call 15; refine (eqFl_same _ _ _ _ _).mono ?_; rintro r w1 ⟨rfl, rfl⟩)
  go_ret
  exact ⟨rfl, ((((unhide K0).alloc _).alloc _).alloc _).toBelow⟩

end Go.Proofs.Ytbmogiegeffecaa
