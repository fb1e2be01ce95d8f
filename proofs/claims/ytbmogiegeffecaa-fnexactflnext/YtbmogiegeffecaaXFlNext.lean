/-
  The walk of the law FnExactFlNext: it returns true at every float that is handed over.
-/
import Derived.Test.YtbmogiegeffecaaFl7
namespace Go.Proofs.Ytbmogiegeffecaa
open Go.RowKit
set_option linter.unusedVariables false

set_option maxHeartbeats 1000000 in
theorem law_FlNext (k : Int) (n : Bool) (m e : Int) (wm : (Lit.int .i64 m).wf = true) (we : (Lit.int .i64 e).wf = true) (w : World) :
    Calls Try.prog 6 #[flv k n m e] w fun r w' => r = .returned (.bool true) ∧ Below w.heap.size w w' := by
  have HS := hide (fun w => flnx_spec k n m e w)
  have HI := hide (fun w => flnx_impl k n m e w)
  obtain ⟨q, hq⟩ : ∃ q, q = fnx k n m e := ⟨_, rfl⟩
  rw [← hq] at HS HI
  clear hq wm we
  go_enter Try.func6, Try.ntmps6
  go_wp2_with (go_at_call 9; refine (toFl_any _ _ _ _ _).mono ?_; rintro r w1 ⟨rfl, rfl⟩)
  have F0 := (((FB.new w k n m e 23).alloc (flc k n m e 23)).alloc (flc k n m e 25)).alloc (flc k n m e 25)
  have K0 := ((((Kept.refl 0 0 w).alloc (flc k n m e 23)).alloc (flc k n m e 23)).alloc (flc k n m e 25)).alloc (flc k n m e 25)
  refine (unhide HS _).mono ?_
  rintro r w1 ⟨rfl, k1⟩
  replace F0 := F0.kept k1
  replace K0 := hide (K0.trans k1)
  clear k1 HS
  obtain ⟨q0, q1, q2, q3⟩ := q
  have lt0 := F0.lt
  have c0 := F0.c0
  have c1 := F0.c1
  have c2 := F0.c2
  have c3 := F0.c3
  clear F0
  go_wp2_with (go_at_call 9; refine (toFl_any _ _ _ _ _).mono ?_; rintro r w2 ⟨rfl, rfl⟩)
  clear c0 c1 c2 c3 lt0
  replace K0 := ((((unhide K0).alloc (flc q0 q1 q2 q3 25)).alloc (flc k n m e 23)).alloc (flc k n m e 25)).alloc (flc k n m e 25)
  have F1 := (((FB.new w1 q0 q1 q2 q3 25).alloc (flc k n m e 23)).alloc (flc k n m e 25)).alloc (flc k n m e 25)
  refine (unhide HI _).mono ?_
  rintro r w2 ⟨rfl, k2⟩
  replace K0 := hide (K0.trans k2)
  replace F1 := F1.kept k2
  clear k2 HI
  have lt0 := F1.lt
  have c0 := F1.c0
  have c1 := F1.c1
  have c2 := F1.c2
  have c3 := F1.c3
  clear F1
  go_wp2_with (go_at_call 15; refine (eqFl_same _ _ _ _ _).mono ?_; rintro r w1 ⟨rfl, rfl⟩)
  go_ret
  exact ⟨rfl, ((((unhide K0).alloc _).alloc _).alloc _).toBelow⟩

end Go.Proofs.Ytbmogiegeffecaa
