/-
  The walk of the law FnExactFlPack: it returns true at every float that is handed over.
-/
import Derived.Test.YtbmogiegeffecaaFl3
namespace Go.Proofs.Ytbmogiegeffecaa
open Go.RowKit
set_option linter.unusedVariables false

set_option maxHeartbeats 1000000 in
theorem law_FlPack (k : Int) (n : Bool) (m e : Int) (wm : (Lit.int .i64 m).wf = true) (we : (Lit.int .i64 e).wf = true) (w : World) :
    Calls Try.prog 4 #[flv k n m e] w fun r w' => r = .returned (.bool true) ∧ Below w.heap.size w w' := by
  have HS := hide (fun w => flpack_spec k n m e w)
  have HI := hide (fun w => flpack_impl k n m e w)
  generalize fpk k n m e = q at HS HI
  generalize flok k n m e = o at HS HI
  obtain ⟨q0, q1⟩ := q
  clear wm we
  go_enter Try.func4, Try.ntmps4
  go_wp2_with (go_at_call 9; refine (toFl_any _ _ _ _ _).mono ?_; rintro r w1 ⟨rfl, rfl⟩)
  have F0 := (((FB.new w k n m e 23).alloc (flc k n m e 23)).alloc (flc k n m e 25)).alloc (flc k n m e 25)
  have K0 := ((((Kept.refl 0 0 w).alloc (flc k n m e 23)).alloc (flc k n m e 23)).alloc (flc k n m e 25)).alloc (flc k n m e 25)
  refine (unhide HS _).mono ?_
  rintro r w1 ⟨rfl, k1⟩
  replace F0 := F0.kept k1
  replace K0 := hide (K0.trans k1)
  clear k1 HS
  have lt0 := F0.lt
  have c0 := F0.c0
  have c1 := F0.c1
  have c2 := F0.c2
  have c3 := F0.c3
  clear F0
  go_wp2_with (go_at_call 9; refine (toFl_any _ _ _ _ _).mono ?_; rintro r w2 ⟨rfl, rfl⟩)
  clear c0 c1 c2 c3 lt0
  replace K0 := (((unhide K0).alloc (flc k n m e 23)).alloc (flc k n m e 25)).alloc (flc k n m e 25)
  refine (unhide HI _).mono ?_
  rintro r w2 ⟨rfl, k2⟩
  replace K0 := hide (K0.trans k2)
  clear k2 HI
  go_wp2
  all_goals (try (go_ret; exact ⟨rfl, (unhide K0).toBelow⟩))

end Go.Proofs.Ytbmogiegeffecaa
