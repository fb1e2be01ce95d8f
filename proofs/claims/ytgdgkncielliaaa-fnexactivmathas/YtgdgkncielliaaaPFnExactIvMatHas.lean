/-
  The law FnExactIvMatHas returns true at every argument; no condition.
-/
import Derived.Test.YtgdgkncielliaaaXIvMatHas
import Derived.Test.YtgdgkncielliaaaOpenIM
import Derived.Test.YtgdgkncielliaaaOpenM
import Derived.Test.YtgdgkncielliaaaBD
import Derived.ProofKit
import Derived.OpenShut
import Derived.ShutString
import Derived.ChangeOld
import Derived.Below
namespace Go.Proofs.Ytgdgkncielliaaa.lawFnExactIvMatHas
open Go.ChangeShapes Go.WideShapes Go.ChangeAt Go.RowKit

theorem own : ownKnob Try.prog.godebug = none := by kernel_rfl
theorem laidOut : laidOutB Try.prog = true := by kernel_rfl

set_option maxRecDepth 100000 in
set_option maxHeartbeats 4000000 in
theorem lifted (os : Os) (started : os.Started) (H : Type) (enc : TypeId × Value → H) :
    ReturnsInHanded {} Try.checked os 3 .any (Rows.fnExactIvMatHasSpec.pre6 enc Try.prog Try.f3 Rows.fnExactIvMatHasRow.domain false) (Rows.fnExactIvMatHasSpec.post enc Try.prog Try.f3 false true false false) := by
  refine returnsInHanded_of_change (C := Try.checked) own started (by kernel_rfl) Try.func3
    (ChangeSpec.witness6 (enc := enc) (C := Try.checked) false ⟨#[], #[.agg #[.int .i64 0, .slice none 0 0], .agg #[.int .i64 0, .slice none 0 0]], []⟩ 8 (by kernel_rfl) (by kernel_rfl) (by kernel_rfl) (by kernel_rfl)) ?_
  intro W base args ds gs before hval0 hW _ _
  have hval : ∀ (j : Nat) t v, Try.f3.params[j]? = some t → args[j]? = some v → Value.okWide Try.prog W .any base t v := hval0
  have hW' := hW
  obtain ⟨p, q, hA0, hV, rfl, hfz, hnd⟩ := hW
  have hA : DataW.TrodAll enc Try.prog W 0 (fun _ => true) true Try.f3.params.toList args.toList ds p := hA0
  rw [Try.params3] at hA hval
  obtain ⟨v0, vs0, d0, ds0, p0, q0, hargs, rfl, rfl, h0, r0⟩ := trodAll_cons hA
  obtain ⟨v1, vs1, d1, ds1, p1, q1, rfl, rfl, rfl, h1, r1⟩ := trodAll_cons r0
  obtain ⟨rfl, rfl, rfl⟩ := trodAll_nil r1
  obtain rfl : args = #[v0, v1] := by cases args; simp_all
  obtain ⟨rfl, rfl⟩ := trodVars_none hV
  have lt0 : ∀ x ∈ p0, x.block < W.heap.size := by obtain ⟨m, hm⟩ := h0; exact DataW.trod_lt m _ _ _ hm
  obtain ⟨n0, u0, z0, l0, rfl, wn0, w0, bd0⟩ := open_ivmat Try.underlying24 rfl rfl (by kernel_rfl) Try.underlying3 (by kernel_rfl) Try.underlying22 (by kernel_rfl) Try.underlying69 rfl rfl (by kernel_rfl) rfl Try.underlying67 rfl rfl (by kernel_rfl) Try.underlying65 (by kernel_rfl) rfl rfl Try.underlying4 (by kernel_rfl) Try.underlying63 (by kernel_rfl) rfl (by kernel_rfl) Try.underlying47 Try.underlying3 (by kernel_rfl) Try.underlying3 (by kernel_rfl) (hval 0 24 v0 rfl rfl) h0
  have lt1 : ∀ x ∈ p1, x.block < W.heap.size := by obtain ⟨m, hm⟩ := h1; exact DataW.trod_lt m _ _ _ hm
  obtain ⟨n1, u1, z1, rfl, wn1, w1, bd1⟩ := open_mat Try.underlying27 rfl rfl (by kernel_rfl) Try.underlying3 (by kernel_rfl) Try.underlying25 (by kernel_rfl) Try.underlying67 rfl rfl (by kernel_rfl) Try.underlying65 (by kernel_rfl) rfl rfl Try.underlying4 (by kernel_rfl) Try.underlying63 (by kernel_rfl) rfl (by kernel_rfl) Try.underlying47 Try.underlying3 (by kernel_rfl) Try.underlying3 (by kernel_rfl) (hval 1 27 v1 rfl rfl) h1
  clear hA0 hval0
  refine (law_IvMatHas n0 w0 (wfD_of bd0) wn0 n1 w1 (wfD_of bd1) wn1).mono fun e W' ⟨he, bel⟩ => ?_
  subst he
  exact ⟨_, rfl, _, _, _, [], _, [], hW', trodAll_mk1 (shut_bool Try.underlying4 _), (trodAll_cons_mk (Below.trod laidOut (by kernel_rfl) (of_decide_eq_true (by kernel_rfl)) h0 bel lt0) (trodAll_cons_mk (Below.trod laidOut (by kernel_rfl) (of_decide_eq_true (by kernel_rfl)) h1 bel lt1) trodAll_mk0)), rfl, bel.frame _, fun h => by cases h⟩

set_option maxHeartbeats 4000000 in
theorem closed : joinedFacts Try.prog 3 Try.f3 Rows.fnExactIvMatHasSpec Rows.fnExactIvMatHasRow = true := by
  simp only [joinedFacts, Bool.and_eq_true]
  repeat' apply And.intro
  all_goals first
    | with_reducible exact enter_ok
    | (rw [make_ok]; kernel_rfl)
    | (rw [lifts_ok]; kernel_rfl)
    | (as_aux_lemma => kernel_rfl)

theorem proved : Rows.FnExactIvMatHasSaid :=
  OpenClaim.holds_of_wide 3 Try.f3 rfl rfl rfl rfl rfl rfl rfl ⟨rfl, rfl, rfl, rfl, rfl⟩ rfl rfl rfl rfl rfl (by kernel_rfl) Try.func3 closed
    (of_decide_eq_true (by kernel_rfl)) (by unfold Func.isWrapper; first | (rw [if_pos (by decide +kernel)]; kernel_rfl) | (rw [if_neg (by decide +kernel)]; exact ⟨rfl, rfl⟩))
    (fun os started H enc _ => lifted os started H enc)
#print axioms proved
end Go.Proofs.Ytgdgkncielliaaa.lawFnExactIvMatHas
