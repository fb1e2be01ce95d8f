/-
  How many terms are enough: what ExpTerms of the program and of the model answer, whatever is asked.
-/
import Derived.Test.YtinbdhnkpdbdgaaFct6
namespace Go.Proofs.Ytinbdhnkpdbdgaa
open Go.RowKit
set_option linter.unusedVariables false
set_option maxRecDepth 8000

/-- What ExpTerms answers. -/
def etI (n : Int) : Int := if -400 ≤ n ∧ n ≤ 0 then (trm (-n).toNat : Int) else 0

set_option maxHeartbeats 4000000 in
theorem expterms_impl (n : Int) (w : World) :
    Calls Try.prog 11 #[.int .i64 n] w fun e w' => e = .returned (.int .i64 (etI n)) ∧ Kept 0 0 w w' := by
  by_cases h : -400 ≤ n ∧ n ≤ 0
  · obtain ⟨W, rfl⟩ : ∃ W : Nat, n = -(W : Int) := ⟨(-n).toNat, by omega⟩
    have e1 : etI (-(W : Int)) = (trm W : Int) := by unfold etI; rw [if_pos h, Int.neg_neg, Int.toNat_natCast]
    rw [e1]
    exact terms_impl W (by omega) w
  · have e1 : etI n = 0 := by unfold etI; rw [if_neg h]
    rw [e1]
    have K := hide ((Kept.refl 0 0 w).alloc (.cells #[.int .i64 n] 3))
    have c0 : (w.alloc (.cells #[.int .i64 n] 3)).cell? ⟨w.heap.size, 0, none⟩ = some (.int .i64 n) := new_cell_at _ _ _ _ rfl
    by_cases h0 : n < -400
    · clear h
      go_enter Try.func11, Try.ntmps11
      go_wp2
      go_ret
      exact ⟨rfl, unhide K⟩
    · have h2 : 0 < n := by omega
      clear h
      go_enter Try.func11, Try.ntmps11
      go_wp2
      go_ret
      exact ⟨rfl, unhide K⟩

set_option maxHeartbeats 4000000 in
theorem expterms_spec (n : Int) (w : World) :
    Calls Try.prog 10 #[.int .i64 n] w fun e w' => e = .returned (.int .i64 (etI n)) ∧ Kept 0 0 w w' := by
  by_cases h : -400 ≤ n ∧ n ≤ 0
  · obtain ⟨W, rfl⟩ : ∃ W : Nat, n = -(W : Int) := ⟨(-n).toNat, by omega⟩
    have e1 : etI (-(W : Int)) = (trm W : Int) := by unfold etI; rw [if_pos h, Int.neg_neg, Int.toNat_natCast]
    rw [e1]
    have h1 : ¬ 0 < (-(W : Int)) := by omega
    have h2 : ¬ (-(W : Int)) < -400 := by omega
    have ms := fun w => terms_spec W (by omega) w
    generalize trm W = R at *
    clear h e1
    go_enter Try.func10, Try.ntmps10
    go_wp2_with fail
    refine (ms _).mono ?_
    rintro e w1 ⟨rfl, k1⟩
    have K := hide k1
    clear k1
    go_wp2
    go_ret
    exact ⟨rfl, unhide K⟩
  · have e1 : etI n = 0 := by unfold etI; rw [if_neg h]
    rw [e1]
    by_cases h0 : n < -400
    · have h2 : ¬ 0 < n := by omega
      clear h
      go_enter Try.func10, Try.ntmps10
      go_wp2
      go_ret
      exact ⟨rfl, Kept.refl _ _ _⟩
    · have h2 : 0 < n := by omega
      clear h
      go_enter Try.func10, Try.ntmps10
      go_wp2
      go_ret
      exact ⟨rfl, Kept.refl _ _ _⟩

set_option maxHeartbeats 4000000 in
theorem law_ExpTerms (n : Int) (f0 : (Lit.int .i64 n).wf = true) (w : World) :
    Calls Try.prog 4 #[.int .i64 n] w fun e w' => e = .returned (.bool true) ∧ Below w.heap.size w w' := by
  have ms := fun w => expterms_spec n w
  have mi := fun w => expterms_impl n w
  generalize etI n = R at *
  go_enter Try.func4, Try.ntmps4
  go_wp2_with fail
  refine (ms _).mono ?_
  rintro e w1 ⟨rfl, k1⟩
  go_wp2_with fail
  refine (mi _).mono ?_
  rintro e w2 ⟨rfl, k2⟩
  have K := hide (k1.trans k2)
  clear k1 k2 ms mi
  go_wp2
  go_ret
  exact ⟨rfl, (unhide K).toBelow⟩

end Go.Proofs.Ytinbdhnkpdbdgaa
