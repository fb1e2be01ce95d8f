/-
  MatOk of the program and of the model: the size is 1 to 4, there are as many numbers as it asks, and each of them is one.
-/
import Derived.Test.YtgdgkncielliaaaDoorDys3
import Derived.Test.YtgdgkncielliaaaDoorDy1
namespace Go.Proofs.YtgdgkncielliaaaDoor
open Go.RowKit
set_option linter.unusedVariables false
set_option maxRecDepth 8000
set_option linter.unusedSimpArgs false

def dOkE (d : DE) : Bool := dokB d.1 d.2.1 d.2.2
/-- What MatOk answers. -/
def mokB (n : Int) (ds : List DE) : Bool := (decide (1 ≤ n) && decide (n ≤ 4)) && (decide ((ds.length : Int) = n * n) && ds.all dOkE)
/-- The powers of two are ints. -/
def WfD (ds : List DE) : Prop := ∀ i, i < ds.length → (ds.getD i de0).2.2 ≤ 9223372036854775807 ∧ -9223372036854775808 ≤ (ds.getD i de0).2.2
theorem wfD_of {ds : List DE} (h : ∀ d ∈ ds, (Lit.int .i64 d.2.2).wf = true) : WfD ds := by
  intro i hi
  have h1 := h (ds.getD i de0) (by simp [List.getD, hi])
  generalize (ds.getD i de0).2.2 = n at *
  have e : (Lit.int .i64 n).wf = (decide (IntKind.i64.min ≤ n) && decide (n ≤ IntKind.i64.max)) := rfl
  rw [e, show IntKind.i64.min = -9223372036854775808 by decide, show IntKind.i64.max = 9223372036854775807 by decide] at h1
  simp at h1
  omega
theorem all_split {ds : List DE} {f : DE → Bool} {j : Nat} (hj : j < ds.length) (h : ∀ i, i < j → f (ds.getD i de0) = true) (hf : f (ds.getD j de0) = false) : ds.all f = false := by
  rw [← Bool.not_eq_true, List.all_eq_true]
  intro h2
  have := h2 (ds.getD j de0) (by simp [List.getD, hj])
  rw [this] at hf; cases hf
theorem all_done {ds : List DE} {f : DE → Bool} (h : ∀ i, i < ds.length → f (ds.getD i de0) = true) : ds.all f = true := by
  rw [List.all_eq_true]
  intro d hd
  obtain ⟨i, hi, rfl⟩ := List.mem_iff_getElem.1 hd
  have := h i hi
  simpa [List.getD, hi] using this

theorem isSide_impl (n : Int) (w : World) : Calls Tryd.prog 23 #[.int .i64 n] w fun e w' => e = .returned (.bool (decide (1 ≤ n) && decide (n ≤ 4))) ∧ w' = w := by
  by_cases h1 : 1 ≤ n
  · by_cases h2 : n ≤ 4
    · go_enter Tryd.func23, Tryd.ntmps23
      go_wp2
      go_ret
      exact ⟨by simp [h1, h2], rfl⟩
    · go_enter Tryd.func23, Tryd.ntmps23
      go_wp2
      go_ret
      exact ⟨by simp [h1, h2], rfl⟩
  · go_enter Tryd.func23, Tryd.ntmps23
    go_wp2
    go_ret
    exact ⟨by rw [decide_eq_false (show ¬ 1 ≤ n by omega)]; rfl, rfl⟩

theorem mok_no1 {n : Int} {ds : List DE} (h : (decide (1 ≤ n) && decide (n ≤ 4)) = false) : mokB n ds = false := by unfold mokB; rw [h]; rfl
theorem mok_no2 {n : Int} {ds : List DE} (h : ¬ (ds.length : Int) = n * n) : mokB n ds = false := by unfold mokB; rw [decide_eq_false h]; simp
theorem mok_yes {n : Int} {ds : List DE} (h : (decide (1 ≤ n) && decide (n ≤ 4)) = true) (h2 : (ds.length : Int) = n * n) : mokB n ds = ds.all dOkE := by unfold mokB; rw [h, decide_eq_true h2]; simp
theorem mok_partsA {n : Int} {ds : List DE} (h : mokB n ds = true) : 1 ≤ n ∧ n ≤ 4 ∧ (ds.length : Int) = n * n ∧ ∀ i, i < ds.length → dokB (ds.getD i de0).1 (ds.getD i de0).2.1 (ds.getD i de0).2.2 = true := by
  unfold mokB at h
  simp only [Bool.and_eq_true, decide_eq_true_eq] at h
  obtain ⟨⟨h1, h2⟩, h3, h4⟩ := h
  refine ⟨h1, h2, h3, fun i hi => ?_⟩
  rw [List.all_eq_true] at h4
  exact h4 (ds.getD i de0) (by simp [List.getD, hi])

end Go.Proofs.YtgdgkncielliaaaDoor
