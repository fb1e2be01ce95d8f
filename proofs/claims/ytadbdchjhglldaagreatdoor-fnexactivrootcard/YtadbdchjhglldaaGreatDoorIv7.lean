/-
  Intervals of the program: IvOut.
-/
import Derived.Test.YtadbdchjhglldaaGreatDoorIv1D
import Derived.Test.YtadbdchjhglldaaGreatDoorIv2C
import Derived.Test.YtadbdchjhglldaaGreatDoorBS
import Derived.Deep.DeepCutAuto
import Derived.Deep.RegionHeld3
namespace Go.Proofs.YtadbdchjhglldaaGreatDoor
open Go.RowKit
set_option linter.unusedVariables false
set_option maxRecDepth 8000
set_option linter.unusedSimpArgs false

/-- May the ends be so fine? -/
def fineB (k : Int) : Bool := decide (-200 ≤ k) && decide (k ≤ 200)
theorem fine_mayR {low : Int} (h : fineB low = true) (mode : Int) (h0 : 0 ≤ mode) (h4 : mode ≤ 4) : mayR low mode = true := by
  unfold fineB at h
  simp only [Bool.and_eq_true, decide_eq_true_eq] at h
  unfold mayR modeB
  simp only [Bool.and_eq_true, decide_eq_true_eq]
  omega
theorem fine_iff {low : Int} (h : fineB low = true) : -200 ≤ low ∧ low ≤ 200 := by
  unfold fineB at h
  simpa only [Bool.and_eq_true, decide_eq_true_eq] using h

set_option maxHeartbeats 2000000 in
theorem l7low_spec (x : Int) (w : World) :
    Calls Tryz.prog 13 #[.int .i64 x] w fun e w' => e = .returned (.bool (fineB x)) ∧ w' = w := by
  have HB : Hid (fineB x = (decide (-200 ≤ x) && decide (x ≤ 200))) := rfl
  generalize fineB x = Q at *
  go_enter Tryz.func13, Tryz.ntmps13
  by_cases h1 : -200 ≤ x
  rotate_left
  · have hd : decide (-200 ≤ x) = false := decide_eq_false h1
    go_wp2_with fail
    go_ret
    exact ⟨by rw [unhide HB, hd]; rfl, rfl⟩
  have hd : decide (-200 ≤ x) = true := decide_eq_true h1
  go_wp2_with fail
  go_ret
  exact ⟨by rw [unhide HB, hd]; rfl, rfl⟩

set_option maxHeartbeats 2000000 in
theorem isFine_impl (x : Int) (w : World) :
    Calls Tryz.prog 18 #[.int .i64 x] w fun e w' => e = .returned (.bool (fineB x)) ∧ w' = w := by
  have HB : Hid (fineB x = (decide (-200 ≤ x) && decide (x ≤ 200))) := rfl
  generalize fineB x = Q at *
  go_enter Tryz.func18, Tryz.ntmps18
  by_cases h1 : -200 ≤ x
  rotate_left
  · have hd : decide (-200 ≤ x) = false := decide_eq_false h1
    go_wp2_with fail
    go_ret
    exact ⟨by rw [unhide HB, hd]; rfl, rfl⟩
  have hd : decide (-200 ≤ x) = true := decide_eq_true h1
  go_wp2_with fail
  go_ret
  exact ⟨by rw [unhide HB, hd]; rfl, rfl⟩

end Go.Proofs.YtadbdchjhglldaaGreatDoor

