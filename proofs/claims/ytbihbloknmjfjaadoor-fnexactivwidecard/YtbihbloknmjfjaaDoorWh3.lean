/-
  Contracts of the model's WholeOf, WholeCmp, WholeNeg, WholeAdd, WholeSub, WholeMul.
-/
import Derived.Test.YtbihbloknmjfjaaDoorWh2
namespace Go.Proofs.YtbihbloknmjfjaaDoor
open Go.RowKit
set_option linter.unusedVariables false
set_option maxRecDepth 8000
set_option linter.unusedSimpArgs false

/-- What is told: a whole number, if it is to be told and not too long. -/
def ansWB (c : Bool) (x : Int) : Bool := c && decide ((wlm x).length ≤ 100)
def ansWS (c : Bool) (x : Int) : Bool := ansWB c x && wsg x
def ansWL (c : Bool) (x : Int) : List Int := if ansWB c x = true then wlm x else []
theorem ansWB_no {c : Bool} {x : Int} (h : c = false) : ansWB c x = false := by unfold ansWB; rw [h]; rfl
theorem ansWS_no {c : Bool} {x : Int} (h : c = false) : ansWS c x = false := by unfold ansWS; rw [ansWB_no h]; rfl
theorem ansWL_no {c : Bool} {x : Int} (h : c = false) : ansWL c x = [] := by unfold ansWL; rw [ansWB_no h]; rfl
theorem ansWB_yes {c : Bool} {x : Int} (h : c = true) : ansWB c x = decide ((wlm x).length ≤ 100) := by unfold ansWB; rw [h]; rfl
theorem ansWL_len (c : Bool) (x : Int) : (ansWL c x).length ≤ 100 := by
  unfold ansWL ansWB
  split
  · rename_i h; simp at h; exact h.2
  · simp
/-- What a long whole number is told as: nought. -/
theorem ansW_told {c : Bool} {x : Int} (h : c = true) {lo hi : Nat} {w : World} {v : Value} (r : Row .i64 true lo hi w v (wlm x)) :
    ∃ v', (if (wlm x).length ≤ 100 then v else .slice none 0 0) = v' ∧ (decide ((wlm x).length ≤ 100) && wsg x) = ansWS c x ∧ decide ((wlm x).length ≤ 100) = ansWB c x ∧ Row .i64 true lo hi w v' (ansWL c x) := by
  by_cases hl : (wlm x).length ≤ 100
  · refine ⟨v, by rw [if_pos hl], by unfold ansWS; rw [ansWB_yes h], (ansWB_yes h).symm, ?_⟩
    unfold ansWL
    rw [ansWB_yes h, decide_eq_true hl, if_pos rfl]
    exact r
  · refine ⟨_, by rw [if_neg hl], by unfold ansWS; rw [ansWB_yes h], (ansWB_yes h).symm, ?_⟩
    unfold ansWL
    rw [ansWB_yes h, decide_eq_false hl, if_neg (by simp)]
    exact Row.nil _ _ _ _ _

/-- What WholeCmp tells. -/
def cmpW (s1 : Bool) (xs : List Int) (s2 : Bool) (ys : List Int) : Int := if wokB s1 xs = true ∧ wokB s2 ys = true then cmpI (wval s1 xs) (wval s2 ys) else 0
theorem cmpW_bad1 {s1 s2 : Bool} {xs ys : List Int} (h : wokB s1 xs = false) : cmpW s1 xs s2 ys = 0 := by unfold cmpW; rw [if_neg (fun e => by rw [h] at e; cases e.1)]
theorem cmpW_bad2 {s1 s2 : Bool} {xs ys : List Int} (h : wokB s2 ys = false) : cmpW s1 xs s2 ys = 0 := by unfold cmpW; rw [if_neg (fun e => by rw [h] at e; cases e.2)]
theorem cmpW_ok {s1 s2 : Bool} {xs ys : List Int} (h1 : wokB s1 xs = true) (h2 : wokB s2 ys = true) : cmpW s1 xs s2 ys = cmpI (wval s1 xs) (wval s2 ys) := by unfold cmpW; rw [if_pos ⟨h1, h2⟩]

/-- What WholeNeg tells. -/
def negW (b : Bool) (zs : List Int) : Int := if wokB b zs = true then - wval b zs else 0
theorem negW_len (b : Bool) (zs : List Int) : (wlm (negW b zs)).length ≤ 100 := by
  unfold negW
  split
  · rename_i h
    obtain ⟨-, h2, h3, h4⟩ := wok_int h
    rw [show wlm (- wval b zs) = wlm (wval b zs) from by unfold wlm; simp]
    unfold wlm
    rw [← h2]; exact h3
  · simp [wlm, limbs_zero]

end Go.Proofs.YtbihbloknmjfjaaDoor
