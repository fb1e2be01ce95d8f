/-
  Contracts of the model's WholeOf, WholeCmp, WholeNeg, WholeAdd, WholeSub, WholeMul.
-/
import Derived.Test.YtdlpkppkmfjdiaaDoorWh2
namespace Go.Proofs.YtdlpkppkmfjdiaaDoor
open Go.RowKit
set_option linter.unusedVariables false
set_option maxRecDepth 8000
set_option linter.unusedSimpArgs false

/-- What is told: a whole number, if it is to be told and not too long. -/
def ansWB (c : Bool) (x : Int) : Bool := c && decide ((wlm x).length ≤ 100)
def ansWS (c : Bool) (x : Int) : Bool := ansWB c x && wsg x
def ansWL (c : Bool) (x : Int) : List Int := if ansWB c x = true then wlm x else []
theorem ansWB_no {c : Bool} {x : Int} (h : c = false) : ansWB c x = false := by unfold ansWB; rw [h]; rfl
theorem ansWS_no {c : Bool} {x : Int} (h : c = false) : ansWS c x = false := by unfold ansWS; rw [ansWB_no h]; rfl
theorem ansWL_no {c : Bool} {x : Int} (h : c = false) : ansWL c x = [] := by unfold ansWL; rw [ansWB_no h]; rfl
theorem ansWB_yes {c : Bool} {x : Int} (h : c = true) : ansWB c x = decide ((wlm x).length ≤ 100) := by unfold ansWB; rw [h]; rfl
theorem ansWL_len (c : Bool) (x : Int) : (ansWL c x).length ≤ 100 := by
  unfold ansWL ansWB
  split
  · rename_i h; simp at h; exact h.2
  · simp
/-- What a long whole number is told as: nought. -/
theorem ansW_told {c : Bool} {x : Int} (h : c = true) {lo hi : Nat} {w : World} {v : Value} (r : Row .i64 true lo hi w v (wlm x)) :
    ∃ v', (if (wlm x).length ≤ 100 then v else .slice none 0 0) = v' ∧ (decide ((wlm x).length ≤ 100) && wsg x) = ansWS c x ∧ decide ((wlm x).length ≤ 100) = ansWB c x ∧ Row .i64 true lo hi w v' (ansWL c x) := by
  by_cases hl : (wlm x).length ≤ 100
  · refine ⟨v, by rw [if_pos hl], by unfold ansWS; rw [ansWB_yes h], (ansWB_yes h).symm, ?_⟩
    unfold ansWL
    rw [ansWB_yes h, decide_eq_true hl, if_pos rfl]
    exact r
  · refine ⟨_, by rw [if_neg hl], by unfold ansWS; rw [ansWB_yes h], (ansWB_yes h).symm, ?_⟩
    unfold ansWL
    rw [ansWB_yes h, decide_eq_false hl, if_neg (by simp)]
    exact Row.nil _ _ _ _ _

/-- What WholeCmp tells. -/
def cmpW (s1 : Bool) (xs : List Int) (s2 : Bool) (ys : List Int) : Int := if wokB s1 xs = true ∧ wokB s2 ys = true then cmpI (wval s1 xs) (wval s2 ys) else 0
theorem cmpW_bad1 {s1 s2 : Bool} {xs ys : List Int} (h : wokB s1 xs = false) : cmpW s1 xs s2 ys = 0 := by unfold cmpW; rw [if_neg (fun e => by rw [h] at e; cases e.1)]
theorem cmpW_bad2 {s1 s2 : Bool} {xs ys : List Int} (h : wokB s2 ys = false) : cmpW s1 xs s2 ys = 0 := by unfold cmpW; rw [if_neg (fun e => by rw [h] at e; cases e.2)]
theorem cmpW_ok {s1 s2 : Bool} {xs ys : List Int} (h1 : wokB s1 xs = true) (h2 : wokB s2 ys = true) : cmpW s1 xs s2 ys = cmpI (wval s1 xs) (wval s2 ys) := by unfold cmpW; rw [if_pos ⟨h1, h2⟩]

/-- What WholeNeg tells. -/
def negW (b : Bool) (zs : List Int) : Int := if wokB b zs = true then - wval b zs else 0
theorem negW_len (b : Bool) (zs : List Int) : (wlm (negW b zs)).length ≤ 100 := by
  unfold negW
  split
  · rename_i h
    obtain ⟨-, h2, h3, h4⟩ := wok_int h
    rw [show wlm (- wval b zs) = wlm (wval b zs) from by unfold wlm; simp]
    unfold wlm
    rw [← h2]; exact h3
  · simp [wlm, limbs_zero]

set_option maxHeartbeats 1000000 in
theorem wOf_spec (n : Int) (hn1 : n ≤ 9223372036854775807) (hn0 : -9223372036854775808 ≤ n) (w : World) :
    Calls Tryd.prog 29 #[.int .i64 n] w fun e w' => ∃ v', e = .returned (.agg #[.bool (wsg n), v']) ∧ Row .i64 true w.heap.size w'.heap.size w' v' (wlm n) ∧ Kept 0 0 w w' := by
  obtain ⟨zz, hzz⟩ : ∃ zz, zz = wlm n := ⟨_, rfl⟩
  obtain ⟨ss, hss⟩ : ∃ ss, ss = wsg n := ⟨_, rfl⟩
  rw [← hzz, ← hss]
  have HZ := hide hzz
  have HS := hide hss
  clear hzz hss
  have k0 : Kept 0 0 w (w.alloc (.cells #[.bool false, .slice none 0 0] 42)) := ((Kept.refl 0 0 w).alloc (.cells #[.bool false, .slice none 0 0] 42))
  have q0 : (w.alloc (.cells #[.bool false, .slice none 0 0] 42)).cell? ⟨w.heap.size, 0, none⟩ = some (.bool false) := new_cell2 _ _ _ _ _ _ (by simp) rfl
  have qf0 : (w.alloc (.cells #[.bool false, .slice none 0 0] 42)).frozen? ⟨w.heap.size, 0, none⟩ = false := new_loose2 _ _ _ _ _ (by simp)
  have q1 : (w.alloc (.cells #[.bool false, .slice none 0 0] 42)).cell? ⟨w.heap.size, 1, none⟩ = some (.slice none 0 0) := new_cell2 _ _ _ _ _ _ (by simp) rfl
  have qf1 : (w.alloc (.cells #[.bool false, .slice none 0 0] 42)).frozen? ⟨w.heap.size, 1, none⟩ = false := new_loose2 _ _ _ _ _ (by simp)
  have s0 : (w.alloc (.cells #[.bool false, .slice none 0 0] 42)).heap.size = w.heap.size + 1 := by simp
  have K := hide (k0)
  clear k0
  have S0 := hide s0
  clear s0
  go_enter Tryd.func29, Tryd.ntmps29
  go_wp2_with fail
  generalize (w.alloc (.cells #[.bool false, .slice none 0 0] 42)) = W at *
  have mk := of3_spec n hn1 hn0 W
  rw [← unhide HZ, ← unhide HS] at mk
  refine (mk).mono ?_
  rintro e w1 ⟨v3, rfl, r3, k1⟩
  replace qf0 := k1.loose0 (World.block_lt_of_cell? _ _ q0) qf0
  replace qf1 := k1.loose0 (World.block_lt_of_cell? _ _ q1) qf1
  replace q0 := k1.cell0 q0
  replace q1 := k1.cell0 q1
  replace K := hide ((unhide K).trans k1)
  have z2 := k1.size
  clear k1
  clear mk
  obtain ⟨a3, c3, hv⟩ := Row.form' r3
  subst hv
  have bX : w.heap.size < w1.heap.size := World.block_lt_of_cell? _ _ q0
  have R := hide (((r3.set_other (p := ⟨w.heap.size, 0, none⟩) (.inl (by have := unhide S0; dsimp only; omega)) (.bool ss)).set_other (p := ⟨w.heap.size, 1, none⟩) (.inl (by have := unhide S0; dsimp only; omega)) (.slice a3 zz.length c3)).tight.wider (lo' := w.heap.size) (by have := unhide S0; omega) (Nat.le_refl _))
  have K7 := hide (((unhide K).setNew (p := ⟨w.heap.size, 0, none⟩) (by simp) (.bool ss)).setNew (p := ⟨w.heap.size, 1, none⟩) (by simp) (.slice a3 zz.length c3))
  clear r3 K
  go_wp2_with fail
  exact bodyPost_ret (v := .agg #[.bool ss, .slice a3 zz.length c3]) (by simp [results, Tryd.results29, go_sem, q0, q1]) rfl ⟨_, rfl, unhide R, unhide K7⟩

end Go.Proofs.YtdlpkppkmfjdiaaDoor
