/-
  FlCmp, the model's.
-/
import Derived.Test.YtdlpkppkmfjdiaaFl9
import Derived.Test.YtdlpkppkmfjdiaaFlNum
import Derived.Deep.RegionHeld3
namespace Go.Proofs.Ytdlpkppkmfjdiaa
open Go.RowKit
set_option linter.unusedVariables false
set_option maxRecDepth 8000
set_option linter.unusedSimpArgs false

/-- The number before the power of two. -/
def fM (k : Int) (n : Bool) (m : Int) : Int := if k = 1 then (if n = true then -m else m) else 0
def rank (k : Int) (n : Bool) : Int := if k = 2 then (if n = true then -2 else 2) else 0
theorem limbs_wval (n : Bool) {m : Int} (h : 1 ≤ m) : wval n (limbs m.toNat) = fM 1 n m := by
  unfold wval fM
  rw [limbs_val, if_pos rfl]
  split <;> omega

theorem in_l4make : ∀ (w : World) (args : Array Value), (callFunc 109 args).run Try.prog w = .ok (.enter 109 args) w := enters Try.func109 (by decide) (fun h => by cases h)

theorem in_l5rank : ∀ (w : World) (args : Array Value), (callFunc 84 args).run Try.prog w = .ok (.enter 84 args) w := enters Try.func84 (by decide) (fun h => by cases h)

theorem in_l5dy : ∀ (w : World) (args : Array Value), (callFunc 86 args).run Try.prog w = .ok (.enter 86 args) w := enters Try.func86 (by decide) (fun h => by cases h)

theorem in_l4cmp : ∀ (w : World) (args : Array Value), (callFunc 85 args).run Try.prog w = .ok (.enter 85 args) w := enters Try.func85 (by decide) (fun h => by cases h)

set_option maxHeartbeats 4000000 in
theorem dy5_num (n : Bool) (m e : Int) (h1 : -1074 ≤ e) (h2 : e ≤ 971) (h3 : 1 ≤ m) (h4 : m ≤ 9007199254740991) (w : World) :
    Calls Try.prog 86 #[flv 1 n m e] w fun e' w' => ∃ v', e' = .returned (.agg #[.bool (wsg (fM 1 n m)), v', .int .i64 (dex (fM 1 n m) e)]) ∧ Row .i64 true w.heap.size w'.heap.size w' v' (dlm (fM 1 n m)) ∧ Kept 0 0 w w' := by
  obtain ⟨L, hL⟩ : ∃ L, limbs m.toNat = L := ⟨_, rfl⟩
  have hLn : Nrm L := by rw [← hL]; exact limbs_nrm _
  have hLv : val L = m := by rw [← hL, limbs_val]; omega
  have hLl : L.length ≤ 4 := by
    rw [← hL]
    refine (limbs_length_le _ _).2 ?_
    have e4 : (65536 : Int) ^ 4 = 18446744073709551616 := by decide
    omega
  have hL0 : 0 < L.length := by
    have h0 := limbs_pos m.toNat
    rw [hL, decide_eq_true (show 0 < m.toNat by omega)] at h0
    exact of_decide_eq_true h0
  have mk1 := fun w => of_spec w m (by omega)
  rw [hL] at mk1
  have mk2 : ∀ w' v' lo', Row .i64 true lo' w'.heap.size w' v' L → Calls Try.prog 103 #[.bool n, .agg #[v']] w' fun e w'' => ∃ v'', e = .returned (.agg #[.bool n, v'']) ∧ Row .i64 true w'.heap.size w''.heap.size w'' v'' L ∧ Kept 0 0 w' w'' := fun w' v' lo' r' => by
    have := make_spec n w' r' hLn.1 (by omega)
    rw [decide_eq_true hL0, Bool.and_true, hLv, hL] at this
    exact this
  have mk3 := fun w' v' lo' (r' : Row .i64 true lo' w'.heap.size w' v' L) => make4_spec n e (fM 1 n m) (by rw [← hL]; exact limbs_wval n h3) (by omega) (by omega) w' r' ⟨hLn, fun _ => hL0⟩ (by omega)
  obtain ⟨SG, hSG⟩ : ∃ y, wsg (fM 1 n m) = y := ⟨_, rfl⟩
  obtain ⟨ZM, hZM⟩ : ∃ y, dlm (fM 1 n m) = y := ⟨_, rfl⟩
  obtain ⟨EX, hEX⟩ : ∃ y, dex (fM 1 n m) e = y := ⟨_, rfl⟩
  simp only [hSG, hZM, hEX] at mk3 ⊢
  replace mk1 := hide mk1
  replace mk2 := hide mk2
  replace mk3 := hide mk3
  clear hSG hZM hEX hLn hLv hLl hL0 hL
  have k0 : Kept 0 0 w ((w.alloc (.cells #[.int .i64 1, .bool n, .int .i64 m, .int .i64 e] 67)).alloc (.cells #[.bool false, .slice none 0 0, .int .i64 0] 105)) := (((Kept.refl 0 0 w).alloc (.cells #[.int .i64 1, .bool n, .int .i64 m, .int .i64 e] 67)).alloc (.cells #[.bool false, .slice none 0 0, .int .i64 0] 105))
  have p0 : ((w.alloc (.cells #[.int .i64 1, .bool n, .int .i64 m, .int .i64 e] 67)).alloc (.cells #[.bool false, .slice none 0 0, .int .i64 0] 105)).cell? ⟨w.heap.size, 0, none⟩ = some (.int .i64 1) := old_cell _ (new_cell2 _ _ _ _ _ _ (by simp) rfl)
  have p1 : ((w.alloc (.cells #[.int .i64 1, .bool n, .int .i64 m, .int .i64 e] 67)).alloc (.cells #[.bool false, .slice none 0 0, .int .i64 0] 105)).cell? ⟨w.heap.size, 1, none⟩ = some (.bool n) := old_cell _ (new_cell2 _ _ _ _ _ _ (by simp) rfl)
  have p2 : ((w.alloc (.cells #[.int .i64 1, .bool n, .int .i64 m, .int .i64 e] 67)).alloc (.cells #[.bool false, .slice none 0 0, .int .i64 0] 105)).cell? ⟨w.heap.size, 2, none⟩ = some (.int .i64 m) := old_cell _ (new_cell2 _ _ _ _ _ _ (by simp) rfl)
  have p3 : ((w.alloc (.cells #[.int .i64 1, .bool n, .int .i64 m, .int .i64 e] 67)).alloc (.cells #[.bool false, .slice none 0 0, .int .i64 0] 105)).cell? ⟨w.heap.size, 3, none⟩ = some (.int .i64 e) := old_cell _ (new_cell2 _ _ _ _ _ _ (by simp) rfl)
  have q0 : ((w.alloc (.cells #[.int .i64 1, .bool n, .int .i64 m, .int .i64 e] 67)).alloc (.cells #[.bool false, .slice none 0 0, .int .i64 0] 105)).cell? ⟨w.heap.size + 1, 0, none⟩ = some (.bool false) := new_cell2 _ _ _ _ _ _ (by simp) rfl
  have qf0 : ((w.alloc (.cells #[.int .i64 1, .bool n, .int .i64 m, .int .i64 e] 67)).alloc (.cells #[.bool false, .slice none 0 0, .int .i64 0] 105)).frozen? ⟨w.heap.size + 1, 0, none⟩ = false := new_loose2 _ _ _ _ _ (by simp)
  have q1 : ((w.alloc (.cells #[.int .i64 1, .bool n, .int .i64 m, .int .i64 e] 67)).alloc (.cells #[.bool false, .slice none 0 0, .int .i64 0] 105)).cell? ⟨w.heap.size + 1, 1, none⟩ = some (.slice none 0 0) := new_cell2 _ _ _ _ _ _ (by simp) rfl
  have qf1 : ((w.alloc (.cells #[.int .i64 1, .bool n, .int .i64 m, .int .i64 e] 67)).alloc (.cells #[.bool false, .slice none 0 0, .int .i64 0] 105)).frozen? ⟨w.heap.size + 1, 1, none⟩ = false := new_loose2 _ _ _ _ _ (by simp)
  have q2 : ((w.alloc (.cells #[.int .i64 1, .bool n, .int .i64 m, .int .i64 e] 67)).alloc (.cells #[.bool false, .slice none 0 0, .int .i64 0] 105)).cell? ⟨w.heap.size + 1, 2, none⟩ = some (.int .i64 0) := new_cell2 _ _ _ _ _ _ (by simp) rfl
  have qf2 : ((w.alloc (.cells #[.int .i64 1, .bool n, .int .i64 m, .int .i64 e] 67)).alloc (.cells #[.bool false, .slice none 0 0, .int .i64 0] 105)).frozen? ⟨w.heap.size + 1, 2, none⟩ = false := new_loose2 _ _ _ _ _ (by simp)
  have s0 : ((w.alloc (.cells #[.int .i64 1, .bool n, .int .i64 m, .int .i64 e] 67)).alloc (.cells #[.bool false, .slice none 0 0, .int .i64 0] 105)).heap.size = w.heap.size + 2 := by simp
  have K := hide (k0)
  clear k0
  have S0 := hide s0
  clear s0
  go_enter Try.func86, Try.ntmps86
  go_wp2_with fail
  generalize ((w.alloc (.cells #[.int .i64 1, .bool n, .int .i64 m, .int .i64 e] 67)).alloc (.cells #[.bool false, .slice none 0 0, .int .i64 0] 105)) = W at *
  have n_qf0 := qf0
  have n_q0 := q0
  have n_qf1 := qf1
  have n_q1 := q1
  have n_qf2 := qf2
  have n_q2 := q2
  have kd := (Kept.refl 0 0 W).drew
  replace qf0 := kd.loose0 (World.block_lt_of_cell? _ _ q0) qf0
  replace qf1 := kd.loose0 (World.block_lt_of_cell? _ _ q1) qf1
  replace qf2 := kd.loose0 (World.block_lt_of_cell? _ _ q2) qf2
  replace p0 := kd.cell0 p0
  replace p1 := kd.cell0 p1
  replace p2 := kd.cell0 p2
  replace p3 := kd.cell0 p3
  replace q0 := kd.cell0 q0
  replace q1 := kd.cell0 q1
  replace q2 := kd.cell0 q2
  replace K := hide ((unhide K).trans kd)
  have z1 := kd.size
  clear kd
  refine wp_region_held_drew (S := (fun w' => w'.cell? ⟨w.heap.size, 0, none⟩ = some (.int .i64 1) ∧ w'.cell? ⟨w.heap.size, 1, none⟩ = some (.bool n) ∧ w'.cell? ⟨w.heap.size, 2, none⟩ = some (.int .i64 m) ∧ w'.cell? ⟨w.heap.size, 3, none⟩ = some (.int .i64 e))) (by kernel_rfl) ?_ (fun hHeld => ?_)
  · exact ⟨p0, p1, p2, p3⟩
  refine wpAnyH_take (i := 0) (oi := _) (v := .pointer (some ⟨w.heap.size, 1, none⟩)) rfl (by kernel_rfl) (by kernel_rfl) (by kernel_rfl) (fun _ _ _ h => h) (Or.inl ⟨by rfl, ?_⟩) hHeld ?_
  · intro wq hSw
    try dsimp only at hSw
    go_simp
  try simp only [Act.put, List.getElem_toArray, List.getElem_cons_succ, List.getElem_cons_zero, List.setIfInBounds_toArray, List.set_cons_zero, List.set_cons_succ]
  refine wpAnyH_take (i := 1) (oi := _) (v := .bool n) rfl (by kernel_rfl) (by kernel_rfl) (by kernel_rfl) (fun _ _ _ h => h) (Or.inl ⟨by rfl, ?_⟩) hHeld ?_
  · intro wq hSw
    try dsimp only at hSw
    go_simp
  try simp only [Act.put, List.getElem_toArray, List.getElem_cons_succ, List.getElem_cons_zero, List.setIfInBounds_toArray, List.set_cons_zero, List.set_cons_succ]
  refine wpAnyH_take (i := 2) (oi := _) (v := .pointer (some ⟨w.heap.size, 2, none⟩)) rfl (by kernel_rfl) (by kernel_rfl) (by kernel_rfl) (fun _ _ _ h => h) (Or.inl ⟨by rfl, ?_⟩) hHeld ?_
  · intro wq hSw
    try dsimp only at hSw
    go_simp
  try simp only [Act.put, List.getElem_toArray, List.getElem_cons_succ, List.getElem_cons_zero, List.setIfInBounds_toArray, List.set_cons_zero, List.set_cons_succ]
  refine wpAnyH_take (i := 3) (oi := _) (v := .int .i64 m) rfl (by kernel_rfl) (by kernel_rfl) (by kernel_rfl) (fun _ _ _ h => h) (Or.inl ⟨by rfl, ?_⟩) hHeld ?_
  · intro wq hSw
    try dsimp only at hSw
    go_simp
  try simp only [Act.put, List.getElem_toArray, List.getElem_cons_succ, List.getElem_cons_zero, List.setIfInBounds_toArray, List.set_cons_zero, List.set_cons_succ]
  refine wpAnyH_take (i := 6) (oi := _) (v := .pointer (some ⟨w.heap.size, 3, none⟩)) rfl (by kernel_rfl) (by kernel_rfl) (by kernel_rfl) (fun _ _ _ h => h) (Or.inl ⟨by rfl, ?_⟩) hHeld ?_
  · intro wq hSw
    try dsimp only at hSw
    go_simp
  try simp only [Act.put, List.getElem_toArray, List.getElem_cons_succ, List.getElem_cons_zero, List.setIfInBounds_toArray, List.set_cons_zero, List.set_cons_succ]
  refine wpAnyH_take (i := 7) (oi := _) (v := .int .i64 e) rfl (by kernel_rfl) (by kernel_rfl) (by kernel_rfl) (fun _ _ _ h => h) (Or.inl ⟨by rfl, ?_⟩) hHeld ?_
  · intro wq hSw
    try dsimp only at hSw
    go_simp
  try simp only [Act.put, List.getElem_toArray, List.getElem_cons_succ, List.getElem_cons_zero, List.setIfInBounds_toArray, List.set_cons_zero, List.set_cons_succ]
  refine wpAnyH_ready (rs := [4]) (by kernel_rfl) (by simp) ?_
  refine AllReadyH.cons rfl (fun KK hK => ?_) AllReadyH.nil
  simp only [List.getElem_toArray, List.getElem_cons_succ, List.getElem_cons_zero]
  rw [if_pos (by rfl)]
  refine wps1 60 (.tmp 10) _ rfl in_l2of (.int .i64 m) rfl (unhide mk1 _) ?_
  rintro e w2 ⟨v5, rfl, r5, k2⟩
  refine ⟨_, rfl, ?_⟩
  replace qf0 := k2.loose0 (World.block_lt_of_cell? _ _ q0) qf0
  replace qf1 := k2.loose0 (World.block_lt_of_cell? _ _ q1) qf1
  replace qf2 := k2.loose0 (World.block_lt_of_cell? _ _ q2) qf2
  replace p0 := k2.cell0 p0
  replace p1 := k2.cell0 p1
  replace p2 := k2.cell0 p2
  replace p3 := k2.cell0 p3
  replace q0 := k2.cell0 q0
  replace q1 := k2.cell0 q1
  replace q2 := k2.cell0 q2
  replace K := hide ((unhide K).trans k2)
  have z3 := k2.size
  clear k2
  clear hHeld
  refine hK.out _ _ ?_ (fun hHeld => ?_)
  · exact ⟨p0, p1, p2, p3⟩
  clear hK KK
  try simp only [Act.put, List.getElem_toArray, List.getElem_cons_succ, List.getElem_cons_zero, List.setIfInBounds_toArray, List.set_cons_zero, List.set_cons_succ]
  refine wpAnyH_ready (rs := [5]) (by kernel_rfl) (by simp) ?_
  refine AllReadyH.cons rfl (fun KK hK => ?_) AllReadyH.nil
  simp only [List.getElem_toArray, List.getElem_cons_succ, List.getElem_cons_zero]
  rw [if_pos (by rfl)]
  refine wps2 103 (.tmp 8) (.tmp 11) _ rfl in_l3make (.bool n) (.agg #[v5]) rfl rfl (unhide mk2 _ _ _ r5) ?_
  rintro e w4 ⟨v6, rfl, r6, k4⟩
  refine ⟨_, rfl, ?_⟩
  replace r5 := r5.kept k4 (by omega)
  replace qf0 := k4.loose0 (World.block_lt_of_cell? _ _ q0) qf0
  replace qf1 := k4.loose0 (World.block_lt_of_cell? _ _ q1) qf1
  replace qf2 := k4.loose0 (World.block_lt_of_cell? _ _ q2) qf2
  replace p0 := k4.cell0 p0
  replace p1 := k4.cell0 p1
  replace p2 := k4.cell0 p2
  replace p3 := k4.cell0 p3
  replace q0 := k4.cell0 q0
  replace q1 := k4.cell0 q1
  replace q2 := k4.cell0 q2
  replace K := hide ((unhide K).trans k4)
  have z5 := k4.size
  clear k4
  clear hHeld
  refine hK.out _ _ ?_ (fun hHeld => ?_)
  · exact ⟨p0, p1, p2, p3⟩
  clear hK KK
  try simp only [Act.put, List.getElem_toArray, List.getElem_cons_succ, List.getElem_cons_zero, List.setIfInBounds_toArray, List.set_cons_zero, List.set_cons_succ]
  refine wpAnyH_ready (rs := [8]) (by kernel_rfl) (by simp) ?_
  refine AllReadyH.cons rfl (fun KK hK => ?_) AllReadyH.nil
  simp only [List.getElem_toArray, List.getElem_cons_succ, List.getElem_cons_zero]
  rw [if_pos (by rfl)]
  refine wps2 109 (.tmp 12) (.tmp 14) _ rfl in_l4make (.agg #[.bool n, v6]) (.int .i64 e) rfl rfl (unhide mk3 _ _ _ r6) ?_
  rintro e w6 ⟨v7, rfl, r7, k6⟩
  refine ⟨_, rfl, ?_⟩
  replace r5 := r5.kept k6 (by omega)
  replace r6 := r6.kept k6 (by omega)
  replace qf0 := k6.loose0 (World.block_lt_of_cell? _ _ q0) qf0
  replace qf1 := k6.loose0 (World.block_lt_of_cell? _ _ q1) qf1
  replace qf2 := k6.loose0 (World.block_lt_of_cell? _ _ q2) qf2
  replace p0 := k6.cell0 p0
  replace p1 := k6.cell0 p1
  replace p2 := k6.cell0 p2
  replace p3 := k6.cell0 p3
  replace q0 := k6.cell0 q0
  replace q1 := k6.cell0 q1
  replace q2 := k6.cell0 q2
  replace K := hide ((unhide K).trans k6)
  have z7 := k6.size
  clear k6
  clear hHeld
  refine hK.out _ _ ?_ (fun hHeld => ?_)
  · exact ⟨p0, p1, p2, p3⟩
  clear hK KK
  try simp only [Act.put, List.getElem_toArray, List.getElem_cons_succ, List.getElem_cons_zero, List.setIfInBounds_toArray, List.set_cons_zero, List.set_cons_succ]
  obtain ⟨a7, c7, hv⟩ := Row.form' r7
  subst hv
  refine wpAnyH_ready (rs := [9]) (by kernel_rfl) (by simp) ?_
  refine AllReadyH.cons rfl (fun KK hK => ?_) AllReadyH.nil
  simp only [List.getElem_toArray, List.getElem_cons_succ, List.getElem_cons_zero]
  rw [if_pos (by rfl)]
  go_simp
  clear hHeld
  refine hK.out _ _ ?_ (fun hHeld => ?_)
  · exact ⟨(cell_aside _ (by have := unhide S0; dsimp only; omega) (cell_aside _ (by have := unhide S0; dsimp only; omega) (cell_aside _ (by have := unhide S0; dsimp only; omega) p0))), (cell_aside _ (by have := unhide S0; dsimp only; omega) (cell_aside _ (by have := unhide S0; dsimp only; omega) (cell_aside _ (by have := unhide S0; dsimp only; omega) p1))), (cell_aside _ (by have := unhide S0; dsimp only; omega) (cell_aside _ (by have := unhide S0; dsimp only; omega) (cell_aside _ (by have := unhide S0; dsimp only; omega) p2))), (cell_aside _ (by have := unhide S0; dsimp only; omega) (cell_aside _ (by have := unhide S0; dsimp only; omega) (cell_aside _ (by have := unhide S0; dsimp only; omega) p3)))⟩
  clear hK KK
  try simp only [Act.put, List.getElem_toArray, List.getElem_cons_succ, List.getElem_cons_zero, List.setIfInBounds_toArray, List.set_cons_zero, List.set_cons_succ]
  refine wpAnyH_done (by kernel_rfl) ?_ _
  clear hHeld
  clear mk1 mk2 mk3
  have R := hide ((((r7.set_other (p := ⟨w.heap.size + 1, 0, none⟩) (.inl (by have := unhide S0; dsimp only; omega)) (.bool SG)).set_other (p := ⟨w.heap.size + 1, 1, none⟩) (.inl (by have := unhide S0; dsimp only; omega)) (.slice a7 ZM.length c7)).set_other (p := ⟨w.heap.size + 1, 2, none⟩) (.inl (by have := unhide S0; dsimp only; omega)) (.int .i64 EX)).tight.wider (lo' := w.heap.size) (by have := unhide S0; omega) (Nat.le_refl _))
  have K7 := hide ((((unhide K).setNew (p := ⟨w.heap.size + 1, 0, none⟩) (by simp) (.bool SG)).setNew (p := ⟨w.heap.size + 1, 1, none⟩) (by simp) (.slice a7 ZM.length c7)).setNew (p := ⟨w.heap.size + 1, 2, none⟩) (by simp) (.int .i64 EX))
  clear r5 r6 r7 K 
  go_wp2_with fail
  exact bodyPost_ret (v := .agg #[.bool SG, .slice a7 ZM.length c7, .int .i64 EX]) (by simp [results, Try.results86, go_sem, q0, q1, q2]) rfl ⟨_, rfl, unhide R, unhide K7⟩

set_option maxHeartbeats 2000000 in
theorem dy5_nought (n : Bool) (w : World) :
    Calls Try.prog 86 #[flv 0 n 0 0] w fun e' w' => ∃ v', e' = .returned (.agg #[.bool false, v', .int .i64 0]) ∧ Row .i64 true w.heap.size w'.heap.size w' v' [] ∧ Kept 0 0 w w' := by
  go_enter Try.func86, Try.ntmps86
  go_wp2
  exact bodyPost_ret (v := .agg #[.bool false, .slice none 0 0, .int .i64 0]) (by simp [results, Try.results86, go_sem]) rfl ⟨_, rfl, Row.nil _ _ _ _ _, by repeat first | exact Kept.refl 0 0 _ | apply Kept.alloc⟩

set_option maxHeartbeats 2000000 in
theorem dy5_inf (n : Bool) (w : World) :
    Calls Try.prog 86 #[flv 2 n 0 0] w fun e' w' => ∃ v', e' = .returned (.agg #[.bool false, v', .int .i64 0]) ∧ Row .i64 true w.heap.size w'.heap.size w' v' [] ∧ Kept 0 0 w w' := by
  go_enter Try.func86, Try.ntmps86
  go_wp2
  exact bodyPost_ret (v := .agg #[.bool false, .slice none 0 0, .int .i64 0]) (by simp [results, Try.results86, go_sem]) rfl ⟨_, rfl, Row.nil _ _ _ _ _, by repeat first | exact Kept.refl 0 0 _ | apply Kept.alloc⟩

theorem fM_zero {k : Int} (h : k ≠ 1) (n : Bool) (m : Int) : fM k n m = 0 := by unfold fM; rw [if_neg h]
theorem dy5_spec {k : Int} {n : Bool} {m e : Int} (h : flok k n m e = true) (h9 : k ≠ 3) (w : World) :
    Calls Try.prog 86 #[flv k n m e] w fun e' w' => ∃ v', e' = .returned (.agg #[.bool (wsg (fM k n m)), v', .int .i64 (dex (fM k n m) e)]) ∧ Row .i64 true w.heap.size w'.heap.size w' v' (dlm (fM k n m)) ∧ Kept 0 0 w w' := by
  rcases flok_ways h with ⟨rfl, h1, h2, h3, h4, h5⟩ | ⟨rfl, rfl, rfl⟩ | ⟨rfl, rfl, rfl⟩ | ⟨rfl, -⟩
  · exact dy5_num n m e h1 h2 h3 h4 w
  · rw [fM_zero (by decide), dlm_zero, show wsg 0 = false from rfl, show dex 0 0 = 0 from rfl]
    exact dy5_nought n w
  · rw [fM_zero (by decide), dlm_zero, show wsg 0 = false from rfl, show dex 0 0 = 0 from rfl]
    exact dy5_inf n w
  · exact absurd rfl h9

set_option maxHeartbeats 2000000 in
theorem rank_num (n : Bool) (m e : Int) (w : World) :
    Calls Try.prog 84 #[flv 1 n m e] w fun e' w' => e' = .returned (.int .i64 (0)) ∧ Kept 0 0 w w' := by
  all_goals
    go_enter Try.func84, Try.ntmps84
    go_wp2
    go_ret
    exact ⟨rfl, by repeat first | exact Kept.refl 0 0 _ | apply Kept.alloc⟩

set_option maxHeartbeats 2000000 in
theorem rank_nought (n : Bool) (w : World) :
    Calls Try.prog 84 #[flv 0 n 0 0] w fun e' w' => e' = .returned (.int .i64 (0)) ∧ Kept 0 0 w w' := by
  all_goals
    go_enter Try.func84, Try.ntmps84
    go_wp2
    go_ret
    exact ⟨rfl, by repeat first | exact Kept.refl 0 0 _ | apply Kept.alloc⟩

set_option maxHeartbeats 2000000 in
theorem rank_inf (n : Bool) (w : World) :
    Calls Try.prog 84 #[flv 2 n 0 0] w fun e' w' => e' = .returned (.int .i64 (if n = true then -2 else 2)) ∧ Kept 0 0 w w' := by
  cases n
  all_goals
    go_enter Try.func84, Try.ntmps84
    go_wp2
    go_ret
    exact ⟨rfl, by repeat first | exact Kept.refl 0 0 _ | apply Kept.alloc⟩

theorem rank_any {k : Int} {n : Bool} {m e : Int} (h : flok k n m e = true) (h9 : k ≠ 3) (w : World) :
    Calls Try.prog 84 #[flv k n m e] w fun e' w' => e' = .returned (.int .i64 (rank k n)) ∧ Kept 0 0 w w' := by
  rcases flok_ways h with ⟨rfl, h1, h2, h3, h4, h5⟩ | ⟨rfl, rfl, rfl⟩ | ⟨rfl, rfl, rfl⟩ | ⟨rfl, -⟩
  · exact rank_num n m e w
  · exact rank_nought n w
  · exact rank_inf n w
  · exact absurd rfl h9

end Go.Proofs.Ytdlpkppkmfjdiaa
