/-
  The walk of the law FnDyTops: it returns true at every code.
-/
import Derived.Test.YtoijdclblcmpaaaLawT
namespace Go.Proofs.Ytoijdclblcmpaaa
open Go.RowKit
set_option linter.unusedVariables false
set_option maxRecDepth 8000
set_option linter.unusedSimpArgs false

theorem in_dy : ∀ (w : World) (args : Array Value), (callFunc 46 args).run Try.prog w = .ok (.enter 46 args) w := enters Try.func46 (by decide) (fun h => by cases h)

theorem in_spec_DyCmp4 : ∀ (w : World) (args : Array Value), (callFunc 48 args).run Try.prog w = .ok (.enter 48 args) w := enters Try.func48 (by decide) (fun h => by cases h)

set_option maxHeartbeats 8000000 in
theorem law_DyTops {v : Value} {bs : List Int} {w : World} (r : Row .u8 false 0 w.heap.size w v bs) (hb0 : ∀ z ∈ bs, (Lit.int .u8 z).wf = true) :
    Calls Try.prog 7 #[v] w fun e w' => e = .returned (.bool true) ∧ Below w.heap.size w w' := by
  have hB := hide (bytes_of_wf hb0)
  clear hb0
  have s0 : w.heap.size = w.heap.size := rfl
  obtain ⟨a0, c0, hv⟩ := Row.form' r
  subst hv
  have K := hide (Kept.refl 0 0 w)
  have S0 := hide s0
  clear s0
  go_enter Try.func7, Try.ntmps7
  go_wp2_with fail
  refine (drawTop_any _ r (unhide hB)).mono ?_
  rintro e w1 ⟨v1, s, x, zs, rfl, r1, f1, f2, k1⟩
  replace r := r.kept k1 (by omega)
  replace K := hide ((unhide K).trans k1)
  have z2 := k1.size
  clear k1
  clear r
  obtain ⟨a1, c1, hv⟩ := Row.form' r1
  subst hv
  have kn := (Kept.refl 0 0 w1).alloc (.cells #[.bool s, .slice a1 zs.length c1, .int .i64 x] 56)
  have y0 : (w1.alloc (.cells #[.bool s, .slice a1 zs.length c1, .int .i64 x] 56)).cell? ⟨w1.heap.size, 0, none⟩ = some (.bool s) := new_cell2 _ _ _ _ _ _ (by simp) rfl
  have y1 : (w1.alloc (.cells #[.bool s, .slice a1 zs.length c1, .int .i64 x] 56)).cell? ⟨w1.heap.size, 1, none⟩ = some (.slice a1 zs.length c1) := new_cell2 _ _ _ _ _ _ (by simp) rfl
  have y2 : (w1.alloc (.cells #[.bool s, .slice a1 zs.length c1, .int .i64 x] 56)).cell? ⟨w1.heap.size, 2, none⟩ = some (.int .i64 x) := new_cell2 _ _ _ _ _ _ (by simp) rfl
  have sz3 : w1.heap.size + 1 ≤ (w1.alloc (.cells #[.bool s, .slice a1 zs.length c1, .int .i64 x] 56)).heap.size := by simp
  replace r1 := r1.kept kn (by omega)
  replace K := hide ((unhide K).trans kn)
  have z4 := kn.size
  clear kn
  go_wp2_with fail
  generalize (w1.alloc (.cells #[.bool s, .slice a1 zs.length c1, .int .i64 x] 56)) = wn5 at *
  obtain ⟨TP, hTP⟩ : ∃ t, topD s zs x = t := ⟨_, rfl⟩
  have mk := dytop_impl s x f2 f1 wn5 r1
  rw [hTP] at mk
  refine (mk).mono ?_
  rintro e w6 ⟨rfl, k6⟩
  replace r1 := r1.kept k6 (by omega)
  replace y0 := k6.cell0 y0
  replace y1 := k6.cell0 y1
  replace y2 := k6.cell0 y2
  replace K := hide ((unhide K).trans k6)
  have z7 := k6.size
  clear k6
  clear mk
  go_wp2_with fail
  refine (dok_spec s x f2 f1 _ r1).mono ?_
  rintro e w8 ⟨rfl, k8⟩
  replace r1 := r1.kept k8 (by omega)
  replace y0 := k8.cell0 y0
  replace y1 := k8.cell0 y1
  replace y2 := k8.cell0 y2
  replace K := hide ((unhide K).trans k8)
  have z9 := k8.size
  clear k8
  cases ho : dokB s zs x
  · clear ho hTP
    clear r1
    go_wp2_with fail
    have mk := dy_any 5 1 (by decide) (by decide) w8
    obtain ⟨e1, e2, e3⟩ := dy_form (n := 5) (e := 1) (by rw [five_lim]; exact dok_small 5 1 (.inr rfl) (by decide) (by decide))
    rw [e1, e2, e3, five_lim, show wsg 5 = false from rfl] at mk
    clear e1 e2 e3
    refine (mk).mono ?_
    rintro e w10 ⟨v8, rfl, r8, k10⟩
    replace y0 := k10.cell0 y0
    replace y1 := k10.cell0 y1
    replace y2 := k10.cell0 y2
    replace K := hide ((unhide K).trans k10)
    have z11 := k10.size
    clear k10
    clear mk
    go_wp2_with fail
    have mk := dytop_impl false 1 (by decide) (by decide) w10 r8
    rw [top_five] at mk
    refine (mk).mono ?_
    rintro e w12 ⟨rfl, k12⟩
    replace r8 := r8.kept k12 (by omega)
    replace y0 := k12.cell0 y0
    replace y1 := k12.cell0 y1
    replace y2 := k12.cell0 y2
    replace K := hide ((unhide K).trans k12)
    have z13 := k12.size
    clear k12
    clear mk r8
    go_wp2_with fail
    go_ret
    exact ⟨rfl, (unhide K).toBelow⟩
  by_cases h0 : zs.length = 0
  · have hb0 : ((zs.length : Int) == 0) = true := beq_iff_eq.2 (by omega)
    clear h0 ho hTP
    clear r1
    go_wp2_with fail
    have mk := dy_any 5 1 (by decide) (by decide) w8
    obtain ⟨e1, e2, e3⟩ := dy_form (n := 5) (e := 1) (by rw [five_lim]; exact dok_small 5 1 (.inr rfl) (by decide) (by decide))
    rw [e1, e2, e3, five_lim, show wsg 5 = false from rfl] at mk
    clear e1 e2 e3
    refine (mk).mono ?_
    rintro e w10 ⟨v8, rfl, r8, k10⟩
    replace y0 := k10.cell0 y0
    replace y1 := k10.cell0 y1
    replace y2 := k10.cell0 y2
    replace K := hide ((unhide K).trans k10)
    have z11 := k10.size
    clear k10
    clear mk
    go_wp2_with fail
    have mk := dytop_impl false 1 (by decide) (by decide) w10 r8
    rw [top_five] at mk
    refine (mk).mono ?_
    rintro e w12 ⟨rfl, k12⟩
    replace r8 := r8.kept k12 (by omega)
    replace y0 := k12.cell0 y0
    replace y1 := k12.cell0 y1
    replace y2 := k12.cell0 y2
    replace K := hide ((unhide K).trans k12)
    have z13 := k12.size
    clear k12
    clear mk r8
    go_wp2_with fail
    go_ret
    exact ⟨rfl, (unhide K).toBelow⟩
  have hb0 : ((zs.length : Int) == 0) = false := beq_eq_false_iff_ne.2 (by omega)
  by_cases h1 : 3000 < TP
  · clear ho hTP h0
    clear r1
    go_wp2_with fail
    have mk := dy_any 5 1 (by decide) (by decide) w8
    obtain ⟨e1, e2, e3⟩ := dy_form (n := 5) (e := 1) (by rw [five_lim]; exact dok_small 5 1 (.inr rfl) (by decide) (by decide))
    rw [e1, e2, e3, five_lim, show wsg 5 = false from rfl] at mk
    clear e1 e2 e3
    refine (mk).mono ?_
    rintro e w10 ⟨v8, rfl, r8, k10⟩
    replace y0 := k10.cell0 y0
    replace y1 := k10.cell0 y1
    replace y2 := k10.cell0 y2
    replace K := hide ((unhide K).trans k10)
    have z11 := k10.size
    clear k10
    clear mk
    go_wp2_with fail
    have mk := dytop_impl false 1 (by decide) (by decide) w10 r8
    rw [top_five] at mk
    refine (mk).mono ?_
    rintro e w12 ⟨rfl, k12⟩
    replace r8 := r8.kept k12 (by omega)
    replace y0 := k12.cell0 y0
    replace y1 := k12.cell0 y1
    replace y2 := k12.cell0 y2
    replace K := hide ((unhide K).trans k12)
    have z13 := k12.size
    clear k12
    clear mk r8
    go_wp2_with fail
    go_ret
    exact ⟨rfl, (unhide K).toBelow⟩
  by_cases h2 : TP ≤ -3000
  · clear ho hTP h0
    clear r1
    go_wp2_with fail
    have mk := dy_any 5 1 (by decide) (by decide) w8
    obtain ⟨e1, e2, e3⟩ := dy_form (n := 5) (e := 1) (by rw [five_lim]; exact dok_small 5 1 (.inr rfl) (by decide) (by decide))
    rw [e1, e2, e3, five_lim, show wsg 5 = false from rfl] at mk
    clear e1 e2 e3
    refine (mk).mono ?_
    rintro e w10 ⟨v8, rfl, r8, k10⟩
    replace y0 := k10.cell0 y0
    replace y1 := k10.cell0 y1
    replace y2 := k10.cell0 y2
    replace K := hide ((unhide K).trans k10)
    have z11 := k10.size
    clear k10
    clear mk
    go_wp2_with fail
    have mk := dytop_impl false 1 (by decide) (by decide) w10 r8
    rw [top_five] at mk
    refine (mk).mono ?_
    rintro e w12 ⟨rfl, k12⟩
    replace r8 := r8.kept k12 (by omega)
    replace y0 := k12.cell0 y0
    replace y1 := k12.cell0 y1
    replace y2 := k12.cell0 y2
    replace K := hide ((unhide K).trans k12)
    have z13 := k12.size
    clear k12
    clear mk r8
    go_wp2_with fail
    go_ret
    exact ⟨rfl, (unhide K).toBelow⟩
  obtain ⟨t0, t1, t2⟩ := tops_ok ho (by omega) (by omega) (by omega)
  rw [hTP] at t1 t2
  go_wp2_with fail
  refine (abs_law s x f2 f1 _ r1 ho).mono ?_
  rintro e w10 ⟨v5, rfl, r5, k10⟩
  replace r1 := r1.kept k10 (by omega)
  replace y0 := k10.cell0 y0
  replace y1 := k10.cell0 y1
  replace y2 := k10.cell0 y2
  replace K := hide ((unhide K).trans k10)
  have z11 := k10.size
  clear k10
  clear r1
  obtain ⟨a5, c5, hv⟩ := Row.form' r5
  subst hv
  have kn := (Kept.refl 0 0 w10).alloc (.cells #[.bool false, .slice a5 zs.length c5, .int .i64 x] 56)
  have u0 : (w10.alloc (.cells #[.bool false, .slice a5 zs.length c5, .int .i64 x] 56)).cell? ⟨w10.heap.size, 0, none⟩ = some (.bool false) := new_cell2 _ _ _ _ _ _ (by simp) rfl
  have u1 : (w10.alloc (.cells #[.bool false, .slice a5 zs.length c5, .int .i64 x] 56)).cell? ⟨w10.heap.size, 1, none⟩ = some (.slice a5 zs.length c5) := new_cell2 _ _ _ _ _ _ (by simp) rfl
  have u2 : (w10.alloc (.cells #[.bool false, .slice a5 zs.length c5, .int .i64 x] 56)).cell? ⟨w10.heap.size, 2, none⟩ = some (.int .i64 x) := new_cell2 _ _ _ _ _ _ (by simp) rfl
  have sz12 : w10.heap.size + 1 ≤ (w10.alloc (.cells #[.bool false, .slice a5 zs.length c5, .int .i64 x] 56)).heap.size := by simp
  replace r5 := r5.kept kn (by omega)
  replace y0 := kn.cell0 y0
  replace y1 := kn.cell0 y1
  replace y2 := kn.cell0 y2
  replace K := hide ((unhide K).trans kn)
  have z13 := kn.size
  clear kn
  go_wp2_with fail
  generalize (w10.alloc (.cells #[.bool false, .slice a5 zs.length c5, .int .i64 x] 56)) = wn14 at *
  have dy1 : ∀ (e : Int) (w' : World), -3000 ≤ e → e ≤ 3000 → Calls Try.prog 46 #[.int .i64 1, .int .i64 e] w' fun r w'' => ∃ v', r = .returned (.agg #[.bool false, v', .int .i64 e]) ∧ Row .i64 true w'.heap.size w''.heap.size w'' v' [1] ∧ Kept 0 0 w' w'' := fun e w' q1 q2 => by
    have mk := dy_any 1 e (by decide) (by decide) w'
    obtain ⟨e1, e2, e3⟩ := dy_form (n := 1) (e := e) (by rw [one_lim]; exact dok_small 1 e (.inl rfl) q1 q2)
    rw [e1, e2, e3, one_lim, show wsg 1 = false from rfl] at mk
    exact mk
  obtain ⟨C1, hC1⟩ : ∃ c, cmpD false zs x false [1] TP = c := ⟨_, rfl⟩
  obtain ⟨C2, hC2⟩ : ∃ c, cmpD false zs x false [1] (TP - 1) = c := ⟨_, rfl⟩
  rw [hC1] at t1
  rw [hC2] at t2
  subst t1
  have hw : IntKind.i64.wrap (TP - 1) = TP - 1 := w64 _ (by omega) (by omega)
  have hd2 : decide (0 ≤ C2) = true := decide_eq_true t2
  have q1 : TP ≤ 9223372036854775807 := by omega
  have q2 : -9223372036854775808 ≤ TP := by omega
  have q3 : TP - 1 ≤ 9223372036854775807 := by omega
  have q4 : -9223372036854775808 ≤ TP - 1 := by omega
  have kd := (Kept.refl 0 0 wn14).drew
  replace r5 := r5.kept kd (by omega)
  replace y0 := kd.cell0 y0
  replace y1 := kd.cell0 y1
  replace y2 := kd.cell0 y2
  replace u0 := kd.cell0 u0
  replace u1 := kd.cell0 u1
  replace u2 := kd.cell0 u2
  replace K := hide ((unhide K).trans kd)
  have z15 := kd.size
  clear kd
  refine wp_region_held_drew (S := (fun w' => w'.cell? ⟨w10.heap.size, 0, none⟩ = some (.bool false) ∧ w'.cell? ⟨w10.heap.size, 1, none⟩ = some (.slice a5 zs.length c5) ∧ w'.cell? ⟨w10.heap.size, 2, none⟩ = some (.int .i64 x))) (by kernel_rfl) ?_ (fun hHeld => ?_)
  · exact ⟨u0, u1, u2⟩
  refine wpAnyH_take (i := 0) (oi := _) (v := .agg #[.bool false, .slice a5 zs.length c5, .int .i64 x]) rfl (by kernel_rfl) (by kernel_rfl) (by kernel_rfl) (fun _ _ _ h => h) (Or.inl ⟨by rfl, ?_⟩) hHeld ?_
  · intro wq hSw
    try dsimp only at hSw
    go_simp
  try simp only [Act.put, List.getElem_toArray, List.getElem_cons_succ, List.getElem_cons_zero, List.setIfInBounds_toArray, List.set_cons_zero, List.set_cons_succ]
  refine wpAnyH_take (i := 1) (oi := _) (v := .int .i64 TP) rfl (by kernel_rfl) (by kernel_rfl) (by kernel_rfl) (fun _ _ _ h => h) (Or.inl ⟨by rfl, ?_⟩) hHeld ?_
  · intro wq hSw
    try dsimp only at hSw
    go_simp
  try simp only [Act.put, List.getElem_toArray, List.getElem_cons_succ, List.getElem_cons_zero, List.setIfInBounds_toArray, List.set_cons_zero, List.set_cons_succ]
  refine wpAnyH_ready (rs := [2]) (by kernel_rfl) (by simp) ?_
  refine AllReadyH.cons rfl (fun KK hK => ?_) AllReadyH.nil
  simp only [List.getElem_toArray, List.getElem_cons_succ, List.getElem_cons_zero]
  rw [if_pos (by rfl)]
  refine wps2 46 (.const (.int .i64 1)) (.tmp 35) _ rfl in_dy (.int .i64 1) (.int .i64 TP) rfl rfl (dy1 TP _ (by omega) (by omega)) ?_
  rintro e w16 ⟨v6, rfl, r6, k16⟩
  refine ⟨_, rfl, ?_⟩
  replace r5 := r5.kept k16 (by omega)
  replace y0 := k16.cell0 y0
  replace y1 := k16.cell0 y1
  replace y2 := k16.cell0 y2
  replace u0 := k16.cell0 u0
  replace u1 := k16.cell0 u1
  replace u2 := k16.cell0 u2
  replace K := hide ((unhide K).trans k16)
  have z17 := k16.size
  clear k16
  clear hHeld
  refine hK.out _ _ ?_ (fun hHeld => ?_)
  · exact ⟨u0, u1, u2⟩
  clear hK KK
  try simp only [Act.put, List.getElem_toArray, List.getElem_cons_succ, List.getElem_cons_zero, List.setIfInBounds_toArray, List.set_cons_zero, List.set_cons_succ]
  refine wpAnyH_ready (rs := [3]) (by kernel_rfl) (by simp) ?_
  refine AllReadyH.cons rfl (fun KK hK => ?_) AllReadyH.nil
  simp only [List.getElem_toArray, List.getElem_cons_succ, List.getElem_cons_zero]
  rw [if_pos (by rfl)]
  refine wps2 48 (.tmp 34) (.tmp 36) _ rfl in_spec_DyCmp4 (.agg #[.bool false, .slice a5 zs.length c5, .int .i64 x]) (.agg #[.bool false, v6, .int .i64 TP]) rfl rfl (Calls.mono (dcmp_spec false false x TP f2 f1 q1 q2 _ r5 r6) (fun e w' h => (show e = .returned (.int .i64 (-1)) ∧ Kept 0 0 _ w' from ⟨by rw [h.1, hC1], h.2⟩))) ?_
  rintro e w18 ⟨rfl, k18⟩
  refine ⟨_, rfl, ?_⟩
  replace r5 := r5.kept k18 (by omega)
  replace r6 := r6.kept k18 (by omega)
  replace y0 := k18.cell0 y0
  replace y1 := k18.cell0 y1
  replace y2 := k18.cell0 y2
  replace u0 := k18.cell0 u0
  replace u1 := k18.cell0 u1
  replace u2 := k18.cell0 u2
  replace K := hide ((unhide K).trans k18)
  have z19 := k18.size
  clear k18
  clear hHeld
  refine hK.out _ _ ?_ (fun hHeld => ?_)
  · exact ⟨u0, u1, u2⟩
  clear hK KK
  try simp only [Act.put, List.getElem_toArray, List.getElem_cons_succ, List.getElem_cons_zero, List.setIfInBounds_toArray, List.set_cons_zero, List.set_cons_succ]
  refine wpAnyH_take (i := 4) (oi := _) (v := .bool true) rfl (by kernel_rfl) (by kernel_rfl) (by kernel_rfl) (fun _ _ _ h => h) (Or.inl ⟨by rfl, ?_⟩) hHeld ?_
  · intro wq hSw
    try dsimp only at hSw
    go_simp
  try simp only [Act.put, List.getElem_toArray, List.getElem_cons_succ, List.getElem_cons_zero, List.setIfInBounds_toArray, List.set_cons_zero, List.set_cons_succ]
  refine wpAnyH_take (i := 5) (oi := _) (v := .bool true) rfl (by kernel_rfl) (by kernel_rfl) (by kernel_rfl) (fun _ _ _ h => h) (Or.inl ⟨by rfl, ?_⟩) hHeld ?_
  · intro wq hSw
    try dsimp only at hSw
    go_simp
  try simp only [Act.put, List.getElem_toArray, List.getElem_cons_succ, List.getElem_cons_zero, List.setIfInBounds_toArray, List.set_cons_zero, List.set_cons_succ]
  refine wpAnyH_take (i := 6) (oi := _) (v := .agg #[.bool false, .slice a5 zs.length c5, .int .i64 x]) rfl (by kernel_rfl) (by kernel_rfl) (by kernel_rfl) (fun _ _ _ h => h) (Or.inl ⟨by rfl, ?_⟩) hHeld ?_
  · intro wq hSw
    try dsimp only at hSw
    go_simp
  try simp only [Act.put, List.getElem_toArray, List.getElem_cons_succ, List.getElem_cons_zero, List.setIfInBounds_toArray, List.set_cons_zero, List.set_cons_succ]
  refine wpAnyH_take (i := 7) (oi := _) (v := .int .i64 TP) rfl (by kernel_rfl) (by kernel_rfl) (by kernel_rfl) (fun _ _ _ h => h) (Or.inl ⟨by rfl, ?_⟩) hHeld ?_
  · intro wq hSw
    try dsimp only at hSw
    go_simp
  try simp only [Act.put, List.getElem_toArray, List.getElem_cons_succ, List.getElem_cons_zero, List.setIfInBounds_toArray, List.set_cons_zero, List.set_cons_succ]
  refine wpAnyH_take (i := 8) (oi := _) (v := .int .i64 (TP - 1)) rfl (by kernel_rfl) (by kernel_rfl) (by kernel_rfl) (fun _ _ _ h => h) (Or.inl ⟨by rfl, ?_⟩) hHeld ?_
  · intro wq hSw
    try dsimp only at hSw
    go_simp
  try simp only [Act.put, List.getElem_toArray, List.getElem_cons_succ, List.getElem_cons_zero, List.setIfInBounds_toArray, List.set_cons_zero, List.set_cons_succ]
  refine wpAnyH_ready (rs := [9]) (by kernel_rfl) (by simp) ?_
  refine AllReadyH.cons rfl (fun KK hK => ?_) AllReadyH.nil
  simp only [List.getElem_toArray, List.getElem_cons_succ, List.getElem_cons_zero]
  rw [if_pos (by rfl)]
  refine wps2 46 (.const (.int .i64 1)) (.tmp 42) _ rfl in_dy (.int .i64 1) (.int .i64 (TP - 1)) rfl rfl (dy1 (TP - 1) _ (by omega) (by omega)) ?_
  rintro e w20 ⟨v7, rfl, r7, k20⟩
  refine ⟨_, rfl, ?_⟩
  replace r5 := r5.kept k20 (by omega)
  replace r6 := r6.kept k20 (by omega)
  replace y0 := k20.cell0 y0
  replace y1 := k20.cell0 y1
  replace y2 := k20.cell0 y2
  replace u0 := k20.cell0 u0
  replace u1 := k20.cell0 u1
  replace u2 := k20.cell0 u2
  replace K := hide ((unhide K).trans k20)
  have z21 := k20.size
  clear k20
  clear hHeld
  refine hK.out _ _ ?_ (fun hHeld => ?_)
  · exact ⟨u0, u1, u2⟩
  clear hK KK
  try simp only [Act.put, List.getElem_toArray, List.getElem_cons_succ, List.getElem_cons_zero, List.setIfInBounds_toArray, List.set_cons_zero, List.set_cons_succ]
  refine wpAnyH_ready (rs := [10]) (by kernel_rfl) (by simp) ?_
  refine AllReadyH.cons rfl (fun KK hK => ?_) AllReadyH.nil
  simp only [List.getElem_toArray, List.getElem_cons_succ, List.getElem_cons_zero]
  rw [if_pos (by rfl)]
  refine wps2 48 (.tmp 40) (.tmp 43) _ rfl in_spec_DyCmp4 (.agg #[.bool false, .slice a5 zs.length c5, .int .i64 x]) (.agg #[.bool false, v7, .int .i64 (TP - 1)]) rfl rfl (Calls.mono (dcmp_spec false false x (TP - 1) f2 f1 q3 q4 _ r5 r7) (fun e w' h => (show e = .returned (.int .i64 C2) ∧ Kept 0 0 _ w' from ⟨by rw [h.1, hC2], h.2⟩))) ?_
  rintro e w22 ⟨rfl, k22⟩
  refine ⟨_, rfl, ?_⟩
  replace r5 := r5.kept k22 (by omega)
  replace r6 := r6.kept k22 (by omega)
  replace r7 := r7.kept k22 (by omega)
  replace y0 := k22.cell0 y0
  replace y1 := k22.cell0 y1
  replace y2 := k22.cell0 y2
  replace u0 := k22.cell0 u0
  replace u1 := k22.cell0 u1
  replace u2 := k22.cell0 u2
  replace K := hide ((unhide K).trans k22)
  have z23 := k22.size
  clear k22
  clear hHeld
  refine hK.out _ _ ?_ (fun hHeld => ?_)
  · exact ⟨u0, u1, u2⟩
  clear hK KK
  try simp only [Act.put, List.getElem_toArray, List.getElem_cons_succ, List.getElem_cons_zero, List.setIfInBounds_toArray, List.set_cons_zero, List.set_cons_succ]
  refine wpAnyH_take (i := 11) (oi := _) (v := .bool true) rfl (by kernel_rfl) (by kernel_rfl) (by kernel_rfl) (fun _ _ _ h => h) (Or.inl ⟨by rfl, ?_⟩) hHeld ?_
  · intro wq hSw
    try dsimp only at hSw
    go_simp
  try simp only [Act.put, List.getElem_toArray, List.getElem_cons_succ, List.getElem_cons_zero, List.setIfInBounds_toArray, List.set_cons_zero, List.set_cons_succ]
  refine wpAnyH_take (i := 12) (oi := _) (v := .bool true) rfl (by kernel_rfl) (by kernel_rfl) (by kernel_rfl) (fun _ _ _ h => h) (Or.inl ⟨by rfl, ?_⟩) hHeld ?_
  · intro wq hSw
    try dsimp only at hSw
    go_simp
  try simp only [Act.put, List.getElem_toArray, List.getElem_cons_succ, List.getElem_cons_zero, List.setIfInBounds_toArray, List.set_cons_zero, List.set_cons_succ]
  refine wpAnyH_take (i := 13) (oi := _) (v := .bool true) rfl (by kernel_rfl) (by kernel_rfl) (by kernel_rfl) (fun _ _ _ h => h) (Or.inl ⟨by rfl, ?_⟩) hHeld ?_
  · intro wq hSw
    try dsimp only at hSw
    go_simp
  try simp only [Act.put, List.getElem_toArray, List.getElem_cons_succ, List.getElem_cons_zero, List.setIfInBounds_toArray, List.set_cons_zero, List.set_cons_succ]
  refine wpAnyH_done (by kernel_rfl) ?_ _
  clear hHeld
  clear dy1
  go_wp2_with fail
  go_ret
  exact ⟨rfl, (unhide K).toBelow⟩

end Go.Proofs.Ytoijdclblcmpaaa
