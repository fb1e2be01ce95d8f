/-
  The walk of the law FnFlOrder: it returns true at every code, over the tables of math/bits as the program's text lays them.
-/
import Derived.Test.YtcijajdhiknaoaaDoorOrdF
import Derived.Test.YtcijajdhiknaoaaDoorFl18
import Derived.Deep.RegionHeld3
import Derived.Deep.DeepCutAuto
namespace Go.Proofs.YtcijajdhiknaoaaDoor
open Go.RowKit
set_option linter.unusedVariables false
set_option maxRecDepth 8000
set_option linter.unusedSimpArgs false

set_option maxHeartbeats 16000000 in
theorem law_FlOrder {v : Value} {zs : List Int} {w : World} (r : Row .u8 false 0 w.heap.size w v zs) (hb0 : ∀ z ∈ zs, (Lit.int .u8 z).wf = true) (T : TabB w) :
    Calls Tryd.prog 3 #[v] w fun e' w' => e' = .returned (.bool true) ∧ Below w.heap.size w w' := by
  have hb := bytes_of_wf hb0
  clear hb0
  have K := hide (Kept.refl 0 0 w)
  obtain ⟨a0, c0, hv⟩ := Row.form' r
  subst hv
  have S0 := hide (show w.heap.size = w.heap.size from rfl)
  go_enter Tryd.func3, Tryd.ntmps3
  go_wp2_with fail
  refine (drawCmp5_any _ r hb).mono ?_
  rintro e w1 ⟨gk, gn, gm, ge, hk, hn, hm, he, rfl, k1⟩
  replace r := r.kept k1 (by omega)
  replace K := hide ((unhide K).trans k1)
  have z2 := k1.size
  clear k1
  clear r
  have kn := (Kept.refl 0 0 w1).alloc (.cells #[.int .i64 gk, .bool gn, .int .i64 gm, .int .i64 ge] 24)
  have ya0 : (w1.alloc (.cells #[.int .i64 gk, .bool gn, .int .i64 gm, .int .i64 ge] 24)).cell? ⟨w1.heap.size, 0, none⟩ = some (.int .i64 gk) := new_cell2 _ _ _ _ _ _ (by simp) rfl
  have ya1 : (w1.alloc (.cells #[.int .i64 gk, .bool gn, .int .i64 gm, .int .i64 ge] 24)).cell? ⟨w1.heap.size, 1, none⟩ = some (.bool gn) := new_cell2 _ _ _ _ _ _ (by simp) rfl
  have ya2 : (w1.alloc (.cells #[.int .i64 gk, .bool gn, .int .i64 gm, .int .i64 ge] 24)).cell? ⟨w1.heap.size, 2, none⟩ = some (.int .i64 gm) := new_cell2 _ _ _ _ _ _ (by simp) rfl
  have ya3 : (w1.alloc (.cells #[.int .i64 gk, .bool gn, .int .i64 gm, .int .i64 ge] 24)).cell? ⟨w1.heap.size, 3, none⟩ = some (.int .i64 ge) := new_cell2 _ _ _ _ _ _ (by simp) rfl
  have sz3 : w1.heap.size + 1 ≤ (w1.alloc (.cells #[.int .i64 gk, .bool gn, .int .i64 gm, .int .i64 ge] 24)).heap.size := by simp
  replace K := hide ((unhide K).trans kn)
  have z4 := kn.size
  clear kn
  have kn := (Kept.refl 0 0 (w1.alloc (.cells #[.int .i64 gk, .bool gn, .int .i64 gm, .int .i64 ge] 24))).alloc (.cells #[.int .i64 hk, .bool hn, .int .i64 hm, .int .i64 he] 24)
  have za0 : ((w1.alloc (.cells #[.int .i64 gk, .bool gn, .int .i64 gm, .int .i64 ge] 24)).alloc (.cells #[.int .i64 hk, .bool hn, .int .i64 hm, .int .i64 he] 24)).cell? ⟨w1.heap.size + 1, 0, none⟩ = some (.int .i64 hk) := new_cell2 _ _ _ _ _ _ (by simp) rfl
  have za1 : ((w1.alloc (.cells #[.int .i64 gk, .bool gn, .int .i64 gm, .int .i64 ge] 24)).alloc (.cells #[.int .i64 hk, .bool hn, .int .i64 hm, .int .i64 he] 24)).cell? ⟨w1.heap.size + 1, 1, none⟩ = some (.bool hn) := new_cell2 _ _ _ _ _ _ (by simp) rfl
  have za2 : ((w1.alloc (.cells #[.int .i64 gk, .bool gn, .int .i64 gm, .int .i64 ge] 24)).alloc (.cells #[.int .i64 hk, .bool hn, .int .i64 hm, .int .i64 he] 24)).cell? ⟨w1.heap.size + 1, 2, none⟩ = some (.int .i64 hm) := new_cell2 _ _ _ _ _ _ (by simp) rfl
  have za3 : ((w1.alloc (.cells #[.int .i64 gk, .bool gn, .int .i64 gm, .int .i64 ge] 24)).alloc (.cells #[.int .i64 hk, .bool hn, .int .i64 hm, .int .i64 he] 24)).cell? ⟨w1.heap.size + 1, 3, none⟩ = some (.int .i64 he) := new_cell2 _ _ _ _ _ _ (by simp) rfl
  have sz5 : (w1.alloc (.cells #[.int .i64 gk, .bool gn, .int .i64 gm, .int .i64 ge] 24)).heap.size + 1 ≤ ((w1.alloc (.cells #[.int .i64 gk, .bool gn, .int .i64 gm, .int .i64 ge] 24)).alloc (.cells #[.int .i64 hk, .bool hn, .int .i64 hm, .int .i64 he] 24)).heap.size := by simp
  replace ya0 := kn.cell0 ya0
  replace ya1 := kn.cell0 ya1
  replace ya2 := kn.cell0 ya2
  replace ya3 := kn.cell0 ya3
  replace K := hide ((unhide K).trans kn)
  have z6 := kn.size
  clear kn
  go_wp2_with fail
  generalize ((w1.alloc (.cells #[.int .i64 gk, .bool gn, .int .i64 gm, .int .i64 ge] 24)).alloc (.cells #[.int .i64 hk, .bool hn, .int .i64 hm, .int .i64 he] 24)) = wn7 at *
  obtain ⟨C, hC⟩ : ∃ o, fcmI gk gn gm ge hk hn hm he = o := ⟨_, rfl⟩
  obtain ⟨Q, hQ⟩ : ∃ o, fcmB gk gn gm ge hk hn hm he = o := ⟨_, rfl⟩
  have cr := fcmI_range gk gn gm ge hk hn hm he
  rw [hC] at cr
  have m1 := fun w => flcmp_impl gk gn gm ge hk hn hm he w
  have m2 := fun w => flcmp_impl hk hn hm he gk gn gm ge w
  simp only [hC, hQ] at m1
  simp only [fcmI_swap gk gn gm ge hk hn hm he, fcmB_swap gk gn gm ge hk hn hm he, hC, hQ] at m2
  obtain ⟨S1, hS1⟩ : ∃ o, ansDS (fdyB gk gn gm ge) (fM gk gn gm) ge = o := ⟨_, rfl⟩
  obtain ⟨L1, hL1⟩ : ∃ o, ansDL (fdyB gk gn gm ge) (fM gk gn gm) ge = o := ⟨_, rfl⟩
  obtain ⟨E1, hE1⟩ : ∃ o, ansDE (fdyB gk gn gm ge) (fM gk gn gm) ge = o := ⟨_, rfl⟩
  obtain ⟨D1, hD1⟩ : ∃ o, ansDB (fdyB gk gn gm ge) (fM gk gn gm) ge = o := ⟨_, rfl⟩
  have d1 := fun w t => fldy_impl gk gn gm ge w t
  simp only [hS1, hL1, hE1, hD1] at d1
  obtain ⟨S2, hS2⟩ : ∃ o, ansDS (fdyB hk hn hm he) (fM hk hn hm) he = o := ⟨_, rfl⟩
  obtain ⟨L2, hL2⟩ : ∃ o, ansDL (fdyB hk hn hm he) (fM hk hn hm) he = o := ⟨_, rfl⟩
  obtain ⟨E2, hE2⟩ : ∃ o, ansDE (fdyB hk hn hm he) (fM hk hn hm) he = o := ⟨_, rfl⟩
  obtain ⟨D2, hD2⟩ : ∃ o, ansDB (fdyB hk hn hm he) (fM hk hn hm) he = o := ⟨_, rfl⟩
  have d2 := fun w t => fldy_impl hk hn hm he w t
  simp only [hS2, hL2, hE2, hD2] at d2
  have HO : Hid (D1 = true → D2 = true → Q = true ∧ cmpD S1 L1 E1 S2 L2 E2 = C ∧ (E1 ≤ 9223372036854775807 ∧ -9223372036854775808 ≤ E1) ∧ (E2 ≤ 9223372036854775807 ∧ -9223372036854775808 ≤ E2)) := fun q1 q2 => by
    have f1 : fdyB gk gn gm ge = true := by
      have := hD1.trans q1
      unfold ansDB at this
      rw [Bool.and_eq_true] at this
      exact this.1
    have f2 : fdyB hk hn hm he = true := by
      have := hD2.trans q2
      unfold ansDB at this
      rw [Bool.and_eq_true] at this
      exact this.1
    obtain ⟨o1, o2⟩ := ord_fin f1 f2
    obtain ⟨-, -, -, t3, t4⟩ := fdy_told f1
    obtain ⟨-, -, -, s3, s4⟩ := fdy_told f2
    obtain ⟨-, p1, p2, -, -⟩ := dok_parts t4
    obtain ⟨-, p3, p4, -, -⟩ := dok_parts s4
    rw [hS1, hL1, hE1, hS2, hL2, hE2, hC] at o2
    rw [hE1] at t3
    rw [hE2] at s3
    exact ⟨hQ.symm.trans o1, o2, by omega, by omega⟩
  clear hC hQ hS1 hL1 hE1 hD1 hS2 hL2 hE2 hD2
  replace m1 := hide m1
  replace m2 := hide m2
  replace d1 := hide d1
  replace d2 := hide d2
  replace T := hide T
  refine (unhide m1 _).mono ?_
  rintro e w8 ⟨rfl, k8⟩
  replace ya0 := k8.cell0 ya0
  replace ya1 := k8.cell0 ya1
  replace ya2 := k8.cell0 ya2
  replace ya3 := k8.cell0 ya3
  replace za0 := k8.cell0 za0
  replace za1 := k8.cell0 za1
  replace za2 := k8.cell0 za2
  replace za3 := k8.cell0 za3
  replace K := hide ((unhide K).trans k8)
  have z9 := k8.size
  clear k8
  go_wp2_with fail
  refine (unhide m2 _).mono ?_
  rintro e w10 ⟨rfl, k10⟩
  replace ya0 := k10.cell0 ya0
  replace ya1 := k10.cell0 ya1
  replace ya2 := k10.cell0 ya2
  replace ya3 := k10.cell0 ya3
  replace za0 := k10.cell0 za0
  replace za1 := k10.cell0 za1
  replace za2 := k10.cell0 za2
  replace za3 := k10.cell0 za3
  replace K := hide ((unhide K).trans k10)
  have z11 := k10.size
  clear k10
  go_wp2_with fail
  refine (unhide d1 _ ((unhide T).kept (unhide K))).mono ?_
  rintro e w12 ⟨v5, rfl, r5, k12⟩
  replace ya0 := k12.cell0 ya0
  replace ya1 := k12.cell0 ya1
  replace ya2 := k12.cell0 ya2
  replace ya3 := k12.cell0 ya3
  replace za0 := k12.cell0 za0
  replace za1 := k12.cell0 za1
  replace za2 := k12.cell0 za2
  replace za3 := k12.cell0 za3
  replace K := hide ((unhide K).trans k12)
  have z13 := k12.size
  clear k12
  obtain ⟨a5, c5, hv⟩ := Row.form' r5
  subst hv
  have kn := (Kept.refl 0 0 w12).alloc (.cells #[.bool S1, .slice a5 L1.length c5, .int .i64 E1] 35)
  have xa0 : (w12.alloc (.cells #[.bool S1, .slice a5 L1.length c5, .int .i64 E1] 35)).cell? ⟨w12.heap.size, 0, none⟩ = some (.bool S1) := new_cell2 _ _ _ _ _ _ (by simp) rfl
  have xa1 : (w12.alloc (.cells #[.bool S1, .slice a5 L1.length c5, .int .i64 E1] 35)).cell? ⟨w12.heap.size, 1, none⟩ = some (.slice a5 L1.length c5) := new_cell2 _ _ _ _ _ _ (by simp) rfl
  have xa2 : (w12.alloc (.cells #[.bool S1, .slice a5 L1.length c5, .int .i64 E1] 35)).cell? ⟨w12.heap.size, 2, none⟩ = some (.int .i64 E1) := new_cell2 _ _ _ _ _ _ (by simp) rfl
  have sz14 : w12.heap.size + 1 ≤ (w12.alloc (.cells #[.bool S1, .slice a5 L1.length c5, .int .i64 E1] 35)).heap.size := by simp
  replace r5 := r5.kept kn (by omega)
  replace ya0 := kn.cell0 ya0
  replace ya1 := kn.cell0 ya1
  replace ya2 := kn.cell0 ya2
  replace ya3 := kn.cell0 ya3
  replace za0 := kn.cell0 za0
  replace za1 := kn.cell0 za1
  replace za2 := kn.cell0 za2
  replace za3 := kn.cell0 za3
  replace K := hide ((unhide K).trans kn)
  have z15 := kn.size
  clear kn
  go_wp2_with fail
  generalize (w12.alloc (.cells #[.bool S1, .slice a5 L1.length c5, .int .i64 E1] 35)) = wn16 at *
  refine (unhide d2 _ ((unhide T).kept (unhide K))).mono ?_
  rintro e w17 ⟨v6, rfl, r6, k17⟩
  replace r5 := r5.kept k17 (by omega)
  replace ya0 := k17.cell0 ya0
  replace ya1 := k17.cell0 ya1
  replace ya2 := k17.cell0 ya2
  replace ya3 := k17.cell0 ya3
  replace za0 := k17.cell0 za0
  replace za1 := k17.cell0 za1
  replace za2 := k17.cell0 za2
  replace za3 := k17.cell0 za3
  replace xa0 := k17.cell0 xa0
  replace xa1 := k17.cell0 xa1
  replace xa2 := k17.cell0 xa2
  replace K := hide ((unhide K).trans k17)
  have z18 := k17.size
  clear k17
  obtain ⟨a6, c6, hv⟩ := Row.form' r6
  subst hv
  clear m1 m2 d1 d2 T
  have hwc : IntKind.i64.wrap (-(-C)) = C := by rw [IntKind.wrap_i64]; omega
  have hnn : -(-C) = C := by omega
  have mI : ∀ w, Calls Tryd.prog 5 #[flv 2 true 0 0, flv 2 false 0 0] w fun r w' => r = .returned (.tuple #[.int .i64 (-1), .bool true]) ∧ Kept 0 0 w w' := fun w => flcmp_impl 2 true 0 0 2 false 0 0 w
  replace mI := hide mI
  cases D1
  · clear HO
    have kn := (Kept.refl 0 0 w17).alloc (.cells #[.bool S2, .slice a6 L2.length c6, .int .i64 E2] 35)
    have xb0 : (w17.alloc (.cells #[.bool S2, .slice a6 L2.length c6, .int .i64 E2] 35)).cell? ⟨w17.heap.size, 0, none⟩ = some (.bool S2) := new_cell2 _ _ _ _ _ _ (by simp) rfl
    have xb1 : (w17.alloc (.cells #[.bool S2, .slice a6 L2.length c6, .int .i64 E2] 35)).cell? ⟨w17.heap.size, 1, none⟩ = some (.slice a6 L2.length c6) := new_cell2 _ _ _ _ _ _ (by simp) rfl
    have xb2 : (w17.alloc (.cells #[.bool S2, .slice a6 L2.length c6, .int .i64 E2] 35)).cell? ⟨w17.heap.size, 2, none⟩ = some (.int .i64 E2) := new_cell2 _ _ _ _ _ _ (by simp) rfl
    have sz19 : w17.heap.size + 1 ≤ (w17.alloc (.cells #[.bool S2, .slice a6 L2.length c6, .int .i64 E2] 35)).heap.size := by simp
    replace r5 := r5.kept kn (by omega)
    replace r6 := r6.kept kn (by omega)
    replace ya0 := kn.cell0 ya0
    replace ya1 := kn.cell0 ya1
    replace ya2 := kn.cell0 ya2
    replace ya3 := kn.cell0 ya3
    replace za0 := kn.cell0 za0
    replace za1 := kn.cell0 za1
    replace za2 := kn.cell0 za2
    replace za3 := kn.cell0 za3
    replace xa0 := kn.cell0 xa0
    replace xa1 := kn.cell0 xa1
    replace xa2 := kn.cell0 xa2
    replace K := hide ((unhide K).trans kn)
    have z20 := kn.size
    clear kn
    go_wp2_with fail
    generalize (w17.alloc (.cells #[.bool S2, .slice a6 L2.length c6, .int .i64 E2] 35)) = wn21 at *
    refine (unhide mI _).mono ?_
    rintro e w22 ⟨rfl, k22⟩
    replace r5 := r5.kept k22 (by omega)
    replace r6 := r6.kept k22 (by omega)
    replace ya0 := k22.cell0 ya0
    replace ya1 := k22.cell0 ya1
    replace ya2 := k22.cell0 ya2
    replace ya3 := k22.cell0 ya3
    replace za0 := k22.cell0 za0
    replace za1 := k22.cell0 za1
    replace za2 := k22.cell0 za2
    replace za3 := k22.cell0 za3
    replace xa0 := k22.cell0 xa0
    replace xa1 := k22.cell0 xa1
    replace xa2 := k22.cell0 xa2
    replace xb0 := k22.cell0 xb0
    replace xb1 := k22.cell0 xb1
    replace xb2 := k22.cell0 xb2
    replace K := hide ((unhide K).trans k22)
    have z23 := k22.size
    clear k22
    clear r5 r6
    go_wp2_with fail
    all_goals first
      | (go_ret; exact ⟨rfl, (unhide K).toBelow⟩)
      | (go_ret; refine ⟨congrArg (fun b => Ending.returned (.bool b)) ?_, (unhide K).toBelow⟩; (simp [hnn] <;> omega))
      | (exfalso; omega)
      | trace_state
  cases D2
  · clear HO
    have kn := (Kept.refl 0 0 w17).alloc (.cells #[.bool S2, .slice a6 L2.length c6, .int .i64 E2] 35)
    have xb0 : (w17.alloc (.cells #[.bool S2, .slice a6 L2.length c6, .int .i64 E2] 35)).cell? ⟨w17.heap.size, 0, none⟩ = some (.bool S2) := new_cell2 _ _ _ _ _ _ (by simp) rfl
    have xb1 : (w17.alloc (.cells #[.bool S2, .slice a6 L2.length c6, .int .i64 E2] 35)).cell? ⟨w17.heap.size, 1, none⟩ = some (.slice a6 L2.length c6) := new_cell2 _ _ _ _ _ _ (by simp) rfl
    have xb2 : (w17.alloc (.cells #[.bool S2, .slice a6 L2.length c6, .int .i64 E2] 35)).cell? ⟨w17.heap.size, 2, none⟩ = some (.int .i64 E2) := new_cell2 _ _ _ _ _ _ (by simp) rfl
    have sz19 : w17.heap.size + 1 ≤ (w17.alloc (.cells #[.bool S2, .slice a6 L2.length c6, .int .i64 E2] 35)).heap.size := by simp
    replace r5 := r5.kept kn (by omega)
    replace r6 := r6.kept kn (by omega)
    replace ya0 := kn.cell0 ya0
    replace ya1 := kn.cell0 ya1
    replace ya2 := kn.cell0 ya2
    replace ya3 := kn.cell0 ya3
    replace za0 := kn.cell0 za0
    replace za1 := kn.cell0 za1
    replace za2 := kn.cell0 za2
    replace za3 := kn.cell0 za3
    replace xa0 := kn.cell0 xa0
    replace xa1 := kn.cell0 xa1
    replace xa2 := kn.cell0 xa2
    replace K := hide ((unhide K).trans kn)
    have z20 := kn.size
    clear kn
    go_wp2_with fail
    generalize (w17.alloc (.cells #[.bool S2, .slice a6 L2.length c6, .int .i64 E2] 35)) = wn21 at *
    refine (unhide mI _).mono ?_
    rintro e w22 ⟨rfl, k22⟩
    replace r5 := r5.kept k22 (by omega)
    replace r6 := r6.kept k22 (by omega)
    replace ya0 := k22.cell0 ya0
    replace ya1 := k22.cell0 ya1
    replace ya2 := k22.cell0 ya2
    replace ya3 := k22.cell0 ya3
    replace za0 := k22.cell0 za0
    replace za1 := k22.cell0 za1
    replace za2 := k22.cell0 za2
    replace za3 := k22.cell0 za3
    replace xa0 := k22.cell0 xa0
    replace xa1 := k22.cell0 xa1
    replace xa2 := k22.cell0 xa2
    replace xb0 := k22.cell0 xb0
    replace xb1 := k22.cell0 xb1
    replace xb2 := k22.cell0 xb2
    replace K := hide ((unhide K).trans k22)
    have z23 := k22.size
    clear k22
    clear r5 r6
    go_wp2_with fail
    all_goals first
      | (go_ret; exact ⟨rfl, (unhide K).toBelow⟩)
      | (go_ret; refine ⟨congrArg (fun b => Ending.returned (.bool b)) ?_, (unhide K).toBelow⟩; (simp [hnn] <;> omega))
      | (exfalso; omega)
      | trace_state
  obtain ⟨q1, q2, q3, q4⟩ := unhide HO rfl rfl
  subst q1
  clear HO
  have kn := (Kept.refl 0 0 w17).alloc (.cells #[.bool S2, .slice a6 L2.length c6, .int .i64 E2] 35)
  have xb0 : (w17.alloc (.cells #[.bool S2, .slice a6 L2.length c6, .int .i64 E2] 35)).cell? ⟨w17.heap.size, 0, none⟩ = some (.bool S2) := new_cell2 _ _ _ _ _ _ (by simp) rfl
  have xb1 : (w17.alloc (.cells #[.bool S2, .slice a6 L2.length c6, .int .i64 E2] 35)).cell? ⟨w17.heap.size, 1, none⟩ = some (.slice a6 L2.length c6) := new_cell2 _ _ _ _ _ _ (by simp) rfl
  have xb2 : (w17.alloc (.cells #[.bool S2, .slice a6 L2.length c6, .int .i64 E2] 35)).cell? ⟨w17.heap.size, 2, none⟩ = some (.int .i64 E2) := new_cell2 _ _ _ _ _ _ (by simp) rfl
  have sz19 : w17.heap.size + 1 ≤ (w17.alloc (.cells #[.bool S2, .slice a6 L2.length c6, .int .i64 E2] 35)).heap.size := by simp
  replace r5 := r5.kept kn (by omega)
  replace r6 := r6.kept kn (by omega)
  replace ya0 := kn.cell0 ya0
  replace ya1 := kn.cell0 ya1
  replace ya2 := kn.cell0 ya2
  replace ya3 := kn.cell0 ya3
  replace za0 := kn.cell0 za0
  replace za1 := kn.cell0 za1
  replace za2 := kn.cell0 za2
  replace za3 := kn.cell0 za3
  replace xa0 := kn.cell0 xa0
  replace xa1 := kn.cell0 xa1
  replace xa2 := kn.cell0 xa2
  replace K := hide ((unhide K).trans kn)
  have z20 := kn.size
  clear kn
  go_wp2_with fail
  generalize (w17.alloc (.cells #[.bool S2, .slice a6 L2.length c6, .int .i64 E2] 35)) = wn21 at *
  have mk := dcmp_spec S1 S2 E1 E2 q3.1 q3.2 q4.1 q4.2 wn21 r5 r6
  rw [q2] at mk
  clear q2
  refine (mk).mono ?_
  rintro e w22 ⟨rfl, k22⟩
  replace r5 := r5.kept k22 (by omega)
  replace r6 := r6.kept k22 (by omega)
  replace ya0 := k22.cell0 ya0
  replace ya1 := k22.cell0 ya1
  replace ya2 := k22.cell0 ya2
  replace ya3 := k22.cell0 ya3
  replace za0 := k22.cell0 za0
  replace za1 := k22.cell0 za1
  replace za2 := k22.cell0 za2
  replace za3 := k22.cell0 za3
  replace xa0 := k22.cell0 xa0
  replace xa1 := k22.cell0 xa1
  replace xa2 := k22.cell0 xa2
  replace xb0 := k22.cell0 xb0
  replace xb1 := k22.cell0 xb1
  replace xb2 := k22.cell0 xb2
  replace K := hide ((unhide K).trans k22)
  have z23 := k22.size
  clear k22
  clear mk
  go_wp2_with fail
  refine (unhide mI _).mono ?_
  rintro e w24 ⟨rfl, k24⟩
  replace r5 := r5.kept k24 (by omega)
  replace r6 := r6.kept k24 (by omega)
  replace ya0 := k24.cell0 ya0
  replace ya1 := k24.cell0 ya1
  replace ya2 := k24.cell0 ya2
  replace ya3 := k24.cell0 ya3
  replace za0 := k24.cell0 za0
  replace za1 := k24.cell0 za1
  replace za2 := k24.cell0 za2
  replace za3 := k24.cell0 za3
  replace xa0 := k24.cell0 xa0
  replace xa1 := k24.cell0 xa1
  replace xa2 := k24.cell0 xa2
  replace xb0 := k24.cell0 xb0
  replace xb1 := k24.cell0 xb1
  replace xb2 := k24.cell0 xb2
  replace K := hide ((unhide K).trans k24)
  have z25 := k24.size
  clear k24
  clear r5 r6
  go_wp2_with fail
  all_goals first
    | (go_ret; exact ⟨rfl, (unhide K).toBelow⟩)
    | (go_ret; refine ⟨congrArg (fun b => Ending.returned (.bool b)) ?_, (unhide K).toBelow⟩; (simp [hnn] <;> omega))
    | (exfalso; omega)
    | trace_state

end Go.Proofs.YtcijajdhiknaoaaDoor
