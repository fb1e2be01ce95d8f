/-
  The walk of the law FnWholes: it returns true at every code.
-/
import Derived.Test.YtkdapefddhbjdaaDrawW
import Derived.Test.YtkdapefddhbjdaaLawN
import Derived.Test.YtkdapefddhbjdaaIWMul
import Derived.Test.YtkdapefddhbjdaaIWAdd
import Derived.Test.YtkdapefddhbjdaaIWSub
import Derived.Test.YtkdapefddhbjdaaIWCmp
import Derived.Test.YtkdapefddhbjdaaIWh4
import Derived.Deep.DeepCutAuto
namespace Go.Proofs.Ytkdapefddhbjdaa
open Go.RowKit
set_option linter.unusedVariables false
set_option maxRecDepth 8000
set_option linter.unusedSimpArgs false

theorem wh_back (x : Int) : wval (wsg x) (wlm x) = x := by
  unfold wval wsg wlm
  rw [limbs_val]
  by_cases h : x < 0
  · rw [decide_eq_true h, if_pos rfl]; omega
  · rw [decide_eq_false h, if_neg (by decide)]; omega

theorem wh_make {x : Int} (h : (wlm x).length ≤ 100) : wokB (wsg x) (wlm x) = true := by
  unfold wokB
  rw [(okB_iff _).2 ⟨h, limbs_nrm _⟩, Bool.true_and]
  cases hs : wsg x
  · rfl
  · have : 0 < (wlm x).length := by
      have e := limbs_pos x.natAbs
      unfold wsg at hs
      have hx := of_decide_eq_true hs
      rw [decide_eq_true (show 0 < x.natAbs by omega)] at e
      exact of_decide_eq_true e
    simpa using this

theorem wh_form {s : Bool} {xs : List Int} (h : wokB s xs = true) : wsg (wval s xs) = s ∧ wlm (wval s xs) = xs ∧ (wlm (wval s xs)).length ≤ 100 := by
  obtain ⟨e1, e2, e3, -⟩ := wok_int h
  have e4 : wlm (wval s xs) = xs := e2.symm
  exact ⟨e1.symm, e4, by rw [e4]; exact e3⟩

theorem wlm_neg (x : Int) : wlm (-x) = wlm x := by unfold wlm; rw [Int.natAbs_neg]

theorem wh_neg {s : Bool} {xs : List Int} (h : wokB s xs = true) : wokB (wsg (negW s xs)) (wlm (negW s xs)) = true ∧ wval (wsg (negW s xs)) (wlm (negW s xs)) = -wval s xs := by
  refine ⟨wh_make (negW_len s xs), ?_⟩
  rw [wh_back]
  unfold negW
  rw [if_pos h]

theorem wh_ans {x : Int} (h : ansWB true x = true) : ansWS true x = wsg x ∧ ansWL true x = wlm x ∧ wokB (wsg x) (wlm x) = true := by
  have hl : (wlm x).length ≤ 100 := by rw [ansWB_yes rfl] at h; exact of_decide_eq_true h
  exact ⟨by unfold ansWS; rw [h]; rfl, by unfold ansWL; rw [if_pos h], wh_make hl⟩

theorem wh_mul {s1 s2 : Bool} {xs ys : List Int} (o1 : wokB s1 xs = true) (o2 : wokB s2 ys = true) :
    ansWB (wokB s2 ys && wokB s1 xs) (wval s2 ys * wval s1 xs) = ansWB (wokB s1 xs && wokB (wsg (negW s2 ys)) (wlm (negW s2 ys))) (wval s1 xs * wval (wsg (negW s2 ys)) (wlm (negW s2 ys))) ∧
    wsg (negW (ansWS (wokB s2 ys && wokB s1 xs) (wval s2 ys * wval s1 xs)) (ansWL (wokB s2 ys && wokB s1 xs) (wval s2 ys * wval s1 xs))) = ansWS (wokB s1 xs && wokB (wsg (negW s2 ys)) (wlm (negW s2 ys))) (wval s1 xs * wval (wsg (negW s2 ys)) (wlm (negW s2 ys))) ∧
    wlm (negW (ansWS (wokB s2 ys && wokB s1 xs) (wval s2 ys * wval s1 xs)) (ansWL (wokB s2 ys && wokB s1 xs) (wval s2 ys * wval s1 xs))) = ansWL (wokB s1 xs && wokB (wsg (negW s2 ys)) (wlm (negW s2 ys))) (wval s1 xs * wval (wsg (negW s2 ys)) (wlm (negW s2 ys))) := by
  obtain ⟨n1, n2⟩ := wh_neg o2
  rw [o1, o2, n1, n2, Int.mul_neg, Int.mul_comm (wval s2 ys)]
  generalize wval s1 xs * wval s2 ys = z
  have eb : ansWB true (-z) = ansWB true z := by unfold ansWB; rw [wlm_neg]
  rw [show (true && true) = true from rfl, eb]
  refine ⟨rfl, ?_⟩
  cases hb : ansWB true z
  · have e1 : ansWS true z = false := by unfold ansWS; rw [hb]; rfl
    have e2 : ansWL true z = [] := by unfold ansWL; rw [hb]; rfl
    have e3 : ansWS true (-z) = false := by unfold ansWS; rw [eb, hb]; rfl
    have e4 : ansWL true (-z) = [] := by unfold ansWL; rw [eb, hb]; rfl
    rw [e1, e2, e3, e4]
    decide
  · obtain ⟨e1, e2, e3⟩ := wh_ans hb
    obtain ⟨f1, f2, -⟩ := wh_ans (eb.trans hb)
    rw [e1, e2, f1, f2]
    have : negW (wsg z) (wlm z) = -z := by unfold negW; rw [if_pos e3, wh_back]
    rw [this]
    exact ⟨rfl, rfl⟩

theorem wh_zero {s : Bool} {xs : List Int} (o : wokB s xs = true) : ansWB (wokB s xs && wokB s xs) (wval s xs - wval s xs) = true ∧ ansWS (wokB s xs && wokB s xs) (wval s xs - wval s xs) = false ∧ ansWL (wokB s xs && wokB s xs) (wval s xs - wval s xs) = [] := by
  rw [o, Int.sub_self]
  decide

theorem wh_sub {s1 s2 : Bool} {xs ys : List Int} (o1 : wokB s1 xs = true) (o2 : wokB s2 ys = true) {SS : Bool} {SL : List Int} (hb : ansWB (wokB s1 xs && wokB s2 ys) (wval s1 xs + wval s2 ys) = true)
    (hs : ansWS (wokB s1 xs && wokB s2 ys) (wval s1 xs + wval s2 ys) = SS) (hl : ansWL (wokB s1 xs && wokB s2 ys) (wval s1 xs + wval s2 ys) = SL) :
    ansWB (wokB SS SL && wokB s2 ys) (wval SS SL - wval s2 ys) = true ∧ ansWS (wokB SS SL && wokB s2 ys) (wval SS SL - wval s2 ys) = s1 ∧ ansWL (wokB SS SL && wokB s2 ys) (wval SS SL - wval s2 ys) = xs := by
  have hc : (wokB s1 xs && wokB s2 ys) = true := by rw [o1, o2]; rfl
  rw [hc] at hb hs hl
  obtain ⟨e1, e2, e3⟩ := wh_ans hb
  subst hs hl
  rw [e1, e2, e3, o2, wh_back, show wval s1 xs + wval s2 ys - wval s2 ys = wval s1 xs by omega, show (true && true) = true from rfl]
  obtain ⟨f1, f2, f3⟩ := wh_form o1
  have f4 : ansWB true (wval s1 xs) = true := by rw [ansWB_yes rfl]; exact decide_eq_true f3
  obtain ⟨g1, g2, -⟩ := wh_ans f4
  exact ⟨f4, g1.trans f1, g2.trans f2⟩

theorem cmpI_neg (a b : Int) : cmpI (-a) (-b) = -cmpI a b := by
  unfold cmpI
  repeat' split
  all_goals omega

theorem cmpI_turn (a b : Int) : cmpI b a = -cmpI a b := by
  unfold cmpI
  repeat' split
  all_goals omega

theorem cmpI_three (a b : Int) : cmpI a b = -1 ∨ cmpI a b = 0 ∨ cmpI a b = 1 := by
  unfold cmpI
  split
  · exact .inl rfl
  · split
    · exact .inr (.inr rfl)
    · exact .inr (.inl rfl)

theorem wh_cmp {s1 s2 : Bool} {xs ys : List Int} (o1 : wokB s1 xs = true) (o2 : wokB s2 ys = true) : ∃ C : Int, cmpW s1 xs s2 ys = C ∧ cmpW s2 ys s1 xs = -C ∧ cmpW (wsg (negW s1 xs)) (wlm (negW s1 xs)) (wsg (negW s2 ys)) (wlm (negW s2 ys)) = -C ∧ (C = -1 ∨ C = 0 ∨ C = 1) := by
  obtain ⟨n1, n2⟩ := wh_neg o1
  obtain ⟨m1, m2⟩ := wh_neg o2
  exact ⟨_, cmpW_ok o1 o2, by rw [cmpW_ok o2 o1, cmpI_turn], by rw [cmpW_ok n1 m1, n2, m2, cmpI_neg], cmpI_three _ _⟩

theorem field_a (v : Value) : ∀ w : World, (Instr.field 36 (.agg #[.bool false, v]) 1).run Try.prog w = .ok (.agg #[v]) w := fun w => by kernel_rfl

theorem in_WholeNeg_c : ∀ (w : World) (args : Array Value), (callFunc 17 args).run Try.prog w = .ok (.enter 17 args) w := enters Try.func17 (by decide) (fun h => by cases h)

theorem in_WholeMul_c : ∀ (w : World) (args : Array Value), (callFunc 16 args).run Try.prog w = .ok (.enter 16 args) w := enters Try.func16 (by decide) (fun h => by cases h)

theorem in_WholeCmp_c : ∀ (w : World) (args : Array Value), (callFunc 24 args).run Try.prog w = .ok (.enter 24 args) w := enters Try.func24 (by decide) (fun h => by cases h)

theorem in_sameWhole_c : ∀ (w : World) (args : Array Value), (callFunc 20 args).run Try.prog w = .ok (.enter 20 args) w := enters Try.func20 (by decide) (fun h => by cases h)

set_option maxHeartbeats 1000000 in
theorem sameWhole_any {b1 b2 : Bool} {l1 h1 l2 h2 : Nat} {v1 v2 : Value} {xs ys : List Int} (s1 s2 : Bool) (w : World) (r1 : Row .i64 b1 l1 h1 w v1 xs) (r2 : Row .i64 b2 l2 h2 w v2 ys) :
    Calls Try.prog 20 #[.agg #[.bool s1, v1], .agg #[.bool s2, v2]] w fun e w' => e = .returned (.bool (decide (s1 = s2) && sameL xs ys)) ∧ Kept 0 0 w w' := by
  have k0 : Kept 0 0 w ((w.alloc (.cells #[.bool s1, v1] 36)).alloc (.cells #[.bool s2, v2] 36)) := (((Kept.refl 0 0 w).alloc (.cells #[.bool s1, v1] 36)).alloc (.cells #[.bool s2, v2] 36))
  have p0 : ((w.alloc (.cells #[.bool s1, v1] 36)).alloc (.cells #[.bool s2, v2] 36)).cell? ⟨w.heap.size, 0, none⟩ = some (.bool s1) := old_cell _ (new_cell2 _ _ _ _ _ _ (by simp) rfl)
  have p1 : ((w.alloc (.cells #[.bool s1, v1] 36)).alloc (.cells #[.bool s2, v2] 36)).cell? ⟨w.heap.size, 1, none⟩ = some (v1) := old_cell _ (new_cell2 _ _ _ _ _ _ (by simp) rfl)
  have t0 : ((w.alloc (.cells #[.bool s1, v1] 36)).alloc (.cells #[.bool s2, v2] 36)).cell? ⟨w.heap.size + 1, 0, none⟩ = some (.bool s2) := new_cell2 _ _ _ _ _ _ (by simp) rfl
  have t1 : ((w.alloc (.cells #[.bool s1, v1] 36)).alloc (.cells #[.bool s2, v2] 36)).cell? ⟨w.heap.size + 1, 1, none⟩ = some (v2) := new_cell2 _ _ _ _ _ _ (by simp) rfl
  replace r1 := r1.kept k0 (by omega)
  replace r2 := r2.kept k0 (by omega)
  have s0 : ((w.alloc (.cells #[.bool s1, v1] 36)).alloc (.cells #[.bool s2, v2] 36)).heap.size = w.heap.size + 2 := by simp
  obtain ⟨a1, c1, hv⟩ := r1.form'
  subst hv
  obtain ⟨a2, c2, hv⟩ := r2.form'
  subst hv
  have K := hide (k0)
  clear k0
  have S0 := hide s0
  clear s0
  obtain ⟨BB, hBB⟩ : ∃ y, sameL xs ys = y := ⟨_, rfl⟩
  rw [hBB]
  have HBB := hide hBB
  clear hBB
  cases s1 <;> cases s2
  · go_enter Try.func20, Try.ntmps20
    go_wp2_with fail
    generalize ((w.alloc (.cells #[.bool false, .slice a1 xs.length c1] 36)).alloc (.cells #[.bool false, .slice a2 ys.length c2] 36)) = W at *
    have mk := sameNat_any W r1 r2
    rw [unhide HBB] at mk
    refine (mk).mono ?_
    rintro e w1 ⟨rfl, k1⟩
    replace r1 := r1.kept k1 (.inr (.inr (Nat.le_refl 0)))
    replace r2 := r2.kept k1 (.inr (.inr (Nat.le_refl 0)))
    replace p0 := k1.cell0 p0
    replace p1 := k1.cell0 p1
    replace t0 := k1.cell0 t0
    replace t1 := k1.cell0 t1
    replace K := hide ((unhide K).trans k1)
    have z2 := k1.size
    clear k1
    clear mk
    go_wp2_with fail
    go_ret
    exact ⟨by simp, unhide K⟩
  · go_enter Try.func20, Try.ntmps20
    go_wp2_with fail
    go_ret
    exact ⟨by simp, unhide K⟩
  · go_enter Try.func20, Try.ntmps20
    go_wp2_with fail
    go_ret
    exact ⟨by simp, unhide K⟩
  · go_enter Try.func20, Try.ntmps20
    go_wp2_with fail
    generalize ((w.alloc (.cells #[.bool true, .slice a1 xs.length c1] 36)).alloc (.cells #[.bool true, .slice a2 ys.length c2] 36)) = W at *
    have mk := sameNat_any W r1 r2
    rw [unhide HBB] at mk
    refine (mk).mono ?_
    rintro e w1 ⟨rfl, k1⟩
    replace r1 := r1.kept k1 (.inr (.inr (Nat.le_refl 0)))
    replace r2 := r2.kept k1 (.inr (.inr (Nat.le_refl 0)))
    replace p0 := k1.cell0 p0
    replace p1 := k1.cell0 p1
    replace t0 := k1.cell0 t0
    replace t1 := k1.cell0 t1
    replace K := hide ((unhide K).trans k1)
    have z2 := k1.size
    clear k1
    clear mk
    go_wp2_with fail
    go_ret
    exact ⟨by simp, unhide K⟩

theorem sameWhole_same {b1 b2 : Bool} {l1 h1 l2 h2 : Nat} {v1 v2 : Value} {xs : List Int} (s : Bool) (w : World) (r1 : Row .i64 b1 l1 h1 w v1 xs) (r2 : Row .i64 b2 l2 h2 w v2 xs) :
    Calls Try.prog 20 #[.agg #[.bool s, v1], .agg #[.bool s, v2]] w fun e w' => e = .returned (.bool true) ∧ Kept 0 0 w w' := by
  have mk := sameWhole_any s s w r1 r2
  rw [show (decide (s = s) && sameL xs xs) = true from by rw [decide_eq_true rfl, show sameL xs xs = true from decide_eq_true rfl]; rfl] at mk
  exact mk

set_option maxHeartbeats 8000000 in
theorem law_Wholes {v : Value} {zs : List Int} {w : World} (r : Row .u8 false 0 w.heap.size w v zs) (hb0 : ∀ z ∈ zs, (Lit.int .u8 z).wf = true) :
    Calls Try.prog 4 #[v] w fun e w' => e = .returned (.bool true) ∧ Below w.heap.size w w' := by
  have hb := bytes_of_wf hb0
  clear hb0
  have hB := hide hb
  clear hb
  have s0 : w.heap.size = w.heap.size := rfl
  obtain ⟨a0, c0, hv⟩ := r.form'
  subst hv
  have K := hide (Kept.refl 0 0 w)
  have S0 := hide s0
  clear s0
  go_enter Try.func4, Try.ntmps4
  go_wp2_with fail
  refine (drawWA_any _ r (unhide hB)).mono ?_
  rintro e w1 ⟨v1, s1, xs, v2, s2, ys, rfl, r1, r2, k1⟩
  replace r := r.kept k1 (.inr (.inr (Nat.le_refl 0)))
  replace K := hide ((unhide K).trans k1)
  have z2 := k1.size
  clear k1
  clear r
  obtain ⟨a1, c1, hv⟩ := Row.form' r1
  subst hv
  obtain ⟨a2, c2, hv⟩ := Row.form' r2
  subst hv
  have kn := (Kept.refl 0 0 w1).alloc (.cells #[.bool s1, .slice a1 xs.length c1] 36)
  have ca0 : (w1.alloc (.cells #[.bool s1, .slice a1 xs.length c1] 36)).cell? ⟨w1.heap.size, 0, none⟩ = some (.bool s1) := new_cell2 _ _ _ _ _ _ (by simp) rfl
  have ca1 : (w1.alloc (.cells #[.bool s1, .slice a1 xs.length c1] 36)).cell? ⟨w1.heap.size, 1, none⟩ = some (.slice a1 xs.length c1) := new_cell2 _ _ _ _ _ _ (by simp) rfl
  have sz3 : w1.heap.size + 1 ≤ (w1.alloc (.cells #[.bool s1, .slice a1 xs.length c1] 36)).heap.size := by simp
  replace r1 := r1.kept kn (.inr (.inr (Nat.le_refl 0)))
  replace r2 := r2.kept kn (.inr (.inr (Nat.le_refl 0)))
  replace K := hide ((unhide K).trans kn)
  have z4 := kn.size
  clear kn
  have kn := (Kept.refl 0 0 (w1.alloc (.cells #[.bool s1, .slice a1 xs.length c1] 36))).alloc (.cells #[.bool s2, .slice a2 ys.length c2] 36)
  have cb0 : ((w1.alloc (.cells #[.bool s1, .slice a1 xs.length c1] 36)).alloc (.cells #[.bool s2, .slice a2 ys.length c2] 36)).cell? ⟨w1.heap.size + 1, 0, none⟩ = some (.bool s2) := new_cell2 _ _ _ _ _ _ (by simp) rfl
  have cb1 : ((w1.alloc (.cells #[.bool s1, .slice a1 xs.length c1] 36)).alloc (.cells #[.bool s2, .slice a2 ys.length c2] 36)).cell? ⟨w1.heap.size + 1, 1, none⟩ = some (.slice a2 ys.length c2) := new_cell2 _ _ _ _ _ _ (by simp) rfl
  have sz5 : (w1.alloc (.cells #[.bool s1, .slice a1 xs.length c1] 36)).heap.size + 1 ≤ ((w1.alloc (.cells #[.bool s1, .slice a1 xs.length c1] 36)).alloc (.cells #[.bool s2, .slice a2 ys.length c2] 36)).heap.size := by simp
  replace r1 := r1.kept kn (.inr (.inr (Nat.le_refl 0)))
  replace r2 := r2.kept kn (.inr (.inr (Nat.le_refl 0)))
  replace ca0 := kn.cell0 ca0
  replace ca1 := kn.cell0 ca1
  replace K := hide ((unhide K).trans kn)
  have z6 := kn.size
  clear kn
  go_wp2_with fail
  obtain ⟨Bca, hBca⟩ : ∃ y, w1.heap.size = y := ⟨_, rfl⟩
  obtain ⟨Bcb, hBcb⟩ : ∃ y, w1.heap.size + 1 = y := ⟨_, rfl⟩
  generalize ((w1.alloc (.cells #[.bool s1, .slice a1 xs.length c1] 36)).alloc (.cells #[.bool s2, .slice a2 ys.length c2] 36)) = wn7 at *
  clear hBca
  clear hBcb
  have mk := wAdd_impl s1 s2 wn7 r1 r2
  obtain ⟨SB, hSB⟩ : ∃ y, ansWB (wokB s1 xs && wokB s2 ys) (wval s1 xs + wval s2 ys) = y := ⟨_, rfl⟩
  obtain ⟨SS, hSS⟩ : ∃ y, ansWS (wokB s1 xs && wokB s2 ys) (wval s1 xs + wval s2 ys) = y := ⟨_, rfl⟩
  obtain ⟨SL, hSL⟩ : ∃ y, ansWL (wokB s1 xs && wokB s2 ys) (wval s1 xs + wval s2 ys) = y := ⟨_, rfl⟩
  rw [hSB, hSS, hSL] at mk
  have HS := hide (And.intro hSB (And.intro hSS hSL))
  clear hSB hSS hSL
  refine (mk).mono ?_
  rintro e w8 ⟨v3, rfl, r3, k8⟩
  replace r1 := r1.kept k8 (.inr (.inr (Nat.le_refl 0)))
  replace r2 := r2.kept k8 (.inr (.inr (Nat.le_refl 0)))
  replace ca0 := k8.cell0 ca0
  replace ca1 := k8.cell0 ca1
  replace cb0 := k8.cell0 cb0
  replace cb1 := k8.cell0 cb1
  replace K := hide ((unhide K).trans k8)
  have z9 := k8.size
  clear k8
  clear mk
  obtain ⟨a3, c3, hv⟩ := Row.form' r3
  subst hv
  have kn := (Kept.refl 0 0 w8).alloc (.cells #[.bool SS, .slice a3 SL.length c3] 36)
  have cs0 : (w8.alloc (.cells #[.bool SS, .slice a3 SL.length c3] 36)).cell? ⟨w8.heap.size, 0, none⟩ = some (.bool SS) := new_cell2 _ _ _ _ _ _ (by simp) rfl
  have cs1 : (w8.alloc (.cells #[.bool SS, .slice a3 SL.length c3] 36)).cell? ⟨w8.heap.size, 1, none⟩ = some (.slice a3 SL.length c3) := new_cell2 _ _ _ _ _ _ (by simp) rfl
  have sz10 : w8.heap.size + 1 ≤ (w8.alloc (.cells #[.bool SS, .slice a3 SL.length c3] 36)).heap.size := by simp
  replace r1 := r1.kept kn (.inr (.inr (Nat.le_refl 0)))
  replace r2 := r2.kept kn (.inr (.inr (Nat.le_refl 0)))
  replace r3 := r3.kept kn (.inr (.inr (Nat.le_refl 0)))
  replace ca0 := kn.cell0 ca0
  replace ca1 := kn.cell0 ca1
  replace cb0 := kn.cell0 cb0
  replace cb1 := kn.cell0 cb1
  replace K := hide ((unhide K).trans kn)
  have z11 := kn.size
  clear kn
  go_wp2_with fail
  obtain ⟨Bcs, hBcs⟩ : ∃ y, w8.heap.size = y := ⟨_, rfl⟩
  generalize (w8.alloc (.cells #[.bool SS, .slice a3 SL.length c3] 36)) = wn12 at *
  clear hBcs
  have mk := wAdd_impl s2 s1 wn12 r2 r1
  rw [Bool.and_comm, Int.add_comm, (unhide HS).1, (unhide HS).2.1, (unhide HS).2.2] at mk
  refine (mk).mono ?_
  rintro e w13 ⟨v4, rfl, r4, k13⟩
  replace r1 := r1.kept k13 (.inr (.inr (Nat.le_refl 0)))
  replace r2 := r2.kept k13 (.inr (.inr (Nat.le_refl 0)))
  replace r3 := r3.kept k13 (.inr (.inr (Nat.le_refl 0)))
  replace ca0 := k13.cell0 ca0
  replace ca1 := k13.cell0 ca1
  replace cb0 := k13.cell0 cb0
  replace cb1 := k13.cell0 cb1
  replace cs0 := k13.cell0 cs0
  replace cs1 := k13.cell0 cs1
  replace K := hide ((unhide K).trans k13)
  have z14 := k13.size
  clear k13
  clear mk
  obtain ⟨a4, c4, hv⟩ := Row.form' r4
  subst hv
  have kn := (Kept.refl 0 0 w13).alloc (.cells #[.bool SS, .slice a4 SL.length c4] 36)
  have ct0 : (w13.alloc (.cells #[.bool SS, .slice a4 SL.length c4] 36)).cell? ⟨w13.heap.size, 0, none⟩ = some (.bool SS) := new_cell2 _ _ _ _ _ _ (by simp) rfl
  have ct1 : (w13.alloc (.cells #[.bool SS, .slice a4 SL.length c4] 36)).cell? ⟨w13.heap.size, 1, none⟩ = some (.slice a4 SL.length c4) := new_cell2 _ _ _ _ _ _ (by simp) rfl
  have sz15 : w13.heap.size + 1 ≤ (w13.alloc (.cells #[.bool SS, .slice a4 SL.length c4] 36)).heap.size := by simp
  replace r1 := r1.kept kn (.inr (.inr (Nat.le_refl 0)))
  replace r2 := r2.kept kn (.inr (.inr (Nat.le_refl 0)))
  replace r3 := r3.kept kn (.inr (.inr (Nat.le_refl 0)))
  replace r4 := r4.kept kn (.inr (.inr (Nat.le_refl 0)))
  replace ca0 := kn.cell0 ca0
  replace ca1 := kn.cell0 ca1
  replace cb0 := kn.cell0 cb0
  replace cb1 := kn.cell0 cb1
  replace cs0 := kn.cell0 cs0
  replace cs1 := kn.cell0 cs1
  replace K := hide ((unhide K).trans kn)
  have z16 := kn.size
  clear kn
  go_upto_region 4 with fail
  obtain ⟨Bct, hBct⟩ : ∃ y, w13.heap.size = y := ⟨_, rfl⟩
  generalize (w13.alloc (.cells #[.bool SS, .slice a4 SL.length c4] 36)) = wn17 at *
  clear hBct
  obtain ⟨NS, hNS⟩ : ∃ y, wsg (negW s2 ys) = y := ⟨_, rfl⟩
  obtain ⟨NL, hNL⟩ : ∃ y, wlm (negW s2 ys) = y := ⟨_, rfl⟩
  have NEG : ∀ (w : World) {bw : Bool} {l h : Nat} {v : Value} (r : Row .i64 bw l h w v ys), Calls Try.prog 17 #[.agg #[.bool s2, v]] w fun e w' => ∃ v', e = .returned (.agg #[.bool NS, v']) ∧ Row .i64 true w.heap.size w'.heap.size w' v' NL ∧ Kept 0 0 w w' := by
    intro w bw l h v r
    have mk := wNeg_impl s2 w r
    rw [hNS, hNL] at mk
    exact mk
  have HN := hide (And.intro hNS hNL)
  clear hNS hNL
  have HNEG := hide NEG
  clear NEG
  obtain ⟨PB, hPB⟩ : ∃ y, ansWB (wokB s1 xs && wokB NS NL) (wval s1 xs * wval NS NL) = y := ⟨_, rfl⟩
  obtain ⟨PS, hPS⟩ : ∃ y, ansWS (wokB s1 xs && wokB NS NL) (wval s1 xs * wval NS NL) = y := ⟨_, rfl⟩
  obtain ⟨PL, hPL⟩ : ∃ y, ansWL (wokB s1 xs && wokB NS NL) (wval s1 xs * wval NS NL) = y := ⟨_, rfl⟩
  have HP := hide (And.intro hPB (And.intro hPS hPL))
  have MUL : ∀ (w : World) {b1 b2 : Bool} {l h l' h' : Nat} {v v' : Value} (r : Row .i64 b1 l h w v xs) (r' : Row .i64 b2 l' h' w v' NL), Calls Try.prog 16 #[.agg #[.bool s1, v], .agg #[.bool NS, v']] w fun e w' => ∃ v', e = .returned (.tuple #[.agg #[.bool PS, v'], .bool PB]) ∧ Row .i64 true w.heap.size w'.heap.size w' v' PL ∧ Kept 0 0 w w' := by
    intro w b1 b2 l h l' h' v v' r r'
    have mk := wMul_impl s1 NS w r r'
    rw [hPB, hPS, hPL] at mk
    exact mk
  clear hPB hPS hPL
  have HMUL := hide MUL
  clear MUL
  go_cut [9, 10] (fun q0 q1 wx => ∃ X v, q0 = .pointer (some ⟨X, 0, none⟩) ∧ q1 = .bool PB ∧ wx.cell? ⟨X, 0, none⟩ = some (.bool PS) ∧ wx.cell? ⟨X, 1, none⟩ = some v ∧ Row .i64 true wn17.heap.size wx.heap.size wx v PL ∧ wn17.heap.size ≤ X ∧ X < wx.heap.size ∧ Kept 0 0 wn17 wx)
  case first =>
    have kw := Kept.refl 0 0 wn17
    have lca0 := ca0
    have lca1 := ca1
    have lcb0 := cb0
    have lcb1 := cb1
    have kd := (Kept.refl 0 0 wn17).drew
    replace r1 := r1.kept kd (.inr (.inr (Nat.le_refl 0)))
    replace r2 := r2.kept kd (.inr (.inr (Nat.le_refl 0)))
    replace kw := kw.trans kd
    replace ca0 := kd.cell0 ca0
    replace ca1 := kd.cell0 ca1
    replace cb0 := kd.cell0 cb0
    replace cb1 := kd.cell0 cb1
    replace K := hide ((unhide K).trans kd)
    have z18 := kd.size
    clear kd
    refine wp_region_held_drew (S := (fun w' => w'.cell? ⟨w1.heap.size, 0, none⟩ = some (.bool s1) ∧ w'.cell? ⟨w1.heap.size, 1, none⟩ = some (.slice a1 xs.length c1) ∧ w'.cell? ⟨w1.heap.size + 1, 0, none⟩ = some (.bool s2) ∧ w'.cell? ⟨w1.heap.size + 1, 1, none⟩ = some (.slice a2 ys.length c2))) (by kernel_rfl) ?_ (fun hHeld => ?_)
    · exact ⟨ca0, ca1, cb0, cb1⟩
    generalize wn17.drew = wd19 at *
    refine wpAnyH_take (i := 0) (oi := _) (v := .agg #[.bool s1, .slice a1 xs.length c1]) rfl (by kernel_rfl) (by kernel_rfl) (by kernel_rfl) (fun _ _ _ h => h) (Or.inl ⟨by rfl, ?_⟩) hHeld ?_
    · intro wq hSw
      try dsimp only at hSw
      go_simp
    try simp only [Act.put, List.getElem_toArray, List.getElem_cons_succ, List.getElem_cons_zero, List.setIfInBounds_toArray, List.set_cons_zero, List.set_cons_succ]
    refine wpAnyH_take (i := 1) (oi := _) (v := .agg #[.bool s2, .slice a2 ys.length c2]) rfl (by kernel_rfl) (by kernel_rfl) (by kernel_rfl) (fun _ _ _ h => h) (Or.inl ⟨by rfl, ?_⟩) hHeld ?_
    · intro wq hSw
      try dsimp only at hSw
      go_simp
    try simp only [Act.put, List.getElem_toArray, List.getElem_cons_succ, List.getElem_cons_zero, List.setIfInBounds_toArray, List.set_cons_zero, List.set_cons_succ]
    refine wpAnyH_ready (rs := [2, 7]) (by kernel_rfl) (by simp) ?_
    refine AllReadyH.cons rfl (fun KK hK => ?_) (AllReadyH.cons rfl (fun KK hK => ?_) AllReadyH.nil)
    · simp only [List.getElem_toArray, List.getElem_cons_succ, List.getElem_cons_zero]
      rw [if_pos (by rfl)]
      refine wps1 17 (.tmp 36) _ rfl in_WholeNeg_c (.agg #[.bool s2, .slice a2 ys.length c2]) rfl (unhide HNEG wd19 r2) ?_
      rintro e w20 ⟨v5, rfl, r5, k20⟩
      refine ⟨_, rfl, ?_⟩
      replace r1 := r1.kept k20 (.inr (.inr (Nat.le_refl 0)))
      replace r2 := r2.kept k20 (.inr (.inr (Nat.le_refl 0)))
      replace kw := kw.trans k20
      replace ca0 := k20.cell0 ca0
      replace ca1 := k20.cell0 ca1
      replace cb0 := k20.cell0 cb0
      replace cb1 := k20.cell0 cb1
      replace K := hide ((unhide K).trans k20)
      have z21 := k20.size
      clear k20
      obtain ⟨a5, c5, hv⟩ := Row.form' r5
      subst hv
      clear hHeld
      refine hK.out _ _ ?_ (fun hHeld => ?_)
      · exact ⟨ca0, ca1, cb0, cb1⟩
      clear hK KK
      try simp only [Act.put, List.getElem_toArray, List.getElem_cons_succ, List.getElem_cons_zero, List.setIfInBounds_toArray, List.set_cons_zero, List.set_cons_succ]
      refine wpAnyH_ready (rs := [3, 7]) (by kernel_rfl) (by simp) ?_
      refine AllReadyH.cons rfl (fun KK hK => ?_) (AllReadyH.cons rfl (fun KK hK => ?_) AllReadyH.nil)
      · simp only [List.getElem_toArray, List.getElem_cons_succ, List.getElem_cons_zero]
        rw [if_pos (by rfl)]
        refine wps2 16 (.tmp 35) (.tmp 37) _ rfl in_WholeMul_c (.agg #[.bool s1, .slice a1 xs.length c1]) (.agg #[.bool NS, .slice a5 NL.length c5]) rfl rfl (unhide HMUL w20 r1 r5) ?_
        rintro e w22 ⟨v6, rfl, r6, k22⟩
        refine ⟨_, rfl, ?_⟩
        replace r1 := r1.kept k22 (.inr (.inr (Nat.le_refl 0)))
        replace r2 := r2.kept k22 (.inr (.inr (Nat.le_refl 0)))
        replace r5 := r5.kept k22 (.inr (.inr (Nat.le_refl 0)))
        replace kw := kw.trans k22
        replace ca0 := k22.cell0 ca0
        replace ca1 := k22.cell0 ca1
        replace cb0 := k22.cell0 cb0
        replace cb1 := k22.cell0 cb1
        replace K := hide ((unhide K).trans k22)
        have z23 := k22.size
        clear k22
        obtain ⟨a6, c6, hv⟩ := Row.form' r6
        subst hv
        clear hHeld
        refine hK.out _ _ ?_ (fun hHeld => ?_)
        · exact ⟨ca0, ca1, cb0, cb1⟩
        clear hK KK
        try simp only [Act.put, List.getElem_toArray, List.getElem_cons_succ, List.getElem_cons_zero, List.setIfInBounds_toArray, List.set_cons_zero, List.set_cons_succ]
        refine wpAnyH_take (i := 4) (oi := _) (v := .tuple #[.agg #[.bool PS, .slice a6 PL.length c6], .bool PB]) rfl (by kernel_rfl) (by kernel_rfl) (by kernel_rfl) (fun _ _ _ h => h) (Or.inl ⟨by rfl, ?_⟩) hHeld ?_
        · intro wq hSw
          try dsimp only at hSw
          go_simp
        try simp only [Act.put, List.getElem_toArray, List.getElem_cons_succ, List.getElem_cons_zero, List.setIfInBounds_toArray, List.set_cons_zero, List.set_cons_succ]
        refine wpAnyH_take (i := 5) (oi := _) (v := .agg #[.bool PS, .slice a6 PL.length c6]) rfl (by kernel_rfl) (by kernel_rfl) (by kernel_rfl) (fun _ _ _ h => h) (Or.inl ⟨by rfl, ?_⟩) hHeld ?_
        · intro wq hSw
          try dsimp only at hSw
          go_simp
        try simp only [Act.put, List.getElem_toArray, List.getElem_cons_succ, List.getElem_cons_zero, List.setIfInBounds_toArray, List.set_cons_zero, List.set_cons_succ]
        refine wpAnyH_take (i := 6) (oi := _) (v := .bool PB) rfl (by kernel_rfl) (by kernel_rfl) (by kernel_rfl) (fun _ _ _ h => h) (Or.inl ⟨by rfl, ?_⟩) hHeld ?_
        · intro wq hSw
          try dsimp only at hSw
          go_simp
        try simp only [Act.put, List.getElem_toArray, List.getElem_cons_succ, List.getElem_cons_zero, List.setIfInBounds_toArray, List.set_cons_zero, List.set_cons_succ]
        refine wpAnyH_ready (rs := [7]) (by kernel_rfl) (by simp) ?_
        refine AllReadyH.cons rfl (fun KK hK => ?_) AllReadyH.nil
        simp only [List.getElem_toArray, List.getElem_cons_succ, List.getElem_cons_zero]
        rw [if_pos (by rfl)]
        go_simp
        have kn := (Kept.refl 0 0 w22).alloc (.cells #[.bool false, .slice none 0 0] 36)
        replace r1 := r1.kept kn (.inr (.inr (Nat.le_refl 0)))
        replace r2 := r2.kept kn (.inr (.inr (Nat.le_refl 0)))
        replace r5 := r5.kept kn (.inr (.inr (Nat.le_refl 0)))
        replace r6 := r6.kept kn (.inr (.inr (Nat.le_refl 0)))
        replace kw := kw.trans kn
        replace ca0 := kn.cell0 ca0
        replace ca1 := kn.cell0 ca1
        replace cb0 := kn.cell0 cb0
        replace cb1 := kn.cell0 cb1
        replace K := hide ((unhide K).trans kn)
        have z25 := kn.size
        clear kn
        have szx : w22.heap.size < (w22.alloc (.cells #[.bool false, .slice none 0 0] 36)).heap.size := by simp
        have x0 : (w22.alloc (.cells #[.bool false, .slice none 0 0] 36)).cell? ⟨w22.heap.size, 0, none⟩ = some (.bool false) := new_cell2 _ _ _ _ _ _ rfl rfl
        have xf0 : (w22.alloc (.cells #[.bool false, .slice none 0 0] 36)).frozen? ⟨w22.heap.size, 0, none⟩ = false := new_loose2 _ _ _ _ _ rfl
        have x1 : (w22.alloc (.cells #[.bool false, .slice none 0 0] 36)).cell? ⟨w22.heap.size, 1, none⟩ = some (.slice none 0 0) := new_cell2 _ _ _ _ _ _ rfl rfl
        have xf1 : (w22.alloc (.cells #[.bool false, .slice none 0 0] 36)).frozen? ⟨w22.heap.size, 1, none⟩ = false := new_loose2 _ _ _ _ _ rfl
        clear hHeld
        refine hK.out _ _ ?_ (fun hHeld => ?_)
        · exact ⟨ca0, ca1, cb0, cb1⟩
        clear hK KK
        try simp only [Act.put, List.getElem_toArray, List.getElem_cons_succ, List.getElem_cons_zero, List.setIfInBounds_toArray, List.set_cons_zero, List.set_cons_succ]
        generalize w22.alloc (.cells #[.bool false, .slice none 0 0] 36) = w24 at *
        refine wpAnyH_ready (rs := [8]) (by kernel_rfl) (by simp) ?_
        refine AllReadyH.cons rfl (fun KK hK => ?_) AllReadyH.nil
        simp only [List.getElem_toArray, List.getElem_cons_succ, List.getElem_cons_zero]
        rw [if_pos (by rfl)]
        go_simp
        have kx := (kw.setNew (p := ⟨w22.heap.size, 0, none⟩) (by dsimp only; omega) (.bool PS)).setNew (p := ⟨w22.heap.size, 1, none⟩) (by dsimp only; omega) (.slice a6 PL.length c6)
        clear hHeld
        refine hK.out _ _ ?_ (fun hHeld => ?_)
        · exact ⟨kx.cell0 lca0, kx.cell0 lca1, kx.cell0 lcb0, kx.cell0 lcb1⟩
        clear hK KK
        try simp only [Act.put, List.getElem_toArray, List.getElem_cons_succ, List.getElem_cons_zero, List.setIfInBounds_toArray, List.set_cons_zero, List.set_cons_succ]
        refine wpAnyH_take (i := 9) (oi := _) (v := .bool PB) rfl (by kernel_rfl) (by kernel_rfl) (by kernel_rfl) (fun _ _ _ h => h) (Or.inl ⟨by rfl, ?_⟩) hHeld ?_
        · intro wq hSw
          try dsimp only at hSw
          go_simp
        try simp only [Act.put, List.getElem_toArray, List.getElem_cons_succ, List.getElem_cons_zero, List.setIfInBounds_toArray, List.set_cons_zero, List.set_cons_succ]
        refine wpAnyH_done (by kernel_rfl) ?_ _
        clear hHeld
        go_wp2_with fail
        go_meet
        exact ⟨_, _, rfl, rfl, law_setW PS kw x0 x1 r6 (by omega) (by omega) (by omega)⟩
      · simp only [List.getElem_toArray, List.getElem_cons_succ, List.getElem_cons_zero]
        rw [if_pos (by rfl)]
        go_simp
        have kn := (Kept.refl 0 0 w20).alloc (.cells #[.bool false, .slice none 0 0] 36)
        replace r1 := r1.kept kn (.inr (.inr (Nat.le_refl 0)))
        replace r2 := r2.kept kn (.inr (.inr (Nat.le_refl 0)))
        replace r5 := r5.kept kn (.inr (.inr (Nat.le_refl 0)))
        replace kw := kw.trans kn
        replace ca0 := kn.cell0 ca0
        replace ca1 := kn.cell0 ca1
        replace cb0 := kn.cell0 cb0
        replace cb1 := kn.cell0 cb1
        replace K := hide ((unhide K).trans kn)
        have z23 := kn.size
        clear kn
        have szx : w20.heap.size < (w20.alloc (.cells #[.bool false, .slice none 0 0] 36)).heap.size := by simp
        have x0 : (w20.alloc (.cells #[.bool false, .slice none 0 0] 36)).cell? ⟨w20.heap.size, 0, none⟩ = some (.bool false) := new_cell2 _ _ _ _ _ _ rfl rfl
        have xf0 : (w20.alloc (.cells #[.bool false, .slice none 0 0] 36)).frozen? ⟨w20.heap.size, 0, none⟩ = false := new_loose2 _ _ _ _ _ rfl
        have x1 : (w20.alloc (.cells #[.bool false, .slice none 0 0] 36)).cell? ⟨w20.heap.size, 1, none⟩ = some (.slice none 0 0) := new_cell2 _ _ _ _ _ _ rfl rfl
        have xf1 : (w20.alloc (.cells #[.bool false, .slice none 0 0] 36)).frozen? ⟨w20.heap.size, 1, none⟩ = false := new_loose2 _ _ _ _ _ rfl
        clear hHeld
        refine hK.out _ _ ?_ (fun hHeld => ?_)
        · exact ⟨ca0, ca1, cb0, cb1⟩
        clear hK KK
        try simp only [Act.put, List.getElem_toArray, List.getElem_cons_succ, List.getElem_cons_zero, List.setIfInBounds_toArray, List.set_cons_zero, List.set_cons_succ]
        generalize w20.alloc (.cells #[.bool false, .slice none 0 0] 36) = w22 at *
        refine wpAnyH_ready (rs := [3]) (by kernel_rfl) (by simp) ?_
        refine AllReadyH.cons rfl (fun KK hK => ?_) AllReadyH.nil
        simp only [List.getElem_toArray, List.getElem_cons_succ, List.getElem_cons_zero]
        rw [if_pos (by rfl)]
        refine wps2 16 (.tmp 35) (.tmp 37) _ rfl in_WholeMul_c (.agg #[.bool s1, .slice a1 xs.length c1]) (.agg #[.bool NS, .slice a5 NL.length c5]) rfl rfl (unhide HMUL w22 r1 r5) ?_
        rintro e w24 ⟨v6, rfl, r6, k24⟩
        refine ⟨_, rfl, ?_⟩
        replace r1 := r1.kept k24 (.inr (.inr (Nat.le_refl 0)))
        replace r2 := r2.kept k24 (.inr (.inr (Nat.le_refl 0)))
        replace r5 := r5.kept k24 (.inr (.inr (Nat.le_refl 0)))
        replace kw := kw.trans k24
        replace xf0 := k24.loose0 (World.block_lt_of_cell? _ _ x0) xf0
        replace xf1 := k24.loose0 (World.block_lt_of_cell? _ _ x1) xf1
        replace ca0 := k24.cell0 ca0
        replace ca1 := k24.cell0 ca1
        replace cb0 := k24.cell0 cb0
        replace cb1 := k24.cell0 cb1
        replace x0 := k24.cell0 x0
        replace x1 := k24.cell0 x1
        replace K := hide ((unhide K).trans k24)
        have z25 := k24.size
        clear k24
        obtain ⟨a6, c6, hv⟩ := Row.form' r6
        subst hv
        clear hHeld
        refine hK.out _ _ ?_ (fun hHeld => ?_)
        · exact ⟨ca0, ca1, cb0, cb1⟩
        clear hK KK
        try simp only [Act.put, List.getElem_toArray, List.getElem_cons_succ, List.getElem_cons_zero, List.setIfInBounds_toArray, List.set_cons_zero, List.set_cons_succ]
        refine wpAnyH_take (i := 4) (oi := _) (v := .tuple #[.agg #[.bool PS, .slice a6 PL.length c6], .bool PB]) rfl (by kernel_rfl) (by kernel_rfl) (by kernel_rfl) (fun _ _ _ h => h) (Or.inl ⟨by rfl, ?_⟩) hHeld ?_
        · intro wq hSw
          try dsimp only at hSw
          go_simp
        try simp only [Act.put, List.getElem_toArray, List.getElem_cons_succ, List.getElem_cons_zero, List.setIfInBounds_toArray, List.set_cons_zero, List.set_cons_succ]
        refine wpAnyH_take (i := 5) (oi := _) (v := .agg #[.bool PS, .slice a6 PL.length c6]) rfl (by kernel_rfl) (by kernel_rfl) (by kernel_rfl) (fun _ _ _ h => h) (Or.inl ⟨by rfl, ?_⟩) hHeld ?_
        · intro wq hSw
          try dsimp only at hSw
          go_simp
        try simp only [Act.put, List.getElem_toArray, List.getElem_cons_succ, List.getElem_cons_zero, List.setIfInBounds_toArray, List.set_cons_zero, List.set_cons_succ]
        refine wpAnyH_take (i := 6) (oi := _) (v := .bool PB) rfl (by kernel_rfl) (by kernel_rfl) (by kernel_rfl) (fun _ _ _ h => h) (Or.inl ⟨by rfl, ?_⟩) hHeld ?_
        · intro wq hSw
          try dsimp only at hSw
          go_simp
        try simp only [Act.put, List.getElem_toArray, List.getElem_cons_succ, List.getElem_cons_zero, List.setIfInBounds_toArray, List.set_cons_zero, List.set_cons_succ]
        refine wpAnyH_ready (rs := [8]) (by kernel_rfl) (by simp) ?_
        refine AllReadyH.cons rfl (fun KK hK => ?_) AllReadyH.nil
        simp only [List.getElem_toArray, List.getElem_cons_succ, List.getElem_cons_zero]
        rw [if_pos (by rfl)]
        go_simp
        have kx := (kw.setNew (p := ⟨w20.heap.size, 0, none⟩) (by dsimp only; omega) (.bool PS)).setNew (p := ⟨w20.heap.size, 1, none⟩) (by dsimp only; omega) (.slice a6 PL.length c6)
        clear hHeld
        refine hK.out _ _ ?_ (fun hHeld => ?_)
        · exact ⟨kx.cell0 lca0, kx.cell0 lca1, kx.cell0 lcb0, kx.cell0 lcb1⟩
        clear hK KK
        try simp only [Act.put, List.getElem_toArray, List.getElem_cons_succ, List.getElem_cons_zero, List.setIfInBounds_toArray, List.set_cons_zero, List.set_cons_succ]
        refine wpAnyH_take (i := 9) (oi := _) (v := .bool PB) rfl (by kernel_rfl) (by kernel_rfl) (by kernel_rfl) (fun _ _ _ h => h) (Or.inl ⟨by rfl, ?_⟩) hHeld ?_
        · intro wq hSw
          try dsimp only at hSw
          go_simp
        try simp only [Act.put, List.getElem_toArray, List.getElem_cons_succ, List.getElem_cons_zero, List.setIfInBounds_toArray, List.set_cons_zero, List.set_cons_succ]
        refine wpAnyH_done (by kernel_rfl) ?_ _
        clear hHeld
        go_wp2_with fail
        go_meet
        exact ⟨_, _, rfl, rfl, law_setW PS kw x0 x1 r6 (by omega) (by omega) (by omega)⟩
    · simp only [List.getElem_toArray, List.getElem_cons_succ, List.getElem_cons_zero]
      rw [if_pos (by rfl)]
      go_simp
      have kn := (Kept.refl 0 0 wd19).alloc (.cells #[.bool false, .slice none 0 0] 36)
      replace r1 := r1.kept kn (.inr (.inr (Nat.le_refl 0)))
      replace r2 := r2.kept kn (.inr (.inr (Nat.le_refl 0)))
      replace kw := kw.trans kn
      replace ca0 := kn.cell0 ca0
      replace ca1 := kn.cell0 ca1
      replace cb0 := kn.cell0 cb0
      replace cb1 := kn.cell0 cb1
      replace K := hide ((unhide K).trans kn)
      have z21 := kn.size
      clear kn
      have szx : wd19.heap.size < (wd19.alloc (.cells #[.bool false, .slice none 0 0] 36)).heap.size := by simp
      have x0 : (wd19.alloc (.cells #[.bool false, .slice none 0 0] 36)).cell? ⟨wd19.heap.size, 0, none⟩ = some (.bool false) := new_cell2 _ _ _ _ _ _ rfl rfl
      have xf0 : (wd19.alloc (.cells #[.bool false, .slice none 0 0] 36)).frozen? ⟨wd19.heap.size, 0, none⟩ = false := new_loose2 _ _ _ _ _ rfl
      have x1 : (wd19.alloc (.cells #[.bool false, .slice none 0 0] 36)).cell? ⟨wd19.heap.size, 1, none⟩ = some (.slice none 0 0) := new_cell2 _ _ _ _ _ _ rfl rfl
      have xf1 : (wd19.alloc (.cells #[.bool false, .slice none 0 0] 36)).frozen? ⟨wd19.heap.size, 1, none⟩ = false := new_loose2 _ _ _ _ _ rfl
      clear hHeld
      refine hK.out _ _ ?_ (fun hHeld => ?_)
      · exact ⟨ca0, ca1, cb0, cb1⟩
      clear hK KK
      try simp only [Act.put, List.getElem_toArray, List.getElem_cons_succ, List.getElem_cons_zero, List.setIfInBounds_toArray, List.set_cons_zero, List.set_cons_succ]
      generalize wd19.alloc (.cells #[.bool false, .slice none 0 0] 36) = w20 at *
      refine wpAnyH_ready (rs := [2]) (by kernel_rfl) (by simp) ?_
      refine AllReadyH.cons rfl (fun KK hK => ?_) AllReadyH.nil
      simp only [List.getElem_toArray, List.getElem_cons_succ, List.getElem_cons_zero]
      rw [if_pos (by rfl)]
      refine wps1 17 (.tmp 36) _ rfl in_WholeNeg_c (.agg #[.bool s2, .slice a2 ys.length c2]) rfl (unhide HNEG w20 r2) ?_
      rintro e w22 ⟨v5, rfl, r5, k22⟩
      refine ⟨_, rfl, ?_⟩
      replace r1 := r1.kept k22 (.inr (.inr (Nat.le_refl 0)))
      replace r2 := r2.kept k22 (.inr (.inr (Nat.le_refl 0)))
      replace kw := kw.trans k22
      replace xf0 := k22.loose0 (World.block_lt_of_cell? _ _ x0) xf0
      replace xf1 := k22.loose0 (World.block_lt_of_cell? _ _ x1) xf1
      replace ca0 := k22.cell0 ca0
      replace ca1 := k22.cell0 ca1
      replace cb0 := k22.cell0 cb0
      replace cb1 := k22.cell0 cb1
      replace x0 := k22.cell0 x0
      replace x1 := k22.cell0 x1
      replace K := hide ((unhide K).trans k22)
      have z23 := k22.size
      clear k22
      obtain ⟨a5, c5, hv⟩ := Row.form' r5
      subst hv
      clear hHeld
      refine hK.out _ _ ?_ (fun hHeld => ?_)
      · exact ⟨ca0, ca1, cb0, cb1⟩
      clear hK KK
      try simp only [Act.put, List.getElem_toArray, List.getElem_cons_succ, List.getElem_cons_zero, List.setIfInBounds_toArray, List.set_cons_zero, List.set_cons_succ]
      refine wpAnyH_ready (rs := [3]) (by kernel_rfl) (by simp) ?_
      refine AllReadyH.cons rfl (fun KK hK => ?_) AllReadyH.nil
      simp only [List.getElem_toArray, List.getElem_cons_succ, List.getElem_cons_zero]
      rw [if_pos (by rfl)]
      refine wps2 16 (.tmp 35) (.tmp 37) _ rfl in_WholeMul_c (.agg #[.bool s1, .slice a1 xs.length c1]) (.agg #[.bool NS, .slice a5 NL.length c5]) rfl rfl (unhide HMUL w22 r1 r5) ?_
      rintro e w24 ⟨v6, rfl, r6, k24⟩
      refine ⟨_, rfl, ?_⟩
      replace r1 := r1.kept k24 (.inr (.inr (Nat.le_refl 0)))
      replace r2 := r2.kept k24 (.inr (.inr (Nat.le_refl 0)))
      replace r5 := r5.kept k24 (.inr (.inr (Nat.le_refl 0)))
      replace kw := kw.trans k24
      replace xf0 := k24.loose0 (World.block_lt_of_cell? _ _ x0) xf0
      replace xf1 := k24.loose0 (World.block_lt_of_cell? _ _ x1) xf1
      replace ca0 := k24.cell0 ca0
      replace ca1 := k24.cell0 ca1
      replace cb0 := k24.cell0 cb0
      replace cb1 := k24.cell0 cb1
      replace x0 := k24.cell0 x0
      replace x1 := k24.cell0 x1
      replace K := hide ((unhide K).trans k24)
      have z25 := k24.size
      clear k24
      obtain ⟨a6, c6, hv⟩ := Row.form' r6
      subst hv
      clear hHeld
      refine hK.out _ _ ?_ (fun hHeld => ?_)
      · exact ⟨ca0, ca1, cb0, cb1⟩
      clear hK KK
      try simp only [Act.put, List.getElem_toArray, List.getElem_cons_succ, List.getElem_cons_zero, List.setIfInBounds_toArray, List.set_cons_zero, List.set_cons_succ]
      refine wpAnyH_take (i := 4) (oi := _) (v := .tuple #[.agg #[.bool PS, .slice a6 PL.length c6], .bool PB]) rfl (by kernel_rfl) (by kernel_rfl) (by kernel_rfl) (fun _ _ _ h => h) (Or.inl ⟨by rfl, ?_⟩) hHeld ?_
      · intro wq hSw
        try dsimp only at hSw
        go_simp
      try simp only [Act.put, List.getElem_toArray, List.getElem_cons_succ, List.getElem_cons_zero, List.setIfInBounds_toArray, List.set_cons_zero, List.set_cons_succ]
      refine wpAnyH_take (i := 5) (oi := _) (v := .agg #[.bool PS, .slice a6 PL.length c6]) rfl (by kernel_rfl) (by kernel_rfl) (by kernel_rfl) (fun _ _ _ h => h) (Or.inl ⟨by rfl, ?_⟩) hHeld ?_
      · intro wq hSw
        try dsimp only at hSw
        go_simp
      try simp only [Act.put, List.getElem_toArray, List.getElem_cons_succ, List.getElem_cons_zero, List.setIfInBounds_toArray, List.set_cons_zero, List.set_cons_succ]
      refine wpAnyH_take (i := 6) (oi := _) (v := .bool PB) rfl (by kernel_rfl) (by kernel_rfl) (by kernel_rfl) (fun _ _ _ h => h) (Or.inl ⟨by rfl, ?_⟩) hHeld ?_
      · intro wq hSw
        try dsimp only at hSw
        go_simp
      try simp only [Act.put, List.getElem_toArray, List.getElem_cons_succ, List.getElem_cons_zero, List.setIfInBounds_toArray, List.set_cons_zero, List.set_cons_succ]
      refine wpAnyH_ready (rs := [8]) (by kernel_rfl) (by simp) ?_
      refine AllReadyH.cons rfl (fun KK hK => ?_) AllReadyH.nil
      simp only [List.getElem_toArray, List.getElem_cons_succ, List.getElem_cons_zero]
      rw [if_pos (by rfl)]
      go_simp
      have kx := (kw.setNew (p := ⟨wd19.heap.size, 0, none⟩) (by dsimp only; omega) (.bool PS)).setNew (p := ⟨wd19.heap.size, 1, none⟩) (by dsimp only; omega) (.slice a6 PL.length c6)
      clear hHeld
      refine hK.out _ _ ?_ (fun hHeld => ?_)
      · exact ⟨kx.cell0 lca0, kx.cell0 lca1, kx.cell0 lcb0, kx.cell0 lcb1⟩
      clear hK KK
      try simp only [Act.put, List.getElem_toArray, List.getElem_cons_succ, List.getElem_cons_zero, List.setIfInBounds_toArray, List.set_cons_zero, List.set_cons_succ]
      refine wpAnyH_take (i := 9) (oi := _) (v := .bool PB) rfl (by kernel_rfl) (by kernel_rfl) (by kernel_rfl) (fun _ _ _ h => h) (Or.inl ⟨by rfl, ?_⟩) hHeld ?_
      · intro wq hSw
        try dsimp only at hSw
        go_simp
      try simp only [Act.put, List.getElem_toArray, List.getElem_cons_succ, List.getElem_cons_zero, List.setIfInBounds_toArray, List.set_cons_zero, List.set_cons_succ]
      refine wpAnyH_done (by kernel_rfl) ?_ _
      clear hHeld
      go_wp2_with fail
      go_meet
      exact ⟨_, _, rfl, rfl, law_setW PS kw x0 x1 r6 (by omega) (by omega) (by omega)⟩
  case rest =>
    clear HNEG HMUL
    obtain ⟨XP, v6, rfl, rfl, cp0, cp1, r6, hXP, hYP, kk⟩ := hcut
    replace r1 := r1.kept kk (.inr (.inr (Nat.le_refl 0)))
    replace r2 := r2.kept kk (.inr (.inr (Nat.le_refl 0)))
    replace r3 := r3.kept kk (.inr (.inr (Nat.le_refl 0)))
    replace r4 := r4.kept kk (.inr (.inr (Nat.le_refl 0)))
    replace ca0 := kk.cell0 ca0
    replace ca1 := kk.cell0 ca1
    replace cb0 := kk.cell0 cb0
    replace cb1 := kk.cell0 cb1
    replace cs0 := kk.cell0 cs0
    replace cs1 := kk.cell0 cs1
    replace ct0 := kk.cell0 ct0
    replace ct1 := kk.cell0 ct1
    replace K := hide ((unhide K).trans kk)
    have z18 := kk.size
    clear kk
    obtain ⟨a6, c6, hv⟩ := Row.form' r6
    subst hv
    go_wp2_with fail
    have mk := wMul_impl s2 s1 wc r2 r1
    obtain ⟨QB, hQB⟩ : ∃ y, ansWB (wokB s2 ys && wokB s1 xs) (wval s2 ys * wval s1 xs) = y := ⟨_, rfl⟩
    obtain ⟨QS, hQS⟩ : ∃ y, ansWS (wokB s2 ys && wokB s1 xs) (wval s2 ys * wval s1 xs) = y := ⟨_, rfl⟩
    obtain ⟨QL, hQL⟩ : ∃ y, ansWL (wokB s2 ys && wokB s1 xs) (wval s2 ys * wval s1 xs) = y := ⟨_, rfl⟩
    rw [hQB, hQS, hQL] at mk
    have HQ := hide (And.intro hQB (And.intro hQS hQL))
    clear hQB hQS hQL
    refine (mk).mono ?_
    rintro e w19 ⟨v7, rfl, r7, k19⟩
    replace r1 := r1.kept k19 (.inr (.inr (Nat.le_refl 0)))
    replace r2 := r2.kept k19 (.inr (.inr (Nat.le_refl 0)))
    replace r3 := r3.kept k19 (.inr (.inr (Nat.le_refl 0)))
    replace r4 := r4.kept k19 (.inr (.inr (Nat.le_refl 0)))
    replace r6 := r6.kept k19 (.inr (.inr (Nat.le_refl 0)))
    replace ca0 := k19.cell0 ca0
    replace ca1 := k19.cell0 ca1
    replace cb0 := k19.cell0 cb0
    replace cb1 := k19.cell0 cb1
    replace cs0 := k19.cell0 cs0
    replace cs1 := k19.cell0 cs1
    replace ct0 := k19.cell0 ct0
    replace ct1 := k19.cell0 ct1
    replace cp0 := k19.cell0 cp0
    replace cp1 := k19.cell0 cp1
    replace K := hide ((unhide K).trans k19)
    have z20 := k19.size
    clear k19
    clear mk
    obtain ⟨a7, c7, hv⟩ := Row.form' r7
    subst hv
    have kn := (Kept.refl 0 0 w19).alloc (.cells #[.bool QS, .slice a7 QL.length c7] 36)
    have cq0 : (w19.alloc (.cells #[.bool QS, .slice a7 QL.length c7] 36)).cell? ⟨w19.heap.size, 0, none⟩ = some (.bool QS) := new_cell2 _ _ _ _ _ _ (by simp) rfl
    have cq1 : (w19.alloc (.cells #[.bool QS, .slice a7 QL.length c7] 36)).cell? ⟨w19.heap.size, 1, none⟩ = some (.slice a7 QL.length c7) := new_cell2 _ _ _ _ _ _ (by simp) rfl
    have sz21 : w19.heap.size + 1 ≤ (w19.alloc (.cells #[.bool QS, .slice a7 QL.length c7] 36)).heap.size := by simp
    replace r1 := r1.kept kn (.inr (.inr (Nat.le_refl 0)))
    replace r2 := r2.kept kn (.inr (.inr (Nat.le_refl 0)))
    replace r3 := r3.kept kn (.inr (.inr (Nat.le_refl 0)))
    replace r4 := r4.kept kn (.inr (.inr (Nat.le_refl 0)))
    replace r6 := r6.kept kn (.inr (.inr (Nat.le_refl 0)))
    replace r7 := r7.kept kn (.inr (.inr (Nat.le_refl 0)))
    replace ca0 := kn.cell0 ca0
    replace ca1 := kn.cell0 ca1
    replace cb0 := kn.cell0 cb0
    replace cb1 := kn.cell0 cb1
    replace cs0 := kn.cell0 cs0
    replace cs1 := kn.cell0 cs1
    replace ct0 := kn.cell0 ct0
    replace ct1 := kn.cell0 ct1
    replace cp0 := kn.cell0 cp0
    replace cp1 := kn.cell0 cp1
    replace K := hide ((unhide K).trans kn)
    have z22 := kn.size
    clear kn
    go_wp2_with fail
    obtain ⟨Bcq, hBcq⟩ : ∃ y, w19.heap.size = y := ⟨_, rfl⟩
    generalize (w19.alloc (.cells #[.bool QS, .slice a7 QL.length c7] 36)) = wn23 at *
    clear hBcq
    have mo := wok_spec s1 wn23 r1
    refine (mo).mono ?_
    rintro e w24 ⟨rfl, k24⟩
    replace r1 := r1.kept k24 (.inr (.inr (Nat.le_refl 0)))
    replace r2 := r2.kept k24 (.inr (.inr (Nat.le_refl 0)))
    replace r3 := r3.kept k24 (.inr (.inr (Nat.le_refl 0)))
    replace r4 := r4.kept k24 (.inr (.inr (Nat.le_refl 0)))
    replace r6 := r6.kept k24 (.inr (.inr (Nat.le_refl 0)))
    replace r7 := r7.kept k24 (.inr (.inr (Nat.le_refl 0)))
    replace ca0 := k24.cell0 ca0
    replace ca1 := k24.cell0 ca1
    replace cb0 := k24.cell0 cb0
    replace cb1 := k24.cell0 cb1
    replace cs0 := k24.cell0 cs0
    replace cs1 := k24.cell0 cs1
    replace ct0 := k24.cell0 ct0
    replace ct1 := k24.cell0 ct1
    replace cp0 := k24.cell0 cp0
    replace cp1 := k24.cell0 cp1
    replace cq0 := k24.cell0 cq0
    replace cq1 := k24.cell0 cq1
    replace K := hide ((unhide K).trans k24)
    have z25 := k24.size
    clear k24
    clear mo
    cases ho1 : wokB s1 xs
    · have hs : SB = false := by rw [← (unhide HS).1, ho1]; simp [ansWB]
      subst hs
      clear ho1
      go_wp2_with fail
      have mo := wok_impl true w24 (Row.nil .i64 true 0 0 w24)
      rw [show wokB true [] = false by decide] at mo
      refine (mo).mono ?_
      rintro e w26 ⟨rfl, k26⟩
      replace r1 := r1.kept k26 (.inr (.inr (Nat.le_refl 0)))
      replace r2 := r2.kept k26 (.inr (.inr (Nat.le_refl 0)))
      replace r3 := r3.kept k26 (.inr (.inr (Nat.le_refl 0)))
      replace r4 := r4.kept k26 (.inr (.inr (Nat.le_refl 0)))
      replace r6 := r6.kept k26 (.inr (.inr (Nat.le_refl 0)))
      replace r7 := r7.kept k26 (.inr (.inr (Nat.le_refl 0)))
      replace ca0 := k26.cell0 ca0
      replace ca1 := k26.cell0 ca1
      replace cb0 := k26.cell0 cb0
      replace cb1 := k26.cell0 cb1
      replace cs0 := k26.cell0 cs0
      replace cs1 := k26.cell0 cs1
      replace ct0 := k26.cell0 ct0
      replace ct1 := k26.cell0 ct1
      replace cp0 := k26.cell0 cp0
      replace cp1 := k26.cell0 cp1
      replace cq0 := k26.cell0 cq0
      replace cq1 := k26.cell0 cq1
      replace K := hide ((unhide K).trans k26)
      have z27 := k26.size
      clear k26
      clear mo
      go_wp2_with fail
      have mo := wOf_impl (-3) (by decide) (by decide) w26
      rw [show wsg (-3) = true by decide, show wlm (-3) = [3] by decide] at mo
      refine (mo).mono ?_
      rintro e w28 ⟨ve, rfl, re, k28⟩
      replace r1 := r1.kept k28 (.inr (.inr (Nat.le_refl 0)))
      replace r2 := r2.kept k28 (.inr (.inr (Nat.le_refl 0)))
      replace r3 := r3.kept k28 (.inr (.inr (Nat.le_refl 0)))
      replace r4 := r4.kept k28 (.inr (.inr (Nat.le_refl 0)))
      replace r6 := r6.kept k28 (.inr (.inr (Nat.le_refl 0)))
      replace r7 := r7.kept k28 (.inr (.inr (Nat.le_refl 0)))
      replace ca0 := k28.cell0 ca0
      replace ca1 := k28.cell0 ca1
      replace cb0 := k28.cell0 cb0
      replace cb1 := k28.cell0 cb1
      replace cs0 := k28.cell0 cs0
      replace cs1 := k28.cell0 cs1
      replace ct0 := k28.cell0 ct0
      replace ct1 := k28.cell0 ct1
      replace cp0 := k28.cell0 cp0
      replace cp1 := k28.cell0 cp1
      replace cq0 := k28.cell0 cq0
      replace cq1 := k28.cell0 cq1
      replace K := hide ((unhide K).trans k28)
      have z29 := k28.size
      clear k28
      clear mo
      go_wp2_with fail
      have mo := wOf_impl 3 (by decide) (by decide) w28
      rw [show wsg 3 = false by decide, show wlm 3 = [3] by decide] at mo
      refine (mo).mono ?_
      rintro e w30 ⟨vf, rfl, rf, k30⟩
      replace r1 := r1.kept k30 (.inr (.inr (Nat.le_refl 0)))
      replace r2 := r2.kept k30 (.inr (.inr (Nat.le_refl 0)))
      replace r3 := r3.kept k30 (.inr (.inr (Nat.le_refl 0)))
      replace r4 := r4.kept k30 (.inr (.inr (Nat.le_refl 0)))
      replace r6 := r6.kept k30 (.inr (.inr (Nat.le_refl 0)))
      replace r7 := r7.kept k30 (.inr (.inr (Nat.le_refl 0)))
      replace re := re.kept k30 (.inr (.inr (Nat.le_refl 0)))
      replace ca0 := k30.cell0 ca0
      replace ca1 := k30.cell0 ca1
      replace cb0 := k30.cell0 cb0
      replace cb1 := k30.cell0 cb1
      replace cs0 := k30.cell0 cs0
      replace cs1 := k30.cell0 cs1
      replace ct0 := k30.cell0 ct0
      replace ct1 := k30.cell0 ct1
      replace cp0 := k30.cell0 cp0
      replace cp1 := k30.cell0 cp1
      replace cq0 := k30.cell0 cq0
      replace cq1 := k30.cell0 cq1
      replace K := hide ((unhide K).trans k30)
      have z31 := k30.size
      clear k30
      clear mo
      go_wp2_with fail
      have mo := wNeg_impl false w30 rf
      rw [show wsg (negW false [3]) = true by decide, show wlm (negW false [3]) = [3] by decide] at mo
      refine (mo).mono ?_
      rintro e w32 ⟨vg, rfl, rg, k32⟩
      replace r1 := r1.kept k32 (.inr (.inr (Nat.le_refl 0)))
      replace r2 := r2.kept k32 (.inr (.inr (Nat.le_refl 0)))
      replace r3 := r3.kept k32 (.inr (.inr (Nat.le_refl 0)))
      replace r4 := r4.kept k32 (.inr (.inr (Nat.le_refl 0)))
      replace r6 := r6.kept k32 (.inr (.inr (Nat.le_refl 0)))
      replace r7 := r7.kept k32 (.inr (.inr (Nat.le_refl 0)))
      replace re := re.kept k32 (.inr (.inr (Nat.le_refl 0)))
      replace rf := rf.kept k32 (.inr (.inr (Nat.le_refl 0)))
      replace ca0 := k32.cell0 ca0
      replace ca1 := k32.cell0 ca1
      replace cb0 := k32.cell0 cb0
      replace cb1 := k32.cell0 cb1
      replace cs0 := k32.cell0 cs0
      replace cs1 := k32.cell0 cs1
      replace ct0 := k32.cell0 ct0
      replace ct1 := k32.cell0 ct1
      replace cp0 := k32.cell0 cp0
      replace cp1 := k32.cell0 cp1
      replace cq0 := k32.cell0 cq0
      replace cq1 := k32.cell0 cq1
      replace K := hide ((unhide K).trans k32)
      have z33 := k32.size
      clear k32
      clear mo
      go_wp2_with fail
      have mo := sameWhole_same true w32 re rg
      refine (mo).mono ?_
      rintro e w34 ⟨rfl, k34⟩
      replace r1 := r1.kept k34 (.inr (.inr (Nat.le_refl 0)))
      replace r2 := r2.kept k34 (.inr (.inr (Nat.le_refl 0)))
      replace r3 := r3.kept k34 (.inr (.inr (Nat.le_refl 0)))
      replace r4 := r4.kept k34 (.inr (.inr (Nat.le_refl 0)))
      replace r6 := r6.kept k34 (.inr (.inr (Nat.le_refl 0)))
      replace r7 := r7.kept k34 (.inr (.inr (Nat.le_refl 0)))
      replace re := re.kept k34 (.inr (.inr (Nat.le_refl 0)))
      replace rf := rf.kept k34 (.inr (.inr (Nat.le_refl 0)))
      replace rg := rg.kept k34 (.inr (.inr (Nat.le_refl 0)))
      replace ca0 := k34.cell0 ca0
      replace ca1 := k34.cell0 ca1
      replace cb0 := k34.cell0 cb0
      replace cb1 := k34.cell0 cb1
      replace cs0 := k34.cell0 cs0
      replace cs1 := k34.cell0 cs1
      replace ct0 := k34.cell0 ct0
      replace ct1 := k34.cell0 ct1
      replace cp0 := k34.cell0 cp0
      replace cp1 := k34.cell0 cp1
      replace cq0 := k34.cell0 cq0
      replace cq1 := k34.cell0 cq1
      replace K := hide ((unhide K).trans k34)
      have z35 := k34.size
      clear k34
      clear mo
      go_wp2_with fail
      have mo := wOf_impl 3 (by decide) (by decide) w34
      rw [show wsg 3 = false by decide, show wlm 3 = [3] by decide] at mo
      refine (mo).mono ?_
      rintro e w36 ⟨vh, rfl, rh, k36⟩
      replace r1 := r1.kept k36 (.inr (.inr (Nat.le_refl 0)))
      replace r2 := r2.kept k36 (.inr (.inr (Nat.le_refl 0)))
      replace r3 := r3.kept k36 (.inr (.inr (Nat.le_refl 0)))
      replace r4 := r4.kept k36 (.inr (.inr (Nat.le_refl 0)))
      replace r6 := r6.kept k36 (.inr (.inr (Nat.le_refl 0)))
      replace r7 := r7.kept k36 (.inr (.inr (Nat.le_refl 0)))
      replace re := re.kept k36 (.inr (.inr (Nat.le_refl 0)))
      replace rf := rf.kept k36 (.inr (.inr (Nat.le_refl 0)))
      replace rg := rg.kept k36 (.inr (.inr (Nat.le_refl 0)))
      replace ca0 := k36.cell0 ca0
      replace ca1 := k36.cell0 ca1
      replace cb0 := k36.cell0 cb0
      replace cb1 := k36.cell0 cb1
      replace cs0 := k36.cell0 cs0
      replace cs1 := k36.cell0 cs1
      replace ct0 := k36.cell0 ct0
      replace ct1 := k36.cell0 ct1
      replace cp0 := k36.cell0 cp0
      replace cp1 := k36.cell0 cp1
      replace cq0 := k36.cell0 cq0
      replace cq1 := k36.cell0 cq1
      replace K := hide ((unhide K).trans k36)
      have z37 := k36.size
      clear k36
      clear mo
      have fld := field_a vh
      go_wp2_with fail
      have mo := nat_any w36 3 (by decide)
      rw [show limbs (3 : Int).toNat = [3] by decide] at mo
      refine (mo).mono ?_
      rintro e w38 ⟨vi, rfl, ri, k38⟩
      replace r1 := r1.kept k38 (.inr (.inr (Nat.le_refl 0)))
      replace r2 := r2.kept k38 (.inr (.inr (Nat.le_refl 0)))
      replace r3 := r3.kept k38 (.inr (.inr (Nat.le_refl 0)))
      replace r4 := r4.kept k38 (.inr (.inr (Nat.le_refl 0)))
      replace r6 := r6.kept k38 (.inr (.inr (Nat.le_refl 0)))
      replace r7 := r7.kept k38 (.inr (.inr (Nat.le_refl 0)))
      replace re := re.kept k38 (.inr (.inr (Nat.le_refl 0)))
      replace rf := rf.kept k38 (.inr (.inr (Nat.le_refl 0)))
      replace rg := rg.kept k38 (.inr (.inr (Nat.le_refl 0)))
      replace rh := rh.kept k38 (.inr (.inr (Nat.le_refl 0)))
      replace ca0 := k38.cell0 ca0
      replace ca1 := k38.cell0 ca1
      replace cb0 := k38.cell0 cb0
      replace cb1 := k38.cell0 cb1
      replace cs0 := k38.cell0 cs0
      replace cs1 := k38.cell0 cs1
      replace ct0 := k38.cell0 ct0
      replace ct1 := k38.cell0 ct1
      replace cp0 := k38.cell0 cp0
      replace cp1 := k38.cell0 cp1
      replace cq0 := k38.cell0 cq0
      replace cq1 := k38.cell0 cq1
      replace K := hide ((unhide K).trans k38)
      have z39 := k38.size
      clear k38
      clear mo
      go_wp2_with fail
      have mo := sameNat_any w38 rh ri
      rw [show sameL [3] [3] = true by decide] at mo
      refine (mo).mono ?_
      rintro e w40 ⟨rfl, k40⟩
      replace r1 := r1.kept k40 (.inr (.inr (Nat.le_refl 0)))
      replace r2 := r2.kept k40 (.inr (.inr (Nat.le_refl 0)))
      replace r3 := r3.kept k40 (.inr (.inr (Nat.le_refl 0)))
      replace r4 := r4.kept k40 (.inr (.inr (Nat.le_refl 0)))
      replace r6 := r6.kept k40 (.inr (.inr (Nat.le_refl 0)))
      replace r7 := r7.kept k40 (.inr (.inr (Nat.le_refl 0)))
      replace re := re.kept k40 (.inr (.inr (Nat.le_refl 0)))
      replace rf := rf.kept k40 (.inr (.inr (Nat.le_refl 0)))
      replace rg := rg.kept k40 (.inr (.inr (Nat.le_refl 0)))
      replace rh := rh.kept k40 (.inr (.inr (Nat.le_refl 0)))
      replace ri := ri.kept k40 (.inr (.inr (Nat.le_refl 0)))
      replace ca0 := k40.cell0 ca0
      replace ca1 := k40.cell0 ca1
      replace cb0 := k40.cell0 cb0
      replace cb1 := k40.cell0 cb1
      replace cs0 := k40.cell0 cs0
      replace cs1 := k40.cell0 cs1
      replace ct0 := k40.cell0 ct0
      replace ct1 := k40.cell0 ct1
      replace cp0 := k40.cell0 cp0
      replace cp1 := k40.cell0 cp1
      replace cq0 := k40.cell0 cq0
      replace cq1 := k40.cell0 cq1
      replace K := hide ((unhide K).trans k40)
      have z41 := k40.size
      clear k40
      clear mo
      try go_wp2_with fail
      go_ret
      exact ⟨rfl, (unhide K).toBelow⟩
    have HO1 := hide ho1
    clear ho1
    go_wp2_with fail
    have mo := wok_spec s2 w24 r2
    refine (mo).mono ?_
    rintro e w26 ⟨rfl, k26⟩
    replace r1 := r1.kept k26 (.inr (.inr (Nat.le_refl 0)))
    replace r2 := r2.kept k26 (.inr (.inr (Nat.le_refl 0)))
    replace r3 := r3.kept k26 (.inr (.inr (Nat.le_refl 0)))
    replace r4 := r4.kept k26 (.inr (.inr (Nat.le_refl 0)))
    replace r6 := r6.kept k26 (.inr (.inr (Nat.le_refl 0)))
    replace r7 := r7.kept k26 (.inr (.inr (Nat.le_refl 0)))
    replace ca0 := k26.cell0 ca0
    replace ca1 := k26.cell0 ca1
    replace cb0 := k26.cell0 cb0
    replace cb1 := k26.cell0 cb1
    replace cs0 := k26.cell0 cs0
    replace cs1 := k26.cell0 cs1
    replace ct0 := k26.cell0 ct0
    replace ct1 := k26.cell0 ct1
    replace cp0 := k26.cell0 cp0
    replace cp1 := k26.cell0 cp1
    replace cq0 := k26.cell0 cq0
    replace cq1 := k26.cell0 cq1
    replace K := hide ((unhide K).trans k26)
    have z27 := k26.size
    clear k26
    clear mo
    cases ho2 : wokB s2 ys
    · have hs : SB = false := by rw [← (unhide HS).1, ho2]; simp [ansWB]
      subst hs
      clear ho2
      go_wp2_with fail
      have mo := wok_impl true w26 (Row.nil .i64 true 0 0 w26)
      rw [show wokB true [] = false by decide] at mo
      refine (mo).mono ?_
      rintro e w28 ⟨rfl, k28⟩
      replace r1 := r1.kept k28 (.inr (.inr (Nat.le_refl 0)))
      replace r2 := r2.kept k28 (.inr (.inr (Nat.le_refl 0)))
      replace r3 := r3.kept k28 (.inr (.inr (Nat.le_refl 0)))
      replace r4 := r4.kept k28 (.inr (.inr (Nat.le_refl 0)))
      replace r6 := r6.kept k28 (.inr (.inr (Nat.le_refl 0)))
      replace r7 := r7.kept k28 (.inr (.inr (Nat.le_refl 0)))
      replace ca0 := k28.cell0 ca0
      replace ca1 := k28.cell0 ca1
      replace cb0 := k28.cell0 cb0
      replace cb1 := k28.cell0 cb1
      replace cs0 := k28.cell0 cs0
      replace cs1 := k28.cell0 cs1
      replace ct0 := k28.cell0 ct0
      replace ct1 := k28.cell0 ct1
      replace cp0 := k28.cell0 cp0
      replace cp1 := k28.cell0 cp1
      replace cq0 := k28.cell0 cq0
      replace cq1 := k28.cell0 cq1
      replace K := hide ((unhide K).trans k28)
      have z29 := k28.size
      clear k28
      clear mo
      go_wp2_with fail
      have mo := wOf_impl (-3) (by decide) (by decide) w28
      rw [show wsg (-3) = true by decide, show wlm (-3) = [3] by decide] at mo
      refine (mo).mono ?_
      rintro e w30 ⟨ve, rfl, re, k30⟩
      replace r1 := r1.kept k30 (.inr (.inr (Nat.le_refl 0)))
      replace r2 := r2.kept k30 (.inr (.inr (Nat.le_refl 0)))
      replace r3 := r3.kept k30 (.inr (.inr (Nat.le_refl 0)))
      replace r4 := r4.kept k30 (.inr (.inr (Nat.le_refl 0)))
      replace r6 := r6.kept k30 (.inr (.inr (Nat.le_refl 0)))
      replace r7 := r7.kept k30 (.inr (.inr (Nat.le_refl 0)))
      replace ca0 := k30.cell0 ca0
      replace ca1 := k30.cell0 ca1
      replace cb0 := k30.cell0 cb0
      replace cb1 := k30.cell0 cb1
      replace cs0 := k30.cell0 cs0
      replace cs1 := k30.cell0 cs1
      replace ct0 := k30.cell0 ct0
      replace ct1 := k30.cell0 ct1
      replace cp0 := k30.cell0 cp0
      replace cp1 := k30.cell0 cp1
      replace cq0 := k30.cell0 cq0
      replace cq1 := k30.cell0 cq1
      replace K := hide ((unhide K).trans k30)
      have z31 := k30.size
      clear k30
      clear mo
      go_wp2_with fail
      have mo := wOf_impl 3 (by decide) (by decide) w30
      rw [show wsg 3 = false by decide, show wlm 3 = [3] by decide] at mo
      refine (mo).mono ?_
      rintro e w32 ⟨vf, rfl, rf, k32⟩
      replace r1 := r1.kept k32 (.inr (.inr (Nat.le_refl 0)))
      replace r2 := r2.kept k32 (.inr (.inr (Nat.le_refl 0)))
      replace r3 := r3.kept k32 (.inr (.inr (Nat.le_refl 0)))
      replace r4 := r4.kept k32 (.inr (.inr (Nat.le_refl 0)))
      replace r6 := r6.kept k32 (.inr (.inr (Nat.le_refl 0)))
      replace r7 := r7.kept k32 (.inr (.inr (Nat.le_refl 0)))
      replace re := re.kept k32 (.inr (.inr (Nat.le_refl 0)))
      replace ca0 := k32.cell0 ca0
      replace ca1 := k32.cell0 ca1
      replace cb0 := k32.cell0 cb0
      replace cb1 := k32.cell0 cb1
      replace cs0 := k32.cell0 cs0
      replace cs1 := k32.cell0 cs1
      replace ct0 := k32.cell0 ct0
      replace ct1 := k32.cell0 ct1
      replace cp0 := k32.cell0 cp0
      replace cp1 := k32.cell0 cp1
      replace cq0 := k32.cell0 cq0
      replace cq1 := k32.cell0 cq1
      replace K := hide ((unhide K).trans k32)
      have z33 := k32.size
      clear k32
      clear mo
      go_wp2_with fail
      have mo := wNeg_impl false w32 rf
      rw [show wsg (negW false [3]) = true by decide, show wlm (negW false [3]) = [3] by decide] at mo
      refine (mo).mono ?_
      rintro e w34 ⟨vg, rfl, rg, k34⟩
      replace r1 := r1.kept k34 (.inr (.inr (Nat.le_refl 0)))
      replace r2 := r2.kept k34 (.inr (.inr (Nat.le_refl 0)))
      replace r3 := r3.kept k34 (.inr (.inr (Nat.le_refl 0)))
      replace r4 := r4.kept k34 (.inr (.inr (Nat.le_refl 0)))
      replace r6 := r6.kept k34 (.inr (.inr (Nat.le_refl 0)))
      replace r7 := r7.kept k34 (.inr (.inr (Nat.le_refl 0)))
      replace re := re.kept k34 (.inr (.inr (Nat.le_refl 0)))
      replace rf := rf.kept k34 (.inr (.inr (Nat.le_refl 0)))
      replace ca0 := k34.cell0 ca0
      replace ca1 := k34.cell0 ca1
      replace cb0 := k34.cell0 cb0
      replace cb1 := k34.cell0 cb1
      replace cs0 := k34.cell0 cs0
      replace cs1 := k34.cell0 cs1
      replace ct0 := k34.cell0 ct0
      replace ct1 := k34.cell0 ct1
      replace cp0 := k34.cell0 cp0
      replace cp1 := k34.cell0 cp1
      replace cq0 := k34.cell0 cq0
      replace cq1 := k34.cell0 cq1
      replace K := hide ((unhide K).trans k34)
      have z35 := k34.size
      clear k34
      clear mo
      go_wp2_with fail
      have mo := sameWhole_same true w34 re rg
      refine (mo).mono ?_
      rintro e w36 ⟨rfl, k36⟩
      replace r1 := r1.kept k36 (.inr (.inr (Nat.le_refl 0)))
      replace r2 := r2.kept k36 (.inr (.inr (Nat.le_refl 0)))
      replace r3 := r3.kept k36 (.inr (.inr (Nat.le_refl 0)))
      replace r4 := r4.kept k36 (.inr (.inr (Nat.le_refl 0)))
      replace r6 := r6.kept k36 (.inr (.inr (Nat.le_refl 0)))
      replace r7 := r7.kept k36 (.inr (.inr (Nat.le_refl 0)))
      replace re := re.kept k36 (.inr (.inr (Nat.le_refl 0)))
      replace rf := rf.kept k36 (.inr (.inr (Nat.le_refl 0)))
      replace rg := rg.kept k36 (.inr (.inr (Nat.le_refl 0)))
      replace ca0 := k36.cell0 ca0
      replace ca1 := k36.cell0 ca1
      replace cb0 := k36.cell0 cb0
      replace cb1 := k36.cell0 cb1
      replace cs0 := k36.cell0 cs0
      replace cs1 := k36.cell0 cs1
      replace ct0 := k36.cell0 ct0
      replace ct1 := k36.cell0 ct1
      replace cp0 := k36.cell0 cp0
      replace cp1 := k36.cell0 cp1
      replace cq0 := k36.cell0 cq0
      replace cq1 := k36.cell0 cq1
      replace K := hide ((unhide K).trans k36)
      have z37 := k36.size
      clear k36
      clear mo
      go_wp2_with fail
      have mo := wOf_impl 3 (by decide) (by decide) w36
      rw [show wsg 3 = false by decide, show wlm 3 = [3] by decide] at mo
      refine (mo).mono ?_
      rintro e w38 ⟨vh, rfl, rh, k38⟩
      replace r1 := r1.kept k38 (.inr (.inr (Nat.le_refl 0)))
      replace r2 := r2.kept k38 (.inr (.inr (Nat.le_refl 0)))
      replace r3 := r3.kept k38 (.inr (.inr (Nat.le_refl 0)))
      replace r4 := r4.kept k38 (.inr (.inr (Nat.le_refl 0)))
      replace r6 := r6.kept k38 (.inr (.inr (Nat.le_refl 0)))
      replace r7 := r7.kept k38 (.inr (.inr (Nat.le_refl 0)))
      replace re := re.kept k38 (.inr (.inr (Nat.le_refl 0)))
      replace rf := rf.kept k38 (.inr (.inr (Nat.le_refl 0)))
      replace rg := rg.kept k38 (.inr (.inr (Nat.le_refl 0)))
      replace ca0 := k38.cell0 ca0
      replace ca1 := k38.cell0 ca1
      replace cb0 := k38.cell0 cb0
      replace cb1 := k38.cell0 cb1
      replace cs0 := k38.cell0 cs0
      replace cs1 := k38.cell0 cs1
      replace ct0 := k38.cell0 ct0
      replace ct1 := k38.cell0 ct1
      replace cp0 := k38.cell0 cp0
      replace cp1 := k38.cell0 cp1
      replace cq0 := k38.cell0 cq0
      replace cq1 := k38.cell0 cq1
      replace K := hide ((unhide K).trans k38)
      have z39 := k38.size
      clear k38
      clear mo
      have fld := field_a vh
      go_wp2_with fail
      have mo := nat_any w38 3 (by decide)
      rw [show limbs (3 : Int).toNat = [3] by decide] at mo
      refine (mo).mono ?_
      rintro e w40 ⟨vi, rfl, ri, k40⟩
      replace r1 := r1.kept k40 (.inr (.inr (Nat.le_refl 0)))
      replace r2 := r2.kept k40 (.inr (.inr (Nat.le_refl 0)))
      replace r3 := r3.kept k40 (.inr (.inr (Nat.le_refl 0)))
      replace r4 := r4.kept k40 (.inr (.inr (Nat.le_refl 0)))
      replace r6 := r6.kept k40 (.inr (.inr (Nat.le_refl 0)))
      replace r7 := r7.kept k40 (.inr (.inr (Nat.le_refl 0)))
      replace re := re.kept k40 (.inr (.inr (Nat.le_refl 0)))
      replace rf := rf.kept k40 (.inr (.inr (Nat.le_refl 0)))
      replace rg := rg.kept k40 (.inr (.inr (Nat.le_refl 0)))
      replace rh := rh.kept k40 (.inr (.inr (Nat.le_refl 0)))
      replace ca0 := k40.cell0 ca0
      replace ca1 := k40.cell0 ca1
      replace cb0 := k40.cell0 cb0
      replace cb1 := k40.cell0 cb1
      replace cs0 := k40.cell0 cs0
      replace cs1 := k40.cell0 cs1
      replace ct0 := k40.cell0 ct0
      replace ct1 := k40.cell0 ct1
      replace cp0 := k40.cell0 cp0
      replace cp1 := k40.cell0 cp1
      replace cq0 := k40.cell0 cq0
      replace cq1 := k40.cell0 cq1
      replace K := hide ((unhide K).trans k40)
      have z41 := k40.size
      clear k40
      clear mo
      go_wp2_with fail
      have mo := sameNat_any w40 rh ri
      rw [show sameL [3] [3] = true by decide] at mo
      refine (mo).mono ?_
      rintro e w42 ⟨rfl, k42⟩
      replace r1 := r1.kept k42 (.inr (.inr (Nat.le_refl 0)))
      replace r2 := r2.kept k42 (.inr (.inr (Nat.le_refl 0)))
      replace r3 := r3.kept k42 (.inr (.inr (Nat.le_refl 0)))
      replace r4 := r4.kept k42 (.inr (.inr (Nat.le_refl 0)))
      replace r6 := r6.kept k42 (.inr (.inr (Nat.le_refl 0)))
      replace r7 := r7.kept k42 (.inr (.inr (Nat.le_refl 0)))
      replace re := re.kept k42 (.inr (.inr (Nat.le_refl 0)))
      replace rf := rf.kept k42 (.inr (.inr (Nat.le_refl 0)))
      replace rg := rg.kept k42 (.inr (.inr (Nat.le_refl 0)))
      replace rh := rh.kept k42 (.inr (.inr (Nat.le_refl 0)))
      replace ri := ri.kept k42 (.inr (.inr (Nat.le_refl 0)))
      replace ca0 := k42.cell0 ca0
      replace ca1 := k42.cell0 ca1
      replace cb0 := k42.cell0 cb0
      replace cb1 := k42.cell0 cb1
      replace cs0 := k42.cell0 cs0
      replace cs1 := k42.cell0 cs1
      replace ct0 := k42.cell0 ct0
      replace ct1 := k42.cell0 ct1
      replace cp0 := k42.cell0 cp0
      replace cp1 := k42.cell0 cp1
      replace cq0 := k42.cell0 cq0
      replace cq1 := k42.cell0 cq1
      replace K := hide ((unhide K).trans k42)
      have z43 := k42.size
      clear k42
      clear mo
      try go_wp2_with fail
      go_ret
      exact ⟨rfl, (unhide K).toBelow⟩
    have HO2 := hide ho2
    clear ho2
    go_wp2_with fail
    have mk := wSub_impl s1 s1 w26 r1 r1
    rw [(wh_zero (unhide HO1)).1, (wh_zero (unhide HO1)).2.1, (wh_zero (unhide HO1)).2.2] at mk
    refine (mk).mono ?_
    rintro e w28 ⟨v8, rfl, r8, k28⟩
    replace r1 := r1.kept k28 (.inr (.inr (Nat.le_refl 0)))
    replace r2 := r2.kept k28 (.inr (.inr (Nat.le_refl 0)))
    replace r3 := r3.kept k28 (.inr (.inr (Nat.le_refl 0)))
    replace r4 := r4.kept k28 (.inr (.inr (Nat.le_refl 0)))
    replace r6 := r6.kept k28 (.inr (.inr (Nat.le_refl 0)))
    replace r7 := r7.kept k28 (.inr (.inr (Nat.le_refl 0)))
    replace ca0 := k28.cell0 ca0
    replace ca1 := k28.cell0 ca1
    replace cb0 := k28.cell0 cb0
    replace cb1 := k28.cell0 cb1
    replace cs0 := k28.cell0 cs0
    replace cs1 := k28.cell0 cs1
    replace ct0 := k28.cell0 ct0
    replace ct1 := k28.cell0 ct1
    replace cp0 := k28.cell0 cp0
    replace cp1 := k28.cell0 cp1
    replace cq0 := k28.cell0 cq0
    replace cq1 := k28.cell0 cq1
    replace K := hide ((unhide K).trans k28)
    have z29 := k28.size
    clear k28
    clear mk
    obtain ⟨a8, c8, hv⟩ := Row.form' r8
    subst hv
    have kn := (Kept.refl 0 0 w28).alloc (.cells #[.bool false, .slice a8 0 c8] 36)
    have cz0 : (w28.alloc (.cells #[.bool false, .slice a8 0 c8] 36)).cell? ⟨w28.heap.size, 0, none⟩ = some (.bool false) := new_cell2 _ _ _ _ _ _ (by simp) rfl
    have cz1 : (w28.alloc (.cells #[.bool false, .slice a8 0 c8] 36)).cell? ⟨w28.heap.size, 1, none⟩ = some (.slice a8 0 c8) := new_cell2 _ _ _ _ _ _ (by simp) rfl
    have sz30 : w28.heap.size + 1 ≤ (w28.alloc (.cells #[.bool false, .slice a8 0 c8] 36)).heap.size := by simp
    replace r1 := r1.kept kn (.inr (.inr (Nat.le_refl 0)))
    replace r2 := r2.kept kn (.inr (.inr (Nat.le_refl 0)))
    replace r3 := r3.kept kn (.inr (.inr (Nat.le_refl 0)))
    replace r4 := r4.kept kn (.inr (.inr (Nat.le_refl 0)))
    replace r6 := r6.kept kn (.inr (.inr (Nat.le_refl 0)))
    replace r7 := r7.kept kn (.inr (.inr (Nat.le_refl 0)))
    replace r8 := r8.kept kn (.inr (.inr (Nat.le_refl 0)))
    replace ca0 := kn.cell0 ca0
    replace ca1 := kn.cell0 ca1
    replace cb0 := kn.cell0 cb0
    replace cb1 := kn.cell0 cb1
    replace cs0 := kn.cell0 cs0
    replace cs1 := kn.cell0 cs1
    replace ct0 := kn.cell0 ct0
    replace ct1 := kn.cell0 ct1
    replace cp0 := kn.cell0 cp0
    replace cp1 := kn.cell0 cp1
    replace cq0 := kn.cell0 cq0
    replace cq1 := kn.cell0 cq1
    replace K := hide ((unhide K).trans kn)
    have z31 := kn.size
    clear kn
    go_wp2_with fail
    obtain ⟨Bcz, hBcz⟩ : ∃ y, w28.heap.size = y := ⟨_, rfl⟩
    generalize (w28.alloc (.cells #[.bool false, .slice a8 0 c8] 36)) = wn32 at *
    clear hBcz
    have MF := wh_mul (unhide HO1) (unhide HO2)
    rw [(unhide HN).1, (unhide HN).2, (unhide HP).1, (unhide HP).2.1, (unhide HP).2.2, (unhide HQ).1, (unhide HQ).2.1, (unhide HQ).2.2] at MF
    obtain ⟨mf1, mf2, mf3⟩ := MF
    subst mf1
    have HM := hide (And.intro mf2 mf3)
    clear mf2 mf3
    obtain ⟨C, hc1, hc2, hc3, hc4⟩ := wh_cmp (unhide HO1) (unhide HO2)
    have HC := hide (And.intro hc1 (And.intro hc2 hc3))
    clear hc1 hc2 hc3
    have wC : IntKind.i64.wrap C = C := by rcases hc4 with h | h | h <;> subst h <;> decide
    have eC : (C == C) = true := by simp
    have eQ : (QB == QB) = true := by cases QB <;> rfl
    clear hc4
    have HC1 := hide (show ∀ (w : World) {b1 b2 : Bool} {l h l' h' : Nat} {v v' : Value} (r : Row .i64 b1 l h w v xs) (r' : Row .i64 b2 l' h' w v' ys), Calls Try.prog 24 #[.agg #[.bool s1, v], .agg #[.bool s2, v']] w fun e w' => e = .returned (.int .i64 C) ∧ Kept 0 0 w w' from by
      intro w b1 b2 l h l' h' v v' r r'
      have mk := wCmp_impl s1 s2 w r r'
      rw [(unhide HC).1] at mk
      exact mk)
    have HC2 := hide (show ∀ (w : World) {b1 b2 : Bool} {l h l' h' : Nat} {v v' : Value} (r : Row .i64 b1 l h w v ys) (r' : Row .i64 b2 l' h' w v' xs), Calls Try.prog 24 #[.agg #[.bool s2, v], .agg #[.bool s1, v']] w fun e w' => e = .returned (.int .i64 (-C)) ∧ Kept 0 0 w w' from by
      intro w b1 b2 l h l' h' v v' r r'
      have mk := wCmp_impl s2 s1 w r r'
      rw [(unhide HC).2.1] at mk
      exact mk)
    have HC3 := hide (show ∀ (w : World) {b1 b2 : Bool} {l h l' h' : Nat} {v v' : Value} (r : Row .i64 b1 l h w v (wlm (negW s1 xs))) (r' : Row .i64 b2 l' h' w v' (wlm (negW s2 ys))), Calls Try.prog 24 #[.agg #[.bool (wsg (negW s1 xs)), v], .agg #[.bool (wsg (negW s2 ys)), v']] w fun e w' => e = .returned (.int .i64 (-C)) ∧ Kept 0 0 w w' from by
      intro w b1 b2 l h l' h' v v' r r'
      have mk := wCmp_impl (wsg (negW s1 xs)) (wsg (negW s2 ys)) w r r'
      rw [(unhide HC).2.2] at mk
      exact mk)
    have HNQ := hide (show ∀ (w : World) {bw : Bool} {l h : Nat} {v : Value} (r : Row .i64 bw l h w v QL), Calls Try.prog 17 #[.agg #[.bool QS, v]] w fun e w' => ∃ v', e = .returned (.agg #[.bool PS, v']) ∧ Row .i64 true w.heap.size w'.heap.size w' v' PL ∧ Kept 0 0 w w' from by
      intro w bw l h v r
      have mk := wNeg_impl QS w r
      rw [(unhide HM).1, (unhide HM).2] at mk
      exact mk)
    have mk := wSub_impl SS s2 wn32 r3 r2
    cases hsb : SB
    · subst hsb
      obtain ⟨DB, hDB⟩ : ∃ y, ansWB (wokB SS SL && wokB s2 ys) (wval SS SL - wval s2 ys) = y := ⟨_, rfl⟩
      obtain ⟨DS, hDS⟩ : ∃ y, ansWS (wokB SS SL && wokB s2 ys) (wval SS SL - wval s2 ys) = y := ⟨_, rfl⟩
      obtain ⟨DL, hDL⟩ : ∃ y, ansWL (wokB SS SL && wokB s2 ys) (wval SS SL - wval s2 ys) = y := ⟨_, rfl⟩
      rw [hDB, hDS, hDL] at mk
      have HD := hide (And.intro hDB (And.intro hDS hDL))
      clear hDB hDS hDL
      refine (mk).mono ?_
      rintro e w33 ⟨v9, rfl, r9, k33⟩
      replace r1 := r1.kept k33 (.inr (.inr (Nat.le_refl 0)))
      replace r2 := r2.kept k33 (.inr (.inr (Nat.le_refl 0)))
      replace r3 := r3.kept k33 (.inr (.inr (Nat.le_refl 0)))
      replace r4 := r4.kept k33 (.inr (.inr (Nat.le_refl 0)))
      replace r6 := r6.kept k33 (.inr (.inr (Nat.le_refl 0)))
      replace r7 := r7.kept k33 (.inr (.inr (Nat.le_refl 0)))
      replace r8 := r8.kept k33 (.inr (.inr (Nat.le_refl 0)))
      replace ca0 := k33.cell0 ca0
      replace ca1 := k33.cell0 ca1
      replace cb0 := k33.cell0 cb0
      replace cb1 := k33.cell0 cb1
      replace cs0 := k33.cell0 cs0
      replace cs1 := k33.cell0 cs1
      replace ct0 := k33.cell0 ct0
      replace ct1 := k33.cell0 ct1
      replace cp0 := k33.cell0 cp0
      replace cp1 := k33.cell0 cp1
      replace cq0 := k33.cell0 cq0
      replace cq1 := k33.cell0 cq1
      replace cz0 := k33.cell0 cz0
      replace cz1 := k33.cell0 cz1
      replace K := hide ((unhide K).trans k33)
      have z34 := k33.size
      clear k33
      clear mk
      obtain ⟨a9, c9, hv⟩ := Row.form' r9
      subst hv
      have kn := (Kept.refl 0 0 w33).alloc (.cells #[.bool DS, .slice a9 DL.length c9] 36)
      have cd0 : (w33.alloc (.cells #[.bool DS, .slice a9 DL.length c9] 36)).cell? ⟨w33.heap.size, 0, none⟩ = some (.bool DS) := new_cell2 _ _ _ _ _ _ (by simp) rfl
      have cd1 : (w33.alloc (.cells #[.bool DS, .slice a9 DL.length c9] 36)).cell? ⟨w33.heap.size, 1, none⟩ = some (.slice a9 DL.length c9) := new_cell2 _ _ _ _ _ _ (by simp) rfl
      have sz35 : w33.heap.size + 1 ≤ (w33.alloc (.cells #[.bool DS, .slice a9 DL.length c9] 36)).heap.size := by simp
      replace r1 := r1.kept kn (.inr (.inr (Nat.le_refl 0)))
      replace r2 := r2.kept kn (.inr (.inr (Nat.le_refl 0)))
      replace r3 := r3.kept kn (.inr (.inr (Nat.le_refl 0)))
      replace r4 := r4.kept kn (.inr (.inr (Nat.le_refl 0)))
      replace r6 := r6.kept kn (.inr (.inr (Nat.le_refl 0)))
      replace r7 := r7.kept kn (.inr (.inr (Nat.le_refl 0)))
      replace r8 := r8.kept kn (.inr (.inr (Nat.le_refl 0)))
      replace r9 := r9.kept kn (.inr (.inr (Nat.le_refl 0)))
      replace ca0 := kn.cell0 ca0
      replace ca1 := kn.cell0 ca1
      replace cb0 := kn.cell0 cb0
      replace cb1 := kn.cell0 cb1
      replace cs0 := kn.cell0 cs0
      replace cs1 := kn.cell0 cs1
      replace ct0 := kn.cell0 ct0
      replace ct1 := kn.cell0 ct1
      replace cp0 := kn.cell0 cp0
      replace cp1 := kn.cell0 cp1
      replace cq0 := kn.cell0 cq0
      replace cq1 := kn.cell0 cq1
      replace cz0 := kn.cell0 cz0
      replace cz1 := kn.cell0 cz1
      replace K := hide ((unhide K).trans kn)
      have z36 := kn.size
      clear kn
      go_upto_region 10 with fail
      obtain ⟨Bcd, hBcd⟩ : ∃ y, w33.heap.size = y := ⟨_, rfl⟩
      generalize (w33.alloc (.cells #[.bool DS, .slice a9 DL.length c9] 36)) = wn37 at *
      clear hBcd
      have kd := (Kept.refl 0 0 wn37).drew
      replace r1 := r1.kept kd (.inr (.inr (Nat.le_refl 0)))
      replace r2 := r2.kept kd (.inr (.inr (Nat.le_refl 0)))
      replace r3 := r3.kept kd (.inr (.inr (Nat.le_refl 0)))
      replace r4 := r4.kept kd (.inr (.inr (Nat.le_refl 0)))
      replace r6 := r6.kept kd (.inr (.inr (Nat.le_refl 0)))
      replace r7 := r7.kept kd (.inr (.inr (Nat.le_refl 0)))
      replace r8 := r8.kept kd (.inr (.inr (Nat.le_refl 0)))
      replace r9 := r9.kept kd (.inr (.inr (Nat.le_refl 0)))
      replace ca0 := kd.cell0 ca0
      replace ca1 := kd.cell0 ca1
      replace cb0 := kd.cell0 cb0
      replace cb1 := kd.cell0 cb1
      replace cs0 := kd.cell0 cs0
      replace cs1 := kd.cell0 cs1
      replace ct0 := kd.cell0 ct0
      replace ct1 := kd.cell0 ct1
      replace cp0 := kd.cell0 cp0
      replace cp1 := kd.cell0 cp1
      replace cq0 := kd.cell0 cq0
      replace cq1 := kd.cell0 cq1
      replace cz0 := kd.cell0 cz0
      replace cz1 := kd.cell0 cz1
      replace cd0 := kd.cell0 cd0
      replace cd1 := kd.cell0 cd1
      replace K := hide ((unhide K).trans kd)
      have z38 := kd.size
      clear kd
      refine wp_region_held_drew (S := (fun w' => w'.cell? ⟨w1.heap.size, 0, none⟩ = some (.bool s1) ∧ w'.cell? ⟨w1.heap.size, 1, none⟩ = some (.slice a1 xs.length c1) ∧ w'.cell? ⟨w1.heap.size + 1, 0, none⟩ = some (.bool s2) ∧ w'.cell? ⟨w1.heap.size + 1, 1, none⟩ = some (.slice a2 ys.length c2) ∧ w'.cell? ⟨w8.heap.size, 0, none⟩ = some (.bool SS) ∧ w'.cell? ⟨w8.heap.size, 1, none⟩ = some (.slice a3 SL.length c3) ∧ w'.cell? ⟨w13.heap.size, 0, none⟩ = some (.bool SS) ∧ w'.cell? ⟨w13.heap.size, 1, none⟩ = some (.slice a4 SL.length c4) ∧ w'.cell? ⟨XP, 0, none⟩ = some (.bool PS) ∧ w'.cell? ⟨XP, 1, none⟩ = some (.slice a6 PL.length c6) ∧ w'.cell? ⟨w19.heap.size, 0, none⟩ = some (.bool QS) ∧ w'.cell? ⟨w19.heap.size, 1, none⟩ = some (.slice a7 QL.length c7) ∧ w'.cell? ⟨w28.heap.size, 1, none⟩ = some (.slice a8 0 c8))) (by kernel_rfl) ?_ (fun hHeld => ?_)
      · exact ⟨ca0, ca1, cb0, cb1, cs0, cs1, ct0, ct1, cp0, cp1, cq0, cq1, cz1⟩
      refine wpAnyH_take (i := 0) (oi := _) (v := .bool false) rfl (by kernel_rfl) (by kernel_rfl) (by kernel_rfl) (fun _ _ _ h => h) (Or.inl ⟨by rfl, ?_⟩) hHeld ?_
      · intro wq hSw
        try dsimp only at hSw
        go_simp
      try simp only [Act.put, List.getElem_toArray, List.getElem_cons_succ, List.getElem_cons_zero, List.setIfInBounds_toArray, List.set_cons_zero, List.set_cons_succ]
      refine wpAnyH_take (i := 1) (oi := _) (v := .bool false) rfl (by kernel_rfl) (by kernel_rfl) (by kernel_rfl) (fun _ _ _ h => h) (Or.inl ⟨by rfl, ?_⟩) hHeld ?_
      · intro wq hSw
        try dsimp only at hSw
        go_simp
      try simp only [Act.put, List.getElem_toArray, List.getElem_cons_succ, List.getElem_cons_zero, List.setIfInBounds_toArray, List.set_cons_zero, List.set_cons_succ]
      refine wpAnyH_take (i := 2) (oi := _) (v := .bool true) rfl (by kernel_rfl) (by kernel_rfl) (by kernel_rfl) (fun _ _ _ h => h) (Or.inl ⟨by rfl, ?_⟩) hHeld ?_
      · intro wq hSw
        try dsimp only at hSw
        go_simp
      try simp only [Act.put, List.getElem_toArray, List.getElem_cons_succ, List.getElem_cons_zero, List.setIfInBounds_toArray, List.set_cons_zero, List.set_cons_succ]
      refine wpAnyH_take (i := 3) (oi := _) (v := .bool true) rfl (by kernel_rfl) (by kernel_rfl) (by kernel_rfl) (fun _ _ _ h => h) (Or.inl ⟨by rfl, ?_⟩) hHeld ?_
      · intro wq hSw
        try dsimp only at hSw
        go_simp
      try simp only [Act.put, List.getElem_toArray, List.getElem_cons_succ, List.getElem_cons_zero, List.setIfInBounds_toArray, List.set_cons_zero, List.set_cons_succ]
      refine wpAnyH_take (i := 4) (oi := _) (v := .agg #[.bool SS, .slice a3 SL.length c3]) rfl (by kernel_rfl) (by kernel_rfl) (by kernel_rfl) (fun _ _ _ h => h) (Or.inl ⟨by rfl, ?_⟩) hHeld ?_
      · intro wq hSw
        try dsimp only at hSw
        go_simp
      try simp only [Act.put, List.getElem_toArray, List.getElem_cons_succ, List.getElem_cons_zero, List.setIfInBounds_toArray, List.set_cons_zero, List.set_cons_succ]
      refine wpAnyH_take (i := 5) (oi := _) (v := .agg #[.bool SS, .slice a4 SL.length c4]) rfl (by kernel_rfl) (by kernel_rfl) (by kernel_rfl) (fun _ _ _ h => h) (Or.inl ⟨by rfl, ?_⟩) hHeld ?_
      · intro wq hSw
        try dsimp only at hSw
        go_simp
      try simp only [Act.put, List.getElem_toArray, List.getElem_cons_succ, List.getElem_cons_zero, List.setIfInBounds_toArray, List.set_cons_zero, List.set_cons_succ]
      refine wpAnyH_ready (rs := [6]) (by kernel_rfl) (by simp) ?_
      refine AllReadyH.cons rfl (fun KK hK => ?_) AllReadyH.nil
      simp only [List.getElem_toArray, List.getElem_cons_succ, List.getElem_cons_zero]
      rw [if_pos (by rfl)]
      refine wps2 20 (.tmp 90) (.tmp 91) _ rfl in_sameWhole_c (.agg #[.bool SS, .slice a3 SL.length c3]) (.agg #[.bool SS, .slice a4 SL.length c4]) rfl rfl (sameWhole_same SS _ r3 r4) ?_
      rintro e w39 ⟨rfl, k39⟩
      refine ⟨_, rfl, ?_⟩
      replace r1 := r1.kept k39 (.inr (.inr (Nat.le_refl 0)))
      replace r2 := r2.kept k39 (.inr (.inr (Nat.le_refl 0)))
      replace r3 := r3.kept k39 (.inr (.inr (Nat.le_refl 0)))
      replace r4 := r4.kept k39 (.inr (.inr (Nat.le_refl 0)))
      replace r6 := r6.kept k39 (.inr (.inr (Nat.le_refl 0)))
      replace r7 := r7.kept k39 (.inr (.inr (Nat.le_refl 0)))
      replace r8 := r8.kept k39 (.inr (.inr (Nat.le_refl 0)))
      replace r9 := r9.kept k39 (.inr (.inr (Nat.le_refl 0)))
      replace ca0 := k39.cell0 ca0
      replace ca1 := k39.cell0 ca1
      replace cb0 := k39.cell0 cb0
      replace cb1 := k39.cell0 cb1
      replace cs0 := k39.cell0 cs0
      replace cs1 := k39.cell0 cs1
      replace ct0 := k39.cell0 ct0
      replace ct1 := k39.cell0 ct1
      replace cp0 := k39.cell0 cp0
      replace cp1 := k39.cell0 cp1
      replace cq0 := k39.cell0 cq0
      replace cq1 := k39.cell0 cq1
      replace cz0 := k39.cell0 cz0
      replace cz1 := k39.cell0 cz1
      replace cd0 := k39.cell0 cd0
      replace cd1 := k39.cell0 cd1
      replace K := hide ((unhide K).trans k39)
      have z40 := k39.size
      clear k39
      clear hHeld
      refine hK.out _ _ ?_ (fun hHeld => ?_)
      · exact ⟨ca0, ca1, cb0, cb1, cs0, cs1, ct0, ct1, cp0, cp1, cq0, cq1, cz1⟩
      clear hK KK
      try simp only [Act.put, List.getElem_toArray, List.getElem_cons_succ, List.getElem_cons_zero, List.setIfInBounds_toArray, List.set_cons_zero, List.set_cons_succ]
      refine wpAnyH_take (i := 7) (oi := _) (v := .bool true) rfl (by kernel_rfl) (by kernel_rfl) (by kernel_rfl) (fun _ _ _ h => h) (Or.inl ⟨by rfl, ?_⟩) hHeld ?_
      · intro wq hSw
        try dsimp only at hSw
        go_simp
      try simp only [Act.put, List.getElem_toArray, List.getElem_cons_succ, List.getElem_cons_zero, List.setIfInBounds_toArray, List.set_cons_zero, List.set_cons_succ]
      refine wpAnyH_take (i := 8) (oi := _) (v := .bool true) rfl (by kernel_rfl) (by kernel_rfl) (by kernel_rfl) (fun _ _ _ h => h) (Or.inl ⟨by rfl, ?_⟩) hHeld ?_
      · intro wq hSw
        try dsimp only at hSw
        go_simp
      try simp only [Act.put, List.getElem_toArray, List.getElem_cons_succ, List.getElem_cons_zero, List.setIfInBounds_toArray, List.set_cons_zero, List.set_cons_succ]
      refine wpAnyH_take (i := 9) (oi := _) (v := .bool QB) rfl (by kernel_rfl) (by kernel_rfl) (by kernel_rfl) (fun _ _ _ h => h) (Or.inl ⟨by rfl, ?_⟩) hHeld ?_
      · intro wq hSw
        try dsimp only at hSw
        go_simp
      try simp only [Act.put, List.getElem_toArray, List.getElem_cons_succ, List.getElem_cons_zero, List.setIfInBounds_toArray, List.set_cons_zero, List.set_cons_succ]
      refine wpAnyH_take (i := 10) (oi := _) (v := .bool QB) rfl (by kernel_rfl) (by kernel_rfl) (by kernel_rfl) (fun _ _ _ h => h) (Or.inl ⟨by rfl, ?_⟩) hHeld ?_
      · intro wq hSw
        try dsimp only at hSw
        go_simp
      try simp only [Act.put, List.getElem_toArray, List.getElem_cons_succ, List.getElem_cons_zero, List.setIfInBounds_toArray, List.set_cons_zero, List.set_cons_succ]
      refine wpAnyH_take (i := 11) (oi := _) (v := .bool true) rfl (by kernel_rfl) (by kernel_rfl) (by kernel_rfl) (fun _ _ _ h => h) (Or.inl ⟨by rfl, ?_⟩) hHeld ?_
      · intro wq hSw
        try dsimp only at hSw
        go_simp
      try simp only [Act.put, List.getElem_toArray, List.getElem_cons_succ, List.getElem_cons_zero, List.setIfInBounds_toArray, List.set_cons_zero, List.set_cons_succ]
      refine wpAnyH_take (i := 12) (oi := _) (v := .bool true) rfl (by kernel_rfl) (by kernel_rfl) (by kernel_rfl) (fun _ _ _ h => h) (Or.inl ⟨by rfl, ?_⟩) hHeld ?_
      · intro wq hSw
        try dsimp only at hSw
        go_simp
      try simp only [Act.put, List.getElem_toArray, List.getElem_cons_succ, List.getElem_cons_zero, List.setIfInBounds_toArray, List.set_cons_zero, List.set_cons_succ]
      refine wpAnyH_take (i := 13) (oi := _) (v := .bool true) rfl (by kernel_rfl) (by kernel_rfl) (by kernel_rfl) (fun _ _ _ h => h) (Or.inl ⟨by rfl, ?_⟩) hHeld ?_
      · intro wq hSw
        try dsimp only at hSw
        go_simp
      try simp only [Act.put, List.getElem_toArray, List.getElem_cons_succ, List.getElem_cons_zero, List.setIfInBounds_toArray, List.set_cons_zero, List.set_cons_succ]
      refine wpAnyH_take (i := 14) (oi := _) (v := .agg #[.bool PS, .slice a6 PL.length c6]) rfl (by kernel_rfl) (by kernel_rfl) (by kernel_rfl) (fun _ _ _ h => h) (Or.inl ⟨by rfl, ?_⟩) hHeld ?_
      · intro wq hSw
        try dsimp only at hSw
        go_simp
      try simp only [Act.put, List.getElem_toArray, List.getElem_cons_succ, List.getElem_cons_zero, List.setIfInBounds_toArray, List.set_cons_zero, List.set_cons_succ]
      refine wpAnyH_take (i := 15) (oi := _) (v := .agg #[.bool QS, .slice a7 QL.length c7]) rfl (by kernel_rfl) (by kernel_rfl) (by kernel_rfl) (fun _ _ _ h => h) (Or.inl ⟨by rfl, ?_⟩) hHeld ?_
      · intro wq hSw
        try dsimp only at hSw
        go_simp
      try simp only [Act.put, List.getElem_toArray, List.getElem_cons_succ, List.getElem_cons_zero, List.setIfInBounds_toArray, List.set_cons_zero, List.set_cons_succ]
      refine wpAnyH_ready (rs := [16]) (by kernel_rfl) (by simp) ?_
      refine AllReadyH.cons rfl (fun KK hK => ?_) AllReadyH.nil
      simp only [List.getElem_toArray, List.getElem_cons_succ, List.getElem_cons_zero]
      rw [if_pos (by rfl)]
      refine wps1 17 (.tmp 101) _ rfl in_WholeNeg_c (.agg #[.bool QS, .slice a7 QL.length c7]) rfl (unhide HNQ _ r7) ?_
      rintro e w41 ⟨va, rfl, ra, k41⟩
      refine ⟨_, rfl, ?_⟩
      replace r1 := r1.kept k41 (.inr (.inr (Nat.le_refl 0)))
      replace r2 := r2.kept k41 (.inr (.inr (Nat.le_refl 0)))
      replace r3 := r3.kept k41 (.inr (.inr (Nat.le_refl 0)))
      replace r4 := r4.kept k41 (.inr (.inr (Nat.le_refl 0)))
      replace r6 := r6.kept k41 (.inr (.inr (Nat.le_refl 0)))
      replace r7 := r7.kept k41 (.inr (.inr (Nat.le_refl 0)))
      replace r8 := r8.kept k41 (.inr (.inr (Nat.le_refl 0)))
      replace r9 := r9.kept k41 (.inr (.inr (Nat.le_refl 0)))
      replace ca0 := k41.cell0 ca0
      replace ca1 := k41.cell0 ca1
      replace cb0 := k41.cell0 cb0
      replace cb1 := k41.cell0 cb1
      replace cs0 := k41.cell0 cs0
      replace cs1 := k41.cell0 cs1
      replace ct0 := k41.cell0 ct0
      replace ct1 := k41.cell0 ct1
      replace cp0 := k41.cell0 cp0
      replace cp1 := k41.cell0 cp1
      replace cq0 := k41.cell0 cq0
      replace cq1 := k41.cell0 cq1
      replace cz0 := k41.cell0 cz0
      replace cz1 := k41.cell0 cz1
      replace cd0 := k41.cell0 cd0
      replace cd1 := k41.cell0 cd1
      replace K := hide ((unhide K).trans k41)
      have z42 := k41.size
      clear k41
      clear hHeld
      refine hK.out _ _ ?_ (fun hHeld => ?_)
      · exact ⟨ca0, ca1, cb0, cb1, cs0, cs1, ct0, ct1, cp0, cp1, cq0, cq1, cz1⟩
      clear hK KK
      try simp only [Act.put, List.getElem_toArray, List.getElem_cons_succ, List.getElem_cons_zero, List.setIfInBounds_toArray, List.set_cons_zero, List.set_cons_succ]
      obtain ⟨aa, da, hv⟩ := Row.form' ra
      subst hv
      refine wpAnyH_ready (rs := [17]) (by kernel_rfl) (by simp) ?_
      refine AllReadyH.cons rfl (fun KK hK => ?_) AllReadyH.nil
      simp only [List.getElem_toArray, List.getElem_cons_succ, List.getElem_cons_zero]
      rw [if_pos (by rfl)]
      refine wps2 20 (.tmp 100) (.tmp 102) _ rfl in_sameWhole_c (.agg #[.bool PS, .slice a6 PL.length c6]) (.agg #[.bool PS, .slice aa PL.length da]) rfl rfl (sameWhole_same PS _ r6 ra) ?_
      rintro e w43 ⟨rfl, k43⟩
      refine ⟨_, rfl, ?_⟩
      replace r1 := r1.kept k43 (.inr (.inr (Nat.le_refl 0)))
      replace r2 := r2.kept k43 (.inr (.inr (Nat.le_refl 0)))
      replace r3 := r3.kept k43 (.inr (.inr (Nat.le_refl 0)))
      replace r4 := r4.kept k43 (.inr (.inr (Nat.le_refl 0)))
      replace r6 := r6.kept k43 (.inr (.inr (Nat.le_refl 0)))
      replace r7 := r7.kept k43 (.inr (.inr (Nat.le_refl 0)))
      replace r8 := r8.kept k43 (.inr (.inr (Nat.le_refl 0)))
      replace r9 := r9.kept k43 (.inr (.inr (Nat.le_refl 0)))
      replace ra := ra.kept k43 (.inr (.inr (Nat.le_refl 0)))
      replace ca0 := k43.cell0 ca0
      replace ca1 := k43.cell0 ca1
      replace cb0 := k43.cell0 cb0
      replace cb1 := k43.cell0 cb1
      replace cs0 := k43.cell0 cs0
      replace cs1 := k43.cell0 cs1
      replace ct0 := k43.cell0 ct0
      replace ct1 := k43.cell0 ct1
      replace cp0 := k43.cell0 cp0
      replace cp1 := k43.cell0 cp1
      replace cq0 := k43.cell0 cq0
      replace cq1 := k43.cell0 cq1
      replace cz0 := k43.cell0 cz0
      replace cz1 := k43.cell0 cz1
      replace cd0 := k43.cell0 cd0
      replace cd1 := k43.cell0 cd1
      replace K := hide ((unhide K).trans k43)
      have z44 := k43.size
      clear k43
      clear hHeld
      refine hK.out _ _ ?_ (fun hHeld => ?_)
      · exact ⟨ca0, ca1, cb0, cb1, cs0, cs1, ct0, ct1, cp0, cp1, cq0, cq1, cz1⟩
      clear hK KK
      try simp only [Act.put, List.getElem_toArray, List.getElem_cons_succ, List.getElem_cons_zero, List.setIfInBounds_toArray, List.set_cons_zero, List.set_cons_succ]
      refine wpAnyH_take (i := 18) (oi := _) (v := .bool true) rfl (by kernel_rfl) (by kernel_rfl) (by kernel_rfl) (fun _ _ _ h => h) (Or.inl ⟨by rfl, ?_⟩) hHeld ?_
      · intro wq hSw
        try dsimp only at hSw
        go_simp
      try simp only [Act.put, List.getElem_toArray, List.getElem_cons_succ, List.getElem_cons_zero, List.setIfInBounds_toArray, List.set_cons_zero, List.set_cons_succ]
      refine wpAnyH_take (i := 19) (oi := _) (v := .bool true) rfl (by kernel_rfl) (by kernel_rfl) (by kernel_rfl) (fun _ _ _ h => h) (Or.inl ⟨by rfl, ?_⟩) hHeld ?_
      · intro wq hSw
        try dsimp only at hSw
        go_simp
      try simp only [Act.put, List.getElem_toArray, List.getElem_cons_succ, List.getElem_cons_zero, List.setIfInBounds_toArray, List.set_cons_zero, List.set_cons_succ]
      refine wpAnyH_take (i := 20) (oi := _) (v := .bool true) rfl (by kernel_rfl) (by kernel_rfl) (by kernel_rfl) (fun _ _ _ h => h) (Or.inl ⟨by rfl, ?_⟩) hHeld ?_
      · intro wq hSw
        try dsimp only at hSw
        go_simp
      try simp only [Act.put, List.getElem_toArray, List.getElem_cons_succ, List.getElem_cons_zero, List.setIfInBounds_toArray, List.set_cons_zero, List.set_cons_succ]
      refine wpAnyH_take (i := 21) (oi := _) (v := .bool true) rfl (by kernel_rfl) (by kernel_rfl) (by kernel_rfl) (fun _ _ _ h => h) (Or.inl ⟨by rfl, ?_⟩) hHeld ?_
      · intro wq hSw
        try dsimp only at hSw
        go_simp
      try simp only [Act.put, List.getElem_toArray, List.getElem_cons_succ, List.getElem_cons_zero, List.setIfInBounds_toArray, List.set_cons_zero, List.set_cons_succ]
      refine wpAnyH_take (i := 22) (oi := _) (v := .bool true) rfl (by kernel_rfl) (by kernel_rfl) (by kernel_rfl) (fun _ _ _ h => h) (Or.inl ⟨by rfl, ?_⟩) hHeld ?_
      · intro wq hSw
        try dsimp only at hSw
        go_simp
      try simp only [Act.put, List.getElem_toArray, List.getElem_cons_succ, List.getElem_cons_zero, List.setIfInBounds_toArray, List.set_cons_zero, List.set_cons_succ]
      refine wpAnyH_take (i := 23) (oi := _) (v := .pointer (some ⟨w28.heap.size, 1, none⟩)) rfl (by kernel_rfl) (by kernel_rfl) (by kernel_rfl) (fun _ _ _ h => h) (Or.inl ⟨by rfl, ?_⟩) hHeld ?_
      · intro wq hSw
        try dsimp only at hSw
        go_simp
      try simp only [Act.put, List.getElem_toArray, List.getElem_cons_succ, List.getElem_cons_zero, List.setIfInBounds_toArray, List.set_cons_zero, List.set_cons_succ]
      refine wpAnyH_take (i := 24) (oi := _) (v := .pointer (some ⟨w28.heap.size, 1, none⟩)) rfl (by kernel_rfl) (by kernel_rfl) (by kernel_rfl) (fun _ _ _ h => h) (Or.inl ⟨by rfl, ?_⟩) hHeld ?_
      · intro wq hSw
        try dsimp only at hSw
        go_simp
      try simp only [Act.put, List.getElem_toArray, List.getElem_cons_succ, List.getElem_cons_zero, List.setIfInBounds_toArray, List.set_cons_zero, List.set_cons_succ]
      refine wpAnyH_take (i := 25) (oi := _) (v := .slice a8 0 c8) rfl (by kernel_rfl) (by kernel_rfl) (by kernel_rfl) (fun _ _ _ h => h) (Or.inl ⟨by rfl, ?_⟩) hHeld ?_
      · intro wq hSw
        try dsimp only at hSw
        go_simp
      try simp only [Act.put, List.getElem_toArray, List.getElem_cons_succ, List.getElem_cons_zero, List.setIfInBounds_toArray, List.set_cons_zero, List.set_cons_succ]
      refine wpAnyH_take (i := 26) (oi := _) (v := .int .i64 0) rfl (by kernel_rfl) (by kernel_rfl) (by kernel_rfl) (fun _ _ _ h => h) (Or.inl ⟨by rfl, ?_⟩) hHeld ?_
      · intro wq hSw
        try dsimp only at hSw
        go_simp
      try simp only [Act.put, List.getElem_toArray, List.getElem_cons_succ, List.getElem_cons_zero, List.setIfInBounds_toArray, List.set_cons_zero, List.set_cons_succ]
      refine wpAnyH_take (i := 27) (oi := _) (v := .bool true) rfl (by kernel_rfl) (by kernel_rfl) (by kernel_rfl) (fun _ _ _ h => h) (Or.inl ⟨by rfl, ?_⟩) hHeld ?_
      · intro wq hSw
        try dsimp only at hSw
        go_simp
      try simp only [Act.put, List.getElem_toArray, List.getElem_cons_succ, List.getElem_cons_zero, List.setIfInBounds_toArray, List.set_cons_zero, List.set_cons_succ]
      refine wpAnyH_take (i := 28) (oi := _) (v := .bool true) rfl (by kernel_rfl) (by kernel_rfl) (by kernel_rfl) (fun _ _ _ h => h) (Or.inl ⟨by rfl, ?_⟩) hHeld ?_
      · intro wq hSw
        try dsimp only at hSw
        go_simp
      try simp only [Act.put, List.getElem_toArray, List.getElem_cons_succ, List.getElem_cons_zero, List.setIfInBounds_toArray, List.set_cons_zero, List.set_cons_succ]
      refine wpAnyH_take (i := 29) (oi := _) (v := .bool true) rfl (by kernel_rfl) (by kernel_rfl) (by kernel_rfl) (fun _ _ _ h => h) (Or.inl ⟨by rfl, ?_⟩) hHeld ?_
      · intro wq hSw
        try dsimp only at hSw
        go_simp
      try simp only [Act.put, List.getElem_toArray, List.getElem_cons_succ, List.getElem_cons_zero, List.setIfInBounds_toArray, List.set_cons_zero, List.set_cons_succ]
      refine wpAnyH_take (i := 30) (oi := _) (v := .bool false) rfl (by kernel_rfl) (by kernel_rfl) (by kernel_rfl) (fun _ _ _ h => h) (Or.inl ⟨by rfl, ?_⟩) hHeld ?_
      · intro wq hSw
        try dsimp only at hSw
        go_simp
      try simp only [Act.put, List.getElem_toArray, List.getElem_cons_succ, List.getElem_cons_zero, List.setIfInBounds_toArray, List.set_cons_zero, List.set_cons_succ]
      refine wpAnyH_take (i := 31) (oi := _) (v := .bool true) rfl (by kernel_rfl) (by kernel_rfl) (by kernel_rfl) (fun _ _ _ h => h) (Or.inl ⟨by rfl, ?_⟩) hHeld ?_
      · intro wq hSw
        try dsimp only at hSw
        go_simp
      try simp only [Act.put, List.getElem_toArray, List.getElem_cons_succ, List.getElem_cons_zero, List.setIfInBounds_toArray, List.set_cons_zero, List.set_cons_succ]
      refine wpAnyH_take (i := 32) (oi := _) (v := .bool true) rfl (by kernel_rfl) (by kernel_rfl) (by kernel_rfl) (fun _ _ _ h => h) (Or.inl ⟨by rfl, ?_⟩) hHeld ?_
      · intro wq hSw
        try dsimp only at hSw
        go_simp
      try simp only [Act.put, List.getElem_toArray, List.getElem_cons_succ, List.getElem_cons_zero, List.setIfInBounds_toArray, List.set_cons_zero, List.set_cons_succ]
      refine wpAnyH_take (i := 33) (v := undef) rfl (by kernel_rfl) (by kernel_rfl) (by kernel_rfl) (fun _ _ _ h => h) (Or.inr ⟨by rfl, rfl⟩) hHeld ?_
      try simp only [Act.put, List.getElem_toArray, List.getElem_cons_succ, List.getElem_cons_zero, List.setIfInBounds_toArray, List.set_cons_zero, List.set_cons_succ]
      refine wpAnyH_take (i := 34) (v := undef) rfl (by kernel_rfl) (by kernel_rfl) (by kernel_rfl) (fun _ _ _ h => h) (Or.inr ⟨by rfl, rfl⟩) hHeld ?_
      try simp only [Act.put, List.getElem_toArray, List.getElem_cons_succ, List.getElem_cons_zero, List.setIfInBounds_toArray, List.set_cons_zero, List.set_cons_succ]
      refine wpAnyH_take (i := 35) (v := undef) rfl (by kernel_rfl) (by kernel_rfl) (by kernel_rfl) (fun _ _ _ h => h) (Or.inr ⟨by rfl, rfl⟩) hHeld ?_
      try simp only [Act.put, List.getElem_toArray, List.getElem_cons_succ, List.getElem_cons_zero, List.setIfInBounds_toArray, List.set_cons_zero, List.set_cons_succ]
      refine wpAnyH_take (i := 36) (v := undef) rfl (by kernel_rfl) (by kernel_rfl) (by kernel_rfl) (fun _ _ _ h => h) (Or.inr ⟨by rfl, rfl⟩) hHeld ?_
      try simp only [Act.put, List.getElem_toArray, List.getElem_cons_succ, List.getElem_cons_zero, List.setIfInBounds_toArray, List.set_cons_zero, List.set_cons_succ]
      refine wpAnyH_take (i := 37) (v := undef) rfl (by kernel_rfl) (by kernel_rfl) (by kernel_rfl) (fun _ _ _ h => h) (Or.inr ⟨by rfl, rfl⟩) hHeld ?_
      try simp only [Act.put, List.getElem_toArray, List.getElem_cons_succ, List.getElem_cons_zero, List.setIfInBounds_toArray, List.set_cons_zero, List.set_cons_succ]
      refine wpAnyH_take (i := 38) (v := undef) rfl (by kernel_rfl) (by kernel_rfl) (by kernel_rfl) (fun _ _ _ h => h) (Or.inr ⟨by rfl, rfl⟩) hHeld ?_
      try simp only [Act.put, List.getElem_toArray, List.getElem_cons_succ, List.getElem_cons_zero, List.setIfInBounds_toArray, List.set_cons_zero, List.set_cons_succ]
      refine wpAnyH_take (i := 39) (oi := _) (v := .bool true) rfl (by kernel_rfl) (by kernel_rfl) (by kernel_rfl) (fun _ _ _ h => h) (Or.inl ⟨by rfl, ?_⟩) hHeld ?_
      · intro wq hSw
        try dsimp only at hSw
        go_simp
      try simp only [Act.put, List.getElem_toArray, List.getElem_cons_succ, List.getElem_cons_zero, List.setIfInBounds_toArray, List.set_cons_zero, List.set_cons_succ]
      refine wpAnyH_take (i := 40) (oi := _) (v := .bool true) rfl (by kernel_rfl) (by kernel_rfl) (by kernel_rfl) (fun _ _ _ h => h) (Or.inl ⟨by rfl, ?_⟩) hHeld ?_
      · intro wq hSw
        try dsimp only at hSw
        go_simp
      try simp only [Act.put, List.getElem_toArray, List.getElem_cons_succ, List.getElem_cons_zero, List.setIfInBounds_toArray, List.set_cons_zero, List.set_cons_succ]
      refine wpAnyH_take (i := 41) (oi := _) (v := .bool true) rfl (by kernel_rfl) (by kernel_rfl) (by kernel_rfl) (fun _ _ _ h => h) (Or.inl ⟨by rfl, ?_⟩) hHeld ?_
      · intro wq hSw
        try dsimp only at hSw
        go_simp
      try simp only [Act.put, List.getElem_toArray, List.getElem_cons_succ, List.getElem_cons_zero, List.setIfInBounds_toArray, List.set_cons_zero, List.set_cons_succ]
      refine wpAnyH_take (i := 42) (oi := _) (v := .agg #[.bool s1, .slice a1 xs.length c1]) rfl (by kernel_rfl) (by kernel_rfl) (by kernel_rfl) (fun _ _ _ h => h) (Or.inl ⟨by rfl, ?_⟩) hHeld ?_
      · intro wq hSw
        try dsimp only at hSw
        go_simp
      try simp only [Act.put, List.getElem_toArray, List.getElem_cons_succ, List.getElem_cons_zero, List.setIfInBounds_toArray, List.set_cons_zero, List.set_cons_succ]
      refine wpAnyH_take (i := 43) (oi := _) (v := .agg #[.bool s2, .slice a2 ys.length c2]) rfl (by kernel_rfl) (by kernel_rfl) (by kernel_rfl) (fun _ _ _ h => h) (Or.inl ⟨by rfl, ?_⟩) hHeld ?_
      · intro wq hSw
        try dsimp only at hSw
        go_simp
      try simp only [Act.put, List.getElem_toArray, List.getElem_cons_succ, List.getElem_cons_zero, List.setIfInBounds_toArray, List.set_cons_zero, List.set_cons_succ]
      refine wpAnyH_take (i := 45) (oi := _) (v := .agg #[.bool s2, .slice a2 ys.length c2]) rfl (by kernel_rfl) (by kernel_rfl) (by kernel_rfl) (fun _ _ _ h => h) (Or.inl ⟨by rfl, ?_⟩) hHeld ?_
      · intro wq hSw
        try dsimp only at hSw
        go_simp
      try simp only [Act.put, List.getElem_toArray, List.getElem_cons_succ, List.getElem_cons_zero, List.setIfInBounds_toArray, List.set_cons_zero, List.set_cons_succ]
      refine wpAnyH_take (i := 46) (oi := _) (v := .agg #[.bool s1, .slice a1 xs.length c1]) rfl (by kernel_rfl) (by kernel_rfl) (by kernel_rfl) (fun _ _ _ h => h) (Or.inl ⟨by rfl, ?_⟩) hHeld ?_
      · intro wq hSw
        try dsimp only at hSw
        go_simp
      try simp only [Act.put, List.getElem_toArray, List.getElem_cons_succ, List.getElem_cons_zero, List.setIfInBounds_toArray, List.set_cons_zero, List.set_cons_succ]
      refine wpAnyH_ready (rs := [44]) (by kernel_rfl) (by simp) ?_
      refine AllReadyH.cons rfl (fun KK hK => ?_) AllReadyH.nil
      simp only [List.getElem_toArray, List.getElem_cons_succ, List.getElem_cons_zero]
      rw [if_pos (by rfl)]
      refine wps2 24 (.tmp 128) (.tmp 129) _ rfl in_WholeCmp_c (.agg #[.bool s1, .slice a1 xs.length c1]) (.agg #[.bool s2, .slice a2 ys.length c2]) rfl rfl (unhide HC1 _ r1 r2) ?_
      rintro e w45 ⟨rfl, k45⟩
      refine ⟨_, rfl, ?_⟩
      replace r1 := r1.kept k45 (.inr (.inr (Nat.le_refl 0)))
      replace r2 := r2.kept k45 (.inr (.inr (Nat.le_refl 0)))
      replace r3 := r3.kept k45 (.inr (.inr (Nat.le_refl 0)))
      replace r4 := r4.kept k45 (.inr (.inr (Nat.le_refl 0)))
      replace r6 := r6.kept k45 (.inr (.inr (Nat.le_refl 0)))
      replace r7 := r7.kept k45 (.inr (.inr (Nat.le_refl 0)))
      replace r8 := r8.kept k45 (.inr (.inr (Nat.le_refl 0)))
      replace r9 := r9.kept k45 (.inr (.inr (Nat.le_refl 0)))
      replace ra := ra.kept k45 (.inr (.inr (Nat.le_refl 0)))
      replace ca0 := k45.cell0 ca0
      replace ca1 := k45.cell0 ca1
      replace cb0 := k45.cell0 cb0
      replace cb1 := k45.cell0 cb1
      replace cs0 := k45.cell0 cs0
      replace cs1 := k45.cell0 cs1
      replace ct0 := k45.cell0 ct0
      replace ct1 := k45.cell0 ct1
      replace cp0 := k45.cell0 cp0
      replace cp1 := k45.cell0 cp1
      replace cq0 := k45.cell0 cq0
      replace cq1 := k45.cell0 cq1
      replace cz0 := k45.cell0 cz0
      replace cz1 := k45.cell0 cz1
      replace cd0 := k45.cell0 cd0
      replace cd1 := k45.cell0 cd1
      replace K := hide ((unhide K).trans k45)
      have z46 := k45.size
      clear k45
      clear hHeld
      refine hK.out _ _ ?_ (fun hHeld => ?_)
      · exact ⟨ca0, ca1, cb0, cb1, cs0, cs1, ct0, ct1, cp0, cp1, cq0, cq1, cz1⟩
      clear hK KK
      try simp only [Act.put, List.getElem_toArray, List.getElem_cons_succ, List.getElem_cons_zero, List.setIfInBounds_toArray, List.set_cons_zero, List.set_cons_succ]
      refine wpAnyH_ready (rs := [47]) (by kernel_rfl) (by simp) ?_
      refine AllReadyH.cons rfl (fun KK hK => ?_) AllReadyH.nil
      simp only [List.getElem_toArray, List.getElem_cons_succ, List.getElem_cons_zero]
      rw [if_pos (by rfl)]
      refine wps2 24 (.tmp 131) (.tmp 132) _ rfl in_WholeCmp_c (.agg #[.bool s2, .slice a2 ys.length c2]) (.agg #[.bool s1, .slice a1 xs.length c1]) rfl rfl (unhide HC2 _ r2 r1) ?_
      rintro e w47 ⟨rfl, k47⟩
      refine ⟨_, rfl, ?_⟩
      replace r1 := r1.kept k47 (.inr (.inr (Nat.le_refl 0)))
      replace r2 := r2.kept k47 (.inr (.inr (Nat.le_refl 0)))
      replace r3 := r3.kept k47 (.inr (.inr (Nat.le_refl 0)))
      replace r4 := r4.kept k47 (.inr (.inr (Nat.le_refl 0)))
      replace r6 := r6.kept k47 (.inr (.inr (Nat.le_refl 0)))
      replace r7 := r7.kept k47 (.inr (.inr (Nat.le_refl 0)))
      replace r8 := r8.kept k47 (.inr (.inr (Nat.le_refl 0)))
      replace r9 := r9.kept k47 (.inr (.inr (Nat.le_refl 0)))
      replace ra := ra.kept k47 (.inr (.inr (Nat.le_refl 0)))
      replace ca0 := k47.cell0 ca0
      replace ca1 := k47.cell0 ca1
      replace cb0 := k47.cell0 cb0
      replace cb1 := k47.cell0 cb1
      replace cs0 := k47.cell0 cs0
      replace cs1 := k47.cell0 cs1
      replace ct0 := k47.cell0 ct0
      replace ct1 := k47.cell0 ct1
      replace cp0 := k47.cell0 cp0
      replace cp1 := k47.cell0 cp1
      replace cq0 := k47.cell0 cq0
      replace cq1 := k47.cell0 cq1
      replace cz0 := k47.cell0 cz0
      replace cz1 := k47.cell0 cz1
      replace cd0 := k47.cell0 cd0
      replace cd1 := k47.cell0 cd1
      replace K := hide ((unhide K).trans k47)
      have z48 := k47.size
      clear k47
      clear hHeld
      refine hK.out _ _ ?_ (fun hHeld => ?_)
      · exact ⟨ca0, ca1, cb0, cb1, cs0, cs1, ct0, ct1, cp0, cp1, cq0, cq1, cz1⟩
      clear hK KK
      try simp only [Act.put, List.getElem_toArray, List.getElem_cons_succ, List.getElem_cons_zero, List.setIfInBounds_toArray, List.set_cons_zero, List.set_cons_succ]
      refine wpAnyH_take (i := 48) (oi := _) (v := .int .i64 C) rfl (by kernel_rfl) (by kernel_rfl) (by kernel_rfl) (fun _ _ _ h => h) (Or.inl ⟨by rfl, ?_⟩) hHeld ?_
      · intro wq hSw
        try dsimp only at hSw
        go_simp
      try simp only [Act.put, List.getElem_toArray, List.getElem_cons_succ, List.getElem_cons_zero, List.setIfInBounds_toArray, List.set_cons_zero, List.set_cons_succ]
      refine wpAnyH_take (i := 49) (oi := _) (v := .bool true) rfl (by kernel_rfl) (by kernel_rfl) (by kernel_rfl) (fun _ _ _ h => h) (Or.inl ⟨by rfl, ?_⟩) hHeld ?_
      · intro wq hSw
        try dsimp only at hSw
        go_simp
      try simp only [Act.put, List.getElem_toArray, List.getElem_cons_succ, List.getElem_cons_zero, List.setIfInBounds_toArray, List.set_cons_zero, List.set_cons_succ]
      refine wpAnyH_take (i := 50) (oi := _) (v := .bool true) rfl (by kernel_rfl) (by kernel_rfl) (by kernel_rfl) (fun _ _ _ h => h) (Or.inl ⟨by rfl, ?_⟩) hHeld ?_
      · intro wq hSw
        try dsimp only at hSw
        go_simp
      try simp only [Act.put, List.getElem_toArray, List.getElem_cons_succ, List.getElem_cons_zero, List.setIfInBounds_toArray, List.set_cons_zero, List.set_cons_succ]
      refine wpAnyH_take (i := 51) (oi := _) (v := .bool true) rfl (by kernel_rfl) (by kernel_rfl) (by kernel_rfl) (fun _ _ _ h => h) (Or.inl ⟨by rfl, ?_⟩) hHeld ?_
      · intro wq hSw
        try dsimp only at hSw
        go_simp
      try simp only [Act.put, List.getElem_toArray, List.getElem_cons_succ, List.getElem_cons_zero, List.setIfInBounds_toArray, List.set_cons_zero, List.set_cons_succ]
      refine wpAnyH_take (i := 52) (oi := _) (v := .agg #[.bool s1, .slice a1 xs.length c1]) rfl (by kernel_rfl) (by kernel_rfl) (by kernel_rfl) (fun _ _ _ h => h) (Or.inl ⟨by rfl, ?_⟩) hHeld ?_
      · intro wq hSw
        try dsimp only at hSw
        go_simp
      try simp only [Act.put, List.getElem_toArray, List.getElem_cons_succ, List.getElem_cons_zero, List.setIfInBounds_toArray, List.set_cons_zero, List.set_cons_succ]
      refine wpAnyH_take (i := 53) (oi := _) (v := .agg #[.bool s2, .slice a2 ys.length c2]) rfl (by kernel_rfl) (by kernel_rfl) (by kernel_rfl) (fun _ _ _ h => h) (Or.inl ⟨by rfl, ?_⟩) hHeld ?_
      · intro wq hSw
        try dsimp only at hSw
        go_simp
      try simp only [Act.put, List.getElem_toArray, List.getElem_cons_succ, List.getElem_cons_zero, List.setIfInBounds_toArray, List.set_cons_zero, List.set_cons_succ]
      refine wpAnyH_take (i := 55) (oi := _) (v := .agg #[.bool s1, .slice a1 xs.length c1]) rfl (by kernel_rfl) (by kernel_rfl) (by kernel_rfl) (fun _ _ _ h => h) (Or.inl ⟨by rfl, ?_⟩) hHeld ?_
      · intro wq hSw
        try dsimp only at hSw
        go_simp
      try simp only [Act.put, List.getElem_toArray, List.getElem_cons_succ, List.getElem_cons_zero, List.setIfInBounds_toArray, List.set_cons_zero, List.set_cons_succ]
      refine wpAnyH_take (i := 57) (oi := _) (v := .agg #[.bool s2, .slice a2 ys.length c2]) rfl (by kernel_rfl) (by kernel_rfl) (by kernel_rfl) (fun _ _ _ h => h) (Or.inl ⟨by rfl, ?_⟩) hHeld ?_
      · intro wq hSw
        try dsimp only at hSw
        go_simp
      try simp only [Act.put, List.getElem_toArray, List.getElem_cons_succ, List.getElem_cons_zero, List.setIfInBounds_toArray, List.set_cons_zero, List.set_cons_succ]
      refine wpAnyH_ready (rs := [54]) (by kernel_rfl) (by simp) ?_
      refine AllReadyH.cons rfl (fun KK hK => ?_) AllReadyH.nil
      simp only [List.getElem_toArray, List.getElem_cons_succ, List.getElem_cons_zero]
      rw [if_pos (by rfl)]
      refine wps2 24 (.tmp 138) (.tmp 139) _ rfl in_WholeCmp_c (.agg #[.bool s1, .slice a1 xs.length c1]) (.agg #[.bool s2, .slice a2 ys.length c2]) rfl rfl (unhide HC1 _ r1 r2) ?_
      rintro e w49 ⟨rfl, k49⟩
      refine ⟨_, rfl, ?_⟩
      replace r1 := r1.kept k49 (.inr (.inr (Nat.le_refl 0)))
      replace r2 := r2.kept k49 (.inr (.inr (Nat.le_refl 0)))
      replace r3 := r3.kept k49 (.inr (.inr (Nat.le_refl 0)))
      replace r4 := r4.kept k49 (.inr (.inr (Nat.le_refl 0)))
      replace r6 := r6.kept k49 (.inr (.inr (Nat.le_refl 0)))
      replace r7 := r7.kept k49 (.inr (.inr (Nat.le_refl 0)))
      replace r8 := r8.kept k49 (.inr (.inr (Nat.le_refl 0)))
      replace r9 := r9.kept k49 (.inr (.inr (Nat.le_refl 0)))
      replace ra := ra.kept k49 (.inr (.inr (Nat.le_refl 0)))
      replace ca0 := k49.cell0 ca0
      replace ca1 := k49.cell0 ca1
      replace cb0 := k49.cell0 cb0
      replace cb1 := k49.cell0 cb1
      replace cs0 := k49.cell0 cs0
      replace cs1 := k49.cell0 cs1
      replace ct0 := k49.cell0 ct0
      replace ct1 := k49.cell0 ct1
      replace cp0 := k49.cell0 cp0
      replace cp1 := k49.cell0 cp1
      replace cq0 := k49.cell0 cq0
      replace cq1 := k49.cell0 cq1
      replace cz0 := k49.cell0 cz0
      replace cz1 := k49.cell0 cz1
      replace cd0 := k49.cell0 cd0
      replace cd1 := k49.cell0 cd1
      replace K := hide ((unhide K).trans k49)
      have z50 := k49.size
      clear k49
      clear hHeld
      refine hK.out _ _ ?_ (fun hHeld => ?_)
      · exact ⟨ca0, ca1, cb0, cb1, cs0, cs1, ct0, ct1, cp0, cp1, cq0, cq1, cz1⟩
      clear hK KK
      try simp only [Act.put, List.getElem_toArray, List.getElem_cons_succ, List.getElem_cons_zero, List.setIfInBounds_toArray, List.set_cons_zero, List.set_cons_succ]
      refine wpAnyH_ready (rs := [56]) (by kernel_rfl) (by simp) ?_
      refine AllReadyH.cons rfl (fun KK hK => ?_) AllReadyH.nil
      simp only [List.getElem_toArray, List.getElem_cons_succ, List.getElem_cons_zero]
      rw [if_pos (by rfl)]
      refine wps1 17 (.tmp 141) _ rfl in_WholeNeg_c (.agg #[.bool s1, .slice a1 xs.length c1]) rfl (wNeg_impl s1 _ r1) ?_
      rintro e w51 ⟨vm, rfl, rm, k51⟩
      refine ⟨_, rfl, ?_⟩
      replace r1 := r1.kept k51 (.inr (.inr (Nat.le_refl 0)))
      replace r2 := r2.kept k51 (.inr (.inr (Nat.le_refl 0)))
      replace r3 := r3.kept k51 (.inr (.inr (Nat.le_refl 0)))
      replace r4 := r4.kept k51 (.inr (.inr (Nat.le_refl 0)))
      replace r6 := r6.kept k51 (.inr (.inr (Nat.le_refl 0)))
      replace r7 := r7.kept k51 (.inr (.inr (Nat.le_refl 0)))
      replace r8 := r8.kept k51 (.inr (.inr (Nat.le_refl 0)))
      replace r9 := r9.kept k51 (.inr (.inr (Nat.le_refl 0)))
      replace ra := ra.kept k51 (.inr (.inr (Nat.le_refl 0)))
      replace ca0 := k51.cell0 ca0
      replace ca1 := k51.cell0 ca1
      replace cb0 := k51.cell0 cb0
      replace cb1 := k51.cell0 cb1
      replace cs0 := k51.cell0 cs0
      replace cs1 := k51.cell0 cs1
      replace ct0 := k51.cell0 ct0
      replace ct1 := k51.cell0 ct1
      replace cp0 := k51.cell0 cp0
      replace cp1 := k51.cell0 cp1
      replace cq0 := k51.cell0 cq0
      replace cq1 := k51.cell0 cq1
      replace cz0 := k51.cell0 cz0
      replace cz1 := k51.cell0 cz1
      replace cd0 := k51.cell0 cd0
      replace cd1 := k51.cell0 cd1
      replace K := hide ((unhide K).trans k51)
      have z52 := k51.size
      clear k51
      clear hHeld
      refine hK.out _ _ ?_ (fun hHeld => ?_)
      · exact ⟨ca0, ca1, cb0, cb1, cs0, cs1, ct0, ct1, cp0, cp1, cq0, cq1, cz1⟩
      clear hK KK
      try simp only [Act.put, List.getElem_toArray, List.getElem_cons_succ, List.getElem_cons_zero, List.setIfInBounds_toArray, List.set_cons_zero, List.set_cons_succ]
      obtain ⟨am, dm, hv⟩ := Row.form' rm
      subst hv
      refine wpAnyH_ready (rs := [58]) (by kernel_rfl) (by simp) ?_
      refine AllReadyH.cons rfl (fun KK hK => ?_) AllReadyH.nil
      simp only [List.getElem_toArray, List.getElem_cons_succ, List.getElem_cons_zero]
      rw [if_pos (by rfl)]
      refine wps1 17 (.tmp 143) _ rfl in_WholeNeg_c (.agg #[.bool s2, .slice a2 ys.length c2]) rfl (wNeg_impl s2 _ r2) ?_
      rintro e w53 ⟨vn, rfl, rn, k53⟩
      refine ⟨_, rfl, ?_⟩
      replace r1 := r1.kept k53 (.inr (.inr (Nat.le_refl 0)))
      replace r2 := r2.kept k53 (.inr (.inr (Nat.le_refl 0)))
      replace r3 := r3.kept k53 (.inr (.inr (Nat.le_refl 0)))
      replace r4 := r4.kept k53 (.inr (.inr (Nat.le_refl 0)))
      replace r6 := r6.kept k53 (.inr (.inr (Nat.le_refl 0)))
      replace r7 := r7.kept k53 (.inr (.inr (Nat.le_refl 0)))
      replace r8 := r8.kept k53 (.inr (.inr (Nat.le_refl 0)))
      replace r9 := r9.kept k53 (.inr (.inr (Nat.le_refl 0)))
      replace ra := ra.kept k53 (.inr (.inr (Nat.le_refl 0)))
      replace rm := rm.kept k53 (.inr (.inr (Nat.le_refl 0)))
      replace ca0 := k53.cell0 ca0
      replace ca1 := k53.cell0 ca1
      replace cb0 := k53.cell0 cb0
      replace cb1 := k53.cell0 cb1
      replace cs0 := k53.cell0 cs0
      replace cs1 := k53.cell0 cs1
      replace ct0 := k53.cell0 ct0
      replace ct1 := k53.cell0 ct1
      replace cp0 := k53.cell0 cp0
      replace cp1 := k53.cell0 cp1
      replace cq0 := k53.cell0 cq0
      replace cq1 := k53.cell0 cq1
      replace cz0 := k53.cell0 cz0
      replace cz1 := k53.cell0 cz1
      replace cd0 := k53.cell0 cd0
      replace cd1 := k53.cell0 cd1
      replace K := hide ((unhide K).trans k53)
      have z54 := k53.size
      clear k53
      clear hHeld
      refine hK.out _ _ ?_ (fun hHeld => ?_)
      · exact ⟨ca0, ca1, cb0, cb1, cs0, cs1, ct0, ct1, cp0, cp1, cq0, cq1, cz1⟩
      clear hK KK
      try simp only [Act.put, List.getElem_toArray, List.getElem_cons_succ, List.getElem_cons_zero, List.setIfInBounds_toArray, List.set_cons_zero, List.set_cons_succ]
      obtain ⟨an, dn, hv⟩ := Row.form' rn
      subst hv
      refine wpAnyH_ready (rs := [59]) (by kernel_rfl) (by simp) ?_
      refine AllReadyH.cons rfl (fun KK hK => ?_) AllReadyH.nil
      simp only [List.getElem_toArray, List.getElem_cons_succ, List.getElem_cons_zero]
      rw [if_pos (by rfl)]
      refine wps2 24 (.tmp 142) (.tmp 144) _ rfl in_WholeCmp_c (.agg #[.bool (wsg (negW s1 xs)), .slice am (wlm (negW s1 xs)).length dm]) (.agg #[.bool (wsg (negW s2 ys)), .slice an (wlm (negW s2 ys)).length dn]) rfl rfl (unhide HC3 _ rm rn) ?_
      rintro e w55 ⟨rfl, k55⟩
      refine ⟨_, rfl, ?_⟩
      replace r1 := r1.kept k55 (.inr (.inr (Nat.le_refl 0)))
      replace r2 := r2.kept k55 (.inr (.inr (Nat.le_refl 0)))
      replace r3 := r3.kept k55 (.inr (.inr (Nat.le_refl 0)))
      replace r4 := r4.kept k55 (.inr (.inr (Nat.le_refl 0)))
      replace r6 := r6.kept k55 (.inr (.inr (Nat.le_refl 0)))
      replace r7 := r7.kept k55 (.inr (.inr (Nat.le_refl 0)))
      replace r8 := r8.kept k55 (.inr (.inr (Nat.le_refl 0)))
      replace r9 := r9.kept k55 (.inr (.inr (Nat.le_refl 0)))
      replace ra := ra.kept k55 (.inr (.inr (Nat.le_refl 0)))
      replace rm := rm.kept k55 (.inr (.inr (Nat.le_refl 0)))
      replace rn := rn.kept k55 (.inr (.inr (Nat.le_refl 0)))
      replace ca0 := k55.cell0 ca0
      replace ca1 := k55.cell0 ca1
      replace cb0 := k55.cell0 cb0
      replace cb1 := k55.cell0 cb1
      replace cs0 := k55.cell0 cs0
      replace cs1 := k55.cell0 cs1
      replace ct0 := k55.cell0 ct0
      replace ct1 := k55.cell0 ct1
      replace cp0 := k55.cell0 cp0
      replace cp1 := k55.cell0 cp1
      replace cq0 := k55.cell0 cq0
      replace cq1 := k55.cell0 cq1
      replace cz0 := k55.cell0 cz0
      replace cz1 := k55.cell0 cz1
      replace cd0 := k55.cell0 cd0
      replace cd1 := k55.cell0 cd1
      replace K := hide ((unhide K).trans k55)
      have z56 := k55.size
      clear k55
      clear hHeld
      refine hK.out _ _ ?_ (fun hHeld => ?_)
      · exact ⟨ca0, ca1, cb0, cb1, cs0, cs1, ct0, ct1, cp0, cp1, cq0, cq1, cz1⟩
      clear hK KK
      try simp only [Act.put, List.getElem_toArray, List.getElem_cons_succ, List.getElem_cons_zero, List.setIfInBounds_toArray, List.set_cons_zero, List.set_cons_succ]
      refine wpAnyH_take (i := 60) (oi := _) (v := .int .i64 C) rfl (by kernel_rfl) (by kernel_rfl) (by kernel_rfl) (fun _ _ _ h => h) (Or.inl ⟨by rfl, ?_⟩) hHeld ?_
      · intro wq hSw
        try dsimp only at hSw
        go_simp
      try simp only [Act.put, List.getElem_toArray, List.getElem_cons_succ, List.getElem_cons_zero, List.setIfInBounds_toArray, List.set_cons_zero, List.set_cons_succ]
      refine wpAnyH_take (i := 61) (oi := _) (v := .bool true) rfl (by kernel_rfl) (by kernel_rfl) (by kernel_rfl) (fun _ _ _ h => h) (Or.inl ⟨by rfl, ?_⟩) hHeld ?_
      · intro wq hSw
        try dsimp only at hSw
        go_simp
      try simp only [Act.put, List.getElem_toArray, List.getElem_cons_succ, List.getElem_cons_zero, List.setIfInBounds_toArray, List.set_cons_zero, List.set_cons_succ]
      refine wpAnyH_take (i := 62) (oi := _) (v := .bool true) rfl (by kernel_rfl) (by kernel_rfl) (by kernel_rfl) (fun _ _ _ h => h) (Or.inl ⟨by rfl, ?_⟩) hHeld ?_
      · intro wq hSw
        try dsimp only at hSw
        go_simp
      try simp only [Act.put, List.getElem_toArray, List.getElem_cons_succ, List.getElem_cons_zero, List.setIfInBounds_toArray, List.set_cons_zero, List.set_cons_succ]
      refine wpAnyH_take (i := 63) (oi := _) (v := .bool true) rfl (by kernel_rfl) (by kernel_rfl) (by kernel_rfl) (fun _ _ _ h => h) (Or.inl ⟨by rfl, ?_⟩) hHeld ?_
      · intro wq hSw
        try dsimp only at hSw
        go_simp
      try simp only [Act.put, List.getElem_toArray, List.getElem_cons_succ, List.getElem_cons_zero, List.setIfInBounds_toArray, List.set_cons_zero, List.set_cons_succ]
      refine wpAnyH_done (by kernel_rfl) ?_ _
      clear hHeld
      try go_wp2_with fail
      go_ret
      exact ⟨rfl, (unhide K).toBelow⟩
    subst hsb
    have RS := wh_sub (unhide HO1) (unhide HO2) (unhide HS).1 (unhide HS).2.1 (unhide HS).2.2
    rw [RS.1, RS.2.1, RS.2.2] at mk
    clear RS
    refine (mk).mono ?_
    rintro e w33 ⟨v9, rfl, r9, k33⟩
    replace r1 := r1.kept k33 (.inr (.inr (Nat.le_refl 0)))
    replace r2 := r2.kept k33 (.inr (.inr (Nat.le_refl 0)))
    replace r3 := r3.kept k33 (.inr (.inr (Nat.le_refl 0)))
    replace r4 := r4.kept k33 (.inr (.inr (Nat.le_refl 0)))
    replace r6 := r6.kept k33 (.inr (.inr (Nat.le_refl 0)))
    replace r7 := r7.kept k33 (.inr (.inr (Nat.le_refl 0)))
    replace r8 := r8.kept k33 (.inr (.inr (Nat.le_refl 0)))
    replace ca0 := k33.cell0 ca0
    replace ca1 := k33.cell0 ca1
    replace cb0 := k33.cell0 cb0
    replace cb1 := k33.cell0 cb1
    replace cs0 := k33.cell0 cs0
    replace cs1 := k33.cell0 cs1
    replace ct0 := k33.cell0 ct0
    replace ct1 := k33.cell0 ct1
    replace cp0 := k33.cell0 cp0
    replace cp1 := k33.cell0 cp1
    replace cq0 := k33.cell0 cq0
    replace cq1 := k33.cell0 cq1
    replace cz0 := k33.cell0 cz0
    replace cz1 := k33.cell0 cz1
    replace K := hide ((unhide K).trans k33)
    have z34 := k33.size
    clear k33
    clear mk
    obtain ⟨a9, c9, hv⟩ := Row.form' r9
    subst hv
    have kn := (Kept.refl 0 0 w33).alloc (.cells #[.bool s1, .slice a9 xs.length c9] 36)
    have cd0 : (w33.alloc (.cells #[.bool s1, .slice a9 xs.length c9] 36)).cell? ⟨w33.heap.size, 0, none⟩ = some (.bool s1) := new_cell2 _ _ _ _ _ _ (by simp) rfl
    have cd1 : (w33.alloc (.cells #[.bool s1, .slice a9 xs.length c9] 36)).cell? ⟨w33.heap.size, 1, none⟩ = some (.slice a9 xs.length c9) := new_cell2 _ _ _ _ _ _ (by simp) rfl
    have sz35 : w33.heap.size + 1 ≤ (w33.alloc (.cells #[.bool s1, .slice a9 xs.length c9] 36)).heap.size := by simp
    replace r1 := r1.kept kn (.inr (.inr (Nat.le_refl 0)))
    replace r2 := r2.kept kn (.inr (.inr (Nat.le_refl 0)))
    replace r3 := r3.kept kn (.inr (.inr (Nat.le_refl 0)))
    replace r4 := r4.kept kn (.inr (.inr (Nat.le_refl 0)))
    replace r6 := r6.kept kn (.inr (.inr (Nat.le_refl 0)))
    replace r7 := r7.kept kn (.inr (.inr (Nat.le_refl 0)))
    replace r8 := r8.kept kn (.inr (.inr (Nat.le_refl 0)))
    replace r9 := r9.kept kn (.inr (.inr (Nat.le_refl 0)))
    replace ca0 := kn.cell0 ca0
    replace ca1 := kn.cell0 ca1
    replace cb0 := kn.cell0 cb0
    replace cb1 := kn.cell0 cb1
    replace cs0 := kn.cell0 cs0
    replace cs1 := kn.cell0 cs1
    replace ct0 := kn.cell0 ct0
    replace ct1 := kn.cell0 ct1
    replace cp0 := kn.cell0 cp0
    replace cp1 := kn.cell0 cp1
    replace cq0 := kn.cell0 cq0
    replace cq1 := kn.cell0 cq1
    replace cz0 := kn.cell0 cz0
    replace cz1 := kn.cell0 cz1
    replace K := hide ((unhide K).trans kn)
    have z36 := kn.size
    clear kn
    go_upto_region 10 with fail
    obtain ⟨Bcd, hBcd⟩ : ∃ y, w33.heap.size = y := ⟨_, rfl⟩
    generalize (w33.alloc (.cells #[.bool s1, .slice a9 xs.length c9] 36)) = wn37 at *
    clear hBcd
    have kd := (Kept.refl 0 0 wn37).drew
    replace r1 := r1.kept kd (.inr (.inr (Nat.le_refl 0)))
    replace r2 := r2.kept kd (.inr (.inr (Nat.le_refl 0)))
    replace r3 := r3.kept kd (.inr (.inr (Nat.le_refl 0)))
    replace r4 := r4.kept kd (.inr (.inr (Nat.le_refl 0)))
    replace r6 := r6.kept kd (.inr (.inr (Nat.le_refl 0)))
    replace r7 := r7.kept kd (.inr (.inr (Nat.le_refl 0)))
    replace r8 := r8.kept kd (.inr (.inr (Nat.le_refl 0)))
    replace r9 := r9.kept kd (.inr (.inr (Nat.le_refl 0)))
    replace ca0 := kd.cell0 ca0
    replace ca1 := kd.cell0 ca1
    replace cb0 := kd.cell0 cb0
    replace cb1 := kd.cell0 cb1
    replace cs0 := kd.cell0 cs0
    replace cs1 := kd.cell0 cs1
    replace ct0 := kd.cell0 ct0
    replace ct1 := kd.cell0 ct1
    replace cp0 := kd.cell0 cp0
    replace cp1 := kd.cell0 cp1
    replace cq0 := kd.cell0 cq0
    replace cq1 := kd.cell0 cq1
    replace cz0 := kd.cell0 cz0
    replace cz1 := kd.cell0 cz1
    replace cd0 := kd.cell0 cd0
    replace cd1 := kd.cell0 cd1
    replace K := hide ((unhide K).trans kd)
    have z38 := kd.size
    clear kd
    refine wp_region_held_drew (S := (fun w' => w'.cell? ⟨w1.heap.size, 0, none⟩ = some (.bool s1) ∧ w'.cell? ⟨w1.heap.size, 1, none⟩ = some (.slice a1 xs.length c1) ∧ w'.cell? ⟨w1.heap.size + 1, 0, none⟩ = some (.bool s2) ∧ w'.cell? ⟨w1.heap.size + 1, 1, none⟩ = some (.slice a2 ys.length c2) ∧ w'.cell? ⟨w8.heap.size, 0, none⟩ = some (.bool SS) ∧ w'.cell? ⟨w8.heap.size, 1, none⟩ = some (.slice a3 SL.length c3) ∧ w'.cell? ⟨w13.heap.size, 0, none⟩ = some (.bool SS) ∧ w'.cell? ⟨w13.heap.size, 1, none⟩ = some (.slice a4 SL.length c4) ∧ w'.cell? ⟨XP, 0, none⟩ = some (.bool PS) ∧ w'.cell? ⟨XP, 1, none⟩ = some (.slice a6 PL.length c6) ∧ w'.cell? ⟨w19.heap.size, 0, none⟩ = some (.bool QS) ∧ w'.cell? ⟨w19.heap.size, 1, none⟩ = some (.slice a7 QL.length c7) ∧ w'.cell? ⟨w28.heap.size, 1, none⟩ = some (.slice a8 0 c8) ∧ w'.cell? ⟨w33.heap.size, 0, none⟩ = some (.bool s1) ∧ w'.cell? ⟨w33.heap.size, 1, none⟩ = some (.slice a9 xs.length c9))) (by kernel_rfl) ?_ (fun hHeld => ?_)
    · exact ⟨ca0, ca1, cb0, cb1, cs0, cs1, ct0, ct1, cp0, cp1, cq0, cq1, cz1, cd0, cd1⟩
    refine wpAnyH_take (i := 0) (oi := _) (v := .bool true) rfl (by kernel_rfl) (by kernel_rfl) (by kernel_rfl) (fun _ _ _ h => h) (Or.inl ⟨by rfl, ?_⟩) hHeld ?_
    · intro wq hSw
      try dsimp only at hSw
      go_simp
    try simp only [Act.put, List.getElem_toArray, List.getElem_cons_succ, List.getElem_cons_zero, List.setIfInBounds_toArray, List.set_cons_zero, List.set_cons_succ]
    refine wpAnyH_take (i := 1) (oi := _) (v := .bool true) rfl (by kernel_rfl) (by kernel_rfl) (by kernel_rfl) (fun _ _ _ h => h) (Or.inl ⟨by rfl, ?_⟩) hHeld ?_
    · intro wq hSw
      try dsimp only at hSw
      go_simp
    try simp only [Act.put, List.getElem_toArray, List.getElem_cons_succ, List.getElem_cons_zero, List.setIfInBounds_toArray, List.set_cons_zero, List.set_cons_succ]
    refine wpAnyH_take (i := 2) (oi := _) (v := .bool true) rfl (by kernel_rfl) (by kernel_rfl) (by kernel_rfl) (fun _ _ _ h => h) (Or.inl ⟨by rfl, ?_⟩) hHeld ?_
    · intro wq hSw
      try dsimp only at hSw
      go_simp
    try simp only [Act.put, List.getElem_toArray, List.getElem_cons_succ, List.getElem_cons_zero, List.setIfInBounds_toArray, List.set_cons_zero, List.set_cons_succ]
    refine wpAnyH_take (i := 3) (oi := _) (v := .bool true) rfl (by kernel_rfl) (by kernel_rfl) (by kernel_rfl) (fun _ _ _ h => h) (Or.inl ⟨by rfl, ?_⟩) hHeld ?_
    · intro wq hSw
      try dsimp only at hSw
      go_simp
    try simp only [Act.put, List.getElem_toArray, List.getElem_cons_succ, List.getElem_cons_zero, List.setIfInBounds_toArray, List.set_cons_zero, List.set_cons_succ]
    refine wpAnyH_take (i := 4) (oi := _) (v := .agg #[.bool SS, .slice a3 SL.length c3]) rfl (by kernel_rfl) (by kernel_rfl) (by kernel_rfl) (fun _ _ _ h => h) (Or.inl ⟨by rfl, ?_⟩) hHeld ?_
    · intro wq hSw
      try dsimp only at hSw
      go_simp
    try simp only [Act.put, List.getElem_toArray, List.getElem_cons_succ, List.getElem_cons_zero, List.setIfInBounds_toArray, List.set_cons_zero, List.set_cons_succ]
    refine wpAnyH_take (i := 5) (oi := _) (v := .agg #[.bool SS, .slice a4 SL.length c4]) rfl (by kernel_rfl) (by kernel_rfl) (by kernel_rfl) (fun _ _ _ h => h) (Or.inl ⟨by rfl, ?_⟩) hHeld ?_
    · intro wq hSw
      try dsimp only at hSw
      go_simp
    try simp only [Act.put, List.getElem_toArray, List.getElem_cons_succ, List.getElem_cons_zero, List.setIfInBounds_toArray, List.set_cons_zero, List.set_cons_succ]
    refine wpAnyH_ready (rs := [6]) (by kernel_rfl) (by simp) ?_
    refine AllReadyH.cons rfl (fun KK hK => ?_) AllReadyH.nil
    simp only [List.getElem_toArray, List.getElem_cons_succ, List.getElem_cons_zero]
    rw [if_pos (by rfl)]
    refine wps2 20 (.tmp 90) (.tmp 91) _ rfl in_sameWhole_c (.agg #[.bool SS, .slice a3 SL.length c3]) (.agg #[.bool SS, .slice a4 SL.length c4]) rfl rfl (sameWhole_same SS _ r3 r4) ?_
    rintro e w39 ⟨rfl, k39⟩
    refine ⟨_, rfl, ?_⟩
    replace r1 := r1.kept k39 (.inr (.inr (Nat.le_refl 0)))
    replace r2 := r2.kept k39 (.inr (.inr (Nat.le_refl 0)))
    replace r3 := r3.kept k39 (.inr (.inr (Nat.le_refl 0)))
    replace r4 := r4.kept k39 (.inr (.inr (Nat.le_refl 0)))
    replace r6 := r6.kept k39 (.inr (.inr (Nat.le_refl 0)))
    replace r7 := r7.kept k39 (.inr (.inr (Nat.le_refl 0)))
    replace r8 := r8.kept k39 (.inr (.inr (Nat.le_refl 0)))
    replace r9 := r9.kept k39 (.inr (.inr (Nat.le_refl 0)))
    replace ca0 := k39.cell0 ca0
    replace ca1 := k39.cell0 ca1
    replace cb0 := k39.cell0 cb0
    replace cb1 := k39.cell0 cb1
    replace cs0 := k39.cell0 cs0
    replace cs1 := k39.cell0 cs1
    replace ct0 := k39.cell0 ct0
    replace ct1 := k39.cell0 ct1
    replace cp0 := k39.cell0 cp0
    replace cp1 := k39.cell0 cp1
    replace cq0 := k39.cell0 cq0
    replace cq1 := k39.cell0 cq1
    replace cz0 := k39.cell0 cz0
    replace cz1 := k39.cell0 cz1
    replace cd0 := k39.cell0 cd0
    replace cd1 := k39.cell0 cd1
    replace K := hide ((unhide K).trans k39)
    have z40 := k39.size
    clear k39
    clear hHeld
    refine hK.out _ _ ?_ (fun hHeld => ?_)
    · exact ⟨ca0, ca1, cb0, cb1, cs0, cs1, ct0, ct1, cp0, cp1, cq0, cq1, cz1, cd0, cd1⟩
    clear hK KK
    try simp only [Act.put, List.getElem_toArray, List.getElem_cons_succ, List.getElem_cons_zero, List.setIfInBounds_toArray, List.set_cons_zero, List.set_cons_succ]
    refine wpAnyH_take (i := 7) (oi := _) (v := .bool true) rfl (by kernel_rfl) (by kernel_rfl) (by kernel_rfl) (fun _ _ _ h => h) (Or.inl ⟨by rfl, ?_⟩) hHeld ?_
    · intro wq hSw
      try dsimp only at hSw
      go_simp
    try simp only [Act.put, List.getElem_toArray, List.getElem_cons_succ, List.getElem_cons_zero, List.setIfInBounds_toArray, List.set_cons_zero, List.set_cons_succ]
    refine wpAnyH_take (i := 8) (oi := _) (v := .bool true) rfl (by kernel_rfl) (by kernel_rfl) (by kernel_rfl) (fun _ _ _ h => h) (Or.inl ⟨by rfl, ?_⟩) hHeld ?_
    · intro wq hSw
      try dsimp only at hSw
      go_simp
    try simp only [Act.put, List.getElem_toArray, List.getElem_cons_succ, List.getElem_cons_zero, List.setIfInBounds_toArray, List.set_cons_zero, List.set_cons_succ]
    refine wpAnyH_take (i := 9) (oi := _) (v := .bool QB) rfl (by kernel_rfl) (by kernel_rfl) (by kernel_rfl) (fun _ _ _ h => h) (Or.inl ⟨by rfl, ?_⟩) hHeld ?_
    · intro wq hSw
      try dsimp only at hSw
      go_simp
    try simp only [Act.put, List.getElem_toArray, List.getElem_cons_succ, List.getElem_cons_zero, List.setIfInBounds_toArray, List.set_cons_zero, List.set_cons_succ]
    refine wpAnyH_take (i := 10) (oi := _) (v := .bool QB) rfl (by kernel_rfl) (by kernel_rfl) (by kernel_rfl) (fun _ _ _ h => h) (Or.inl ⟨by rfl, ?_⟩) hHeld ?_
    · intro wq hSw
      try dsimp only at hSw
      go_simp
    try simp only [Act.put, List.getElem_toArray, List.getElem_cons_succ, List.getElem_cons_zero, List.setIfInBounds_toArray, List.set_cons_zero, List.set_cons_succ]
    refine wpAnyH_take (i := 11) (oi := _) (v := .bool true) rfl (by kernel_rfl) (by kernel_rfl) (by kernel_rfl) (fun _ _ _ h => h) (Or.inl ⟨by rfl, ?_⟩) hHeld ?_
    · intro wq hSw
      try dsimp only at hSw
      go_simp
    try simp only [Act.put, List.getElem_toArray, List.getElem_cons_succ, List.getElem_cons_zero, List.setIfInBounds_toArray, List.set_cons_zero, List.set_cons_succ]
    refine wpAnyH_take (i := 12) (oi := _) (v := .bool true) rfl (by kernel_rfl) (by kernel_rfl) (by kernel_rfl) (fun _ _ _ h => h) (Or.inl ⟨by rfl, ?_⟩) hHeld ?_
    · intro wq hSw
      try dsimp only at hSw
      go_simp
    try simp only [Act.put, List.getElem_toArray, List.getElem_cons_succ, List.getElem_cons_zero, List.setIfInBounds_toArray, List.set_cons_zero, List.set_cons_succ]
    refine wpAnyH_take (i := 13) (oi := _) (v := .bool true) rfl (by kernel_rfl) (by kernel_rfl) (by kernel_rfl) (fun _ _ _ h => h) (Or.inl ⟨by rfl, ?_⟩) hHeld ?_
    · intro wq hSw
      try dsimp only at hSw
      go_simp
    try simp only [Act.put, List.getElem_toArray, List.getElem_cons_succ, List.getElem_cons_zero, List.setIfInBounds_toArray, List.set_cons_zero, List.set_cons_succ]
    refine wpAnyH_take (i := 14) (oi := _) (v := .agg #[.bool PS, .slice a6 PL.length c6]) rfl (by kernel_rfl) (by kernel_rfl) (by kernel_rfl) (fun _ _ _ h => h) (Or.inl ⟨by rfl, ?_⟩) hHeld ?_
    · intro wq hSw
      try dsimp only at hSw
      go_simp
    try simp only [Act.put, List.getElem_toArray, List.getElem_cons_succ, List.getElem_cons_zero, List.setIfInBounds_toArray, List.set_cons_zero, List.set_cons_succ]
    refine wpAnyH_take (i := 15) (oi := _) (v := .agg #[.bool QS, .slice a7 QL.length c7]) rfl (by kernel_rfl) (by kernel_rfl) (by kernel_rfl) (fun _ _ _ h => h) (Or.inl ⟨by rfl, ?_⟩) hHeld ?_
    · intro wq hSw
      try dsimp only at hSw
      go_simp
    try simp only [Act.put, List.getElem_toArray, List.getElem_cons_succ, List.getElem_cons_zero, List.setIfInBounds_toArray, List.set_cons_zero, List.set_cons_succ]
    refine wpAnyH_ready (rs := [16]) (by kernel_rfl) (by simp) ?_
    refine AllReadyH.cons rfl (fun KK hK => ?_) AllReadyH.nil
    simp only [List.getElem_toArray, List.getElem_cons_succ, List.getElem_cons_zero]
    rw [if_pos (by rfl)]
    refine wps1 17 (.tmp 101) _ rfl in_WholeNeg_c (.agg #[.bool QS, .slice a7 QL.length c7]) rfl (unhide HNQ _ r7) ?_
    rintro e w41 ⟨va, rfl, ra, k41⟩
    refine ⟨_, rfl, ?_⟩
    replace r1 := r1.kept k41 (.inr (.inr (Nat.le_refl 0)))
    replace r2 := r2.kept k41 (.inr (.inr (Nat.le_refl 0)))
    replace r3 := r3.kept k41 (.inr (.inr (Nat.le_refl 0)))
    replace r4 := r4.kept k41 (.inr (.inr (Nat.le_refl 0)))
    replace r6 := r6.kept k41 (.inr (.inr (Nat.le_refl 0)))
    replace r7 := r7.kept k41 (.inr (.inr (Nat.le_refl 0)))
    replace r8 := r8.kept k41 (.inr (.inr (Nat.le_refl 0)))
    replace r9 := r9.kept k41 (.inr (.inr (Nat.le_refl 0)))
    replace ca0 := k41.cell0 ca0
    replace ca1 := k41.cell0 ca1
    replace cb0 := k41.cell0 cb0
    replace cb1 := k41.cell0 cb1
    replace cs0 := k41.cell0 cs0
    replace cs1 := k41.cell0 cs1
    replace ct0 := k41.cell0 ct0
    replace ct1 := k41.cell0 ct1
    replace cp0 := k41.cell0 cp0
    replace cp1 := k41.cell0 cp1
    replace cq0 := k41.cell0 cq0
    replace cq1 := k41.cell0 cq1
    replace cz0 := k41.cell0 cz0
    replace cz1 := k41.cell0 cz1
    replace cd0 := k41.cell0 cd0
    replace cd1 := k41.cell0 cd1
    replace K := hide ((unhide K).trans k41)
    have z42 := k41.size
    clear k41
    clear hHeld
    refine hK.out _ _ ?_ (fun hHeld => ?_)
    · exact ⟨ca0, ca1, cb0, cb1, cs0, cs1, ct0, ct1, cp0, cp1, cq0, cq1, cz1, cd0, cd1⟩
    clear hK KK
    try simp only [Act.put, List.getElem_toArray, List.getElem_cons_succ, List.getElem_cons_zero, List.setIfInBounds_toArray, List.set_cons_zero, List.set_cons_succ]
    obtain ⟨aa, da, hv⟩ := Row.form' ra
    subst hv
    refine wpAnyH_ready (rs := [17]) (by kernel_rfl) (by simp) ?_
    refine AllReadyH.cons rfl (fun KK hK => ?_) AllReadyH.nil
    simp only [List.getElem_toArray, List.getElem_cons_succ, List.getElem_cons_zero]
    rw [if_pos (by rfl)]
    refine wps2 20 (.tmp 100) (.tmp 102) _ rfl in_sameWhole_c (.agg #[.bool PS, .slice a6 PL.length c6]) (.agg #[.bool PS, .slice aa PL.length da]) rfl rfl (sameWhole_same PS _ r6 ra) ?_
    rintro e w43 ⟨rfl, k43⟩
    refine ⟨_, rfl, ?_⟩
    replace r1 := r1.kept k43 (.inr (.inr (Nat.le_refl 0)))
    replace r2 := r2.kept k43 (.inr (.inr (Nat.le_refl 0)))
    replace r3 := r3.kept k43 (.inr (.inr (Nat.le_refl 0)))
    replace r4 := r4.kept k43 (.inr (.inr (Nat.le_refl 0)))
    replace r6 := r6.kept k43 (.inr (.inr (Nat.le_refl 0)))
    replace r7 := r7.kept k43 (.inr (.inr (Nat.le_refl 0)))
    replace r8 := r8.kept k43 (.inr (.inr (Nat.le_refl 0)))
    replace r9 := r9.kept k43 (.inr (.inr (Nat.le_refl 0)))
    replace ra := ra.kept k43 (.inr (.inr (Nat.le_refl 0)))
    replace ca0 := k43.cell0 ca0
    replace ca1 := k43.cell0 ca1
    replace cb0 := k43.cell0 cb0
    replace cb1 := k43.cell0 cb1
    replace cs0 := k43.cell0 cs0
    replace cs1 := k43.cell0 cs1
    replace ct0 := k43.cell0 ct0
    replace ct1 := k43.cell0 ct1
    replace cp0 := k43.cell0 cp0
    replace cp1 := k43.cell0 cp1
    replace cq0 := k43.cell0 cq0
    replace cq1 := k43.cell0 cq1
    replace cz0 := k43.cell0 cz0
    replace cz1 := k43.cell0 cz1
    replace cd0 := k43.cell0 cd0
    replace cd1 := k43.cell0 cd1
    replace K := hide ((unhide K).trans k43)
    have z44 := k43.size
    clear k43
    clear hHeld
    refine hK.out _ _ ?_ (fun hHeld => ?_)
    · exact ⟨ca0, ca1, cb0, cb1, cs0, cs1, ct0, ct1, cp0, cp1, cq0, cq1, cz1, cd0, cd1⟩
    clear hK KK
    try simp only [Act.put, List.getElem_toArray, List.getElem_cons_succ, List.getElem_cons_zero, List.setIfInBounds_toArray, List.set_cons_zero, List.set_cons_succ]
    refine wpAnyH_take (i := 18) (oi := _) (v := .bool true) rfl (by kernel_rfl) (by kernel_rfl) (by kernel_rfl) (fun _ _ _ h => h) (Or.inl ⟨by rfl, ?_⟩) hHeld ?_
    · intro wq hSw
      try dsimp only at hSw
      go_simp
    try simp only [Act.put, List.getElem_toArray, List.getElem_cons_succ, List.getElem_cons_zero, List.setIfInBounds_toArray, List.set_cons_zero, List.set_cons_succ]
    refine wpAnyH_take (i := 19) (oi := _) (v := .bool true) rfl (by kernel_rfl) (by kernel_rfl) (by kernel_rfl) (fun _ _ _ h => h) (Or.inl ⟨by rfl, ?_⟩) hHeld ?_
    · intro wq hSw
      try dsimp only at hSw
      go_simp
    try simp only [Act.put, List.getElem_toArray, List.getElem_cons_succ, List.getElem_cons_zero, List.setIfInBounds_toArray, List.set_cons_zero, List.set_cons_succ]
    refine wpAnyH_take (i := 20) (oi := _) (v := .bool true) rfl (by kernel_rfl) (by kernel_rfl) (by kernel_rfl) (fun _ _ _ h => h) (Or.inl ⟨by rfl, ?_⟩) hHeld ?_
    · intro wq hSw
      try dsimp only at hSw
      go_simp
    try simp only [Act.put, List.getElem_toArray, List.getElem_cons_succ, List.getElem_cons_zero, List.setIfInBounds_toArray, List.set_cons_zero, List.set_cons_succ]
    refine wpAnyH_take (i := 21) (oi := _) (v := .bool true) rfl (by kernel_rfl) (by kernel_rfl) (by kernel_rfl) (fun _ _ _ h => h) (Or.inl ⟨by rfl, ?_⟩) hHeld ?_
    · intro wq hSw
      try dsimp only at hSw
      go_simp
    try simp only [Act.put, List.getElem_toArray, List.getElem_cons_succ, List.getElem_cons_zero, List.setIfInBounds_toArray, List.set_cons_zero, List.set_cons_succ]
    refine wpAnyH_take (i := 22) (oi := _) (v := .bool true) rfl (by kernel_rfl) (by kernel_rfl) (by kernel_rfl) (fun _ _ _ h => h) (Or.inl ⟨by rfl, ?_⟩) hHeld ?_
    · intro wq hSw
      try dsimp only at hSw
      go_simp
    try simp only [Act.put, List.getElem_toArray, List.getElem_cons_succ, List.getElem_cons_zero, List.setIfInBounds_toArray, List.set_cons_zero, List.set_cons_succ]
    refine wpAnyH_take (i := 23) (oi := _) (v := .pointer (some ⟨w28.heap.size, 1, none⟩)) rfl (by kernel_rfl) (by kernel_rfl) (by kernel_rfl) (fun _ _ _ h => h) (Or.inl ⟨by rfl, ?_⟩) hHeld ?_
    · intro wq hSw
      try dsimp only at hSw
      go_simp
    try simp only [Act.put, List.getElem_toArray, List.getElem_cons_succ, List.getElem_cons_zero, List.setIfInBounds_toArray, List.set_cons_zero, List.set_cons_succ]
    refine wpAnyH_take (i := 24) (oi := _) (v := .pointer (some ⟨w28.heap.size, 1, none⟩)) rfl (by kernel_rfl) (by kernel_rfl) (by kernel_rfl) (fun _ _ _ h => h) (Or.inl ⟨by rfl, ?_⟩) hHeld ?_
    · intro wq hSw
      try dsimp only at hSw
      go_simp
    try simp only [Act.put, List.getElem_toArray, List.getElem_cons_succ, List.getElem_cons_zero, List.setIfInBounds_toArray, List.set_cons_zero, List.set_cons_succ]
    refine wpAnyH_take (i := 25) (oi := _) (v := .slice a8 0 c8) rfl (by kernel_rfl) (by kernel_rfl) (by kernel_rfl) (fun _ _ _ h => h) (Or.inl ⟨by rfl, ?_⟩) hHeld ?_
    · intro wq hSw
      try dsimp only at hSw
      go_simp
    try simp only [Act.put, List.getElem_toArray, List.getElem_cons_succ, List.getElem_cons_zero, List.setIfInBounds_toArray, List.set_cons_zero, List.set_cons_succ]
    refine wpAnyH_take (i := 26) (oi := _) (v := .int .i64 0) rfl (by kernel_rfl) (by kernel_rfl) (by kernel_rfl) (fun _ _ _ h => h) (Or.inl ⟨by rfl, ?_⟩) hHeld ?_
    · intro wq hSw
      try dsimp only at hSw
      go_simp
    try simp only [Act.put, List.getElem_toArray, List.getElem_cons_succ, List.getElem_cons_zero, List.setIfInBounds_toArray, List.set_cons_zero, List.set_cons_succ]
    refine wpAnyH_take (i := 27) (oi := _) (v := .bool true) rfl (by kernel_rfl) (by kernel_rfl) (by kernel_rfl) (fun _ _ _ h => h) (Or.inl ⟨by rfl, ?_⟩) hHeld ?_
    · intro wq hSw
      try dsimp only at hSw
      go_simp
    try simp only [Act.put, List.getElem_toArray, List.getElem_cons_succ, List.getElem_cons_zero, List.setIfInBounds_toArray, List.set_cons_zero, List.set_cons_succ]
    refine wpAnyH_take (i := 28) (oi := _) (v := .bool true) rfl (by kernel_rfl) (by kernel_rfl) (by kernel_rfl) (fun _ _ _ h => h) (Or.inl ⟨by rfl, ?_⟩) hHeld ?_
    · intro wq hSw
      try dsimp only at hSw
      go_simp
    try simp only [Act.put, List.getElem_toArray, List.getElem_cons_succ, List.getElem_cons_zero, List.setIfInBounds_toArray, List.set_cons_zero, List.set_cons_succ]
    refine wpAnyH_take (i := 29) (oi := _) (v := .bool true) rfl (by kernel_rfl) (by kernel_rfl) (by kernel_rfl) (fun _ _ _ h => h) (Or.inl ⟨by rfl, ?_⟩) hHeld ?_
    · intro wq hSw
      try dsimp only at hSw
      go_simp
    try simp only [Act.put, List.getElem_toArray, List.getElem_cons_succ, List.getElem_cons_zero, List.setIfInBounds_toArray, List.set_cons_zero, List.set_cons_succ]
    refine wpAnyH_take (i := 30) (oi := _) (v := .bool true) rfl (by kernel_rfl) (by kernel_rfl) (by kernel_rfl) (fun _ _ _ h => h) (Or.inl ⟨by rfl, ?_⟩) hHeld ?_
    · intro wq hSw
      try dsimp only at hSw
      go_simp
    try simp only [Act.put, List.getElem_toArray, List.getElem_cons_succ, List.getElem_cons_zero, List.setIfInBounds_toArray, List.set_cons_zero, List.set_cons_succ]
    refine wpAnyH_take (i := 31) (oi := _) (v := .bool false) rfl (by kernel_rfl) (by kernel_rfl) (by kernel_rfl) (fun _ _ _ h => h) (Or.inl ⟨by rfl, ?_⟩) hHeld ?_
    · intro wq hSw
      try dsimp only at hSw
      go_simp
    try simp only [Act.put, List.getElem_toArray, List.getElem_cons_succ, List.getElem_cons_zero, List.setIfInBounds_toArray, List.set_cons_zero, List.set_cons_succ]
    refine wpAnyH_take (i := 32) (oi := _) (v := .bool false) rfl (by kernel_rfl) (by kernel_rfl) (by kernel_rfl) (fun _ _ _ h => h) (Or.inl ⟨by rfl, ?_⟩) hHeld ?_
    · intro wq hSw
      try dsimp only at hSw
      go_simp
    try simp only [Act.put, List.getElem_toArray, List.getElem_cons_succ, List.getElem_cons_zero, List.setIfInBounds_toArray, List.set_cons_zero, List.set_cons_succ]
    refine wpAnyH_take (i := 33) (oi := _) (v := .bool true) rfl (by kernel_rfl) (by kernel_rfl) (by kernel_rfl) (fun _ _ _ h => h) (Or.inl ⟨by rfl, ?_⟩) hHeld ?_
    · intro wq hSw
      try dsimp only at hSw
      go_simp
    try simp only [Act.put, List.getElem_toArray, List.getElem_cons_succ, List.getElem_cons_zero, List.setIfInBounds_toArray, List.set_cons_zero, List.set_cons_succ]
    refine wpAnyH_take (i := 34) (oi := _) (v := .bool true) rfl (by kernel_rfl) (by kernel_rfl) (by kernel_rfl) (fun _ _ _ h => h) (Or.inl ⟨by rfl, ?_⟩) hHeld ?_
    · intro wq hSw
      try dsimp only at hSw
      go_simp
    try simp only [Act.put, List.getElem_toArray, List.getElem_cons_succ, List.getElem_cons_zero, List.setIfInBounds_toArray, List.set_cons_zero, List.set_cons_succ]
    refine wpAnyH_take (i := 35) (oi := _) (v := .agg #[.bool s1, .slice a9 xs.length c9]) rfl (by kernel_rfl) (by kernel_rfl) (by kernel_rfl) (fun _ _ _ h => h) (Or.inl ⟨by rfl, ?_⟩) hHeld ?_
    · intro wq hSw
      try dsimp only at hSw
      go_simp
    try simp only [Act.put, List.getElem_toArray, List.getElem_cons_succ, List.getElem_cons_zero, List.setIfInBounds_toArray, List.set_cons_zero, List.set_cons_succ]
    refine wpAnyH_take (i := 36) (oi := _) (v := .agg #[.bool s1, .slice a1 xs.length c1]) rfl (by kernel_rfl) (by kernel_rfl) (by kernel_rfl) (fun _ _ _ h => h) (Or.inl ⟨by rfl, ?_⟩) hHeld ?_
    · intro wq hSw
      try dsimp only at hSw
      go_simp
    try simp only [Act.put, List.getElem_toArray, List.getElem_cons_succ, List.getElem_cons_zero, List.setIfInBounds_toArray, List.set_cons_zero, List.set_cons_succ]
    refine wpAnyH_ready (rs := [37]) (by kernel_rfl) (by simp) ?_
    refine AllReadyH.cons rfl (fun KK hK => ?_) AllReadyH.nil
    simp only [List.getElem_toArray, List.getElem_cons_succ, List.getElem_cons_zero]
    rw [if_pos (by rfl)]
    refine wps2 20 (.tmp 121) (.tmp 122) _ rfl in_sameWhole_c (.agg #[.bool s1, .slice a9 xs.length c9]) (.agg #[.bool s1, .slice a1 xs.length c1]) rfl rfl (sameWhole_same s1 _ r9 r1) ?_
    rintro e w45 ⟨rfl, k45⟩
    refine ⟨_, rfl, ?_⟩
    replace r1 := r1.kept k45 (.inr (.inr (Nat.le_refl 0)))
    replace r2 := r2.kept k45 (.inr (.inr (Nat.le_refl 0)))
    replace r3 := r3.kept k45 (.inr (.inr (Nat.le_refl 0)))
    replace r4 := r4.kept k45 (.inr (.inr (Nat.le_refl 0)))
    replace r6 := r6.kept k45 (.inr (.inr (Nat.le_refl 0)))
    replace r7 := r7.kept k45 (.inr (.inr (Nat.le_refl 0)))
    replace r8 := r8.kept k45 (.inr (.inr (Nat.le_refl 0)))
    replace r9 := r9.kept k45 (.inr (.inr (Nat.le_refl 0)))
    replace ra := ra.kept k45 (.inr (.inr (Nat.le_refl 0)))
    replace ca0 := k45.cell0 ca0
    replace ca1 := k45.cell0 ca1
    replace cb0 := k45.cell0 cb0
    replace cb1 := k45.cell0 cb1
    replace cs0 := k45.cell0 cs0
    replace cs1 := k45.cell0 cs1
    replace ct0 := k45.cell0 ct0
    replace ct1 := k45.cell0 ct1
    replace cp0 := k45.cell0 cp0
    replace cp1 := k45.cell0 cp1
    replace cq0 := k45.cell0 cq0
    replace cq1 := k45.cell0 cq1
    replace cz0 := k45.cell0 cz0
    replace cz1 := k45.cell0 cz1
    replace cd0 := k45.cell0 cd0
    replace cd1 := k45.cell0 cd1
    replace K := hide ((unhide K).trans k45)
    have z46 := k45.size
    clear k45
    clear hHeld
    refine hK.out _ _ ?_ (fun hHeld => ?_)
    · exact ⟨ca0, ca1, cb0, cb1, cs0, cs1, ct0, ct1, cp0, cp1, cq0, cq1, cz1, cd0, cd1⟩
    clear hK KK
    try simp only [Act.put, List.getElem_toArray, List.getElem_cons_succ, List.getElem_cons_zero, List.setIfInBounds_toArray, List.set_cons_zero, List.set_cons_succ]
    refine wpAnyH_take (i := 38) (oi := _) (v := .bool true) rfl (by kernel_rfl) (by kernel_rfl) (by kernel_rfl) (fun _ _ _ h => h) (Or.inl ⟨by rfl, ?_⟩) hHeld ?_
    · intro wq hSw
      try dsimp only at hSw
      go_simp
    try simp only [Act.put, List.getElem_toArray, List.getElem_cons_succ, List.getElem_cons_zero, List.setIfInBounds_toArray, List.set_cons_zero, List.set_cons_succ]
    refine wpAnyH_take (i := 39) (oi := _) (v := .bool true) rfl (by kernel_rfl) (by kernel_rfl) (by kernel_rfl) (fun _ _ _ h => h) (Or.inl ⟨by rfl, ?_⟩) hHeld ?_
    · intro wq hSw
      try dsimp only at hSw
      go_simp
    try simp only [Act.put, List.getElem_toArray, List.getElem_cons_succ, List.getElem_cons_zero, List.setIfInBounds_toArray, List.set_cons_zero, List.set_cons_succ]
    refine wpAnyH_take (i := 40) (oi := _) (v := .bool true) rfl (by kernel_rfl) (by kernel_rfl) (by kernel_rfl) (fun _ _ _ h => h) (Or.inl ⟨by rfl, ?_⟩) hHeld ?_
    · intro wq hSw
      try dsimp only at hSw
      go_simp
    try simp only [Act.put, List.getElem_toArray, List.getElem_cons_succ, List.getElem_cons_zero, List.setIfInBounds_toArray, List.set_cons_zero, List.set_cons_succ]
    refine wpAnyH_take (i := 41) (oi := _) (v := .bool true) rfl (by kernel_rfl) (by kernel_rfl) (by kernel_rfl) (fun _ _ _ h => h) (Or.inl ⟨by rfl, ?_⟩) hHeld ?_
    · intro wq hSw
      try dsimp only at hSw
      go_simp
    try simp only [Act.put, List.getElem_toArray, List.getElem_cons_succ, List.getElem_cons_zero, List.setIfInBounds_toArray, List.set_cons_zero, List.set_cons_succ]
    refine wpAnyH_take (i := 42) (oi := _) (v := .agg #[.bool s1, .slice a1 xs.length c1]) rfl (by kernel_rfl) (by kernel_rfl) (by kernel_rfl) (fun _ _ _ h => h) (Or.inl ⟨by rfl, ?_⟩) hHeld ?_
    · intro wq hSw
      try dsimp only at hSw
      go_simp
    try simp only [Act.put, List.getElem_toArray, List.getElem_cons_succ, List.getElem_cons_zero, List.setIfInBounds_toArray, List.set_cons_zero, List.set_cons_succ]
    refine wpAnyH_take (i := 43) (oi := _) (v := .agg #[.bool s2, .slice a2 ys.length c2]) rfl (by kernel_rfl) (by kernel_rfl) (by kernel_rfl) (fun _ _ _ h => h) (Or.inl ⟨by rfl, ?_⟩) hHeld ?_
    · intro wq hSw
      try dsimp only at hSw
      go_simp
    try simp only [Act.put, List.getElem_toArray, List.getElem_cons_succ, List.getElem_cons_zero, List.setIfInBounds_toArray, List.set_cons_zero, List.set_cons_succ]
    refine wpAnyH_take (i := 45) (oi := _) (v := .agg #[.bool s2, .slice a2 ys.length c2]) rfl (by kernel_rfl) (by kernel_rfl) (by kernel_rfl) (fun _ _ _ h => h) (Or.inl ⟨by rfl, ?_⟩) hHeld ?_
    · intro wq hSw
      try dsimp only at hSw
      go_simp
    try simp only [Act.put, List.getElem_toArray, List.getElem_cons_succ, List.getElem_cons_zero, List.setIfInBounds_toArray, List.set_cons_zero, List.set_cons_succ]
    refine wpAnyH_take (i := 46) (oi := _) (v := .agg #[.bool s1, .slice a1 xs.length c1]) rfl (by kernel_rfl) (by kernel_rfl) (by kernel_rfl) (fun _ _ _ h => h) (Or.inl ⟨by rfl, ?_⟩) hHeld ?_
    · intro wq hSw
      try dsimp only at hSw
      go_simp
    try simp only [Act.put, List.getElem_toArray, List.getElem_cons_succ, List.getElem_cons_zero, List.setIfInBounds_toArray, List.set_cons_zero, List.set_cons_succ]
    refine wpAnyH_ready (rs := [44]) (by kernel_rfl) (by simp) ?_
    refine AllReadyH.cons rfl (fun KK hK => ?_) AllReadyH.nil
    simp only [List.getElem_toArray, List.getElem_cons_succ, List.getElem_cons_zero]
    rw [if_pos (by rfl)]
    refine wps2 24 (.tmp 128) (.tmp 129) _ rfl in_WholeCmp_c (.agg #[.bool s1, .slice a1 xs.length c1]) (.agg #[.bool s2, .slice a2 ys.length c2]) rfl rfl (unhide HC1 _ r1 r2) ?_
    rintro e w47 ⟨rfl, k47⟩
    refine ⟨_, rfl, ?_⟩
    replace r1 := r1.kept k47 (.inr (.inr (Nat.le_refl 0)))
    replace r2 := r2.kept k47 (.inr (.inr (Nat.le_refl 0)))
    replace r3 := r3.kept k47 (.inr (.inr (Nat.le_refl 0)))
    replace r4 := r4.kept k47 (.inr (.inr (Nat.le_refl 0)))
    replace r6 := r6.kept k47 (.inr (.inr (Nat.le_refl 0)))
    replace r7 := r7.kept k47 (.inr (.inr (Nat.le_refl 0)))
    replace r8 := r8.kept k47 (.inr (.inr (Nat.le_refl 0)))
    replace r9 := r9.kept k47 (.inr (.inr (Nat.le_refl 0)))
    replace ra := ra.kept k47 (.inr (.inr (Nat.le_refl 0)))
    replace ca0 := k47.cell0 ca0
    replace ca1 := k47.cell0 ca1
    replace cb0 := k47.cell0 cb0
    replace cb1 := k47.cell0 cb1
    replace cs0 := k47.cell0 cs0
    replace cs1 := k47.cell0 cs1
    replace ct0 := k47.cell0 ct0
    replace ct1 := k47.cell0 ct1
    replace cp0 := k47.cell0 cp0
    replace cp1 := k47.cell0 cp1
    replace cq0 := k47.cell0 cq0
    replace cq1 := k47.cell0 cq1
    replace cz0 := k47.cell0 cz0
    replace cz1 := k47.cell0 cz1
    replace cd0 := k47.cell0 cd0
    replace cd1 := k47.cell0 cd1
    replace K := hide ((unhide K).trans k47)
    have z48 := k47.size
    clear k47
    clear hHeld
    refine hK.out _ _ ?_ (fun hHeld => ?_)
    · exact ⟨ca0, ca1, cb0, cb1, cs0, cs1, ct0, ct1, cp0, cp1, cq0, cq1, cz1, cd0, cd1⟩
    clear hK KK
    try simp only [Act.put, List.getElem_toArray, List.getElem_cons_succ, List.getElem_cons_zero, List.setIfInBounds_toArray, List.set_cons_zero, List.set_cons_succ]
    refine wpAnyH_ready (rs := [47]) (by kernel_rfl) (by simp) ?_
    refine AllReadyH.cons rfl (fun KK hK => ?_) AllReadyH.nil
    simp only [List.getElem_toArray, List.getElem_cons_succ, List.getElem_cons_zero]
    rw [if_pos (by rfl)]
    refine wps2 24 (.tmp 131) (.tmp 132) _ rfl in_WholeCmp_c (.agg #[.bool s2, .slice a2 ys.length c2]) (.agg #[.bool s1, .slice a1 xs.length c1]) rfl rfl (unhide HC2 _ r2 r1) ?_
    rintro e w49 ⟨rfl, k49⟩
    refine ⟨_, rfl, ?_⟩
    replace r1 := r1.kept k49 (.inr (.inr (Nat.le_refl 0)))
    replace r2 := r2.kept k49 (.inr (.inr (Nat.le_refl 0)))
    replace r3 := r3.kept k49 (.inr (.inr (Nat.le_refl 0)))
    replace r4 := r4.kept k49 (.inr (.inr (Nat.le_refl 0)))
    replace r6 := r6.kept k49 (.inr (.inr (Nat.le_refl 0)))
    replace r7 := r7.kept k49 (.inr (.inr (Nat.le_refl 0)))
    replace r8 := r8.kept k49 (.inr (.inr (Nat.le_refl 0)))
    replace r9 := r9.kept k49 (.inr (.inr (Nat.le_refl 0)))
    replace ra := ra.kept k49 (.inr (.inr (Nat.le_refl 0)))
    replace ca0 := k49.cell0 ca0
    replace ca1 := k49.cell0 ca1
    replace cb0 := k49.cell0 cb0
    replace cb1 := k49.cell0 cb1
    replace cs0 := k49.cell0 cs0
    replace cs1 := k49.cell0 cs1
    replace ct0 := k49.cell0 ct0
    replace ct1 := k49.cell0 ct1
    replace cp0 := k49.cell0 cp0
    replace cp1 := k49.cell0 cp1
    replace cq0 := k49.cell0 cq0
    replace cq1 := k49.cell0 cq1
    replace cz0 := k49.cell0 cz0
    replace cz1 := k49.cell0 cz1
    replace cd0 := k49.cell0 cd0
    replace cd1 := k49.cell0 cd1
    replace K := hide ((unhide K).trans k49)
    have z50 := k49.size
    clear k49
    clear hHeld
    refine hK.out _ _ ?_ (fun hHeld => ?_)
    · exact ⟨ca0, ca1, cb0, cb1, cs0, cs1, ct0, ct1, cp0, cp1, cq0, cq1, cz1, cd0, cd1⟩
    clear hK KK
    try simp only [Act.put, List.getElem_toArray, List.getElem_cons_succ, List.getElem_cons_zero, List.setIfInBounds_toArray, List.set_cons_zero, List.set_cons_succ]
    refine wpAnyH_take (i := 48) (oi := _) (v := .int .i64 C) rfl (by kernel_rfl) (by kernel_rfl) (by kernel_rfl) (fun _ _ _ h => h) (Or.inl ⟨by rfl, ?_⟩) hHeld ?_
    · intro wq hSw
      try dsimp only at hSw
      go_simp
    try simp only [Act.put, List.getElem_toArray, List.getElem_cons_succ, List.getElem_cons_zero, List.setIfInBounds_toArray, List.set_cons_zero, List.set_cons_succ]
    refine wpAnyH_take (i := 49) (oi := _) (v := .bool true) rfl (by kernel_rfl) (by kernel_rfl) (by kernel_rfl) (fun _ _ _ h => h) (Or.inl ⟨by rfl, ?_⟩) hHeld ?_
    · intro wq hSw
      try dsimp only at hSw
      go_simp
    try simp only [Act.put, List.getElem_toArray, List.getElem_cons_succ, List.getElem_cons_zero, List.setIfInBounds_toArray, List.set_cons_zero, List.set_cons_succ]
    refine wpAnyH_take (i := 50) (oi := _) (v := .bool true) rfl (by kernel_rfl) (by kernel_rfl) (by kernel_rfl) (fun _ _ _ h => h) (Or.inl ⟨by rfl, ?_⟩) hHeld ?_
    · intro wq hSw
      try dsimp only at hSw
      go_simp
    try simp only [Act.put, List.getElem_toArray, List.getElem_cons_succ, List.getElem_cons_zero, List.setIfInBounds_toArray, List.set_cons_zero, List.set_cons_succ]
    refine wpAnyH_take (i := 51) (oi := _) (v := .bool true) rfl (by kernel_rfl) (by kernel_rfl) (by kernel_rfl) (fun _ _ _ h => h) (Or.inl ⟨by rfl, ?_⟩) hHeld ?_
    · intro wq hSw
      try dsimp only at hSw
      go_simp
    try simp only [Act.put, List.getElem_toArray, List.getElem_cons_succ, List.getElem_cons_zero, List.setIfInBounds_toArray, List.set_cons_zero, List.set_cons_succ]
    refine wpAnyH_take (i := 52) (oi := _) (v := .agg #[.bool s1, .slice a1 xs.length c1]) rfl (by kernel_rfl) (by kernel_rfl) (by kernel_rfl) (fun _ _ _ h => h) (Or.inl ⟨by rfl, ?_⟩) hHeld ?_
    · intro wq hSw
      try dsimp only at hSw
      go_simp
    try simp only [Act.put, List.getElem_toArray, List.getElem_cons_succ, List.getElem_cons_zero, List.setIfInBounds_toArray, List.set_cons_zero, List.set_cons_succ]
    refine wpAnyH_take (i := 53) (oi := _) (v := .agg #[.bool s2, .slice a2 ys.length c2]) rfl (by kernel_rfl) (by kernel_rfl) (by kernel_rfl) (fun _ _ _ h => h) (Or.inl ⟨by rfl, ?_⟩) hHeld ?_
    · intro wq hSw
      try dsimp only at hSw
      go_simp
    try simp only [Act.put, List.getElem_toArray, List.getElem_cons_succ, List.getElem_cons_zero, List.setIfInBounds_toArray, List.set_cons_zero, List.set_cons_succ]
    refine wpAnyH_take (i := 55) (oi := _) (v := .agg #[.bool s1, .slice a1 xs.length c1]) rfl (by kernel_rfl) (by kernel_rfl) (by kernel_rfl) (fun _ _ _ h => h) (Or.inl ⟨by rfl, ?_⟩) hHeld ?_
    · intro wq hSw
      try dsimp only at hSw
      go_simp
    try simp only [Act.put, List.getElem_toArray, List.getElem_cons_succ, List.getElem_cons_zero, List.setIfInBounds_toArray, List.set_cons_zero, List.set_cons_succ]
    refine wpAnyH_take (i := 57) (oi := _) (v := .agg #[.bool s2, .slice a2 ys.length c2]) rfl (by kernel_rfl) (by kernel_rfl) (by kernel_rfl) (fun _ _ _ h => h) (Or.inl ⟨by rfl, ?_⟩) hHeld ?_
    · intro wq hSw
      try dsimp only at hSw
      go_simp
    try simp only [Act.put, List.getElem_toArray, List.getElem_cons_succ, List.getElem_cons_zero, List.setIfInBounds_toArray, List.set_cons_zero, List.set_cons_succ]
    refine wpAnyH_ready (rs := [54]) (by kernel_rfl) (by simp) ?_
    refine AllReadyH.cons rfl (fun KK hK => ?_) AllReadyH.nil
    simp only [List.getElem_toArray, List.getElem_cons_succ, List.getElem_cons_zero]
    rw [if_pos (by rfl)]
    refine wps2 24 (.tmp 138) (.tmp 139) _ rfl in_WholeCmp_c (.agg #[.bool s1, .slice a1 xs.length c1]) (.agg #[.bool s2, .slice a2 ys.length c2]) rfl rfl (unhide HC1 _ r1 r2) ?_
    rintro e w51 ⟨rfl, k51⟩
    refine ⟨_, rfl, ?_⟩
    replace r1 := r1.kept k51 (.inr (.inr (Nat.le_refl 0)))
    replace r2 := r2.kept k51 (.inr (.inr (Nat.le_refl 0)))
    replace r3 := r3.kept k51 (.inr (.inr (Nat.le_refl 0)))
    replace r4 := r4.kept k51 (.inr (.inr (Nat.le_refl 0)))
    replace r6 := r6.kept k51 (.inr (.inr (Nat.le_refl 0)))
    replace r7 := r7.kept k51 (.inr (.inr (Nat.le_refl 0)))
    replace r8 := r8.kept k51 (.inr (.inr (Nat.le_refl 0)))
    replace r9 := r9.kept k51 (.inr (.inr (Nat.le_refl 0)))
    replace ra := ra.kept k51 (.inr (.inr (Nat.le_refl 0)))
    replace ca0 := k51.cell0 ca0
    replace ca1 := k51.cell0 ca1
    replace cb0 := k51.cell0 cb0
    replace cb1 := k51.cell0 cb1
    replace cs0 := k51.cell0 cs0
    replace cs1 := k51.cell0 cs1
    replace ct0 := k51.cell0 ct0
    replace ct1 := k51.cell0 ct1
    replace cp0 := k51.cell0 cp0
    replace cp1 := k51.cell0 cp1
    replace cq0 := k51.cell0 cq0
    replace cq1 := k51.cell0 cq1
    replace cz0 := k51.cell0 cz0
    replace cz1 := k51.cell0 cz1
    replace cd0 := k51.cell0 cd0
    replace cd1 := k51.cell0 cd1
    replace K := hide ((unhide K).trans k51)
    have z52 := k51.size
    clear k51
    clear hHeld
    refine hK.out _ _ ?_ (fun hHeld => ?_)
    · exact ⟨ca0, ca1, cb0, cb1, cs0, cs1, ct0, ct1, cp0, cp1, cq0, cq1, cz1, cd0, cd1⟩
    clear hK KK
    try simp only [Act.put, List.getElem_toArray, List.getElem_cons_succ, List.getElem_cons_zero, List.setIfInBounds_toArray, List.set_cons_zero, List.set_cons_succ]
    refine wpAnyH_ready (rs := [56]) (by kernel_rfl) (by simp) ?_
    refine AllReadyH.cons rfl (fun KK hK => ?_) AllReadyH.nil
    simp only [List.getElem_toArray, List.getElem_cons_succ, List.getElem_cons_zero]
    rw [if_pos (by rfl)]
    refine wps1 17 (.tmp 141) _ rfl in_WholeNeg_c (.agg #[.bool s1, .slice a1 xs.length c1]) rfl (wNeg_impl s1 _ r1) ?_
    rintro e w53 ⟨vm, rfl, rm, k53⟩
    refine ⟨_, rfl, ?_⟩
    replace r1 := r1.kept k53 (.inr (.inr (Nat.le_refl 0)))
    replace r2 := r2.kept k53 (.inr (.inr (Nat.le_refl 0)))
    replace r3 := r3.kept k53 (.inr (.inr (Nat.le_refl 0)))
    replace r4 := r4.kept k53 (.inr (.inr (Nat.le_refl 0)))
    replace r6 := r6.kept k53 (.inr (.inr (Nat.le_refl 0)))
    replace r7 := r7.kept k53 (.inr (.inr (Nat.le_refl 0)))
    replace r8 := r8.kept k53 (.inr (.inr (Nat.le_refl 0)))
    replace r9 := r9.kept k53 (.inr (.inr (Nat.le_refl 0)))
    replace ra := ra.kept k53 (.inr (.inr (Nat.le_refl 0)))
    replace ca0 := k53.cell0 ca0
    replace ca1 := k53.cell0 ca1
    replace cb0 := k53.cell0 cb0
    replace cb1 := k53.cell0 cb1
    replace cs0 := k53.cell0 cs0
    replace cs1 := k53.cell0 cs1
    replace ct0 := k53.cell0 ct0
    replace ct1 := k53.cell0 ct1
    replace cp0 := k53.cell0 cp0
    replace cp1 := k53.cell0 cp1
    replace cq0 := k53.cell0 cq0
    replace cq1 := k53.cell0 cq1
    replace cz0 := k53.cell0 cz0
    replace cz1 := k53.cell0 cz1
    replace cd0 := k53.cell0 cd0
    replace cd1 := k53.cell0 cd1
    replace K := hide ((unhide K).trans k53)
    have z54 := k53.size
    clear k53
    clear hHeld
    refine hK.out _ _ ?_ (fun hHeld => ?_)
    · exact ⟨ca0, ca1, cb0, cb1, cs0, cs1, ct0, ct1, cp0, cp1, cq0, cq1, cz1, cd0, cd1⟩
    clear hK KK
    try simp only [Act.put, List.getElem_toArray, List.getElem_cons_succ, List.getElem_cons_zero, List.setIfInBounds_toArray, List.set_cons_zero, List.set_cons_succ]
    obtain ⟨am, dm, hv⟩ := Row.form' rm
    subst hv
    refine wpAnyH_ready (rs := [58]) (by kernel_rfl) (by simp) ?_
    refine AllReadyH.cons rfl (fun KK hK => ?_) AllReadyH.nil
    simp only [List.getElem_toArray, List.getElem_cons_succ, List.getElem_cons_zero]
    rw [if_pos (by rfl)]
    refine wps1 17 (.tmp 143) _ rfl in_WholeNeg_c (.agg #[.bool s2, .slice a2 ys.length c2]) rfl (wNeg_impl s2 _ r2) ?_
    rintro e w55 ⟨vn, rfl, rn, k55⟩
    refine ⟨_, rfl, ?_⟩
    replace r1 := r1.kept k55 (.inr (.inr (Nat.le_refl 0)))
    replace r2 := r2.kept k55 (.inr (.inr (Nat.le_refl 0)))
    replace r3 := r3.kept k55 (.inr (.inr (Nat.le_refl 0)))
    replace r4 := r4.kept k55 (.inr (.inr (Nat.le_refl 0)))
    replace r6 := r6.kept k55 (.inr (.inr (Nat.le_refl 0)))
    replace r7 := r7.kept k55 (.inr (.inr (Nat.le_refl 0)))
    replace r8 := r8.kept k55 (.inr (.inr (Nat.le_refl 0)))
    replace r9 := r9.kept k55 (.inr (.inr (Nat.le_refl 0)))
    replace ra := ra.kept k55 (.inr (.inr (Nat.le_refl 0)))
    replace rm := rm.kept k55 (.inr (.inr (Nat.le_refl 0)))
    replace ca0 := k55.cell0 ca0
    replace ca1 := k55.cell0 ca1
    replace cb0 := k55.cell0 cb0
    replace cb1 := k55.cell0 cb1
    replace cs0 := k55.cell0 cs0
    replace cs1 := k55.cell0 cs1
    replace ct0 := k55.cell0 ct0
    replace ct1 := k55.cell0 ct1
    replace cp0 := k55.cell0 cp0
    replace cp1 := k55.cell0 cp1
    replace cq0 := k55.cell0 cq0
    replace cq1 := k55.cell0 cq1
    replace cz0 := k55.cell0 cz0
    replace cz1 := k55.cell0 cz1
    replace cd0 := k55.cell0 cd0
    replace cd1 := k55.cell0 cd1
    replace K := hide ((unhide K).trans k55)
    have z56 := k55.size
    clear k55
    clear hHeld
    refine hK.out _ _ ?_ (fun hHeld => ?_)
    · exact ⟨ca0, ca1, cb0, cb1, cs0, cs1, ct0, ct1, cp0, cp1, cq0, cq1, cz1, cd0, cd1⟩
    clear hK KK
    try simp only [Act.put, List.getElem_toArray, List.getElem_cons_succ, List.getElem_cons_zero, List.setIfInBounds_toArray, List.set_cons_zero, List.set_cons_succ]
    obtain ⟨an, dn, hv⟩ := Row.form' rn
    subst hv
    refine wpAnyH_ready (rs := [59]) (by kernel_rfl) (by simp) ?_
    refine AllReadyH.cons rfl (fun KK hK => ?_) AllReadyH.nil
    simp only [List.getElem_toArray, List.getElem_cons_succ, List.getElem_cons_zero]
    rw [if_pos (by rfl)]
    refine wps2 24 (.tmp 142) (.tmp 144) _ rfl in_WholeCmp_c (.agg #[.bool (wsg (negW s1 xs)), .slice am (wlm (negW s1 xs)).length dm]) (.agg #[.bool (wsg (negW s2 ys)), .slice an (wlm (negW s2 ys)).length dn]) rfl rfl (unhide HC3 _ rm rn) ?_
    rintro e w57 ⟨rfl, k57⟩
    refine ⟨_, rfl, ?_⟩
    replace r1 := r1.kept k57 (.inr (.inr (Nat.le_refl 0)))
    replace r2 := r2.kept k57 (.inr (.inr (Nat.le_refl 0)))
    replace r3 := r3.kept k57 (.inr (.inr (Nat.le_refl 0)))
    replace r4 := r4.kept k57 (.inr (.inr (Nat.le_refl 0)))
    replace r6 := r6.kept k57 (.inr (.inr (Nat.le_refl 0)))
    replace r7 := r7.kept k57 (.inr (.inr (Nat.le_refl 0)))
    replace r8 := r8.kept k57 (.inr (.inr (Nat.le_refl 0)))
    replace r9 := r9.kept k57 (.inr (.inr (Nat.le_refl 0)))
    replace ra := ra.kept k57 (.inr (.inr (Nat.le_refl 0)))
    replace rm := rm.kept k57 (.inr (.inr (Nat.le_refl 0)))
    replace rn := rn.kept k57 (.inr (.inr (Nat.le_refl 0)))
    replace ca0 := k57.cell0 ca0
    replace ca1 := k57.cell0 ca1
    replace cb0 := k57.cell0 cb0
    replace cb1 := k57.cell0 cb1
    replace cs0 := k57.cell0 cs0
    replace cs1 := k57.cell0 cs1
    replace ct0 := k57.cell0 ct0
    replace ct1 := k57.cell0 ct1
    replace cp0 := k57.cell0 cp0
    replace cp1 := k57.cell0 cp1
    replace cq0 := k57.cell0 cq0
    replace cq1 := k57.cell0 cq1
    replace cz0 := k57.cell0 cz0
    replace cz1 := k57.cell0 cz1
    replace cd0 := k57.cell0 cd0
    replace cd1 := k57.cell0 cd1
    replace K := hide ((unhide K).trans k57)
    have z58 := k57.size
    clear k57
    clear hHeld
    refine hK.out _ _ ?_ (fun hHeld => ?_)
    · exact ⟨ca0, ca1, cb0, cb1, cs0, cs1, ct0, ct1, cp0, cp1, cq0, cq1, cz1, cd0, cd1⟩
    clear hK KK
    try simp only [Act.put, List.getElem_toArray, List.getElem_cons_succ, List.getElem_cons_zero, List.setIfInBounds_toArray, List.set_cons_zero, List.set_cons_succ]
    refine wpAnyH_take (i := 60) (oi := _) (v := .int .i64 C) rfl (by kernel_rfl) (by kernel_rfl) (by kernel_rfl) (fun _ _ _ h => h) (Or.inl ⟨by rfl, ?_⟩) hHeld ?_
    · intro wq hSw
      try dsimp only at hSw
      go_simp
    try simp only [Act.put, List.getElem_toArray, List.getElem_cons_succ, List.getElem_cons_zero, List.setIfInBounds_toArray, List.set_cons_zero, List.set_cons_succ]
    refine wpAnyH_take (i := 61) (oi := _) (v := .bool true) rfl (by kernel_rfl) (by kernel_rfl) (by kernel_rfl) (fun _ _ _ h => h) (Or.inl ⟨by rfl, ?_⟩) hHeld ?_
    · intro wq hSw
      try dsimp only at hSw
      go_simp
    try simp only [Act.put, List.getElem_toArray, List.getElem_cons_succ, List.getElem_cons_zero, List.setIfInBounds_toArray, List.set_cons_zero, List.set_cons_succ]
    refine wpAnyH_take (i := 62) (oi := _) (v := .bool true) rfl (by kernel_rfl) (by kernel_rfl) (by kernel_rfl) (fun _ _ _ h => h) (Or.inl ⟨by rfl, ?_⟩) hHeld ?_
    · intro wq hSw
      try dsimp only at hSw
      go_simp
    try simp only [Act.put, List.getElem_toArray, List.getElem_cons_succ, List.getElem_cons_zero, List.setIfInBounds_toArray, List.set_cons_zero, List.set_cons_succ]
    refine wpAnyH_take (i := 63) (oi := _) (v := .bool true) rfl (by kernel_rfl) (by kernel_rfl) (by kernel_rfl) (fun _ _ _ h => h) (Or.inl ⟨by rfl, ?_⟩) hHeld ?_
    · intro wq hSw
      try dsimp only at hSw
      go_simp
    try simp only [Act.put, List.getElem_toArray, List.getElem_cons_succ, List.getElem_cons_zero, List.setIfInBounds_toArray, List.set_cons_zero, List.set_cons_succ]
    refine wpAnyH_done (by kernel_rfl) ?_ _
    clear hHeld
    try go_wp2_with fail
    go_ret
    exact ⟨rfl, (unhide K).toBelow⟩

end Go.Proofs.Ytkdapefddhbjdaa
