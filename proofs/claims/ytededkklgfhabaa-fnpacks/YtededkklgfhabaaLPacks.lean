/-
  The walk of the law FnPacks: it returns true at every code.
-/
import Derived.Test.YtededkklgfhabaaFlPk
import Derived.Deep.RegionHeld3
import Derived.Deep.DeepCutAuto
namespace Go.Proofs.Ytededkklgfhabaa
open Go.RowKit
set_option linter.unusedVariables false
set_option maxRecDepth 8000
set_option linter.unusedSimpArgs false

set_option maxHeartbeats 16000000 in
theorem law_Packs {v : Value} {zs : List Int} {w : World} (r : Row .u8 false 0 w.heap.size w v zs) (hb0 : ∀ z ∈ zs, (Lit.int .u8 z).wf = true) :
    Calls Try.prog 3 #[v] w fun e' w' => e' = .returned (.bool true) ∧ Below w.heap.size w w' := by
  have hb := bytes_of_wf hb0
  clear hb0
  have K := hide (Kept.refl 0 0 w)
  obtain ⟨a0, c0, hv⟩ := Row.form' r
  subst hv
  have S0 := hide (show w.heap.size = w.heap.size from rfl)
  go_enter Try.func3, Try.ntmps3
  go_wp2_with fail
  refine (drawPack_any _ r hb).mono ?_
  rintro e w1 ⟨fk, fn, fm, fe, rfl, k1⟩
  replace r := r.kept k1 (by omega)
  replace K := hide ((unhide K).trans k1)
  have z2 := k1.size
  clear k1
  have kn := (Kept.refl 0 0 w1).alloc (.cells #[.int .i64 fk, .bool fn, .int .i64 fm, .int .i64 fe] 24)
  have y0 : (w1.alloc (.cells #[.int .i64 fk, .bool fn, .int .i64 fm, .int .i64 fe] 24)).cell? ⟨w1.heap.size, 0, none⟩ = some (.int .i64 fk) := new_cell2 _ _ _ _ _ _ (by simp) rfl
  have y1 : (w1.alloc (.cells #[.int .i64 fk, .bool fn, .int .i64 fm, .int .i64 fe] 24)).cell? ⟨w1.heap.size, 1, none⟩ = some (.bool fn) := new_cell2 _ _ _ _ _ _ (by simp) rfl
  have y2 : (w1.alloc (.cells #[.int .i64 fk, .bool fn, .int .i64 fm, .int .i64 fe] 24)).cell? ⟨w1.heap.size, 2, none⟩ = some (.int .i64 fm) := new_cell2 _ _ _ _ _ _ (by simp) rfl
  have y3 : (w1.alloc (.cells #[.int .i64 fk, .bool fn, .int .i64 fm, .int .i64 fe] 24)).cell? ⟨w1.heap.size, 3, none⟩ = some (.int .i64 fe) := new_cell2 _ _ _ _ _ _ (by simp) rfl
  have sz3 : w1.heap.size + 1 ≤ (w1.alloc (.cells #[.int .i64 fk, .bool fn, .int .i64 fm, .int .i64 fe] 24)).heap.size := by simp
  replace r := r.kept kn (by omega)
  replace K := hide ((unhide K).trans kn)
  have z4 := kn.size
  clear kn
  go_wp2_with fail
  generalize (w1.alloc (.cells #[.int .i64 fk, .bool fn, .int .i64 fm, .int .i64 fe] 24)) = wn5 at *
  obtain ⟨O, hO⟩ : ∃ o, flok fk fn fm fe = o := ⟨_, rfl⟩
  obtain ⟨P1, hP1⟩ : ∃ o, (fpk fk fn fm fe).1 = o := ⟨_, rfl⟩
  obtain ⟨P2, hP2⟩ : ∃ o, (fpk fk fn fm fe).2 = o := ⟨_, rfl⟩
  have mk := flpack_impl fk fn fm fe wn5
  rw [hO, hP1, hP2] at mk
  have HO := hide hO
  have HU : Hid (O = true → okU P1 P2 = true ∧ fun2 P1 P2 = (fk, fn, fm, fe)) := fun q => by
    have := un_pack (hO.trans q)
    rw [hP1, hP2] at this
    exact this
  clear hO hP1 hP2
  refine (mk).mono ?_
  rintro e w6 ⟨rfl, k6⟩
  replace r := r.kept k6 (by omega)
  replace y0 := k6.cell0 y0
  replace y1 := k6.cell0 y1
  replace y2 := k6.cell0 y2
  replace y3 := k6.cell0 y3
  replace K := hide ((unhide K).trans k6)
  have z7 := k6.size
  clear k6
  clear mk
  go_wp2_with fail
  refine (flok_spec_k (unhide HO) _).mono ?_
  rintro e w8 ⟨rfl, k8⟩
  replace r := r.kept k8 (by omega)
  replace y0 := k8.cell0 y0
  replace y1 := k8.cell0 y1
  replace y2 := k8.cell0 y2
  replace y3 := k8.cell0 y3
  replace K := hide ((unhide K).trans k8)
  have z9 := k8.size
  clear k8
  go_wp2_with fail
  refine (flok_impl_k (unhide HO) _).mono ?_
  rintro e w10 ⟨rfl, k10⟩
  replace r := r.kept k10 (by omega)
  replace y0 := k10.cell0 y0
  replace y1 := k10.cell0 y1
  replace y2 := k10.cell0 y2
  replace y3 := k10.cell0 y3
  replace K := hide ((unhide K).trans k10)
  have z11 := k10.size
  clear k10
  cases O
  · clear HO HU
    go_wp2_with fail
    refine (drawCmp5_any _ r hb).mono ?_
    rintro e w12 ⟨gk, gn, gm, ge, hk, hn, hm, he, rfl, k12⟩
    replace r := r.kept k12 (by omega)
    replace y0 := k12.cell0 y0
    replace y1 := k12.cell0 y1
    replace y2 := k12.cell0 y2
    replace y3 := k12.cell0 y3
    replace K := hide ((unhide K).trans k12)
    have z13 := k12.size
    clear k12
    have kn := (Kept.refl 0 0 w12).alloc (.cells #[.int .i64 gk, .bool gn, .int .i64 gm, .int .i64 ge] 24)
    have ya0 : (w12.alloc (.cells #[.int .i64 gk, .bool gn, .int .i64 gm, .int .i64 ge] 24)).cell? ⟨w12.heap.size, 0, none⟩ = some (.int .i64 gk) := new_cell2 _ _ _ _ _ _ (by simp) rfl
    have ya1 : (w12.alloc (.cells #[.int .i64 gk, .bool gn, .int .i64 gm, .int .i64 ge] 24)).cell? ⟨w12.heap.size, 1, none⟩ = some (.bool gn) := new_cell2 _ _ _ _ _ _ (by simp) rfl
    have ya2 : (w12.alloc (.cells #[.int .i64 gk, .bool gn, .int .i64 gm, .int .i64 ge] 24)).cell? ⟨w12.heap.size, 2, none⟩ = some (.int .i64 gm) := new_cell2 _ _ _ _ _ _ (by simp) rfl
    have ya3 : (w12.alloc (.cells #[.int .i64 gk, .bool gn, .int .i64 gm, .int .i64 ge] 24)).cell? ⟨w12.heap.size, 3, none⟩ = some (.int .i64 ge) := new_cell2 _ _ _ _ _ _ (by simp) rfl
    have sz14 : w12.heap.size + 1 ≤ (w12.alloc (.cells #[.int .i64 gk, .bool gn, .int .i64 gm, .int .i64 ge] 24)).heap.size := by simp
    replace r := r.kept kn (by omega)
    replace y0 := kn.cell0 y0
    replace y1 := kn.cell0 y1
    replace y2 := kn.cell0 y2
    replace y3 := kn.cell0 y3
    replace K := hide ((unhide K).trans kn)
    have z15 := kn.size
    clear kn
    have kn := (Kept.refl 0 0 (w12.alloc (.cells #[.int .i64 gk, .bool gn, .int .i64 gm, .int .i64 ge] 24))).alloc (.cells #[.int .i64 hk, .bool hn, .int .i64 hm, .int .i64 he] 24)
    have za0 : ((w12.alloc (.cells #[.int .i64 gk, .bool gn, .int .i64 gm, .int .i64 ge] 24)).alloc (.cells #[.int .i64 hk, .bool hn, .int .i64 hm, .int .i64 he] 24)).cell? ⟨w12.heap.size + 1, 0, none⟩ = some (.int .i64 hk) := new_cell2 _ _ _ _ _ _ (by simp) rfl
    have za1 : ((w12.alloc (.cells #[.int .i64 gk, .bool gn, .int .i64 gm, .int .i64 ge] 24)).alloc (.cells #[.int .i64 hk, .bool hn, .int .i64 hm, .int .i64 he] 24)).cell? ⟨w12.heap.size + 1, 1, none⟩ = some (.bool hn) := new_cell2 _ _ _ _ _ _ (by simp) rfl
    have za2 : ((w12.alloc (.cells #[.int .i64 gk, .bool gn, .int .i64 gm, .int .i64 ge] 24)).alloc (.cells #[.int .i64 hk, .bool hn, .int .i64 hm, .int .i64 he] 24)).cell? ⟨w12.heap.size + 1, 2, none⟩ = some (.int .i64 hm) := new_cell2 _ _ _ _ _ _ (by simp) rfl
    have za3 : ((w12.alloc (.cells #[.int .i64 gk, .bool gn, .int .i64 gm, .int .i64 ge] 24)).alloc (.cells #[.int .i64 hk, .bool hn, .int .i64 hm, .int .i64 he] 24)).cell? ⟨w12.heap.size + 1, 3, none⟩ = some (.int .i64 he) := new_cell2 _ _ _ _ _ _ (by simp) rfl
    have sz16 : (w12.alloc (.cells #[.int .i64 gk, .bool gn, .int .i64 gm, .int .i64 ge] 24)).heap.size + 1 ≤ ((w12.alloc (.cells #[.int .i64 gk, .bool gn, .int .i64 gm, .int .i64 ge] 24)).alloc (.cells #[.int .i64 hk, .bool hn, .int .i64 hm, .int .i64 he] 24)).heap.size := by simp
    replace r := r.kept kn (by omega)
    replace y0 := kn.cell0 y0
    replace y1 := kn.cell0 y1
    replace y2 := kn.cell0 y2
    replace y3 := kn.cell0 y3
    replace ya0 := kn.cell0 ya0
    replace ya1 := kn.cell0 ya1
    replace ya2 := kn.cell0 ya2
    replace ya3 := kn.cell0 ya3
    replace K := hide ((unhide K).trans kn)
    have z17 := kn.size
    clear kn
    go_wp2_with fail
    generalize ((w12.alloc (.cells #[.int .i64 gk, .bool gn, .int .i64 gm, .int .i64 ge] 24)).alloc (.cells #[.int .i64 hk, .bool hn, .int .i64 hm, .int .i64 he] 24)) = wn18 at *
    obtain ⟨C, hC⟩ : ∃ o, fcmI gk gn gm ge hk hn hm he = o := ⟨_, rfl⟩
    obtain ⟨Q, hQ⟩ : ∃ o, fcmB gk gn gm ge hk hn hm he = o := ⟨_, rfl⟩
    have mk := flcmp_impl gk gn gm ge hk hn hm he wn18
    rw [hC, hQ] at mk
    replace hC := hide hC
    replace hQ := hide hQ
    refine (mk).mono ?_
    rintro e w19 ⟨rfl, k19⟩
    replace r := r.kept k19 (by omega)
    replace y0 := k19.cell0 y0
    replace y1 := k19.cell0 y1
    replace y2 := k19.cell0 y2
    replace y3 := k19.cell0 y3
    replace ya0 := k19.cell0 ya0
    replace ya1 := k19.cell0 ya1
    replace ya2 := k19.cell0 ya2
    replace ya3 := k19.cell0 ya3
    replace za0 := k19.cell0 za0
    replace za1 := k19.cell0 za1
    replace za2 := k19.cell0 za2
    replace za3 := k19.cell0 za3
    replace K := hide ((unhide K).trans k19)
    have z20 := k19.size
    clear k19
    clear mk
    cases Q
    · clear hC hQ
      go_wp2_with fail
      refine (drawUnpack_any _ r hb).mono ?_
      rintro e w21 ⟨x1, x2, rfl, k21⟩
      replace r := r.kept k21 (by omega)
      replace y0 := k21.cell0 y0
      replace y1 := k21.cell0 y1
      replace y2 := k21.cell0 y2
      replace y3 := k21.cell0 y3
      replace ya0 := k21.cell0 ya0
      replace ya1 := k21.cell0 ya1
      replace ya2 := k21.cell0 ya2
      replace ya3 := k21.cell0 ya3
      replace za0 := k21.cell0 za0
      replace za1 := k21.cell0 za1
      replace za2 := k21.cell0 za2
      replace za3 := k21.cell0 za3
      replace K := hide ((unhide K).trans k21)
      have z22 := k21.size
      clear k21
      clear r
      obtain ⟨U, hU⟩ : ∃ o, okU x1 x2 = o := ⟨_, rfl⟩
      obtain ⟨fx, hfx⟩ : ∃ o, fun2 x1 x2 = o := ⟨_, rfl⟩
      have mk := flun_impl x1 x2 w21
      rw [hU, hfx] at mk
      have HF : Hid (U = true → flok fx.1 fx.2.1 fx.2.2.1 fx.2.2.2 = true) := fun q => by
        have := ok_un (hU.trans q)
        rw [hfx] at this
        exact this
      obtain ⟨jk, jn, jm, je⟩ := fx
      clear hfx
      unfold okU at hU
      go_wp2_with fail
      refine (mk).mono ?_
      rintro e w23 ⟨rfl, k23⟩
      replace y0 := k23.cell0 y0
      replace y1 := k23.cell0 y1
      replace y2 := k23.cell0 y2
      replace y3 := k23.cell0 y3
      replace ya0 := k23.cell0 ya0
      replace ya1 := k23.cell0 ya1
      replace ya2 := k23.cell0 ya2
      replace ya3 := k23.cell0 ya3
      replace za0 := k23.cell0 za0
      replace za1 := k23.cell0 za1
      replace za2 := k23.cell0 za2
      replace za3 := k23.cell0 za3
      replace K := hide ((unhide K).trans k23)
      have z24 := k23.size
      clear k23
      clear mk
      cases U
      · have hU' : ¬ (0 ≤ x1 ∧ x1 ≤ 4294967295 ∧ 0 ≤ x2 ∧ x2 ≤ 4294967295) := of_decide_eq_false hU
        clear hU HF
        skip
        go_wp2_with fail
        all_goals first
          | (go_ret; exact ⟨rfl, ((unhide K).alloc _).toBelow⟩)
          | (go_ret; refine ⟨congrArg (fun b => Ending.returned (.bool b)) ?_, ((unhide K).alloc _).toBelow⟩; (simp <;> omega))
          | (exfalso; omega)
      · obtain ⟨u1, u2, u3, u4⟩ : 0 ≤ x1 ∧ x1 ≤ 4294967295 ∧ 0 ≤ x2 ∧ x2 ≤ 4294967295 := of_decide_eq_true hU
        have u2' : x1 < 4294967296 := by omega
        have u4' : x2 < 4294967296 := by omega
        have HF' := hide (unhide HF rfl)
        clear hU HF
        have kn := (Kept.refl 0 0 w23).alloc (.cells #[.int .i64 jk, .bool jn, .int .i64 jm, .int .i64 je] 24)
        have t0 : (w23.alloc (.cells #[.int .i64 jk, .bool jn, .int .i64 jm, .int .i64 je] 24)).cell? ⟨w23.heap.size, 0, none⟩ = some (.int .i64 jk) := new_cell2 _ _ _ _ _ _ (by simp) rfl
        have t1 : (w23.alloc (.cells #[.int .i64 jk, .bool jn, .int .i64 jm, .int .i64 je] 24)).cell? ⟨w23.heap.size, 1, none⟩ = some (.bool jn) := new_cell2 _ _ _ _ _ _ (by simp) rfl
        have t2 : (w23.alloc (.cells #[.int .i64 jk, .bool jn, .int .i64 jm, .int .i64 je] 24)).cell? ⟨w23.heap.size, 2, none⟩ = some (.int .i64 jm) := new_cell2 _ _ _ _ _ _ (by simp) rfl
        have t3 : (w23.alloc (.cells #[.int .i64 jk, .bool jn, .int .i64 jm, .int .i64 je] 24)).cell? ⟨w23.heap.size, 3, none⟩ = some (.int .i64 je) := new_cell2 _ _ _ _ _ _ (by simp) rfl
        have sz25 : w23.heap.size + 1 ≤ (w23.alloc (.cells #[.int .i64 jk, .bool jn, .int .i64 jm, .int .i64 je] 24)).heap.size := by simp
        replace y0 := kn.cell0 y0
        replace y1 := kn.cell0 y1
        replace y2 := kn.cell0 y2
        replace y3 := kn.cell0 y3
        replace ya0 := kn.cell0 ya0
        replace ya1 := kn.cell0 ya1
        replace ya2 := kn.cell0 ya2
        replace ya3 := kn.cell0 ya3
        replace za0 := kn.cell0 za0
        replace za1 := kn.cell0 za1
        replace za2 := kn.cell0 za2
        replace za3 := kn.cell0 za3
        replace K := hide ((unhide K).trans kn)
        have z26 := kn.size
        clear kn
        go_wp2_with fail
        generalize (w23.alloc (.cells #[.int .i64 jk, .bool jn, .int .i64 jm, .int .i64 je] 24)) = wn27 at *
        refine (flok_spec_k (unhide HF') _).mono ?_
        rintro e w28 ⟨rfl, k28⟩
        replace y0 := k28.cell0 y0
        replace y1 := k28.cell0 y1
        replace y2 := k28.cell0 y2
        replace y3 := k28.cell0 y3
        replace ya0 := k28.cell0 ya0
        replace ya1 := k28.cell0 ya1
        replace ya2 := k28.cell0 ya2
        replace ya3 := k28.cell0 ya3
        replace za0 := k28.cell0 za0
        replace za1 := k28.cell0 za1
        replace za2 := k28.cell0 za2
        replace za3 := k28.cell0 za3
        replace t0 := k28.cell0 t0
        replace t1 := k28.cell0 t1
        replace t2 := k28.cell0 t2
        replace t3 := k28.cell0 t3
        replace K := hide ((unhide K).trans k28)
        have z29 := k28.size
        clear k28
        go_wp2_with fail
        go_ret
        exact ⟨rfl, (unhide K).toBelow⟩
    cases gn
    · cases hn
      · have od := pk_order (unhide hQ)
        rw [unhide hC] at od
        obtain ⟨A1, hA1⟩ : ∃ o, (fpk gk false gm ge).1 = o := ⟨_, rfl⟩
        obtain ⟨A2, hA2⟩ : ∃ o, (fpk gk false gm ge).2 = o := ⟨_, rfl⟩
        obtain ⟨B1, hB1⟩ : ∃ o, (fpk hk false hm he).1 = o := ⟨_, rfl⟩
        obtain ⟨B2, hB2⟩ : ∃ o, (fpk hk false hm he).2 = o := ⟨_, rfl⟩
        rw [hA1, hA2, hB1, hB2] at od
        have mA := fun w => flpack_impl gk false gm ge w
        have mB := fun w => flpack_impl hk false hm he w
        simp only [hA1, hA2] at mA
        simp only [hB1, hB2] at mB
        generalize flok gk false gm ge = OA at mA
        generalize flok hk false hm he = OB at mB
        replace mA := hide mA
        replace mB := hide mB
        clear hA1 hA2 hB1 hB2 hC hQ
        replace od := hide od
        go_wp2_with fail
        refine (unhide mA _).mono ?_
        rintro e w21 ⟨rfl, k21⟩
        replace r := r.kept k21 (by omega)
        replace y0 := k21.cell0 y0
        replace y1 := k21.cell0 y1
        replace y2 := k21.cell0 y2
        replace y3 := k21.cell0 y3
        replace ya0 := k21.cell0 ya0
        replace ya1 := k21.cell0 ya1
        replace ya2 := k21.cell0 ya2
        replace ya3 := k21.cell0 ya3
        replace za0 := k21.cell0 za0
        replace za1 := k21.cell0 za1
        replace za2 := k21.cell0 za2
        replace za3 := k21.cell0 za3
        replace K := hide ((unhide K).trans k21)
        have z22 := k21.size
        clear k21
        go_wp2_with fail
        refine (unhide mB _).mono ?_
        rintro e w23 ⟨rfl, k23⟩
        replace r := r.kept k23 (by omega)
        replace y0 := k23.cell0 y0
        replace y1 := k23.cell0 y1
        replace y2 := k23.cell0 y2
        replace y3 := k23.cell0 y3
        replace ya0 := k23.cell0 ya0
        replace ya1 := k23.cell0 ya1
        replace ya2 := k23.cell0 ya2
        replace ya3 := k23.cell0 ya3
        replace za0 := k23.cell0 za0
        replace za1 := k23.cell0 za1
        replace za2 := k23.cell0 za2
        replace za3 := k23.cell0 za3
        replace K := hide ((unhide K).trans k23)
        have z24 := k23.size
        clear k23
        clear mA mB
        rcases unhide od with ⟨o1, o2 | ⟨o2, o3⟩⟩ | ⟨o1, o2, o3⟩
        · clear od
          have d1 : decide (C < 0) = true := decide_eq_true o1
          have d2 : decide (A1 < B1) = true := decide_eq_true o2
          clear o1 o2
          go_wp2_with fail
          refine (drawUnpack_any _ r hb).mono ?_
          rintro e w25 ⟨x1, x2, rfl, k25⟩
          replace r := r.kept k25 (by omega)
          replace y0 := k25.cell0 y0
          replace y1 := k25.cell0 y1
          replace y2 := k25.cell0 y2
          replace y3 := k25.cell0 y3
          replace ya0 := k25.cell0 ya0
          replace ya1 := k25.cell0 ya1
          replace ya2 := k25.cell0 ya2
          replace ya3 := k25.cell0 ya3
          replace za0 := k25.cell0 za0
          replace za1 := k25.cell0 za1
          replace za2 := k25.cell0 za2
          replace za3 := k25.cell0 za3
          replace K := hide ((unhide K).trans k25)
          have z26 := k25.size
          clear k25
          clear r
          obtain ⟨U, hU⟩ : ∃ o, okU x1 x2 = o := ⟨_, rfl⟩
          obtain ⟨fx, hfx⟩ : ∃ o, fun2 x1 x2 = o := ⟨_, rfl⟩
          have mk := flun_impl x1 x2 w25
          rw [hU, hfx] at mk
          have HF : Hid (U = true → flok fx.1 fx.2.1 fx.2.2.1 fx.2.2.2 = true) := fun q => by
            have := ok_un (hU.trans q)
            rw [hfx] at this
            exact this
          obtain ⟨jk, jn, jm, je⟩ := fx
          clear hfx
          unfold okU at hU
          go_wp2_with fail
          refine (mk).mono ?_
          rintro e w27 ⟨rfl, k27⟩
          replace y0 := k27.cell0 y0
          replace y1 := k27.cell0 y1
          replace y2 := k27.cell0 y2
          replace y3 := k27.cell0 y3
          replace ya0 := k27.cell0 ya0
          replace ya1 := k27.cell0 ya1
          replace ya2 := k27.cell0 ya2
          replace ya3 := k27.cell0 ya3
          replace za0 := k27.cell0 za0
          replace za1 := k27.cell0 za1
          replace za2 := k27.cell0 za2
          replace za3 := k27.cell0 za3
          replace K := hide ((unhide K).trans k27)
          have z28 := k27.size
          clear k27
          clear mk
          cases U
          · have hU' : ¬ (0 ≤ x1 ∧ x1 ≤ 4294967295 ∧ 0 ≤ x2 ∧ x2 ≤ 4294967295) := of_decide_eq_false hU
            clear hU HF
            skip
            go_wp2_with fail
            all_goals first
              | (go_ret; exact ⟨rfl, ((unhide K).alloc _).toBelow⟩)
              | (go_ret; refine ⟨congrArg (fun b => Ending.returned (.bool b)) ?_, ((unhide K).alloc _).toBelow⟩; (simp <;> omega))
              | (exfalso; omega)
          · obtain ⟨u1, u2, u3, u4⟩ : 0 ≤ x1 ∧ x1 ≤ 4294967295 ∧ 0 ≤ x2 ∧ x2 ≤ 4294967295 := of_decide_eq_true hU
            have u2' : x1 < 4294967296 := by omega
            have u4' : x2 < 4294967296 := by omega
            have HF' := hide (unhide HF rfl)
            clear hU HF
            have kn := (Kept.refl 0 0 w27).alloc (.cells #[.int .i64 jk, .bool jn, .int .i64 jm, .int .i64 je] 24)
            have t0 : (w27.alloc (.cells #[.int .i64 jk, .bool jn, .int .i64 jm, .int .i64 je] 24)).cell? ⟨w27.heap.size, 0, none⟩ = some (.int .i64 jk) := new_cell2 _ _ _ _ _ _ (by simp) rfl
            have t1 : (w27.alloc (.cells #[.int .i64 jk, .bool jn, .int .i64 jm, .int .i64 je] 24)).cell? ⟨w27.heap.size, 1, none⟩ = some (.bool jn) := new_cell2 _ _ _ _ _ _ (by simp) rfl
            have t2 : (w27.alloc (.cells #[.int .i64 jk, .bool jn, .int .i64 jm, .int .i64 je] 24)).cell? ⟨w27.heap.size, 2, none⟩ = some (.int .i64 jm) := new_cell2 _ _ _ _ _ _ (by simp) rfl
            have t3 : (w27.alloc (.cells #[.int .i64 jk, .bool jn, .int .i64 jm, .int .i64 je] 24)).cell? ⟨w27.heap.size, 3, none⟩ = some (.int .i64 je) := new_cell2 _ _ _ _ _ _ (by simp) rfl
            have sz29 : w27.heap.size + 1 ≤ (w27.alloc (.cells #[.int .i64 jk, .bool jn, .int .i64 jm, .int .i64 je] 24)).heap.size := by simp
            replace y0 := kn.cell0 y0
            replace y1 := kn.cell0 y1
            replace y2 := kn.cell0 y2
            replace y3 := kn.cell0 y3
            replace ya0 := kn.cell0 ya0
            replace ya1 := kn.cell0 ya1
            replace ya2 := kn.cell0 ya2
            replace ya3 := kn.cell0 ya3
            replace za0 := kn.cell0 za0
            replace za1 := kn.cell0 za1
            replace za2 := kn.cell0 za2
            replace za3 := kn.cell0 za3
            replace K := hide ((unhide K).trans kn)
            have z30 := kn.size
            clear kn
            go_wp2_with fail
            generalize (w27.alloc (.cells #[.int .i64 jk, .bool jn, .int .i64 jm, .int .i64 je] 24)) = wn31 at *
            refine (flok_spec_k (unhide HF') _).mono ?_
            rintro e w32 ⟨rfl, k32⟩
            replace y0 := k32.cell0 y0
            replace y1 := k32.cell0 y1
            replace y2 := k32.cell0 y2
            replace y3 := k32.cell0 y3
            replace ya0 := k32.cell0 ya0
            replace ya1 := k32.cell0 ya1
            replace ya2 := k32.cell0 ya2
            replace ya3 := k32.cell0 ya3
            replace za0 := k32.cell0 za0
            replace za1 := k32.cell0 za1
            replace za2 := k32.cell0 za2
            replace za3 := k32.cell0 za3
            replace t0 := k32.cell0 t0
            replace t1 := k32.cell0 t1
            replace t2 := k32.cell0 t2
            replace t3 := k32.cell0 t3
            replace K := hide ((unhide K).trans k32)
            have z33 := k32.size
            clear k32
            go_wp2_with fail
            go_ret
            exact ⟨rfl, (unhide K).toBelow⟩
        · clear od
          subst o2
          have d1 : decide (C < 0) = true := decide_eq_true o1
          have d2 : decide (A1 < A1) = false := decide_eq_false (by omega)
          have d3 : decide (A2 < B2) = true := decide_eq_true o3
          clear o1 o3
          go_wp2_with fail
          refine (drawUnpack_any _ r hb).mono ?_
          rintro e w25 ⟨x1, x2, rfl, k25⟩
          replace r := r.kept k25 (by omega)
          replace y0 := k25.cell0 y0
          replace y1 := k25.cell0 y1
          replace y2 := k25.cell0 y2
          replace y3 := k25.cell0 y3
          replace ya0 := k25.cell0 ya0
          replace ya1 := k25.cell0 ya1
          replace ya2 := k25.cell0 ya2
          replace ya3 := k25.cell0 ya3
          replace za0 := k25.cell0 za0
          replace za1 := k25.cell0 za1
          replace za2 := k25.cell0 za2
          replace za3 := k25.cell0 za3
          replace K := hide ((unhide K).trans k25)
          have z26 := k25.size
          clear k25
          clear r
          obtain ⟨U, hU⟩ : ∃ o, okU x1 x2 = o := ⟨_, rfl⟩
          obtain ⟨fx, hfx⟩ : ∃ o, fun2 x1 x2 = o := ⟨_, rfl⟩
          have mk := flun_impl x1 x2 w25
          rw [hU, hfx] at mk
          have HF : Hid (U = true → flok fx.1 fx.2.1 fx.2.2.1 fx.2.2.2 = true) := fun q => by
            have := ok_un (hU.trans q)
            rw [hfx] at this
            exact this
          obtain ⟨jk, jn, jm, je⟩ := fx
          clear hfx
          unfold okU at hU
          go_wp2_with fail
          refine (mk).mono ?_
          rintro e w27 ⟨rfl, k27⟩
          replace y0 := k27.cell0 y0
          replace y1 := k27.cell0 y1
          replace y2 := k27.cell0 y2
          replace y3 := k27.cell0 y3
          replace ya0 := k27.cell0 ya0
          replace ya1 := k27.cell0 ya1
          replace ya2 := k27.cell0 ya2
          replace ya3 := k27.cell0 ya3
          replace za0 := k27.cell0 za0
          replace za1 := k27.cell0 za1
          replace za2 := k27.cell0 za2
          replace za3 := k27.cell0 za3
          replace K := hide ((unhide K).trans k27)
          have z28 := k27.size
          clear k27
          clear mk
          cases U
          · have hU' : ¬ (0 ≤ x1 ∧ x1 ≤ 4294967295 ∧ 0 ≤ x2 ∧ x2 ≤ 4294967295) := of_decide_eq_false hU
            clear hU HF
            skip
            go_wp2_with fail
            all_goals first
              | (go_ret; exact ⟨rfl, ((unhide K).alloc _).toBelow⟩)
              | (go_ret; refine ⟨congrArg (fun b => Ending.returned (.bool b)) ?_, ((unhide K).alloc _).toBelow⟩; (simp <;> omega))
              | (exfalso; omega)
          · obtain ⟨u1, u2, u3, u4⟩ : 0 ≤ x1 ∧ x1 ≤ 4294967295 ∧ 0 ≤ x2 ∧ x2 ≤ 4294967295 := of_decide_eq_true hU
            have u2' : x1 < 4294967296 := by omega
            have u4' : x2 < 4294967296 := by omega
            have HF' := hide (unhide HF rfl)
            clear hU HF
            have kn := (Kept.refl 0 0 w27).alloc (.cells #[.int .i64 jk, .bool jn, .int .i64 jm, .int .i64 je] 24)
            have t0 : (w27.alloc (.cells #[.int .i64 jk, .bool jn, .int .i64 jm, .int .i64 je] 24)).cell? ⟨w27.heap.size, 0, none⟩ = some (.int .i64 jk) := new_cell2 _ _ _ _ _ _ (by simp) rfl
            have t1 : (w27.alloc (.cells #[.int .i64 jk, .bool jn, .int .i64 jm, .int .i64 je] 24)).cell? ⟨w27.heap.size, 1, none⟩ = some (.bool jn) := new_cell2 _ _ _ _ _ _ (by simp) rfl
            have t2 : (w27.alloc (.cells #[.int .i64 jk, .bool jn, .int .i64 jm, .int .i64 je] 24)).cell? ⟨w27.heap.size, 2, none⟩ = some (.int .i64 jm) := new_cell2 _ _ _ _ _ _ (by simp) rfl
            have t3 : (w27.alloc (.cells #[.int .i64 jk, .bool jn, .int .i64 jm, .int .i64 je] 24)).cell? ⟨w27.heap.size, 3, none⟩ = some (.int .i64 je) := new_cell2 _ _ _ _ _ _ (by simp) rfl
            have sz29 : w27.heap.size + 1 ≤ (w27.alloc (.cells #[.int .i64 jk, .bool jn, .int .i64 jm, .int .i64 je] 24)).heap.size := by simp
            replace y0 := kn.cell0 y0
            replace y1 := kn.cell0 y1
            replace y2 := kn.cell0 y2
            replace y3 := kn.cell0 y3
            replace ya0 := kn.cell0 ya0
            replace ya1 := kn.cell0 ya1
            replace ya2 := kn.cell0 ya2
            replace ya3 := kn.cell0 ya3
            replace za0 := kn.cell0 za0
            replace za1 := kn.cell0 za1
            replace za2 := kn.cell0 za2
            replace za3 := kn.cell0 za3
            replace K := hide ((unhide K).trans kn)
            have z30 := kn.size
            clear kn
            go_wp2_with fail
            generalize (w27.alloc (.cells #[.int .i64 jk, .bool jn, .int .i64 jm, .int .i64 je] 24)) = wn31 at *
            refine (flok_spec_k (unhide HF') _).mono ?_
            rintro e w32 ⟨rfl, k32⟩
            replace y0 := k32.cell0 y0
            replace y1 := k32.cell0 y1
            replace y2 := k32.cell0 y2
            replace y3 := k32.cell0 y3
            replace ya0 := k32.cell0 ya0
            replace ya1 := k32.cell0 ya1
            replace ya2 := k32.cell0 ya2
            replace ya3 := k32.cell0 ya3
            replace za0 := k32.cell0 za0
            replace za1 := k32.cell0 za1
            replace za2 := k32.cell0 za2
            replace za3 := k32.cell0 za3
            replace t0 := k32.cell0 t0
            replace t1 := k32.cell0 t1
            replace t2 := k32.cell0 t2
            replace t3 := k32.cell0 t3
            replace K := hide ((unhide K).trans k32)
            have z33 := k32.size
            clear k32
            go_wp2_with fail
            go_ret
            exact ⟨rfl, (unhide K).toBelow⟩
        · clear od
          have d1 : decide (C < 0) = false := decide_eq_false (by omega)
          have d2 : decide (A1 < B1) = false := decide_eq_false (by omega)
          by_cases o4 : A1 = B1
          · subst o4
            have d3 : decide (A2 < B2) = false := decide_eq_false (by have := o3 rfl; omega)
            clear o1 o2 o3
            go_wp2_with fail
            refine (drawUnpack_any _ r hb).mono ?_
            rintro e w25 ⟨x1, x2, rfl, k25⟩
            replace r := r.kept k25 (by omega)
            replace y0 := k25.cell0 y0
            replace y1 := k25.cell0 y1
            replace y2 := k25.cell0 y2
            replace y3 := k25.cell0 y3
            replace ya0 := k25.cell0 ya0
            replace ya1 := k25.cell0 ya1
            replace ya2 := k25.cell0 ya2
            replace ya3 := k25.cell0 ya3
            replace za0 := k25.cell0 za0
            replace za1 := k25.cell0 za1
            replace za2 := k25.cell0 za2
            replace za3 := k25.cell0 za3
            replace K := hide ((unhide K).trans k25)
            have z26 := k25.size
            clear k25
            clear r
            obtain ⟨U, hU⟩ : ∃ o, okU x1 x2 = o := ⟨_, rfl⟩
            obtain ⟨fx, hfx⟩ : ∃ o, fun2 x1 x2 = o := ⟨_, rfl⟩
            have mk := flun_impl x1 x2 w25
            rw [hU, hfx] at mk
            have HF : Hid (U = true → flok fx.1 fx.2.1 fx.2.2.1 fx.2.2.2 = true) := fun q => by
              have := ok_un (hU.trans q)
              rw [hfx] at this
              exact this
            obtain ⟨jk, jn, jm, je⟩ := fx
            clear hfx
            unfold okU at hU
            go_wp2_with fail
            refine (mk).mono ?_
            rintro e w27 ⟨rfl, k27⟩
            replace y0 := k27.cell0 y0
            replace y1 := k27.cell0 y1
            replace y2 := k27.cell0 y2
            replace y3 := k27.cell0 y3
            replace ya0 := k27.cell0 ya0
            replace ya1 := k27.cell0 ya1
            replace ya2 := k27.cell0 ya2
            replace ya3 := k27.cell0 ya3
            replace za0 := k27.cell0 za0
            replace za1 := k27.cell0 za1
            replace za2 := k27.cell0 za2
            replace za3 := k27.cell0 za3
            replace K := hide ((unhide K).trans k27)
            have z28 := k27.size
            clear k27
            clear mk
            cases U
            · have hU' : ¬ (0 ≤ x1 ∧ x1 ≤ 4294967295 ∧ 0 ≤ x2 ∧ x2 ≤ 4294967295) := of_decide_eq_false hU
              clear hU HF
              skip
              go_wp2_with fail
              all_goals first
                | (go_ret; exact ⟨rfl, ((unhide K).alloc _).toBelow⟩)
                | (go_ret; refine ⟨congrArg (fun b => Ending.returned (.bool b)) ?_, ((unhide K).alloc _).toBelow⟩; (simp <;> omega))
                | (exfalso; omega)
            · obtain ⟨u1, u2, u3, u4⟩ : 0 ≤ x1 ∧ x1 ≤ 4294967295 ∧ 0 ≤ x2 ∧ x2 ≤ 4294967295 := of_decide_eq_true hU
              have u2' : x1 < 4294967296 := by omega
              have u4' : x2 < 4294967296 := by omega
              have HF' := hide (unhide HF rfl)
              clear hU HF
              have kn := (Kept.refl 0 0 w27).alloc (.cells #[.int .i64 jk, .bool jn, .int .i64 jm, .int .i64 je] 24)
              have t0 : (w27.alloc (.cells #[.int .i64 jk, .bool jn, .int .i64 jm, .int .i64 je] 24)).cell? ⟨w27.heap.size, 0, none⟩ = some (.int .i64 jk) := new_cell2 _ _ _ _ _ _ (by simp) rfl
              have t1 : (w27.alloc (.cells #[.int .i64 jk, .bool jn, .int .i64 jm, .int .i64 je] 24)).cell? ⟨w27.heap.size, 1, none⟩ = some (.bool jn) := new_cell2 _ _ _ _ _ _ (by simp) rfl
              have t2 : (w27.alloc (.cells #[.int .i64 jk, .bool jn, .int .i64 jm, .int .i64 je] 24)).cell? ⟨w27.heap.size, 2, none⟩ = some (.int .i64 jm) := new_cell2 _ _ _ _ _ _ (by simp) rfl
              have t3 : (w27.alloc (.cells #[.int .i64 jk, .bool jn, .int .i64 jm, .int .i64 je] 24)).cell? ⟨w27.heap.size, 3, none⟩ = some (.int .i64 je) := new_cell2 _ _ _ _ _ _ (by simp) rfl
              have sz29 : w27.heap.size + 1 ≤ (w27.alloc (.cells #[.int .i64 jk, .bool jn, .int .i64 jm, .int .i64 je] 24)).heap.size := by simp
              replace y0 := kn.cell0 y0
              replace y1 := kn.cell0 y1
              replace y2 := kn.cell0 y2
              replace y3 := kn.cell0 y3
              replace ya0 := kn.cell0 ya0
              replace ya1 := kn.cell0 ya1
              replace ya2 := kn.cell0 ya2
              replace ya3 := kn.cell0 ya3
              replace za0 := kn.cell0 za0
              replace za1 := kn.cell0 za1
              replace za2 := kn.cell0 za2
              replace za3 := kn.cell0 za3
              replace K := hide ((unhide K).trans kn)
              have z30 := kn.size
              clear kn
              go_wp2_with fail
              generalize (w27.alloc (.cells #[.int .i64 jk, .bool jn, .int .i64 jm, .int .i64 je] 24)) = wn31 at *
              refine (flok_spec_k (unhide HF') _).mono ?_
              rintro e w32 ⟨rfl, k32⟩
              replace y0 := k32.cell0 y0
              replace y1 := k32.cell0 y1
              replace y2 := k32.cell0 y2
              replace y3 := k32.cell0 y3
              replace ya0 := k32.cell0 ya0
              replace ya1 := k32.cell0 ya1
              replace ya2 := k32.cell0 ya2
              replace ya3 := k32.cell0 ya3
              replace za0 := k32.cell0 za0
              replace za1 := k32.cell0 za1
              replace za2 := k32.cell0 za2
              replace za3 := k32.cell0 za3
              replace t0 := k32.cell0 t0
              replace t1 := k32.cell0 t1
              replace t2 := k32.cell0 t2
              replace t3 := k32.cell0 t3
              replace K := hide ((unhide K).trans k32)
              have z33 := k32.size
              clear k32
              go_wp2_with fail
              go_ret
              exact ⟨rfl, (unhide K).toBelow⟩
          · have d3 : (A1 == B1) = false := by simpa using o4
            clear o1 o2 o3 o4
            go_wp2_with fail
            refine (drawUnpack_any _ r hb).mono ?_
            rintro e w25 ⟨x1, x2, rfl, k25⟩
            replace r := r.kept k25 (by omega)
            replace y0 := k25.cell0 y0
            replace y1 := k25.cell0 y1
            replace y2 := k25.cell0 y2
            replace y3 := k25.cell0 y3
            replace ya0 := k25.cell0 ya0
            replace ya1 := k25.cell0 ya1
            replace ya2 := k25.cell0 ya2
            replace ya3 := k25.cell0 ya3
            replace za0 := k25.cell0 za0
            replace za1 := k25.cell0 za1
            replace za2 := k25.cell0 za2
            replace za3 := k25.cell0 za3
            replace K := hide ((unhide K).trans k25)
            have z26 := k25.size
            clear k25
            clear r
            obtain ⟨U, hU⟩ : ∃ o, okU x1 x2 = o := ⟨_, rfl⟩
            obtain ⟨fx, hfx⟩ : ∃ o, fun2 x1 x2 = o := ⟨_, rfl⟩
            have mk := flun_impl x1 x2 w25
            rw [hU, hfx] at mk
            have HF : Hid (U = true → flok fx.1 fx.2.1 fx.2.2.1 fx.2.2.2 = true) := fun q => by
              have := ok_un (hU.trans q)
              rw [hfx] at this
              exact this
            obtain ⟨jk, jn, jm, je⟩ := fx
            clear hfx
            unfold okU at hU
            go_wp2_with fail
            refine (mk).mono ?_
            rintro e w27 ⟨rfl, k27⟩
            replace y0 := k27.cell0 y0
            replace y1 := k27.cell0 y1
            replace y2 := k27.cell0 y2
            replace y3 := k27.cell0 y3
            replace ya0 := k27.cell0 ya0
            replace ya1 := k27.cell0 ya1
            replace ya2 := k27.cell0 ya2
            replace ya3 := k27.cell0 ya3
            replace za0 := k27.cell0 za0
            replace za1 := k27.cell0 za1
            replace za2 := k27.cell0 za2
            replace za3 := k27.cell0 za3
            replace K := hide ((unhide K).trans k27)
            have z28 := k27.size
            clear k27
            clear mk
            cases U
            · have hU' : ¬ (0 ≤ x1 ∧ x1 ≤ 4294967295 ∧ 0 ≤ x2 ∧ x2 ≤ 4294967295) := of_decide_eq_false hU
              clear hU HF
              skip
              go_wp2_with fail
              all_goals first
                | (go_ret; exact ⟨rfl, ((unhide K).alloc _).toBelow⟩)
                | (go_ret; refine ⟨congrArg (fun b => Ending.returned (.bool b)) ?_, ((unhide K).alloc _).toBelow⟩; (simp <;> omega))
                | (exfalso; omega)
            · obtain ⟨u1, u2, u3, u4⟩ : 0 ≤ x1 ∧ x1 ≤ 4294967295 ∧ 0 ≤ x2 ∧ x2 ≤ 4294967295 := of_decide_eq_true hU
              have u2' : x1 < 4294967296 := by omega
              have u4' : x2 < 4294967296 := by omega
              have HF' := hide (unhide HF rfl)
              clear hU HF
              have kn := (Kept.refl 0 0 w27).alloc (.cells #[.int .i64 jk, .bool jn, .int .i64 jm, .int .i64 je] 24)
              have t0 : (w27.alloc (.cells #[.int .i64 jk, .bool jn, .int .i64 jm, .int .i64 je] 24)).cell? ⟨w27.heap.size, 0, none⟩ = some (.int .i64 jk) := new_cell2 _ _ _ _ _ _ (by simp) rfl
              have t1 : (w27.alloc (.cells #[.int .i64 jk, .bool jn, .int .i64 jm, .int .i64 je] 24)).cell? ⟨w27.heap.size, 1, none⟩ = some (.bool jn) := new_cell2 _ _ _ _ _ _ (by simp) rfl
              have t2 : (w27.alloc (.cells #[.int .i64 jk, .bool jn, .int .i64 jm, .int .i64 je] 24)).cell? ⟨w27.heap.size, 2, none⟩ = some (.int .i64 jm) := new_cell2 _ _ _ _ _ _ (by simp) rfl
              have t3 : (w27.alloc (.cells #[.int .i64 jk, .bool jn, .int .i64 jm, .int .i64 je] 24)).cell? ⟨w27.heap.size, 3, none⟩ = some (.int .i64 je) := new_cell2 _ _ _ _ _ _ (by simp) rfl
              have sz29 : w27.heap.size + 1 ≤ (w27.alloc (.cells #[.int .i64 jk, .bool jn, .int .i64 jm, .int .i64 je] 24)).heap.size := by simp
              replace y0 := kn.cell0 y0
              replace y1 := kn.cell0 y1
              replace y2 := kn.cell0 y2
              replace y3 := kn.cell0 y3
              replace ya0 := kn.cell0 ya0
              replace ya1 := kn.cell0 ya1
              replace ya2 := kn.cell0 ya2
              replace ya3 := kn.cell0 ya3
              replace za0 := kn.cell0 za0
              replace za1 := kn.cell0 za1
              replace za2 := kn.cell0 za2
              replace za3 := kn.cell0 za3
              replace K := hide ((unhide K).trans kn)
              have z30 := kn.size
              clear kn
              go_wp2_with fail
              generalize (w27.alloc (.cells #[.int .i64 jk, .bool jn, .int .i64 jm, .int .i64 je] 24)) = wn31 at *
              refine (flok_spec_k (unhide HF') _).mono ?_
              rintro e w32 ⟨rfl, k32⟩
              replace y0 := k32.cell0 y0
              replace y1 := k32.cell0 y1
              replace y2 := k32.cell0 y2
              replace y3 := k32.cell0 y3
              replace ya0 := k32.cell0 ya0
              replace ya1 := k32.cell0 ya1
              replace ya2 := k32.cell0 ya2
              replace ya3 := k32.cell0 ya3
              replace za0 := k32.cell0 za0
              replace za1 := k32.cell0 za1
              replace za2 := k32.cell0 za2
              replace za3 := k32.cell0 za3
              replace t0 := k32.cell0 t0
              replace t1 := k32.cell0 t1
              replace t2 := k32.cell0 t2
              replace t3 := k32.cell0 t3
              replace K := hide ((unhide K).trans k32)
              have z33 := k32.size
              clear k32
              go_wp2_with fail
              go_ret
              exact ⟨rfl, (unhide K).toBelow⟩
      · clear hC hQ
        go_wp2_with fail
        refine (drawUnpack_any _ r hb).mono ?_
        rintro e w21 ⟨x1, x2, rfl, k21⟩
        replace r := r.kept k21 (by omega)
        replace y0 := k21.cell0 y0
        replace y1 := k21.cell0 y1
        replace y2 := k21.cell0 y2
        replace y3 := k21.cell0 y3
        replace ya0 := k21.cell0 ya0
        replace ya1 := k21.cell0 ya1
        replace ya2 := k21.cell0 ya2
        replace ya3 := k21.cell0 ya3
        replace za0 := k21.cell0 za0
        replace za1 := k21.cell0 za1
        replace za2 := k21.cell0 za2
        replace za3 := k21.cell0 za3
        replace K := hide ((unhide K).trans k21)
        have z22 := k21.size
        clear k21
        clear r
        obtain ⟨U, hU⟩ : ∃ o, okU x1 x2 = o := ⟨_, rfl⟩
        obtain ⟨fx, hfx⟩ : ∃ o, fun2 x1 x2 = o := ⟨_, rfl⟩
        have mk := flun_impl x1 x2 w21
        rw [hU, hfx] at mk
        have HF : Hid (U = true → flok fx.1 fx.2.1 fx.2.2.1 fx.2.2.2 = true) := fun q => by
          have := ok_un (hU.trans q)
          rw [hfx] at this
          exact this
        obtain ⟨jk, jn, jm, je⟩ := fx
        clear hfx
        unfold okU at hU
        go_wp2_with fail
        refine (mk).mono ?_
        rintro e w23 ⟨rfl, k23⟩
        replace y0 := k23.cell0 y0
        replace y1 := k23.cell0 y1
        replace y2 := k23.cell0 y2
        replace y3 := k23.cell0 y3
        replace ya0 := k23.cell0 ya0
        replace ya1 := k23.cell0 ya1
        replace ya2 := k23.cell0 ya2
        replace ya3 := k23.cell0 ya3
        replace za0 := k23.cell0 za0
        replace za1 := k23.cell0 za1
        replace za2 := k23.cell0 za2
        replace za3 := k23.cell0 za3
        replace K := hide ((unhide K).trans k23)
        have z24 := k23.size
        clear k23
        clear mk
        cases U
        · have hU' : ¬ (0 ≤ x1 ∧ x1 ≤ 4294967295 ∧ 0 ≤ x2 ∧ x2 ≤ 4294967295) := of_decide_eq_false hU
          clear hU HF
          skip
          go_wp2_with fail
          all_goals first
            | (go_ret; exact ⟨rfl, ((unhide K).alloc _).toBelow⟩)
            | (go_ret; refine ⟨congrArg (fun b => Ending.returned (.bool b)) ?_, ((unhide K).alloc _).toBelow⟩; (simp <;> omega))
            | (exfalso; omega)
        · obtain ⟨u1, u2, u3, u4⟩ : 0 ≤ x1 ∧ x1 ≤ 4294967295 ∧ 0 ≤ x2 ∧ x2 ≤ 4294967295 := of_decide_eq_true hU
          have u2' : x1 < 4294967296 := by omega
          have u4' : x2 < 4294967296 := by omega
          have HF' := hide (unhide HF rfl)
          clear hU HF
          have kn := (Kept.refl 0 0 w23).alloc (.cells #[.int .i64 jk, .bool jn, .int .i64 jm, .int .i64 je] 24)
          have t0 : (w23.alloc (.cells #[.int .i64 jk, .bool jn, .int .i64 jm, .int .i64 je] 24)).cell? ⟨w23.heap.size, 0, none⟩ = some (.int .i64 jk) := new_cell2 _ _ _ _ _ _ (by simp) rfl
          have t1 : (w23.alloc (.cells #[.int .i64 jk, .bool jn, .int .i64 jm, .int .i64 je] 24)).cell? ⟨w23.heap.size, 1, none⟩ = some (.bool jn) := new_cell2 _ _ _ _ _ _ (by simp) rfl
          have t2 : (w23.alloc (.cells #[.int .i64 jk, .bool jn, .int .i64 jm, .int .i64 je] 24)).cell? ⟨w23.heap.size, 2, none⟩ = some (.int .i64 jm) := new_cell2 _ _ _ _ _ _ (by simp) rfl
          have t3 : (w23.alloc (.cells #[.int .i64 jk, .bool jn, .int .i64 jm, .int .i64 je] 24)).cell? ⟨w23.heap.size, 3, none⟩ = some (.int .i64 je) := new_cell2 _ _ _ _ _ _ (by simp) rfl
          have sz25 : w23.heap.size + 1 ≤ (w23.alloc (.cells #[.int .i64 jk, .bool jn, .int .i64 jm, .int .i64 je] 24)).heap.size := by simp
          replace y0 := kn.cell0 y0
          replace y1 := kn.cell0 y1
          replace y2 := kn.cell0 y2
          replace y3 := kn.cell0 y3
          replace ya0 := kn.cell0 ya0
          replace ya1 := kn.cell0 ya1
          replace ya2 := kn.cell0 ya2
          replace ya3 := kn.cell0 ya3
          replace za0 := kn.cell0 za0
          replace za1 := kn.cell0 za1
          replace za2 := kn.cell0 za2
          replace za3 := kn.cell0 za3
          replace K := hide ((unhide K).trans kn)
          have z26 := kn.size
          clear kn
          go_wp2_with fail
          generalize (w23.alloc (.cells #[.int .i64 jk, .bool jn, .int .i64 jm, .int .i64 je] 24)) = wn27 at *
          refine (flok_spec_k (unhide HF') _).mono ?_
          rintro e w28 ⟨rfl, k28⟩
          replace y0 := k28.cell0 y0
          replace y1 := k28.cell0 y1
          replace y2 := k28.cell0 y2
          replace y3 := k28.cell0 y3
          replace ya0 := k28.cell0 ya0
          replace ya1 := k28.cell0 ya1
          replace ya2 := k28.cell0 ya2
          replace ya3 := k28.cell0 ya3
          replace za0 := k28.cell0 za0
          replace za1 := k28.cell0 za1
          replace za2 := k28.cell0 za2
          replace za3 := k28.cell0 za3
          replace t0 := k28.cell0 t0
          replace t1 := k28.cell0 t1
          replace t2 := k28.cell0 t2
          replace t3 := k28.cell0 t3
          replace K := hide ((unhide K).trans k28)
          have z29 := k28.size
          clear k28
          go_wp2_with fail
          go_ret
          exact ⟨rfl, (unhide K).toBelow⟩
    · clear hC hQ
      go_wp2_with fail
      refine (drawUnpack_any _ r hb).mono ?_
      rintro e w21 ⟨x1, x2, rfl, k21⟩
      replace r := r.kept k21 (by omega)
      replace y0 := k21.cell0 y0
      replace y1 := k21.cell0 y1
      replace y2 := k21.cell0 y2
      replace y3 := k21.cell0 y3
      replace ya0 := k21.cell0 ya0
      replace ya1 := k21.cell0 ya1
      replace ya2 := k21.cell0 ya2
      replace ya3 := k21.cell0 ya3
      replace za0 := k21.cell0 za0
      replace za1 := k21.cell0 za1
      replace za2 := k21.cell0 za2
      replace za3 := k21.cell0 za3
      replace K := hide ((unhide K).trans k21)
      have z22 := k21.size
      clear k21
      clear r
      obtain ⟨U, hU⟩ : ∃ o, okU x1 x2 = o := ⟨_, rfl⟩
      obtain ⟨fx, hfx⟩ : ∃ o, fun2 x1 x2 = o := ⟨_, rfl⟩
      have mk := flun_impl x1 x2 w21
      rw [hU, hfx] at mk
      have HF : Hid (U = true → flok fx.1 fx.2.1 fx.2.2.1 fx.2.2.2 = true) := fun q => by
        have := ok_un (hU.trans q)
        rw [hfx] at this
        exact this
      obtain ⟨jk, jn, jm, je⟩ := fx
      clear hfx
      unfold okU at hU
      go_wp2_with fail
      refine (mk).mono ?_
      rintro e w23 ⟨rfl, k23⟩
      replace y0 := k23.cell0 y0
      replace y1 := k23.cell0 y1
      replace y2 := k23.cell0 y2
      replace y3 := k23.cell0 y3
      replace ya0 := k23.cell0 ya0
      replace ya1 := k23.cell0 ya1
      replace ya2 := k23.cell0 ya2
      replace ya3 := k23.cell0 ya3
      replace za0 := k23.cell0 za0
      replace za1 := k23.cell0 za1
      replace za2 := k23.cell0 za2
      replace za3 := k23.cell0 za3
      replace K := hide ((unhide K).trans k23)
      have z24 := k23.size
      clear k23
      clear mk
      cases U
      · have hU' : ¬ (0 ≤ x1 ∧ x1 ≤ 4294967295 ∧ 0 ≤ x2 ∧ x2 ≤ 4294967295) := of_decide_eq_false hU
        clear hU HF
        skip
        go_wp2_with fail
        all_goals first
          | (go_ret; exact ⟨rfl, ((unhide K).alloc _).toBelow⟩)
          | (go_ret; refine ⟨congrArg (fun b => Ending.returned (.bool b)) ?_, ((unhide K).alloc _).toBelow⟩; (simp <;> omega))
          | (exfalso; omega)
      · obtain ⟨u1, u2, u3, u4⟩ : 0 ≤ x1 ∧ x1 ≤ 4294967295 ∧ 0 ≤ x2 ∧ x2 ≤ 4294967295 := of_decide_eq_true hU
        have u2' : x1 < 4294967296 := by omega
        have u4' : x2 < 4294967296 := by omega
        have HF' := hide (unhide HF rfl)
        clear hU HF
        have kn := (Kept.refl 0 0 w23).alloc (.cells #[.int .i64 jk, .bool jn, .int .i64 jm, .int .i64 je] 24)
        have t0 : (w23.alloc (.cells #[.int .i64 jk, .bool jn, .int .i64 jm, .int .i64 je] 24)).cell? ⟨w23.heap.size, 0, none⟩ = some (.int .i64 jk) := new_cell2 _ _ _ _ _ _ (by simp) rfl
        have t1 : (w23.alloc (.cells #[.int .i64 jk, .bool jn, .int .i64 jm, .int .i64 je] 24)).cell? ⟨w23.heap.size, 1, none⟩ = some (.bool jn) := new_cell2 _ _ _ _ _ _ (by simp) rfl
        have t2 : (w23.alloc (.cells #[.int .i64 jk, .bool jn, .int .i64 jm, .int .i64 je] 24)).cell? ⟨w23.heap.size, 2, none⟩ = some (.int .i64 jm) := new_cell2 _ _ _ _ _ _ (by simp) rfl
        have t3 : (w23.alloc (.cells #[.int .i64 jk, .bool jn, .int .i64 jm, .int .i64 je] 24)).cell? ⟨w23.heap.size, 3, none⟩ = some (.int .i64 je) := new_cell2 _ _ _ _ _ _ (by simp) rfl
        have sz25 : w23.heap.size + 1 ≤ (w23.alloc (.cells #[.int .i64 jk, .bool jn, .int .i64 jm, .int .i64 je] 24)).heap.size := by simp
        replace y0 := kn.cell0 y0
        replace y1 := kn.cell0 y1
        replace y2 := kn.cell0 y2
        replace y3 := kn.cell0 y3
        replace ya0 := kn.cell0 ya0
        replace ya1 := kn.cell0 ya1
        replace ya2 := kn.cell0 ya2
        replace ya3 := kn.cell0 ya3
        replace za0 := kn.cell0 za0
        replace za1 := kn.cell0 za1
        replace za2 := kn.cell0 za2
        replace za3 := kn.cell0 za3
        replace K := hide ((unhide K).trans kn)
        have z26 := kn.size
        clear kn
        go_wp2_with fail
        generalize (w23.alloc (.cells #[.int .i64 jk, .bool jn, .int .i64 jm, .int .i64 je] 24)) = wn27 at *
        refine (flok_spec_k (unhide HF') _).mono ?_
        rintro e w28 ⟨rfl, k28⟩
        replace y0 := k28.cell0 y0
        replace y1 := k28.cell0 y1
        replace y2 := k28.cell0 y2
        replace y3 := k28.cell0 y3
        replace ya0 := k28.cell0 ya0
        replace ya1 := k28.cell0 ya1
        replace ya2 := k28.cell0 ya2
        replace ya3 := k28.cell0 ya3
        replace za0 := k28.cell0 za0
        replace za1 := k28.cell0 za1
        replace za2 := k28.cell0 za2
        replace za3 := k28.cell0 za3
        replace t0 := k28.cell0 t0
        replace t1 := k28.cell0 t1
        replace t2 := k28.cell0 t2
        replace t3 := k28.cell0 t3
        replace K := hide ((unhide K).trans k28)
        have z29 := k28.size
        clear k28
        go_wp2_with fail
        go_ret
        exact ⟨rfl, (unhide K).toBelow⟩
  · obtain ⟨j1, j2⟩ := unhide HU rfl
    clear HU HO
    have mk := flun_impl P1 P2 w10
    rw [j1, j2] at mk
    clear j1 j2
    go_wp2_with fail
    refine (mk).mono ?_
    rintro e w12 ⟨rfl, k12⟩
    replace r := r.kept k12 (by omega)
    replace y0 := k12.cell0 y0
    replace y1 := k12.cell0 y1
    replace y2 := k12.cell0 y2
    replace y3 := k12.cell0 y3
    replace K := hide ((unhide K).trans k12)
    have z13 := k12.size
    clear k12
    clear mk
    have kn := (Kept.refl 0 0 w12).alloc (.cells #[.int .i64 fk, .bool fn, .int .i64 fm, .int .i64 fe] 24)
    have v0 : (w12.alloc (.cells #[.int .i64 fk, .bool fn, .int .i64 fm, .int .i64 fe] 24)).cell? ⟨w12.heap.size, 0, none⟩ = some (.int .i64 fk) := new_cell2 _ _ _ _ _ _ (by simp) rfl
    have v1 : (w12.alloc (.cells #[.int .i64 fk, .bool fn, .int .i64 fm, .int .i64 fe] 24)).cell? ⟨w12.heap.size, 1, none⟩ = some (.bool fn) := new_cell2 _ _ _ _ _ _ (by simp) rfl
    have v2 : (w12.alloc (.cells #[.int .i64 fk, .bool fn, .int .i64 fm, .int .i64 fe] 24)).cell? ⟨w12.heap.size, 2, none⟩ = some (.int .i64 fm) := new_cell2 _ _ _ _ _ _ (by simp) rfl
    have v3 : (w12.alloc (.cells #[.int .i64 fk, .bool fn, .int .i64 fm, .int .i64 fe] 24)).cell? ⟨w12.heap.size, 3, none⟩ = some (.int .i64 fe) := new_cell2 _ _ _ _ _ _ (by simp) rfl
    have sz14 : w12.heap.size + 1 ≤ (w12.alloc (.cells #[.int .i64 fk, .bool fn, .int .i64 fm, .int .i64 fe] 24)).heap.size := by simp
    replace r := r.kept kn (by omega)
    replace y0 := kn.cell0 y0
    replace y1 := kn.cell0 y1
    replace y2 := kn.cell0 y2
    replace y3 := kn.cell0 y3
    replace K := hide ((unhide K).trans kn)
    have z15 := kn.size
    clear kn
    go_wp2_with fail
    generalize (w12.alloc (.cells #[.int .i64 fk, .bool fn, .int .i64 fm, .int .i64 fe] 24)) = wn16 at *
    refine (drawCmp5_any _ r hb).mono ?_
    rintro e w17 ⟨gk, gn, gm, ge, hk, hn, hm, he, rfl, k17⟩
    replace r := r.kept k17 (by omega)
    replace y0 := k17.cell0 y0
    replace y1 := k17.cell0 y1
    replace y2 := k17.cell0 y2
    replace y3 := k17.cell0 y3
    replace v0 := k17.cell0 v0
    replace v1 := k17.cell0 v1
    replace v2 := k17.cell0 v2
    replace v3 := k17.cell0 v3
    replace K := hide ((unhide K).trans k17)
    have z18 := k17.size
    clear k17
    have kn := (Kept.refl 0 0 w17).alloc (.cells #[.int .i64 gk, .bool gn, .int .i64 gm, .int .i64 ge] 24)
    have ya0 : (w17.alloc (.cells #[.int .i64 gk, .bool gn, .int .i64 gm, .int .i64 ge] 24)).cell? ⟨w17.heap.size, 0, none⟩ = some (.int .i64 gk) := new_cell2 _ _ _ _ _ _ (by simp) rfl
    have ya1 : (w17.alloc (.cells #[.int .i64 gk, .bool gn, .int .i64 gm, .int .i64 ge] 24)).cell? ⟨w17.heap.size, 1, none⟩ = some (.bool gn) := new_cell2 _ _ _ _ _ _ (by simp) rfl
    have ya2 : (w17.alloc (.cells #[.int .i64 gk, .bool gn, .int .i64 gm, .int .i64 ge] 24)).cell? ⟨w17.heap.size, 2, none⟩ = some (.int .i64 gm) := new_cell2 _ _ _ _ _ _ (by simp) rfl
    have ya3 : (w17.alloc (.cells #[.int .i64 gk, .bool gn, .int .i64 gm, .int .i64 ge] 24)).cell? ⟨w17.heap.size, 3, none⟩ = some (.int .i64 ge) := new_cell2 _ _ _ _ _ _ (by simp) rfl
    have sz19 : w17.heap.size + 1 ≤ (w17.alloc (.cells #[.int .i64 gk, .bool gn, .int .i64 gm, .int .i64 ge] 24)).heap.size := by simp
    replace r := r.kept kn (by omega)
    replace y0 := kn.cell0 y0
    replace y1 := kn.cell0 y1
    replace y2 := kn.cell0 y2
    replace y3 := kn.cell0 y3
    replace v0 := kn.cell0 v0
    replace v1 := kn.cell0 v1
    replace v2 := kn.cell0 v2
    replace v3 := kn.cell0 v3
    replace K := hide ((unhide K).trans kn)
    have z20 := kn.size
    clear kn
    have kn := (Kept.refl 0 0 (w17.alloc (.cells #[.int .i64 gk, .bool gn, .int .i64 gm, .int .i64 ge] 24))).alloc (.cells #[.int .i64 hk, .bool hn, .int .i64 hm, .int .i64 he] 24)
    have za0 : ((w17.alloc (.cells #[.int .i64 gk, .bool gn, .int .i64 gm, .int .i64 ge] 24)).alloc (.cells #[.int .i64 hk, .bool hn, .int .i64 hm, .int .i64 he] 24)).cell? ⟨w17.heap.size + 1, 0, none⟩ = some (.int .i64 hk) := new_cell2 _ _ _ _ _ _ (by simp) rfl
    have za1 : ((w17.alloc (.cells #[.int .i64 gk, .bool gn, .int .i64 gm, .int .i64 ge] 24)).alloc (.cells #[.int .i64 hk, .bool hn, .int .i64 hm, .int .i64 he] 24)).cell? ⟨w17.heap.size + 1, 1, none⟩ = some (.bool hn) := new_cell2 _ _ _ _ _ _ (by simp) rfl
    have za2 : ((w17.alloc (.cells #[.int .i64 gk, .bool gn, .int .i64 gm, .int .i64 ge] 24)).alloc (.cells #[.int .i64 hk, .bool hn, .int .i64 hm, .int .i64 he] 24)).cell? ⟨w17.heap.size + 1, 2, none⟩ = some (.int .i64 hm) := new_cell2 _ _ _ _ _ _ (by simp) rfl
    have za3 : ((w17.alloc (.cells #[.int .i64 gk, .bool gn, .int .i64 gm, .int .i64 ge] 24)).alloc (.cells #[.int .i64 hk, .bool hn, .int .i64 hm, .int .i64 he] 24)).cell? ⟨w17.heap.size + 1, 3, none⟩ = some (.int .i64 he) := new_cell2 _ _ _ _ _ _ (by simp) rfl
    have sz21 : (w17.alloc (.cells #[.int .i64 gk, .bool gn, .int .i64 gm, .int .i64 ge] 24)).heap.size + 1 ≤ ((w17.alloc (.cells #[.int .i64 gk, .bool gn, .int .i64 gm, .int .i64 ge] 24)).alloc (.cells #[.int .i64 hk, .bool hn, .int .i64 hm, .int .i64 he] 24)).heap.size := by simp
    replace r := r.kept kn (by omega)
    replace y0 := kn.cell0 y0
    replace y1 := kn.cell0 y1
    replace y2 := kn.cell0 y2
    replace y3 := kn.cell0 y3
    replace v0 := kn.cell0 v0
    replace v1 := kn.cell0 v1
    replace v2 := kn.cell0 v2
    replace v3 := kn.cell0 v3
    replace ya0 := kn.cell0 ya0
    replace ya1 := kn.cell0 ya1
    replace ya2 := kn.cell0 ya2
    replace ya3 := kn.cell0 ya3
    replace K := hide ((unhide K).trans kn)
    have z22 := kn.size
    clear kn
    go_wp2_with fail
    generalize ((w17.alloc (.cells #[.int .i64 gk, .bool gn, .int .i64 gm, .int .i64 ge] 24)).alloc (.cells #[.int .i64 hk, .bool hn, .int .i64 hm, .int .i64 he] 24)) = wn23 at *
    obtain ⟨C, hC⟩ : ∃ o, fcmI gk gn gm ge hk hn hm he = o := ⟨_, rfl⟩
    obtain ⟨Q, hQ⟩ : ∃ o, fcmB gk gn gm ge hk hn hm he = o := ⟨_, rfl⟩
    have mk := flcmp_impl gk gn gm ge hk hn hm he wn23
    rw [hC, hQ] at mk
    replace hC := hide hC
    replace hQ := hide hQ
    refine (mk).mono ?_
    rintro e w24 ⟨rfl, k24⟩
    replace r := r.kept k24 (by omega)
    replace y0 := k24.cell0 y0
    replace y1 := k24.cell0 y1
    replace y2 := k24.cell0 y2
    replace y3 := k24.cell0 y3
    replace v0 := k24.cell0 v0
    replace v1 := k24.cell0 v1
    replace v2 := k24.cell0 v2
    replace v3 := k24.cell0 v3
    replace ya0 := k24.cell0 ya0
    replace ya1 := k24.cell0 ya1
    replace ya2 := k24.cell0 ya2
    replace ya3 := k24.cell0 ya3
    replace za0 := k24.cell0 za0
    replace za1 := k24.cell0 za1
    replace za2 := k24.cell0 za2
    replace za3 := k24.cell0 za3
    replace K := hide ((unhide K).trans k24)
    have z25 := k24.size
    clear k24
    clear mk
    cases Q
    · clear hC hQ
      go_wp2_with fail
      refine (drawUnpack_any _ r hb).mono ?_
      rintro e w26 ⟨x1, x2, rfl, k26⟩
      replace r := r.kept k26 (by omega)
      replace y0 := k26.cell0 y0
      replace y1 := k26.cell0 y1
      replace y2 := k26.cell0 y2
      replace y3 := k26.cell0 y3
      replace v0 := k26.cell0 v0
      replace v1 := k26.cell0 v1
      replace v2 := k26.cell0 v2
      replace v3 := k26.cell0 v3
      replace ya0 := k26.cell0 ya0
      replace ya1 := k26.cell0 ya1
      replace ya2 := k26.cell0 ya2
      replace ya3 := k26.cell0 ya3
      replace za0 := k26.cell0 za0
      replace za1 := k26.cell0 za1
      replace za2 := k26.cell0 za2
      replace za3 := k26.cell0 za3
      replace K := hide ((unhide K).trans k26)
      have z27 := k26.size
      clear k26
      clear r
      obtain ⟨U, hU⟩ : ∃ o, okU x1 x2 = o := ⟨_, rfl⟩
      obtain ⟨fx, hfx⟩ : ∃ o, fun2 x1 x2 = o := ⟨_, rfl⟩
      have mk := flun_impl x1 x2 w26
      rw [hU, hfx] at mk
      have HF : Hid (U = true → flok fx.1 fx.2.1 fx.2.2.1 fx.2.2.2 = true) := fun q => by
        have := ok_un (hU.trans q)
        rw [hfx] at this
        exact this
      obtain ⟨jk, jn, jm, je⟩ := fx
      clear hfx
      unfold okU at hU
      go_wp2_with fail
      refine (mk).mono ?_
      rintro e w28 ⟨rfl, k28⟩
      replace y0 := k28.cell0 y0
      replace y1 := k28.cell0 y1
      replace y2 := k28.cell0 y2
      replace y3 := k28.cell0 y3
      replace v0 := k28.cell0 v0
      replace v1 := k28.cell0 v1
      replace v2 := k28.cell0 v2
      replace v3 := k28.cell0 v3
      replace ya0 := k28.cell0 ya0
      replace ya1 := k28.cell0 ya1
      replace ya2 := k28.cell0 ya2
      replace ya3 := k28.cell0 ya3
      replace za0 := k28.cell0 za0
      replace za1 := k28.cell0 za1
      replace za2 := k28.cell0 za2
      replace za3 := k28.cell0 za3
      replace K := hide ((unhide K).trans k28)
      have z29 := k28.size
      clear k28
      clear mk
      cases U
      · have hU' : ¬ (0 ≤ x1 ∧ x1 ≤ 4294967295 ∧ 0 ≤ x2 ∧ x2 ≤ 4294967295) := of_decide_eq_false hU
        clear hU HF
        skip
        go_wp2_with fail
        all_goals first
          | (go_ret; exact ⟨rfl, ((unhide K).alloc _).toBelow⟩)
          | (go_ret; refine ⟨congrArg (fun b => Ending.returned (.bool b)) ?_, ((unhide K).alloc _).toBelow⟩; (simp <;> omega))
          | (exfalso; omega)
      · obtain ⟨u1, u2, u3, u4⟩ : 0 ≤ x1 ∧ x1 ≤ 4294967295 ∧ 0 ≤ x2 ∧ x2 ≤ 4294967295 := of_decide_eq_true hU
        have u2' : x1 < 4294967296 := by omega
        have u4' : x2 < 4294967296 := by omega
        have HF' := hide (unhide HF rfl)
        clear hU HF
        have kn := (Kept.refl 0 0 w28).alloc (.cells #[.int .i64 jk, .bool jn, .int .i64 jm, .int .i64 je] 24)
        have t0 : (w28.alloc (.cells #[.int .i64 jk, .bool jn, .int .i64 jm, .int .i64 je] 24)).cell? ⟨w28.heap.size, 0, none⟩ = some (.int .i64 jk) := new_cell2 _ _ _ _ _ _ (by simp) rfl
        have t1 : (w28.alloc (.cells #[.int .i64 jk, .bool jn, .int .i64 jm, .int .i64 je] 24)).cell? ⟨w28.heap.size, 1, none⟩ = some (.bool jn) := new_cell2 _ _ _ _ _ _ (by simp) rfl
        have t2 : (w28.alloc (.cells #[.int .i64 jk, .bool jn, .int .i64 jm, .int .i64 je] 24)).cell? ⟨w28.heap.size, 2, none⟩ = some (.int .i64 jm) := new_cell2 _ _ _ _ _ _ (by simp) rfl
        have t3 : (w28.alloc (.cells #[.int .i64 jk, .bool jn, .int .i64 jm, .int .i64 je] 24)).cell? ⟨w28.heap.size, 3, none⟩ = some (.int .i64 je) := new_cell2 _ _ _ _ _ _ (by simp) rfl
        have sz30 : w28.heap.size + 1 ≤ (w28.alloc (.cells #[.int .i64 jk, .bool jn, .int .i64 jm, .int .i64 je] 24)).heap.size := by simp
        replace y0 := kn.cell0 y0
        replace y1 := kn.cell0 y1
        replace y2 := kn.cell0 y2
        replace y3 := kn.cell0 y3
        replace v0 := kn.cell0 v0
        replace v1 := kn.cell0 v1
        replace v2 := kn.cell0 v2
        replace v3 := kn.cell0 v3
        replace ya0 := kn.cell0 ya0
        replace ya1 := kn.cell0 ya1
        replace ya2 := kn.cell0 ya2
        replace ya3 := kn.cell0 ya3
        replace za0 := kn.cell0 za0
        replace za1 := kn.cell0 za1
        replace za2 := kn.cell0 za2
        replace za3 := kn.cell0 za3
        replace K := hide ((unhide K).trans kn)
        have z31 := kn.size
        clear kn
        go_wp2_with fail
        generalize (w28.alloc (.cells #[.int .i64 jk, .bool jn, .int .i64 jm, .int .i64 je] 24)) = wn32 at *
        refine (flok_spec_k (unhide HF') _).mono ?_
        rintro e w33 ⟨rfl, k33⟩
        replace y0 := k33.cell0 y0
        replace y1 := k33.cell0 y1
        replace y2 := k33.cell0 y2
        replace y3 := k33.cell0 y3
        replace v0 := k33.cell0 v0
        replace v1 := k33.cell0 v1
        replace v2 := k33.cell0 v2
        replace v3 := k33.cell0 v3
        replace ya0 := k33.cell0 ya0
        replace ya1 := k33.cell0 ya1
        replace ya2 := k33.cell0 ya2
        replace ya3 := k33.cell0 ya3
        replace za0 := k33.cell0 za0
        replace za1 := k33.cell0 za1
        replace za2 := k33.cell0 za2
        replace za3 := k33.cell0 za3
        replace t0 := k33.cell0 t0
        replace t1 := k33.cell0 t1
        replace t2 := k33.cell0 t2
        replace t3 := k33.cell0 t3
        replace K := hide ((unhide K).trans k33)
        have z34 := k33.size
        clear k33
        go_wp2_with fail
        go_ret
        exact ⟨rfl, (unhide K).toBelow⟩
    cases gn
    · cases hn
      · have od := pk_order (unhide hQ)
        rw [unhide hC] at od
        obtain ⟨A1, hA1⟩ : ∃ o, (fpk gk false gm ge).1 = o := ⟨_, rfl⟩
        obtain ⟨A2, hA2⟩ : ∃ o, (fpk gk false gm ge).2 = o := ⟨_, rfl⟩
        obtain ⟨B1, hB1⟩ : ∃ o, (fpk hk false hm he).1 = o := ⟨_, rfl⟩
        obtain ⟨B2, hB2⟩ : ∃ o, (fpk hk false hm he).2 = o := ⟨_, rfl⟩
        rw [hA1, hA2, hB1, hB2] at od
        have mA := fun w => flpack_impl gk false gm ge w
        have mB := fun w => flpack_impl hk false hm he w
        simp only [hA1, hA2] at mA
        simp only [hB1, hB2] at mB
        generalize flok gk false gm ge = OA at mA
        generalize flok hk false hm he = OB at mB
        replace mA := hide mA
        replace mB := hide mB
        clear hA1 hA2 hB1 hB2 hC hQ
        replace od := hide od
        go_wp2_with fail
        refine (unhide mA _).mono ?_
        rintro e w26 ⟨rfl, k26⟩
        replace r := r.kept k26 (by omega)
        replace y0 := k26.cell0 y0
        replace y1 := k26.cell0 y1
        replace y2 := k26.cell0 y2
        replace y3 := k26.cell0 y3
        replace v0 := k26.cell0 v0
        replace v1 := k26.cell0 v1
        replace v2 := k26.cell0 v2
        replace v3 := k26.cell0 v3
        replace ya0 := k26.cell0 ya0
        replace ya1 := k26.cell0 ya1
        replace ya2 := k26.cell0 ya2
        replace ya3 := k26.cell0 ya3
        replace za0 := k26.cell0 za0
        replace za1 := k26.cell0 za1
        replace za2 := k26.cell0 za2
        replace za3 := k26.cell0 za3
        replace K := hide ((unhide K).trans k26)
        have z27 := k26.size
        clear k26
        go_wp2_with fail
        refine (unhide mB _).mono ?_
        rintro e w28 ⟨rfl, k28⟩
        replace r := r.kept k28 (by omega)
        replace y0 := k28.cell0 y0
        replace y1 := k28.cell0 y1
        replace y2 := k28.cell0 y2
        replace y3 := k28.cell0 y3
        replace v0 := k28.cell0 v0
        replace v1 := k28.cell0 v1
        replace v2 := k28.cell0 v2
        replace v3 := k28.cell0 v3
        replace ya0 := k28.cell0 ya0
        replace ya1 := k28.cell0 ya1
        replace ya2 := k28.cell0 ya2
        replace ya3 := k28.cell0 ya3
        replace za0 := k28.cell0 za0
        replace za1 := k28.cell0 za1
        replace za2 := k28.cell0 za2
        replace za3 := k28.cell0 za3
        replace K := hide ((unhide K).trans k28)
        have z29 := k28.size
        clear k28
        clear mA mB
        rcases unhide od with ⟨o1, o2 | ⟨o2, o3⟩⟩ | ⟨o1, o2, o3⟩
        · clear od
          have d1 : decide (C < 0) = true := decide_eq_true o1
          have d2 : decide (A1 < B1) = true := decide_eq_true o2
          clear o1 o2
          go_wp2_with fail
          refine (drawUnpack_any _ r hb).mono ?_
          rintro e w30 ⟨x1, x2, rfl, k30⟩
          replace r := r.kept k30 (by omega)
          replace y0 := k30.cell0 y0
          replace y1 := k30.cell0 y1
          replace y2 := k30.cell0 y2
          replace y3 := k30.cell0 y3
          replace v0 := k30.cell0 v0
          replace v1 := k30.cell0 v1
          replace v2 := k30.cell0 v2
          replace v3 := k30.cell0 v3
          replace ya0 := k30.cell0 ya0
          replace ya1 := k30.cell0 ya1
          replace ya2 := k30.cell0 ya2
          replace ya3 := k30.cell0 ya3
          replace za0 := k30.cell0 za0
          replace za1 := k30.cell0 za1
          replace za2 := k30.cell0 za2
          replace za3 := k30.cell0 za3
          replace K := hide ((unhide K).trans k30)
          have z31 := k30.size
          clear k30
          clear r
          obtain ⟨U, hU⟩ : ∃ o, okU x1 x2 = o := ⟨_, rfl⟩
          obtain ⟨fx, hfx⟩ : ∃ o, fun2 x1 x2 = o := ⟨_, rfl⟩
          have mk := flun_impl x1 x2 w30
          rw [hU, hfx] at mk
          have HF : Hid (U = true → flok fx.1 fx.2.1 fx.2.2.1 fx.2.2.2 = true) := fun q => by
            have := ok_un (hU.trans q)
            rw [hfx] at this
            exact this
          obtain ⟨jk, jn, jm, je⟩ := fx
          clear hfx
          unfold okU at hU
          go_wp2_with fail
          refine (mk).mono ?_
          rintro e w32 ⟨rfl, k32⟩
          replace y0 := k32.cell0 y0
          replace y1 := k32.cell0 y1
          replace y2 := k32.cell0 y2
          replace y3 := k32.cell0 y3
          replace v0 := k32.cell0 v0
          replace v1 := k32.cell0 v1
          replace v2 := k32.cell0 v2
          replace v3 := k32.cell0 v3
          replace ya0 := k32.cell0 ya0
          replace ya1 := k32.cell0 ya1
          replace ya2 := k32.cell0 ya2
          replace ya3 := k32.cell0 ya3
          replace za0 := k32.cell0 za0
          replace za1 := k32.cell0 za1
          replace za2 := k32.cell0 za2
          replace za3 := k32.cell0 za3
          replace K := hide ((unhide K).trans k32)
          have z33 := k32.size
          clear k32
          clear mk
          cases U
          · have hU' : ¬ (0 ≤ x1 ∧ x1 ≤ 4294967295 ∧ 0 ≤ x2 ∧ x2 ≤ 4294967295) := of_decide_eq_false hU
            clear hU HF
            skip
            go_wp2_with fail
            all_goals first
              | (go_ret; exact ⟨rfl, ((unhide K).alloc _).toBelow⟩)
              | (go_ret; refine ⟨congrArg (fun b => Ending.returned (.bool b)) ?_, ((unhide K).alloc _).toBelow⟩; (simp <;> omega))
              | (exfalso; omega)
          · obtain ⟨u1, u2, u3, u4⟩ : 0 ≤ x1 ∧ x1 ≤ 4294967295 ∧ 0 ≤ x2 ∧ x2 ≤ 4294967295 := of_decide_eq_true hU
            have u2' : x1 < 4294967296 := by omega
            have u4' : x2 < 4294967296 := by omega
            have HF' := hide (unhide HF rfl)
            clear hU HF
            have kn := (Kept.refl 0 0 w32).alloc (.cells #[.int .i64 jk, .bool jn, .int .i64 jm, .int .i64 je] 24)
            have t0 : (w32.alloc (.cells #[.int .i64 jk, .bool jn, .int .i64 jm, .int .i64 je] 24)).cell? ⟨w32.heap.size, 0, none⟩ = some (.int .i64 jk) := new_cell2 _ _ _ _ _ _ (by simp) rfl
            have t1 : (w32.alloc (.cells #[.int .i64 jk, .bool jn, .int .i64 jm, .int .i64 je] 24)).cell? ⟨w32.heap.size, 1, none⟩ = some (.bool jn) := new_cell2 _ _ _ _ _ _ (by simp) rfl
            have t2 : (w32.alloc (.cells #[.int .i64 jk, .bool jn, .int .i64 jm, .int .i64 je] 24)).cell? ⟨w32.heap.size, 2, none⟩ = some (.int .i64 jm) := new_cell2 _ _ _ _ _ _ (by simp) rfl
            have t3 : (w32.alloc (.cells #[.int .i64 jk, .bool jn, .int .i64 jm, .int .i64 je] 24)).cell? ⟨w32.heap.size, 3, none⟩ = some (.int .i64 je) := new_cell2 _ _ _ _ _ _ (by simp) rfl
            have sz34 : w32.heap.size + 1 ≤ (w32.alloc (.cells #[.int .i64 jk, .bool jn, .int .i64 jm, .int .i64 je] 24)).heap.size := by simp
            replace y0 := kn.cell0 y0
            replace y1 := kn.cell0 y1
            replace y2 := kn.cell0 y2
            replace y3 := kn.cell0 y3
            replace v0 := kn.cell0 v0
            replace v1 := kn.cell0 v1
            replace v2 := kn.cell0 v2
            replace v3 := kn.cell0 v3
            replace ya0 := kn.cell0 ya0
            replace ya1 := kn.cell0 ya1
            replace ya2 := kn.cell0 ya2
            replace ya3 := kn.cell0 ya3
            replace za0 := kn.cell0 za0
            replace za1 := kn.cell0 za1
            replace za2 := kn.cell0 za2
            replace za3 := kn.cell0 za3
            replace K := hide ((unhide K).trans kn)
            have z35 := kn.size
            clear kn
            go_wp2_with fail
            generalize (w32.alloc (.cells #[.int .i64 jk, .bool jn, .int .i64 jm, .int .i64 je] 24)) = wn36 at *
            refine (flok_spec_k (unhide HF') _).mono ?_
            rintro e w37 ⟨rfl, k37⟩
            replace y0 := k37.cell0 y0
            replace y1 := k37.cell0 y1
            replace y2 := k37.cell0 y2
            replace y3 := k37.cell0 y3
            replace v0 := k37.cell0 v0
            replace v1 := k37.cell0 v1
            replace v2 := k37.cell0 v2
            replace v3 := k37.cell0 v3
            replace ya0 := k37.cell0 ya0
            replace ya1 := k37.cell0 ya1
            replace ya2 := k37.cell0 ya2
            replace ya3 := k37.cell0 ya3
            replace za0 := k37.cell0 za0
            replace za1 := k37.cell0 za1
            replace za2 := k37.cell0 za2
            replace za3 := k37.cell0 za3
            replace t0 := k37.cell0 t0
            replace t1 := k37.cell0 t1
            replace t2 := k37.cell0 t2
            replace t3 := k37.cell0 t3
            replace K := hide ((unhide K).trans k37)
            have z38 := k37.size
            clear k37
            go_wp2_with fail
            go_ret
            exact ⟨rfl, (unhide K).toBelow⟩
        · clear od
          subst o2
          have d1 : decide (C < 0) = true := decide_eq_true o1
          have d2 : decide (A1 < A1) = false := decide_eq_false (by omega)
          have d3 : decide (A2 < B2) = true := decide_eq_true o3
          clear o1 o3
          go_wp2_with fail
          refine (drawUnpack_any _ r hb).mono ?_
          rintro e w30 ⟨x1, x2, rfl, k30⟩
          replace r := r.kept k30 (by omega)
          replace y0 := k30.cell0 y0
          replace y1 := k30.cell0 y1
          replace y2 := k30.cell0 y2
          replace y3 := k30.cell0 y3
          replace v0 := k30.cell0 v0
          replace v1 := k30.cell0 v1
          replace v2 := k30.cell0 v2
          replace v3 := k30.cell0 v3
          replace ya0 := k30.cell0 ya0
          replace ya1 := k30.cell0 ya1
          replace ya2 := k30.cell0 ya2
          replace ya3 := k30.cell0 ya3
          replace za0 := k30.cell0 za0
          replace za1 := k30.cell0 za1
          replace za2 := k30.cell0 za2
          replace za3 := k30.cell0 za3
          replace K := hide ((unhide K).trans k30)
          have z31 := k30.size
          clear k30
          clear r
          obtain ⟨U, hU⟩ : ∃ o, okU x1 x2 = o := ⟨_, rfl⟩
          obtain ⟨fx, hfx⟩ : ∃ o, fun2 x1 x2 = o := ⟨_, rfl⟩
          have mk := flun_impl x1 x2 w30
          rw [hU, hfx] at mk
          have HF : Hid (U = true → flok fx.1 fx.2.1 fx.2.2.1 fx.2.2.2 = true) := fun q => by
            have := ok_un (hU.trans q)
            rw [hfx] at this
            exact this
          obtain ⟨jk, jn, jm, je⟩ := fx
          clear hfx
          unfold okU at hU
          go_wp2_with fail
          refine (mk).mono ?_
          rintro e w32 ⟨rfl, k32⟩
          replace y0 := k32.cell0 y0
          replace y1 := k32.cell0 y1
          replace y2 := k32.cell0 y2
          replace y3 := k32.cell0 y3
          replace v0 := k32.cell0 v0
          replace v1 := k32.cell0 v1
          replace v2 := k32.cell0 v2
          replace v3 := k32.cell0 v3
          replace ya0 := k32.cell0 ya0
          replace ya1 := k32.cell0 ya1
          replace ya2 := k32.cell0 ya2
          replace ya3 := k32.cell0 ya3
          replace za0 := k32.cell0 za0
          replace za1 := k32.cell0 za1
          replace za2 := k32.cell0 za2
          replace za3 := k32.cell0 za3
          replace K := hide ((unhide K).trans k32)
          have z33 := k32.size
          clear k32
          clear mk
          cases U
          · have hU' : ¬ (0 ≤ x1 ∧ x1 ≤ 4294967295 ∧ 0 ≤ x2 ∧ x2 ≤ 4294967295) := of_decide_eq_false hU
            clear hU HF
            skip
            go_wp2_with fail
            all_goals first
              | (go_ret; exact ⟨rfl, ((unhide K).alloc _).toBelow⟩)
              | (go_ret; refine ⟨congrArg (fun b => Ending.returned (.bool b)) ?_, ((unhide K).alloc _).toBelow⟩; (simp <;> omega))
              | (exfalso; omega)
          · obtain ⟨u1, u2, u3, u4⟩ : 0 ≤ x1 ∧ x1 ≤ 4294967295 ∧ 0 ≤ x2 ∧ x2 ≤ 4294967295 := of_decide_eq_true hU
            have u2' : x1 < 4294967296 := by omega
            have u4' : x2 < 4294967296 := by omega
            have HF' := hide (unhide HF rfl)
            clear hU HF
            have kn := (Kept.refl 0 0 w32).alloc (.cells #[.int .i64 jk, .bool jn, .int .i64 jm, .int .i64 je] 24)
            have t0 : (w32.alloc (.cells #[.int .i64 jk, .bool jn, .int .i64 jm, .int .i64 je] 24)).cell? ⟨w32.heap.size, 0, none⟩ = some (.int .i64 jk) := new_cell2 _ _ _ _ _ _ (by simp) rfl
            have t1 : (w32.alloc (.cells #[.int .i64 jk, .bool jn, .int .i64 jm, .int .i64 je] 24)).cell? ⟨w32.heap.size, 1, none⟩ = some (.bool jn) := new_cell2 _ _ _ _ _ _ (by simp) rfl
            have t2 : (w32.alloc (.cells #[.int .i64 jk, .bool jn, .int .i64 jm, .int .i64 je] 24)).cell? ⟨w32.heap.size, 2, none⟩ = some (.int .i64 jm) := new_cell2 _ _ _ _ _ _ (by simp) rfl
            have t3 : (w32.alloc (.cells #[.int .i64 jk, .bool jn, .int .i64 jm, .int .i64 je] 24)).cell? ⟨w32.heap.size, 3, none⟩ = some (.int .i64 je) := new_cell2 _ _ _ _ _ _ (by simp) rfl
            have sz34 : w32.heap.size + 1 ≤ (w32.alloc (.cells #[.int .i64 jk, .bool jn, .int .i64 jm, .int .i64 je] 24)).heap.size := by simp
            replace y0 := kn.cell0 y0
            replace y1 := kn.cell0 y1
            replace y2 := kn.cell0 y2
            replace y3 := kn.cell0 y3
            replace v0 := kn.cell0 v0
            replace v1 := kn.cell0 v1
            replace v2 := kn.cell0 v2
            replace v3 := kn.cell0 v3
            replace ya0 := kn.cell0 ya0
            replace ya1 := kn.cell0 ya1
            replace ya2 := kn.cell0 ya2
            replace ya3 := kn.cell0 ya3
            replace za0 := kn.cell0 za0
            replace za1 := kn.cell0 za1
            replace za2 := kn.cell0 za2
            replace za3 := kn.cell0 za3
            replace K := hide ((unhide K).trans kn)
            have z35 := kn.size
            clear kn
            go_wp2_with fail
            generalize (w32.alloc (.cells #[.int .i64 jk, .bool jn, .int .i64 jm, .int .i64 je] 24)) = wn36 at *
            refine (flok_spec_k (unhide HF') _).mono ?_
            rintro e w37 ⟨rfl, k37⟩
            replace y0 := k37.cell0 y0
            replace y1 := k37.cell0 y1
            replace y2 := k37.cell0 y2
            replace y3 := k37.cell0 y3
            replace v0 := k37.cell0 v0
            replace v1 := k37.cell0 v1
            replace v2 := k37.cell0 v2
            replace v3 := k37.cell0 v3
            replace ya0 := k37.cell0 ya0
            replace ya1 := k37.cell0 ya1
            replace ya2 := k37.cell0 ya2
            replace ya3 := k37.cell0 ya3
            replace za0 := k37.cell0 za0
            replace za1 := k37.cell0 za1
            replace za2 := k37.cell0 za2
            replace za3 := k37.cell0 za3
            replace t0 := k37.cell0 t0
            replace t1 := k37.cell0 t1
            replace t2 := k37.cell0 t2
            replace t3 := k37.cell0 t3
            replace K := hide ((unhide K).trans k37)
            have z38 := k37.size
            clear k37
            go_wp2_with fail
            go_ret
            exact ⟨rfl, (unhide K).toBelow⟩
        · clear od
          have d1 : decide (C < 0) = false := decide_eq_false (by omega)
          have d2 : decide (A1 < B1) = false := decide_eq_false (by omega)
          by_cases o4 : A1 = B1
          · subst o4
            have d3 : decide (A2 < B2) = false := decide_eq_false (by have := o3 rfl; omega)
            clear o1 o2 o3
            go_wp2_with fail
            refine (drawUnpack_any _ r hb).mono ?_
            rintro e w30 ⟨x1, x2, rfl, k30⟩
            replace r := r.kept k30 (by omega)
            replace y0 := k30.cell0 y0
            replace y1 := k30.cell0 y1
            replace y2 := k30.cell0 y2
            replace y3 := k30.cell0 y3
            replace v0 := k30.cell0 v0
            replace v1 := k30.cell0 v1
            replace v2 := k30.cell0 v2
            replace v3 := k30.cell0 v3
            replace ya0 := k30.cell0 ya0
            replace ya1 := k30.cell0 ya1
            replace ya2 := k30.cell0 ya2
            replace ya3 := k30.cell0 ya3
            replace za0 := k30.cell0 za0
            replace za1 := k30.cell0 za1
            replace za2 := k30.cell0 za2
            replace za3 := k30.cell0 za3
            replace K := hide ((unhide K).trans k30)
            have z31 := k30.size
            clear k30
            clear r
            obtain ⟨U, hU⟩ : ∃ o, okU x1 x2 = o := ⟨_, rfl⟩
            obtain ⟨fx, hfx⟩ : ∃ o, fun2 x1 x2 = o := ⟨_, rfl⟩
            have mk := flun_impl x1 x2 w30
            rw [hU, hfx] at mk
            have HF : Hid (U = true → flok fx.1 fx.2.1 fx.2.2.1 fx.2.2.2 = true) := fun q => by
              have := ok_un (hU.trans q)
              rw [hfx] at this
              exact this
            obtain ⟨jk, jn, jm, je⟩ := fx
            clear hfx
            unfold okU at hU
            go_wp2_with fail
            refine (mk).mono ?_
            rintro e w32 ⟨rfl, k32⟩
            replace y0 := k32.cell0 y0
            replace y1 := k32.cell0 y1
            replace y2 := k32.cell0 y2
            replace y3 := k32.cell0 y3
            replace v0 := k32.cell0 v0
            replace v1 := k32.cell0 v1
            replace v2 := k32.cell0 v2
            replace v3 := k32.cell0 v3
            replace ya0 := k32.cell0 ya0
            replace ya1 := k32.cell0 ya1
            replace ya2 := k32.cell0 ya2
            replace ya3 := k32.cell0 ya3
            replace za0 := k32.cell0 za0
            replace za1 := k32.cell0 za1
            replace za2 := k32.cell0 za2
            replace za3 := k32.cell0 za3
            replace K := hide ((unhide K).trans k32)
            have z33 := k32.size
            clear k32
            clear mk
            cases U
            · have hU' : ¬ (0 ≤ x1 ∧ x1 ≤ 4294967295 ∧ 0 ≤ x2 ∧ x2 ≤ 4294967295) := of_decide_eq_false hU
              clear hU HF
              skip
              go_wp2_with fail
              all_goals first
                | (go_ret; exact ⟨rfl, ((unhide K).alloc _).toBelow⟩)
                | (go_ret; refine ⟨congrArg (fun b => Ending.returned (.bool b)) ?_, ((unhide K).alloc _).toBelow⟩; (simp <;> omega))
                | (exfalso; omega)
            · obtain ⟨u1, u2, u3, u4⟩ : 0 ≤ x1 ∧ x1 ≤ 4294967295 ∧ 0 ≤ x2 ∧ x2 ≤ 4294967295 := of_decide_eq_true hU
              have u2' : x1 < 4294967296 := by omega
              have u4' : x2 < 4294967296 := by omega
              have HF' := hide (unhide HF rfl)
              clear hU HF
              have kn := (Kept.refl 0 0 w32).alloc (.cells #[.int .i64 jk, .bool jn, .int .i64 jm, .int .i64 je] 24)
              have t0 : (w32.alloc (.cells #[.int .i64 jk, .bool jn, .int .i64 jm, .int .i64 je] 24)).cell? ⟨w32.heap.size, 0, none⟩ = some (.int .i64 jk) := new_cell2 _ _ _ _ _ _ (by simp) rfl
              have t1 : (w32.alloc (.cells #[.int .i64 jk, .bool jn, .int .i64 jm, .int .i64 je] 24)).cell? ⟨w32.heap.size, 1, none⟩ = some (.bool jn) := new_cell2 _ _ _ _ _ _ (by simp) rfl
              have t2 : (w32.alloc (.cells #[.int .i64 jk, .bool jn, .int .i64 jm, .int .i64 je] 24)).cell? ⟨w32.heap.size, 2, none⟩ = some (.int .i64 jm) := new_cell2 _ _ _ _ _ _ (by simp) rfl
              have t3 : (w32.alloc (.cells #[.int .i64 jk, .bool jn, .int .i64 jm, .int .i64 je] 24)).cell? ⟨w32.heap.size, 3, none⟩ = some (.int .i64 je) := new_cell2 _ _ _ _ _ _ (by simp) rfl
              have sz34 : w32.heap.size + 1 ≤ (w32.alloc (.cells #[.int .i64 jk, .bool jn, .int .i64 jm, .int .i64 je] 24)).heap.size := by simp
              replace y0 := kn.cell0 y0
              replace y1 := kn.cell0 y1
              replace y2 := kn.cell0 y2
              replace y3 := kn.cell0 y3
              replace v0 := kn.cell0 v0
              replace v1 := kn.cell0 v1
              replace v2 := kn.cell0 v2
              replace v3 := kn.cell0 v3
              replace ya0 := kn.cell0 ya0
              replace ya1 := kn.cell0 ya1
              replace ya2 := kn.cell0 ya2
              replace ya3 := kn.cell0 ya3
              replace za0 := kn.cell0 za0
              replace za1 := kn.cell0 za1
              replace za2 := kn.cell0 za2
              replace za3 := kn.cell0 za3
              replace K := hide ((unhide K).trans kn)
              have z35 := kn.size
              clear kn
              go_wp2_with fail
              generalize (w32.alloc (.cells #[.int .i64 jk, .bool jn, .int .i64 jm, .int .i64 je] 24)) = wn36 at *
              refine (flok_spec_k (unhide HF') _).mono ?_
              rintro e w37 ⟨rfl, k37⟩
              replace y0 := k37.cell0 y0
              replace y1 := k37.cell0 y1
              replace y2 := k37.cell0 y2
              replace y3 := k37.cell0 y3
              replace v0 := k37.cell0 v0
              replace v1 := k37.cell0 v1
              replace v2 := k37.cell0 v2
              replace v3 := k37.cell0 v3
              replace ya0 := k37.cell0 ya0
              replace ya1 := k37.cell0 ya1
              replace ya2 := k37.cell0 ya2
              replace ya3 := k37.cell0 ya3
              replace za0 := k37.cell0 za0
              replace za1 := k37.cell0 za1
              replace za2 := k37.cell0 za2
              replace za3 := k37.cell0 za3
              replace t0 := k37.cell0 t0
              replace t1 := k37.cell0 t1
              replace t2 := k37.cell0 t2
              replace t3 := k37.cell0 t3
              replace K := hide ((unhide K).trans k37)
              have z38 := k37.size
              clear k37
              go_wp2_with fail
              go_ret
              exact ⟨rfl, (unhide K).toBelow⟩
          · have d3 : (A1 == B1) = false := by simpa using o4
            clear o1 o2 o3 o4
            go_wp2_with fail
            refine (drawUnpack_any _ r hb).mono ?_
            rintro e w30 ⟨x1, x2, rfl, k30⟩
            replace r := r.kept k30 (by omega)
            replace y0 := k30.cell0 y0
            replace y1 := k30.cell0 y1
            replace y2 := k30.cell0 y2
            replace y3 := k30.cell0 y3
            replace v0 := k30.cell0 v0
            replace v1 := k30.cell0 v1
            replace v2 := k30.cell0 v2
            replace v3 := k30.cell0 v3
            replace ya0 := k30.cell0 ya0
            replace ya1 := k30.cell0 ya1
            replace ya2 := k30.cell0 ya2
            replace ya3 := k30.cell0 ya3
            replace za0 := k30.cell0 za0
            replace za1 := k30.cell0 za1
            replace za2 := k30.cell0 za2
            replace za3 := k30.cell0 za3
            replace K := hide ((unhide K).trans k30)
            have z31 := k30.size
            clear k30
            clear r
            obtain ⟨U, hU⟩ : ∃ o, okU x1 x2 = o := ⟨_, rfl⟩
            obtain ⟨fx, hfx⟩ : ∃ o, fun2 x1 x2 = o := ⟨_, rfl⟩
            have mk := flun_impl x1 x2 w30
            rw [hU, hfx] at mk
            have HF : Hid (U = true → flok fx.1 fx.2.1 fx.2.2.1 fx.2.2.2 = true) := fun q => by
              have := ok_un (hU.trans q)
              rw [hfx] at this
              exact this
            obtain ⟨jk, jn, jm, je⟩ := fx
            clear hfx
            unfold okU at hU
            go_wp2_with fail
            refine (mk).mono ?_
            rintro e w32 ⟨rfl, k32⟩
            replace y0 := k32.cell0 y0
            replace y1 := k32.cell0 y1
            replace y2 := k32.cell0 y2
            replace y3 := k32.cell0 y3
            replace v0 := k32.cell0 v0
            replace v1 := k32.cell0 v1
            replace v2 := k32.cell0 v2
            replace v3 := k32.cell0 v3
            replace ya0 := k32.cell0 ya0
            replace ya1 := k32.cell0 ya1
            replace ya2 := k32.cell0 ya2
            replace ya3 := k32.cell0 ya3
            replace za0 := k32.cell0 za0
            replace za1 := k32.cell0 za1
            replace za2 := k32.cell0 za2
            replace za3 := k32.cell0 za3
            replace K := hide ((unhide K).trans k32)
            have z33 := k32.size
            clear k32
            clear mk
            cases U
            · have hU' : ¬ (0 ≤ x1 ∧ x1 ≤ 4294967295 ∧ 0 ≤ x2 ∧ x2 ≤ 4294967295) := of_decide_eq_false hU
              clear hU HF
              skip
              go_wp2_with fail
              all_goals first
                | (go_ret; exact ⟨rfl, ((unhide K).alloc _).toBelow⟩)
                | (go_ret; refine ⟨congrArg (fun b => Ending.returned (.bool b)) ?_, ((unhide K).alloc _).toBelow⟩; (simp <;> omega))
                | (exfalso; omega)
            · obtain ⟨u1, u2, u3, u4⟩ : 0 ≤ x1 ∧ x1 ≤ 4294967295 ∧ 0 ≤ x2 ∧ x2 ≤ 4294967295 := of_decide_eq_true hU
              have u2' : x1 < 4294967296 := by omega
              have u4' : x2 < 4294967296 := by omega
              have HF' := hide (unhide HF rfl)
              clear hU HF
              have kn := (Kept.refl 0 0 w32).alloc (.cells #[.int .i64 jk, .bool jn, .int .i64 jm, .int .i64 je] 24)
              have t0 : (w32.alloc (.cells #[.int .i64 jk, .bool jn, .int .i64 jm, .int .i64 je] 24)).cell? ⟨w32.heap.size, 0, none⟩ = some (.int .i64 jk) := new_cell2 _ _ _ _ _ _ (by simp) rfl
              have t1 : (w32.alloc (.cells #[.int .i64 jk, .bool jn, .int .i64 jm, .int .i64 je] 24)).cell? ⟨w32.heap.size, 1, none⟩ = some (.bool jn) := new_cell2 _ _ _ _ _ _ (by simp) rfl
              have t2 : (w32.alloc (.cells #[.int .i64 jk, .bool jn, .int .i64 jm, .int .i64 je] 24)).cell? ⟨w32.heap.size, 2, none⟩ = some (.int .i64 jm) := new_cell2 _ _ _ _ _ _ (by simp) rfl
              have t3 : (w32.alloc (.cells #[.int .i64 jk, .bool jn, .int .i64 jm, .int .i64 je] 24)).cell? ⟨w32.heap.size, 3, none⟩ = some (.int .i64 je) := new_cell2 _ _ _ _ _ _ (by simp) rfl
              have sz34 : w32.heap.size + 1 ≤ (w32.alloc (.cells #[.int .i64 jk, .bool jn, .int .i64 jm, .int .i64 je] 24)).heap.size := by simp
              replace y0 := kn.cell0 y0
              replace y1 := kn.cell0 y1
              replace y2 := kn.cell0 y2
              replace y3 := kn.cell0 y3
              replace v0 := kn.cell0 v0
              replace v1 := kn.cell0 v1
              replace v2 := kn.cell0 v2
              replace v3 := kn.cell0 v3
              replace ya0 := kn.cell0 ya0
              replace ya1 := kn.cell0 ya1
              replace ya2 := kn.cell0 ya2
              replace ya3 := kn.cell0 ya3
              replace za0 := kn.cell0 za0
              replace za1 := kn.cell0 za1
              replace za2 := kn.cell0 za2
              replace za3 := kn.cell0 za3
              replace K := hide ((unhide K).trans kn)
              have z35 := kn.size
              clear kn
              go_wp2_with fail
              generalize (w32.alloc (.cells #[.int .i64 jk, .bool jn, .int .i64 jm, .int .i64 je] 24)) = wn36 at *
              refine (flok_spec_k (unhide HF') _).mono ?_
              rintro e w37 ⟨rfl, k37⟩
              replace y0 := k37.cell0 y0
              replace y1 := k37.cell0 y1
              replace y2 := k37.cell0 y2
              replace y3 := k37.cell0 y3
              replace v0 := k37.cell0 v0
              replace v1 := k37.cell0 v1
              replace v2 := k37.cell0 v2
              replace v3 := k37.cell0 v3
              replace ya0 := k37.cell0 ya0
              replace ya1 := k37.cell0 ya1
              replace ya2 := k37.cell0 ya2
              replace ya3 := k37.cell0 ya3
              replace za0 := k37.cell0 za0
              replace za1 := k37.cell0 za1
              replace za2 := k37.cell0 za2
              replace za3 := k37.cell0 za3
              replace t0 := k37.cell0 t0
              replace t1 := k37.cell0 t1
              replace t2 := k37.cell0 t2
              replace t3 := k37.cell0 t3
              replace K := hide ((unhide K).trans k37)
              have z38 := k37.size
              clear k37
              go_wp2_with fail
              go_ret
              exact ⟨rfl, (unhide K).toBelow⟩
      · clear hC hQ
        go_wp2_with fail
        refine (drawUnpack_any _ r hb).mono ?_
        rintro e w26 ⟨x1, x2, rfl, k26⟩
        replace r := r.kept k26 (by omega)
        replace y0 := k26.cell0 y0
        replace y1 := k26.cell0 y1
        replace y2 := k26.cell0 y2
        replace y3 := k26.cell0 y3
        replace v0 := k26.cell0 v0
        replace v1 := k26.cell0 v1
        replace v2 := k26.cell0 v2
        replace v3 := k26.cell0 v3
        replace ya0 := k26.cell0 ya0
        replace ya1 := k26.cell0 ya1
        replace ya2 := k26.cell0 ya2
        replace ya3 := k26.cell0 ya3
        replace za0 := k26.cell0 za0
        replace za1 := k26.cell0 za1
        replace za2 := k26.cell0 za2
        replace za3 := k26.cell0 za3
        replace K := hide ((unhide K).trans k26)
        have z27 := k26.size
        clear k26
        clear r
        obtain ⟨U, hU⟩ : ∃ o, okU x1 x2 = o := ⟨_, rfl⟩
        obtain ⟨fx, hfx⟩ : ∃ o, fun2 x1 x2 = o := ⟨_, rfl⟩
        have mk := flun_impl x1 x2 w26
        rw [hU, hfx] at mk
        have HF : Hid (U = true → flok fx.1 fx.2.1 fx.2.2.1 fx.2.2.2 = true) := fun q => by
          have := ok_un (hU.trans q)
          rw [hfx] at this
          exact this
        obtain ⟨jk, jn, jm, je⟩ := fx
        clear hfx
        unfold okU at hU
        go_wp2_with fail
        refine (mk).mono ?_
        rintro e w28 ⟨rfl, k28⟩
        replace y0 := k28.cell0 y0
        replace y1 := k28.cell0 y1
        replace y2 := k28.cell0 y2
        replace y3 := k28.cell0 y3
        replace v0 := k28.cell0 v0
        replace v1 := k28.cell0 v1
        replace v2 := k28.cell0 v2
        replace v3 := k28.cell0 v3
        replace ya0 := k28.cell0 ya0
        replace ya1 := k28.cell0 ya1
        replace ya2 := k28.cell0 ya2
        replace ya3 := k28.cell0 ya3
        replace za0 := k28.cell0 za0
        replace za1 := k28.cell0 za1
        replace za2 := k28.cell0 za2
        replace za3 := k28.cell0 za3
        replace K := hide ((unhide K).trans k28)
        have z29 := k28.size
        clear k28
        clear mk
        cases U
        · have hU' : ¬ (0 ≤ x1 ∧ x1 ≤ 4294967295 ∧ 0 ≤ x2 ∧ x2 ≤ 4294967295) := of_decide_eq_false hU
          clear hU HF
          skip
          go_wp2_with fail
          all_goals first
            | (go_ret; exact ⟨rfl, ((unhide K).alloc _).toBelow⟩)
            | (go_ret; refine ⟨congrArg (fun b => Ending.returned (.bool b)) ?_, ((unhide K).alloc _).toBelow⟩; (simp <;> omega))
            | (exfalso; omega)
        · obtain ⟨u1, u2, u3, u4⟩ : 0 ≤ x1 ∧ x1 ≤ 4294967295 ∧ 0 ≤ x2 ∧ x2 ≤ 4294967295 := of_decide_eq_true hU
          have u2' : x1 < 4294967296 := by omega
          have u4' : x2 < 4294967296 := by omega
          have HF' := hide (unhide HF rfl)
          clear hU HF
          have kn := (Kept.refl 0 0 w28).alloc (.cells #[.int .i64 jk, .bool jn, .int .i64 jm, .int .i64 je] 24)
          have t0 : (w28.alloc (.cells #[.int .i64 jk, .bool jn, .int .i64 jm, .int .i64 je] 24)).cell? ⟨w28.heap.size, 0, none⟩ = some (.int .i64 jk) := new_cell2 _ _ _ _ _ _ (by simp) rfl
          have t1 : (w28.alloc (.cells #[.int .i64 jk, .bool jn, .int .i64 jm, .int .i64 je] 24)).cell? ⟨w28.heap.size, 1, none⟩ = some (.bool jn) := new_cell2 _ _ _ _ _ _ (by simp) rfl
          have t2 : (w28.alloc (.cells #[.int .i64 jk, .bool jn, .int .i64 jm, .int .i64 je] 24)).cell? ⟨w28.heap.size, 2, none⟩ = some (.int .i64 jm) := new_cell2 _ _ _ _ _ _ (by simp) rfl
          have t3 : (w28.alloc (.cells #[.int .i64 jk, .bool jn, .int .i64 jm, .int .i64 je] 24)).cell? ⟨w28.heap.size, 3, none⟩ = some (.int .i64 je) := new_cell2 _ _ _ _ _ _ (by simp) rfl
          have sz30 : w28.heap.size + 1 ≤ (w28.alloc (.cells #[.int .i64 jk, .bool jn, .int .i64 jm, .int .i64 je] 24)).heap.size := by simp
          replace y0 := kn.cell0 y0
          replace y1 := kn.cell0 y1
          replace y2 := kn.cell0 y2
          replace y3 := kn.cell0 y3
          replace v0 := kn.cell0 v0
          replace v1 := kn.cell0 v1
          replace v2 := kn.cell0 v2
          replace v3 := kn.cell0 v3
          replace ya0 := kn.cell0 ya0
          replace ya1 := kn.cell0 ya1
          replace ya2 := kn.cell0 ya2
          replace ya3 := kn.cell0 ya3
          replace za0 := kn.cell0 za0
          replace za1 := kn.cell0 za1
          replace za2 := kn.cell0 za2
          replace za3 := kn.cell0 za3
          replace K := hide ((unhide K).trans kn)
          have z31 := kn.size
          clear kn
          go_wp2_with fail
          generalize (w28.alloc (.cells #[.int .i64 jk, .bool jn, .int .i64 jm, .int .i64 je] 24)) = wn32 at *
          refine (flok_spec_k (unhide HF') _).mono ?_
          rintro e w33 ⟨rfl, k33⟩
          replace y0 := k33.cell0 y0
          replace y1 := k33.cell0 y1
          replace y2 := k33.cell0 y2
          replace y3 := k33.cell0 y3
          replace v0 := k33.cell0 v0
          replace v1 := k33.cell0 v1
          replace v2 := k33.cell0 v2
          replace v3 := k33.cell0 v3
          replace ya0 := k33.cell0 ya0
          replace ya1 := k33.cell0 ya1
          replace ya2 := k33.cell0 ya2
          replace ya3 := k33.cell0 ya3
          replace za0 := k33.cell0 za0
          replace za1 := k33.cell0 za1
          replace za2 := k33.cell0 za2
          replace za3 := k33.cell0 za3
          replace t0 := k33.cell0 t0
          replace t1 := k33.cell0 t1
          replace t2 := k33.cell0 t2
          replace t3 := k33.cell0 t3
          replace K := hide ((unhide K).trans k33)
          have z34 := k33.size
          clear k33
          go_wp2_with fail
          go_ret
          exact ⟨rfl, (unhide K).toBelow⟩
    · clear hC hQ
      go_wp2_with fail
      refine (drawUnpack_any _ r hb).mono ?_
      rintro e w26 ⟨x1, x2, rfl, k26⟩
      replace r := r.kept k26 (by omega)
      replace y0 := k26.cell0 y0
      replace y1 := k26.cell0 y1
      replace y2 := k26.cell0 y2
      replace y3 := k26.cell0 y3
      replace v0 := k26.cell0 v0
      replace v1 := k26.cell0 v1
      replace v2 := k26.cell0 v2
      replace v3 := k26.cell0 v3
      replace ya0 := k26.cell0 ya0
      replace ya1 := k26.cell0 ya1
      replace ya2 := k26.cell0 ya2
      replace ya3 := k26.cell0 ya3
      replace za0 := k26.cell0 za0
      replace za1 := k26.cell0 za1
      replace za2 := k26.cell0 za2
      replace za3 := k26.cell0 za3
      replace K := hide ((unhide K).trans k26)
      have z27 := k26.size
      clear k26
      clear r
      obtain ⟨U, hU⟩ : ∃ o, okU x1 x2 = o := ⟨_, rfl⟩
      obtain ⟨fx, hfx⟩ : ∃ o, fun2 x1 x2 = o := ⟨_, rfl⟩
      have mk := flun_impl x1 x2 w26
      rw [hU, hfx] at mk
      have HF : Hid (U = true → flok fx.1 fx.2.1 fx.2.2.1 fx.2.2.2 = true) := fun q => by
        have := ok_un (hU.trans q)
        rw [hfx] at this
        exact this
      obtain ⟨jk, jn, jm, je⟩ := fx
      clear hfx
      unfold okU at hU
      go_wp2_with fail
      refine (mk).mono ?_
      rintro e w28 ⟨rfl, k28⟩
      replace y0 := k28.cell0 y0
      replace y1 := k28.cell0 y1
      replace y2 := k28.cell0 y2
      replace y3 := k28.cell0 y3
      replace v0 := k28.cell0 v0
      replace v1 := k28.cell0 v1
      replace v2 := k28.cell0 v2
      replace v3 := k28.cell0 v3
      replace ya0 := k28.cell0 ya0
      replace ya1 := k28.cell0 ya1
      replace ya2 := k28.cell0 ya2
      replace ya3 := k28.cell0 ya3
      replace za0 := k28.cell0 za0
      replace za1 := k28.cell0 za1
      replace za2 := k28.cell0 za2
      replace za3 := k28.cell0 za3
      replace K := hide ((unhide K).trans k28)
      have z29 := k28.size
      clear k28
      clear mk
      cases U
      · have hU' : ¬ (0 ≤ x1 ∧ x1 ≤ 4294967295 ∧ 0 ≤ x2 ∧ x2 ≤ 4294967295) := of_decide_eq_false hU
        clear hU HF
        skip
        go_wp2_with fail
        all_goals first
          | (go_ret; exact ⟨rfl, ((unhide K).alloc _).toBelow⟩)
          | (go_ret; refine ⟨congrArg (fun b => Ending.returned (.bool b)) ?_, ((unhide K).alloc _).toBelow⟩; (simp <;> omega))
          | (exfalso; omega)
      · obtain ⟨u1, u2, u3, u4⟩ : 0 ≤ x1 ∧ x1 ≤ 4294967295 ∧ 0 ≤ x2 ∧ x2 ≤ 4294967295 := of_decide_eq_true hU
        have u2' : x1 < 4294967296 := by omega
        have u4' : x2 < 4294967296 := by omega
        have HF' := hide (unhide HF rfl)
        clear hU HF
        have kn := (Kept.refl 0 0 w28).alloc (.cells #[.int .i64 jk, .bool jn, .int .i64 jm, .int .i64 je] 24)
        have t0 : (w28.alloc (.cells #[.int .i64 jk, .bool jn, .int .i64 jm, .int .i64 je] 24)).cell? ⟨w28.heap.size, 0, none⟩ = some (.int .i64 jk) := new_cell2 _ _ _ _ _ _ (by simp) rfl
        have t1 : (w28.alloc (.cells #[.int .i64 jk, .bool jn, .int .i64 jm, .int .i64 je] 24)).cell? ⟨w28.heap.size, 1, none⟩ = some (.bool jn) := new_cell2 _ _ _ _ _ _ (by simp) rfl
        have t2 : (w28.alloc (.cells #[.int .i64 jk, .bool jn, .int .i64 jm, .int .i64 je] 24)).cell? ⟨w28.heap.size, 2, none⟩ = some (.int .i64 jm) := new_cell2 _ _ _ _ _ _ (by simp) rfl
        have t3 : (w28.alloc (.cells #[.int .i64 jk, .bool jn, .int .i64 jm, .int .i64 je] 24)).cell? ⟨w28.heap.size, 3, none⟩ = some (.int .i64 je) := new_cell2 _ _ _ _ _ _ (by simp) rfl
        have sz30 : w28.heap.size + 1 ≤ (w28.alloc (.cells #[.int .i64 jk, .bool jn, .int .i64 jm, .int .i64 je] 24)).heap.size := by simp
        replace y0 := kn.cell0 y0
        replace y1 := kn.cell0 y1
        replace y2 := kn.cell0 y2
        replace y3 := kn.cell0 y3
        replace v0 := kn.cell0 v0
        replace v1 := kn.cell0 v1
        replace v2 := kn.cell0 v2
        replace v3 := kn.cell0 v3
        replace ya0 := kn.cell0 ya0
        replace ya1 := kn.cell0 ya1
        replace ya2 := kn.cell0 ya2
        replace ya3 := kn.cell0 ya3
        replace za0 := kn.cell0 za0
        replace za1 := kn.cell0 za1
        replace za2 := kn.cell0 za2
        replace za3 := kn.cell0 za3
        replace K := hide ((unhide K).trans kn)
        have z31 := kn.size
        clear kn
        go_wp2_with fail
        generalize (w28.alloc (.cells #[.int .i64 jk, .bool jn, .int .i64 jm, .int .i64 je] 24)) = wn32 at *
        refine (flok_spec_k (unhide HF') _).mono ?_
        rintro e w33 ⟨rfl, k33⟩
        replace y0 := k33.cell0 y0
        replace y1 := k33.cell0 y1
        replace y2 := k33.cell0 y2
        replace y3 := k33.cell0 y3
        replace v0 := k33.cell0 v0
        replace v1 := k33.cell0 v1
        replace v2 := k33.cell0 v2
        replace v3 := k33.cell0 v3
        replace ya0 := k33.cell0 ya0
        replace ya1 := k33.cell0 ya1
        replace ya2 := k33.cell0 ya2
        replace ya3 := k33.cell0 ya3
        replace za0 := k33.cell0 za0
        replace za1 := k33.cell0 za1
        replace za2 := k33.cell0 za2
        replace za3 := k33.cell0 za3
        replace t0 := k33.cell0 t0
        replace t1 := k33.cell0 t1
        replace t2 := k33.cell0 t2
        replace t3 := k33.cell0 t3
        replace K := hide ((unhide K).trans k33)
        have z34 := k33.size
        clear k33
        go_wp2_with fail
        go_ret
        exact ⟨rfl, (unhide K).toBelow⟩

end Go.Proofs.Ytededkklgfhabaa
