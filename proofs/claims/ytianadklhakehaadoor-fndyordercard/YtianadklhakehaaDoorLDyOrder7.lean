/-
  The walk of the law FnDyOrder: it returns true at every code.
-/
import Derived.Test.YtianadklhakehaaDoorLB
import Derived.Test.YtianadklhakehaaDoorIdsub
import Derived.Test.YtianadklhakehaaDoorIDyCmp7D
import Derived.Deep.DeepCutAuto
import Derived.Deep.RegionHeld3
namespace Go.Proofs.YtianadklhakehaaDoor
open Go.RowKit
set_option linter.unusedVariables false
set_option maxRecDepth 8000
set_option linter.unusedSimpArgs false

theorem in_dyO : ∀ (w : World) (args : Array Value), (callFunc 7 args).run Tryd.prog w = .ok (.enter 7 args) w := enters Tryd.func7 (by decide) (fun h => by cases h)

theorem in_cmpO : ∀ (w : World) (args : Array Value), (callFunc 5 args).run Tryd.prog w = .ok (.enter 5 args) w := enters Tryd.func5 (by decide) (fun h => by cases h)

theorem in_sameO : ∀ (w : World) (args : Array Value), (callFunc 9 args).run Tryd.prog w = .ok (.enter 9 args) w := enters Tryd.func9 (by decide) (fun h => by cases h)

theorem in_negO : ∀ (w : World) (args : Array Value), (callFunc 10 args).run Tryd.prog w = .ok (.enter 10 args) w := enters Tryd.func10 (by decide) (fun h => by cases h)

theorem in_topO : ∀ (w : World) (args : Array Value), (callFunc 12 args).run Tryd.prog w = .ok (.enter 12 args) w := enters Tryd.func12 (by decide) (fun h => by cases h)

theorem cmp_told {b1 b2 : Bool} {l1 h1 l2 h2 : Nat} {v1 v2 : Value} {xs ys : List Int} (s1 s2 : Bool) (x1 x2 : Int) (hx1 : x1 ≤ 9223372036854775807) (hx0 : -9223372036854775808 ≤ x1) (hy1 : x2 ≤ 9223372036854775807) (hy0 : -9223372036854775808 ≤ x2) (w : World) (r1 : Row .i64 b1 l1 h1 w v1 xs) (r2 : Row .i64 b2 l2 h2 w v2 ys) {c : Int} (hc : cmpD s1 xs x1 s2 ys x2 = c) :
    Calls Tryd.prog 5 #[.agg #[.bool s1, v1, .int .i64 x1], .agg #[.bool s2, v2, .int .i64 x2]] w fun e w' => e = .returned (.int .i64 c) ∧ Kept 0 0 w w' := by
  have := dcmp_impl s1 s2 x1 x2 hx1 hx0 hy1 hy0 w r1 r2
  rwa [hc] at this

theorem same_told {b1 b2 : Bool} {l1 h1 l2 h2 : Nat} {v1 v2 : Value} {xs ys : List Int} (s1 s2 : Bool) (x1 x2 : Int) (w : World) (r1 : Row .i64 b1 l1 h1 w v1 xs) (r2 : Row .i64 b2 l2 h2 w v2 ys) {c : Bool} (hc : sameDB s1 xs x1 s2 ys x2 = c) :
    Calls Tryd.prog 9 #[.agg #[.bool s1, v1, .int .i64 x1], .agg #[.bool s2, v2, .int .i64 x2]] w fun e w' => e = .returned (.bool c) ∧ Kept 0 0 w w' := by
  have := sameDy_any s1 s2 x1 x2 w r1 r2
  rwa [hc] at this

theorem neg_told {bw : Bool} {lo hi : Nat} {v : Value} {zs : List Int} {s : Bool} {x : Int} (hx1 : x ≤ 9223372036854775807) (hx0 : -9223372036854775808 ≤ x) (w : World) (r : Row .i64 bw lo hi w v zs) (T : TabB w) (h : dokB s zs x = true) {n : Bool} (hn : wsg (-wval s zs) = n) :
    Calls Tryd.prog 10 #[.agg #[.bool s, v, .int .i64 x]] w fun e w' => ∃ v', e = .returned (.agg #[.bool n, v', .int .i64 x]) ∧ Row .i64 true w.heap.size w'.heap.size w' v' zs ∧ Kept 0 0 w w' := by
  have := dneg_impl s x hx1 hx0 w r T
  obtain ⟨-, b1, b2, b3⟩ := d_ok h _ (neg_abs (s := s) (dok_lim h))
  rwa [h, b1, b2, b3, hn] at this

theorem top_told {bw : Bool} {lo hi : Nat} {v : Value} {zs : List Int} {s : Bool} {x : Int} (hx1 : x ≤ 9223372036854775807) (hx0 : -9223372036854775808 ≤ x) (w : World) (r : Row .i64 bw lo hi w v zs) {t : Int} (ht : topD s zs x = t) :
    Calls Tryd.prog 12 #[.agg #[.bool s, v, .int .i64 x]] w fun e w' => e = .returned (.int .i64 t) ∧ Kept 0 0 w w' := by
  have := dytop_impl s x hx1 hx0 w r
  rwa [ht] at this

theorem topD_small {s : Bool} {zs : List Int} {x : Int} (h : dokB s zs x = true) (h0 : 0 < zs.length) : -3000 ≤ topD s zs x ∧ topD s zs x ≤ 4600 := by
  obtain ⟨w1, f1, f2, -, -⟩ := dok_parts h
  obtain ⟨-, -, hl, hn⟩ := wok_int w1
  have := bitsN_limbs hn
  unfold topD topI
  rw [h, if_pos rfl, if_neg (by omega)]
  omega

set_option maxHeartbeats 16000000 in
theorem law_DyOrder {v : Value} {bs : List Int} {w : World} (r : Row .u8 false 0 w.heap.size w v bs) (hb0 : ∀ z ∈ bs, (Lit.int .u8 z).wf = true) (T : TabB w) :
    Calls Tryd.prog 3 #[v] w fun e w' => e = .returned (.bool true) ∧ Below w.heap.size w w' := by
  have hB := hide (bytes_of_wf hb0)
  clear hb0
  have s0 : w.heap.size = w.heap.size := rfl
  obtain ⟨a0, c0, hv⟩ := Row.form' r
  subst hv
  have K := hide (Kept.refl 0 0 w)
  have S0 := hide s0
  clear s0
  go_enter Tryd.func3, Tryd.ntmps3
  go_wp2_with fail
  refine (drawDyCmp_any _ r (unhide hB)).mono ?_
  rintro e w1 ⟨v1, s1, x1, xs, v2, s2, x2, ys, rfl, r1, r2, f1, f2, f3, f4, k1⟩
  replace r := r.kp k1
  replace K := hide ((unhide K).trans k1)
  have z2 := k1.size
  clear k1
  clear r
  obtain ⟨a1, c1, hv⟩ := Row.form' r1
  subst hv
  obtain ⟨a2, c2, hv⟩ := Row.form' r2
  subst hv
  obtain ⟨C, hC⟩ : ∃ c, cmpD s1 xs x1 s2 ys x2 = c := ⟨_, rfl⟩
  have HC := hide hC
  clear hC
  have kn := (Kept.refl 0 0 w1).alloc (.cells #[.bool s1, .slice a1 xs.length c1, .int .i64 x1] 29)
  have y0 : (w1.alloc (.cells #[.bool s1, .slice a1 xs.length c1, .int .i64 x1] 29)).cell? ⟨w1.heap.size, 0, none⟩ = some (.bool s1) := new_cell2 _ _ _ _ _ _ (by simp) rfl
  have y1 : (w1.alloc (.cells #[.bool s1, .slice a1 xs.length c1, .int .i64 x1] 29)).cell? ⟨w1.heap.size, 1, none⟩ = some (.slice a1 xs.length c1) := new_cell2 _ _ _ _ _ _ (by simp) rfl
  have y2 : (w1.alloc (.cells #[.bool s1, .slice a1 xs.length c1, .int .i64 x1] 29)).cell? ⟨w1.heap.size, 2, none⟩ = some (.int .i64 x1) := new_cell2 _ _ _ _ _ _ (by simp) rfl
  have sz4 : w1.heap.size + 1 ≤ (w1.alloc (.cells #[.bool s1, .slice a1 xs.length c1, .int .i64 x1] 29)).heap.size := by simp
  replace r1 := r1.kp kn
  replace r2 := r2.kp kn
  replace K := hide ((unhide K).trans kn)
  have z5 := kn.size
  clear kn
  have kn := (Kept.refl 0 0 (w1.alloc (.cells #[.bool s1, .slice a1 xs.length c1, .int .i64 x1] 29))).alloc (.cells #[.bool s2, .slice a2 ys.length c2, .int .i64 x2] 29)
  have u0 : ((w1.alloc (.cells #[.bool s1, .slice a1 xs.length c1, .int .i64 x1] 29)).alloc (.cells #[.bool s2, .slice a2 ys.length c2, .int .i64 x2] 29)).cell? ⟨w1.heap.size + 1, 0, none⟩ = some (.bool s2) := new_cell2 _ _ _ _ _ _ (by simp) rfl
  have u1 : ((w1.alloc (.cells #[.bool s1, .slice a1 xs.length c1, .int .i64 x1] 29)).alloc (.cells #[.bool s2, .slice a2 ys.length c2, .int .i64 x2] 29)).cell? ⟨w1.heap.size + 1, 1, none⟩ = some (.slice a2 ys.length c2) := new_cell2 _ _ _ _ _ _ (by simp) rfl
  have u2 : ((w1.alloc (.cells #[.bool s1, .slice a1 xs.length c1, .int .i64 x1] 29)).alloc (.cells #[.bool s2, .slice a2 ys.length c2, .int .i64 x2] 29)).cell? ⟨w1.heap.size + 1, 2, none⟩ = some (.int .i64 x2) := new_cell2 _ _ _ _ _ _ (by simp) rfl
  have sz6 : (w1.alloc (.cells #[.bool s1, .slice a1 xs.length c1, .int .i64 x1] 29)).heap.size + 1 ≤ ((w1.alloc (.cells #[.bool s1, .slice a1 xs.length c1, .int .i64 x1] 29)).alloc (.cells #[.bool s2, .slice a2 ys.length c2, .int .i64 x2] 29)).heap.size := by simp
  replace r1 := r1.kp kn
  replace r2 := r2.kp kn
  replace y0 := kn.cell0 y0
  replace y1 := kn.cell0 y1
  replace y2 := kn.cell0 y2
  replace K := hide ((unhide K).trans kn)
  have z7 := kn.size
  clear kn
  go_wp2_with fail
  generalize ((w1.alloc (.cells #[.bool s1, .slice a1 xs.length c1, .int .i64 x1] 29)).alloc (.cells #[.bool s2, .slice a2 ys.length c2, .int .i64 x2] 29)) = wn8 at *
  refine (cmp_told s1 s2 x1 x2 f2 f1 f4 f3 _ r1 r2 (unhide HC)).mono ?_
  rintro e w9 ⟨rfl, k9⟩
  replace r1 := r1.kp k9
  replace r2 := r2.kp k9
  replace y0 := k9.cell0 y0
  replace y1 := k9.cell0 y1
  replace y2 := k9.cell0 y2
  replace u0 := k9.cell0 u0
  replace u1 := k9.cell0 u1
  replace u2 := k9.cell0 u2
  replace K := hide ((unhide K).trans k9)
  have z10 := k9.size
  clear k9
  go_wp2_with fail
  refine (dok_spec s1 x1 f2 f1 _ r1).mono ?_
  rintro e w11 ⟨rfl, k11⟩
  replace r1 := r1.kp k11
  replace r2 := r2.kp k11
  replace y0 := k11.cell0 y0
  replace y1 := k11.cell0 y1
  replace y2 := k11.cell0 y2
  replace u0 := k11.cell0 u0
  replace u1 := k11.cell0 u1
  replace u2 := k11.cell0 u2
  replace K := hide ((unhide K).trans k11)
  have z12 := k11.size
  clear k11
  cases ho1 : dokB s1 xs x1
  ·have e0 : C = 0 := by rw [← unhide HC]; exact cmpD_bad1 ho1
   subst e0
   clear r1 r2 HC ho1
   go_wp2_with fail
   have dy1 : ∀ (e : Int) (w' : World), -3000 ≤ e → e ≤ 3000 → Calls Tryd.prog 7 #[.int .i64 1, .int .i64 e] w' fun r w'' => ∃ v', r = .returned (.agg #[.bool false, v', .int .i64 e]) ∧ Row .i64 true w'.heap.size w''.heap.size w'' v' [1] ∧ Kept 0 0 w' w'' := fun e w' q1 q2 => by
    have mk := dy_any 1 e (by decide) (by decide) w'
    obtain ⟨e1, e2, e3⟩ := dy_form (n := 1) (e := e) (by rw [one_lim]; exact dok_small 1 e (.inl rfl) q1 q2)
    rw [e1, e2, e3, one_lim, show wsg 1 = false from rfl] at mk
    exact mk
   refine (dy1 0 _ (by decide) (by decide)).mono ?_
   rintro e w13 ⟨v8, rfl, r8, k13⟩
   replace y0 := k13.cell0 y0
   replace y1 := k13.cell0 y1
   replace y2 := k13.cell0 y2
   replace u0 := k13.cell0 u0
   replace u1 := k13.cell0 u1
   replace u2 := k13.cell0 u2
   replace K := hide ((unhide K).trans k13)
   have z14 := k13.size
   clear k13
   go_wp2_with fail
   refine (dy1 (-1) _ (by decide) (by decide)).mono ?_
   rintro e w15 ⟨v9, rfl, r9, k15⟩
   replace r8 := r8.kp k15
   replace y0 := k15.cell0 y0
   replace y1 := k15.cell0 y1
   replace y2 := k15.cell0 y2
   replace u0 := k15.cell0 u0
   replace u1 := k15.cell0 u1
   replace u2 := k15.cell0 u2
   replace K := hide ((unhide K).trans k15)
   have z16 := k15.size
   clear k15
   go_wp2_with fail
   refine (cmp_told false false 0 (-1) (by decide) (by decide) (by decide) (by decide) _ r8 r9 cmp_one).mono ?_
   rintro e w17 ⟨rfl, k17⟩
   replace r8 := r8.kp k17
   replace r9 := r9.kp k17
   replace y0 := k17.cell0 y0
   replace y1 := k17.cell0 y1
   replace y2 := k17.cell0 y2
   replace u0 := k17.cell0 u0
   replace u1 := k17.cell0 u1
   replace u2 := k17.cell0 u2
   replace K := hide ((unhide K).trans k17)
   have z18 := k17.size
   clear k17
   clear r8 r9 dy1
   go_wp2_with fail
   go_ret
   exact ⟨rfl, (unhide K).toBelow⟩
  have HO1 := hide ho1
  clear ho1
  go_wp2_with fail
  refine (dok_spec s2 x2 f4 f3 _ r2).mono ?_
  rintro e w13 ⟨rfl, k13⟩
  replace r1 := r1.kp k13
  replace r2 := r2.kp k13
  replace y0 := k13.cell0 y0
  replace y1 := k13.cell0 y1
  replace y2 := k13.cell0 y2
  replace u0 := k13.cell0 u0
  replace u1 := k13.cell0 u1
  replace u2 := k13.cell0 u2
  replace K := hide ((unhide K).trans k13)
  have z14 := k13.size
  clear k13
  cases ho2 : dokB s2 ys x2
  ·have e0 : C = 0 := by rw [← unhide HC]; exact cmpD_bad2 ho2
   subst e0
   clear r1 r2 HC ho2
   go_wp2_with fail
   have dy1 : ∀ (e : Int) (w' : World), -3000 ≤ e → e ≤ 3000 → Calls Tryd.prog 7 #[.int .i64 1, .int .i64 e] w' fun r w'' => ∃ v', r = .returned (.agg #[.bool false, v', .int .i64 e]) ∧ Row .i64 true w'.heap.size w''.heap.size w'' v' [1] ∧ Kept 0 0 w' w'' := fun e w' q1 q2 => by
    have mk := dy_any 1 e (by decide) (by decide) w'
    obtain ⟨e1, e2, e3⟩ := dy_form (n := 1) (e := e) (by rw [one_lim]; exact dok_small 1 e (.inl rfl) q1 q2)
    rw [e1, e2, e3, one_lim, show wsg 1 = false from rfl] at mk
    exact mk
   refine (dy1 0 _ (by decide) (by decide)).mono ?_
   rintro e w15 ⟨v8, rfl, r8, k15⟩
   replace y0 := k15.cell0 y0
   replace y1 := k15.cell0 y1
   replace y2 := k15.cell0 y2
   replace u0 := k15.cell0 u0
   replace u1 := k15.cell0 u1
   replace u2 := k15.cell0 u2
   replace K := hide ((unhide K).trans k15)
   have z16 := k15.size
   clear k15
   go_wp2_with fail
   refine (dy1 (-1) _ (by decide) (by decide)).mono ?_
   rintro e w17 ⟨v9, rfl, r9, k17⟩
   replace r8 := r8.kp k17
   replace y0 := k17.cell0 y0
   replace y1 := k17.cell0 y1
   replace y2 := k17.cell0 y2
   replace u0 := k17.cell0 u0
   replace u1 := k17.cell0 u1
   replace u2 := k17.cell0 u2
   replace K := hide ((unhide K).trans k17)
   have z18 := k17.size
   clear k17
   go_wp2_with fail
   refine (cmp_told false false 0 (-1) (by decide) (by decide) (by decide) (by decide) _ r8 r9 cmp_one).mono ?_
   rintro e w19 ⟨rfl, k19⟩
   replace r8 := r8.kp k19
   replace r9 := r9.kp k19
   replace y0 := k19.cell0 y0
   replace y1 := k19.cell0 y1
   replace y2 := k19.cell0 y2
   replace u0 := k19.cell0 u0
   replace u1 := k19.cell0 u1
   replace u2 := k19.cell0 u2
   replace K := hide ((unhide K).trans k19)
   have z20 := k19.size
   clear k19
   clear r8 r9 dy1
   go_wp2_with fail
   go_ret
   exact ⟨rfl, (unhide K).toBelow⟩
  have HO2 := hide ho2
  clear ho2
  go_wp2_with fail
  have mk := dsub_impl s1 s2 x1 x2 f2 f1 f4 f3 w13 r1 r2 (T.kept (unhide K))
  rw [unhide HO1, unhide HO2, show (true && true) = true from rfl] at mk
  have sg := sub_sign (unhide HO1) (unhide HO2)
  rw [unhide HC] at sg
  generalize ansDS true (wval s1 xs * 2 ^ (x1 - min x1 x2).toNat - wval s2 ys * 2 ^ (x2 - min x1 x2).toNat) (min x1 x2) = DS at mk sg
  generalize ansDL true (wval s1 xs * 2 ^ (x1 - min x1 x2).toNat - wval s2 ys * 2 ^ (x2 - min x1 x2).toNat) (min x1 x2) = DL at mk sg
  generalize ansDE true (wval s1 xs * 2 ^ (x1 - min x1 x2).toNat - wval s2 ys * 2 ^ (x2 - min x1 x2).toNat) (min x1 x2) = DE at mk
  generalize ansDB true (wval s1 xs * 2 ^ (x1 - min x1 x2).toNat - wval s2 ys * 2 ^ (x2 - min x1 x2).toNat) (min x1 x2) = DB at mk sg
  have SGN := hide sg
  clear sg
  refine (mk).mono ?_
  rintro e w15 ⟨v3, rfl, r3, k15⟩
  replace r1 := r1.kp k15
  replace r2 := r2.kp k15
  replace y0 := k15.cell0 y0
  replace y1 := k15.cell0 y1
  replace y2 := k15.cell0 y2
  replace u0 := k15.cell0 u0
  replace u1 := k15.cell0 u1
  replace u2 := k15.cell0 u2
  replace K := hide ((unhide K).trans k15)
  have z16 := k15.size
  clear k15
  clear mk
  obtain ⟨a3, c3, hv⟩ := Row.form' r3
  subst hv
  obtain ⟨S1, hS1⟩ : ∃ z : Int, z = if DS = true then -1 else 1 := ⟨_, rfl⟩
  obtain ⟨SG, hSG⟩ : ∃ z : Int, z = if DL.length = 0 then 0 else S1 := ⟨_, rfl⟩
  have HCS := hide (show DB = true → C = SG from fun hb => by
   rw [hSG, hS1]
   rcases unhide SGN hb with ⟨e0, e1, e2⟩ | ⟨e0, e1, e2⟩ | ⟨e0, e1, e2⟩
   ·rw [e0, e1, if_neg (by omega), if_pos rfl]
   ·rw [e0, e2]; rfl
   ·rw [e0, e1, if_neg (by omega), if_neg (by decide)])
  have HS1 := hide hS1
  have HSG := hide hSG
  clear hS1 hSG SGN
  have kn := (Kept.refl 0 0 w15).alloc (.cells #[.bool DS, .slice a3 DL.length c3, .int .i64 DE] 29)
  have d0 : (w15.alloc (.cells #[.bool DS, .slice a3 DL.length c3, .int .i64 DE] 29)).cell? ⟨w15.heap.size, 0, none⟩ = some (.bool DS) := new_cell2 _ _ _ _ _ _ (by simp) rfl
  have d1 : (w15.alloc (.cells #[.bool DS, .slice a3 DL.length c3, .int .i64 DE] 29)).cell? ⟨w15.heap.size, 1, none⟩ = some (.slice a3 DL.length c3) := new_cell2 _ _ _ _ _ _ (by simp) rfl
  have d2 : (w15.alloc (.cells #[.bool DS, .slice a3 DL.length c3, .int .i64 DE] 29)).cell? ⟨w15.heap.size, 2, none⟩ = some (.int .i64 DE) := new_cell2 _ _ _ _ _ _ (by simp) rfl
  have sz18 : w15.heap.size + 1 ≤ (w15.alloc (.cells #[.bool DS, .slice a3 DL.length c3, .int .i64 DE] 29)).heap.size := by simp
  replace r1 := r1.kp kn
  replace r2 := r2.kp kn
  replace r3 := r3.kp kn
  replace y0 := kn.cell0 y0
  replace y1 := kn.cell0 y1
  replace y2 := kn.cell0 y2
  replace u0 := kn.cell0 u0
  replace u1 := kn.cell0 u1
  replace u2 := kn.cell0 u2
  replace K := hide ((unhide K).trans kn)
  have z19 := kn.size
  clear kn
  go_upto_if 47 with fail
  generalize (w15.alloc (.cells #[.bool DS, .slice a3 DL.length c3, .int .i64 DE] 29)) = wn20 at *
  go_cut [8] (fun q wx => q = .int .i64 S1 ∧ Kept 0 0 wn20 wx)
  case first =>
   have kw := Kept.refl 0 0 wn20
   cases DS
   ·go_wp2_with fail
    go_meet
    exact ⟨by rw [unhide HS1]; rfl, kw⟩
   ·go_wp2_with fail
    go_meet
    exact ⟨by rw [unhide HS1]; rfl, kw⟩
  case rest =>
   obtain ⟨rfl, kk⟩ := hcut
   replace r1 := r1.kp kk
   replace r2 := r2.kp kk
   replace r3 := r3.kp kk
   replace y0 := kk.cell0 y0
   replace y1 := kk.cell0 y1
   replace y2 := kk.cell0 y2
   replace u0 := kk.cell0 u0
   replace u1 := kk.cell0 u1
   replace u2 := kk.cell0 u2
   replace d0 := kk.cell0 d0
   replace d1 := kk.cell0 d1
   replace d2 := kk.cell0 d2
   replace K := hide ((unhide K).trans kk)
   have z21 := kk.size
   clear kk
   generalize wc = wk22 at *
   (try clear z1); (try clear z2); (try clear z3); (try clear z4); (try clear z5); (try clear z6); (try clear z7); (try clear z8); (try clear z9); (try clear z10); (try clear z11); (try clear z12); (try clear z13); (try clear z14); (try clear z15); (try clear z16); (try clear z17); (try clear z18); (try clear z19); (try clear z20); (try clear z21); (try clear z22)
   (try clear sz1); (try clear sz2); (try clear sz3); (try clear sz4); (try clear sz5); (try clear sz6); (try clear sz7); (try clear sz8); (try clear sz9); (try clear sz10); (try clear sz11); (try clear sz12); (try clear sz13); (try clear sz14); (try clear sz15); (try clear sz16); (try clear sz17); (try clear sz18); (try clear sz19); (try clear sz20); (try clear sz21); (try clear sz22)
   go_upto_if 53 with fail
   go_cut [8] (fun q wx => q = .int .i64 SG ∧ Kept 0 0 wk22 wx)
   case first =>
    have kw := Kept.refl 0 0 wk22
    by_cases h0 : DL.length = 0
    ·have hb0 : ((DL.length : Int) == 0) = true := beq_iff_eq.2 (by omega)
     go_wp2_with fail
     go_meet
     exact ⟨by rw [unhide HSG, if_pos h0], kw⟩
    ·have hb0 : ((DL.length : Int) == 0) = false := beq_eq_false_iff_ne.2 (by omega)
     go_wp2_with fail
     go_meet
     exact ⟨by rw [unhide HSG, if_neg h0], kw⟩
   case rest =>
    obtain ⟨rfl, kk⟩ := hcut
    replace r1 := r1.kp kk
    replace r2 := r2.kp kk
    replace r3 := r3.kp kk
    replace y0 := kk.cell0 y0
    replace y1 := kk.cell0 y1
    replace y2 := kk.cell0 y2
    replace u0 := kk.cell0 u0
    replace u1 := kk.cell0 u1
    replace u2 := kk.cell0 u2
    replace d0 := kk.cell0 d0
    replace d1 := kk.cell0 d1
    replace d2 := kk.cell0 d2
    replace K := hide ((unhide K).trans kk)
    have z23 := kk.size
    clear kk
    generalize wc = wk24 at *
    (try clear z1); (try clear z2); (try clear z3); (try clear z4); (try clear z5); (try clear z6); (try clear z7); (try clear z8); (try clear z9); (try clear z10); (try clear z11); (try clear z12); (try clear z13); (try clear z14); (try clear z15); (try clear z16); (try clear z17); (try clear z18); (try clear z19); (try clear z20); (try clear z21); (try clear z22); (try clear z23); (try clear z24)
    (try clear sz1); (try clear sz2); (try clear sz3); (try clear sz4); (try clear sz5); (try clear sz6); (try clear sz7); (try clear sz8); (try clear sz9); (try clear sz10); (try clear sz11); (try clear sz12); (try clear sz13); (try clear sz14); (try clear sz15); (try clear sz16); (try clear sz17); (try clear sz18); (try clear sz19); (try clear sz20); (try clear sz21); (try clear sz22); (try clear sz23); (try clear sz24)
    clear r3
    obtain ⟨cr1, cr2⟩ := cmpD_range (unhide HO1) (unhide HO2)
    rw [unhide HC] at cr1 cr2
    obtain ⟨NC, hNC⟩ : ∃ n : Int, -C = n := ⟨_, rfl⟩
    have hwN : IntKind.i64.wrap (-NC) = C := by rw [← hNC, Int.neg_neg]; exact w64 _ (by omega) (by omega)
    have H1 := hide (cmpD_swap (unhide HO1) (unhide HO2))
    have H2 := hide (cmpD_neg (unhide HO1) (unhide HO2))
    have H3 := hide (cmpD_same (unhide HO1) (unhide HO2))
    rw [unhide HC, hNC] at H1 H2
    rw [unhide HC] at H3
    obtain ⟨BZ, hz⟩ : ∃ b : Bool, (C == 0) = b := ⟨_, rfl⟩
    rw [show decide (C = 0) = BZ from by rw [← hz]; by_cases h : C = 0 <;> simp [h]] at H3
    obtain ⟨N1, hN1⟩ : ∃ b, wsg (-wval s1 xs) = b := ⟨_, rfl⟩
    obtain ⟨N2, hN2⟩ : ∃ b, wsg (-wval s2 ys) = b := ⟨_, rfl⟩
    rw [hN1, hN2] at H2
    have HN1 := hide hN1
    have HN2 := hide hN2
    clear hN1 hN2 hNC
    go_upto_region 11 with fail
    go_cut [85] (fun q wx => q = .bool false ∧ Kept 0 0 wk24 wx)
    case first =>
     have kw := Kept.refl 0 0 wk24
     cases DB
     ·have kd := (Kept.refl 0 0 wk24).drew
      replace r1 := r1.kp kd
      replace r2 := r2.kp kd
      replace kw := kw.trans kd
      replace y0 := kd.cell0 y0
      replace y1 := kd.cell0 y1
      replace y2 := kd.cell0 y2
      replace u0 := kd.cell0 u0
      replace u1 := kd.cell0 u1
      replace u2 := kd.cell0 u2
      replace d0 := kd.cell0 d0
      replace d1 := kd.cell0 d1
      replace d2 := kd.cell0 d2
      replace K := hide ((unhide K).trans kd)
      have z25 := kd.size
      clear kd
      refine wp_region_held_drew (S := (fun w' => w'.cell? ⟨w1.heap.size, 0, none⟩ = some (.bool s1) ∧ w'.cell? ⟨w1.heap.size, 1, none⟩ = some (.slice a1 xs.length c1) ∧ w'.cell? ⟨w1.heap.size, 2, none⟩ = some (.int .i64 x1) ∧ w'.cell? ⟨w1.heap.size + 1, 0, none⟩ = some (.bool s2) ∧ w'.cell? ⟨w1.heap.size + 1, 1, none⟩ = some (.slice a2 ys.length c2) ∧ w'.cell? ⟨w1.heap.size + 1, 2, none⟩ = some (.int .i64 x2))) (by kernel_rfl) ?_ (fun hH => ?_)
      ·exact ⟨y0, y1, y2, u0, u1, u2⟩
      refine wpAnyH_take (i := 0) (v := .bool false) rfl (by kernel_rfl) (by kernel_rfl) (by kernel_rfl) (fun _ _ _ h => h) (Or.inl ⟨by rfl, ?_⟩) hH ?_
      ·intro wq hSw
       try dsimp only at hSw
       go_simp
      try simp only [Act.put, zq1, zq2, zq3, zq4, zq5, zq6]
      refine wpAnyH_take (i := 1) (v := .bool false) rfl (by kernel_rfl) (by kernel_rfl) (by kernel_rfl) (fun _ _ _ h => h) (Or.inl ⟨by rfl, ?_⟩) hH ?_
      ·intro wq hSw
       try dsimp only at hSw
       go_simp
      try simp only [Act.put, zq1, zq2, zq3, zq4, zq5, zq6]
      refine wpAnyH_take (i := 2) (v := undef) rfl (by kernel_rfl) (by kernel_rfl) (by kernel_rfl) (fun _ _ _ h => h) (Or.inr ⟨by rfl, rfl⟩) hH ?_
      try simp only [Act.put, zq1, zq2, zq3, zq4, zq5, zq6]
      refine wpAnyH_take (i := 3) (v := undef) rfl (by kernel_rfl) (by kernel_rfl) (by kernel_rfl) (fun _ _ _ h => h) (Or.inr ⟨by rfl, rfl⟩) hH ?_
      try simp only [Act.put, zq1, zq2, zq3, zq4, zq5, zq6]
      refine wpAnyH_take (i := 4) (v := undef) rfl (by kernel_rfl) (by kernel_rfl) (by kernel_rfl) (fun _ _ _ h => h) (Or.inr ⟨by rfl, rfl⟩) hH ?_
      try simp only [Act.put, zq1, zq2, zq3, zq4, zq5, zq6]
      refine wpAnyH_take (i := 5) (v := .bool false) rfl (by kernel_rfl) (by kernel_rfl) (by kernel_rfl) (fun _ _ _ h => h) (Or.inl ⟨by rfl, ?_⟩) hH ?_
      ·intro wq hSw
       try dsimp only at hSw
       go_simp
      try simp only [Act.put, zq1, zq2, zq3, zq4, zq5, zq6]
      refine wpAnyH_take (i := 6) (v := .bool false) rfl (by kernel_rfl) (by kernel_rfl) (by kernel_rfl) (fun _ _ _ h => h) (Or.inl ⟨by rfl, ?_⟩) hH ?_
      ·intro wq hSw
       try dsimp only at hSw
       go_simp
      try simp only [Act.put, zq1, zq2, zq3, zq4, zq5, zq6]
      refine wpAnyH_take (i := 7) (v := .int .i64 C) rfl (by kernel_rfl) (by kernel_rfl) (by kernel_rfl) (fun _ _ _ h => h) (Or.inl ⟨by rfl, ?_⟩) hH ?_
      ·intro wq hSw
       try dsimp only at hSw
       go_simp
      try simp only [Act.put, zq1, zq2, zq3, zq4, zq5, zq6]
      refine wpAnyH_take (i := 8) (v := .agg #[.bool s2, .slice a2 ys.length c2, .int .i64 x2]) rfl (by kernel_rfl) (by kernel_rfl) (by kernel_rfl) (fun _ _ _ h => h) (Or.inl ⟨by rfl, ?_⟩) hH ?_
      ·intro wq hSw
       try dsimp only at hSw
       go_simp
      try simp only [Act.put, zq1, zq2, zq3, zq4, zq5, zq6]
      refine wpAnyH_take (i := 9) (v := .agg #[.bool s1, .slice a1 xs.length c1, .int .i64 x1]) rfl (by kernel_rfl) (by kernel_rfl) (by kernel_rfl) (fun _ _ _ h => h) (Or.inl ⟨by rfl, ?_⟩) hH ?_
      ·intro wq hSw
       try dsimp only at hSw
       go_simp
      try simp only [Act.put, zq1, zq2, zq3, zq4, zq5, zq6]
      refine wpAnyH_ready (rs := [10]) (by kernel_rfl) (by simp) ?_
      refine AllReadyH.cons rfl (fun KK hK => ?_) AllReadyH.nil
      simp only [zq1, zq2, zq3]
      rw [if_pos (by rfl)]
      refine wps2 5 (.tmp 62) (.tmp 63) _ rfl in_cmpO (.agg #[.bool s2, .slice a2 ys.length c2, .int .i64 x2]) (.agg #[.bool s1, .slice a1 xs.length c1, .int .i64 x1]) rfl rfl (cmp_told s2 s1 x2 x1 f4 f3 f2 f1 _ r2 r1 (unhide H1)) ?_
      rintro e w26 ⟨rfl, k26⟩
      refine ⟨_, rfl, ?_⟩
      replace r1 := r1.kp k26
      replace r2 := r2.kp k26
      replace kw := kw.trans k26
      replace y0 := k26.cell0 y0
      replace y1 := k26.cell0 y1
      replace y2 := k26.cell0 y2
      replace u0 := k26.cell0 u0
      replace u1 := k26.cell0 u1
      replace u2 := k26.cell0 u2
      replace d0 := k26.cell0 d0
      replace d1 := k26.cell0 d1
      replace d2 := k26.cell0 d2
      replace K := hide ((unhide K).trans k26)
      have z27 := k26.size
      clear k26
      clear hH
      refine hK.out _ _ ?_ (fun hH => ?_)
      ·exact ⟨y0, y1, y2, u0, u1, u2⟩
      clear hK KK
      try simp only [Act.put, zq1, zq2, zq3, zq4, zq5, zq6]
      refine wpAnyH_take (i := 11) (v := .int .i64 C) rfl (by kernel_rfl) (by kernel_rfl) (by kernel_rfl) (fun _ _ _ h => h) (Or.inl ⟨by rfl, ?_⟩) hH ?_
      ·intro wq hSw
       try dsimp only at hSw
       go_simp
      try simp only [Act.put, zq1, zq2, zq3, zq4, zq5, zq6]
      refine wpAnyH_take (i := 12) (v := .bool false) rfl (by kernel_rfl) (by kernel_rfl) (by kernel_rfl) (fun _ _ _ h => h) (Or.inl ⟨by rfl, ?_⟩) hH ?_
      ·intro wq hSw
       try dsimp only at hSw
       go_simp
      try simp only [Act.put, zq1, zq2, zq3, zq4, zq5, zq6]
      refine wpAnyH_take (i := 13) (v := .bool false) rfl (by kernel_rfl) (by kernel_rfl) (by kernel_rfl) (fun _ _ _ h => h) (Or.inl ⟨by rfl, ?_⟩) hH ?_
      ·intro wq hSw
       try dsimp only at hSw
       go_simp
      try simp only [Act.put, zq1, zq2, zq3, zq4, zq5, zq6]
      refine wpAnyH_take (i := 14) (v := .bool false) rfl (by kernel_rfl) (by kernel_rfl) (by kernel_rfl) (fun _ _ _ h => h) (Or.inl ⟨by rfl, ?_⟩) hH ?_
      ·intro wq hSw
       try dsimp only at hSw
       go_simp
      try simp only [Act.put, zq1, zq2, zq3, zq4, zq5, zq6]
      refine wpAnyH_take (i := 15) (v := .int .i64 C) rfl (by kernel_rfl) (by kernel_rfl) (by kernel_rfl) (fun _ _ _ h => h) (Or.inl ⟨by rfl, ?_⟩) hH ?_
      ·intro wq hSw
       try dsimp only at hSw
       go_simp
      try simp only [Act.put, zq1, zq2, zq3, zq4, zq5, zq6]
      refine wpAnyH_take (i := 16) (v := .bool BZ) rfl (by kernel_rfl) (by kernel_rfl) (by kernel_rfl) (fun _ _ _ h => h) (Or.inl ⟨by rfl, ?_⟩) hH ?_
      ·intro wq hSw
       try dsimp only at hSw
       go_simp
      try simp only [Act.put, zq1, zq2, zq3, zq4, zq5, zq6]
      refine wpAnyH_take (i := 17) (v := .agg #[.bool s1, .slice a1 xs.length c1, .int .i64 x1]) rfl (by kernel_rfl) (by kernel_rfl) (by kernel_rfl) (fun _ _ _ h => h) (Or.inl ⟨by rfl, ?_⟩) hH ?_
      ·intro wq hSw
       try dsimp only at hSw
       go_simp
      try simp only [Act.put, zq1, zq2, zq3, zq4, zq5, zq6]
      refine wpAnyH_take (i := 18) (v := .agg #[.bool s2, .slice a2 ys.length c2, .int .i64 x2]) rfl (by kernel_rfl) (by kernel_rfl) (by kernel_rfl) (fun _ _ _ h => h) (Or.inl ⟨by rfl, ?_⟩) hH ?_
      ·intro wq hSw
       try dsimp only at hSw
       go_simp
      try simp only [Act.put, zq1, zq2, zq3, zq4, zq5, zq6]
      refine wpAnyH_ready (rs := [19]) (by kernel_rfl) (by simp) ?_
      refine AllReadyH.cons rfl (fun KK hK => ?_) AllReadyH.nil
      simp only [zq1, zq2, zq3]
      rw [if_pos (by rfl)]
      refine wps2 9 (.tmp 71) (.tmp 72) _ rfl in_sameO (.agg #[.bool s1, .slice a1 xs.length c1, .int .i64 x1]) (.agg #[.bool s2, .slice a2 ys.length c2, .int .i64 x2]) rfl rfl (same_told s1 s2 x1 x2 _ r1 r2 (unhide H3)) ?_
      rintro e w28 ⟨rfl, k28⟩
      refine ⟨_, rfl, ?_⟩
      replace r1 := r1.kp k28
      replace r2 := r2.kp k28
      replace kw := kw.trans k28
      replace y0 := k28.cell0 y0
      replace y1 := k28.cell0 y1
      replace y2 := k28.cell0 y2
      replace u0 := k28.cell0 u0
      replace u1 := k28.cell0 u1
      replace u2 := k28.cell0 u2
      replace d0 := k28.cell0 d0
      replace d1 := k28.cell0 d1
      replace d2 := k28.cell0 d2
      replace K := hide ((unhide K).trans k28)
      have z29 := k28.size
      clear k28
      clear hH
      refine hK.out _ _ ?_ (fun hH => ?_)
      ·exact ⟨y0, y1, y2, u0, u1, u2⟩
      clear hK KK
      try simp only [Act.put, zq1, zq2, zq3, zq4, zq5, zq6]
      refine wpAnyH_take (i := 20) (v := .bool false) rfl (by kernel_rfl) (by kernel_rfl) (by kernel_rfl) (fun _ _ _ h => h) (Or.inl ⟨by rfl, ?_⟩) hH ?_
      ·intro wq hSw
       try dsimp only at hSw
       go_simp
      try simp only [Act.put, zq1, zq2, zq3, zq4, zq5, zq6]
      refine wpAnyH_take (i := 21) (v := .bool false) rfl (by kernel_rfl) (by kernel_rfl) (by kernel_rfl) (fun _ _ _ h => h) (Or.inl ⟨by rfl, ?_⟩) hH ?_
      ·intro wq hSw
       try dsimp only at hSw
       go_simp
      try simp only [Act.put, zq1, zq2, zq3, zq4, zq5, zq6]
      refine wpAnyH_take (i := 22) (v := .bool false) rfl (by kernel_rfl) (by kernel_rfl) (by kernel_rfl) (fun _ _ _ h => h) (Or.inl ⟨by rfl, ?_⟩) hH ?_
      ·intro wq hSw
       try dsimp only at hSw
       go_simp
      try simp only [Act.put, zq1, zq2, zq3, zq4, zq5, zq6]
      refine wpAnyH_take (i := 23) (v := .int .i64 C) rfl (by kernel_rfl) (by kernel_rfl) (by kernel_rfl) (fun _ _ _ h => h) (Or.inl ⟨by rfl, ?_⟩) hH ?_
      ·intro wq hSw
       try dsimp only at hSw
       go_simp
      try simp only [Act.put, zq1, zq2, zq3, zq4, zq5, zq6]
      refine wpAnyH_take (i := 24) (v := .agg #[.bool s1, .slice a1 xs.length c1, .int .i64 x1]) rfl (by kernel_rfl) (by kernel_rfl) (by kernel_rfl) (fun _ _ _ h => h) (Or.inl ⟨by rfl, ?_⟩) hH ?_
      ·intro wq hSw
       try dsimp only at hSw
       go_simp
      try simp only [Act.put, zq1, zq2, zq3, zq4, zq5, zq6]
      refine wpAnyH_take (i := 26) (v := .agg #[.bool s2, .slice a2 ys.length c2, .int .i64 x2]) rfl (by kernel_rfl) (by kernel_rfl) (by kernel_rfl) (fun _ _ _ h => h) (Or.inl ⟨by rfl, ?_⟩) hH ?_
      ·intro wq hSw
       try dsimp only at hSw
       go_simp
      try simp only [Act.put, zq1, zq2, zq3, zq4, zq5, zq6]
      refine wpAnyH_ready (rs := [25]) (by kernel_rfl) (by simp) ?_
      refine AllReadyH.cons rfl (fun KK hK => ?_) AllReadyH.nil
      simp only [zq1, zq2, zq3]
      rw [if_pos (by rfl)]
      refine wps1 10 (.tmp 78) _ rfl in_negO (.agg #[.bool s1, .slice a1 xs.length c1, .int .i64 x1]) rfl (neg_told f2 f1 _ r1 (T.kept (unhide K)) (unhide HO1) (unhide HN1)) ?_
      rintro e w30 ⟨v4, rfl, r4, k30⟩
      refine ⟨_, rfl, ?_⟩
      replace r1 := r1.kp k30
      replace r2 := r2.kp k30
      replace kw := kw.trans k30
      replace y0 := k30.cell0 y0
      replace y1 := k30.cell0 y1
      replace y2 := k30.cell0 y2
      replace u0 := k30.cell0 u0
      replace u1 := k30.cell0 u1
      replace u2 := k30.cell0 u2
      replace d0 := k30.cell0 d0
      replace d1 := k30.cell0 d1
      replace d2 := k30.cell0 d2
      replace K := hide ((unhide K).trans k30)
      have z31 := k30.size
      clear k30
      clear hH
      refine hK.out _ _ ?_ (fun hH => ?_)
      ·exact ⟨y0, y1, y2, u0, u1, u2⟩
      clear hK KK
      try simp only [Act.put, zq1, zq2, zq3, zq4, zq5, zq6]
      refine wpAnyH_ready (rs := [27]) (by kernel_rfl) (by simp) ?_
      refine AllReadyH.cons rfl (fun KK hK => ?_) AllReadyH.nil
      simp only [zq1, zq2, zq3]
      rw [if_pos (by rfl)]
      refine wps1 10 (.tmp 80) _ rfl in_negO (.agg #[.bool s2, .slice a2 ys.length c2, .int .i64 x2]) rfl (neg_told f4 f3 _ r2 (T.kept (unhide K)) (unhide HO2) (unhide HN2)) ?_
      rintro e w32 ⟨v5, rfl, r5, k32⟩
      refine ⟨_, rfl, ?_⟩
      replace r1 := r1.kp k32
      replace r2 := r2.kp k32
      replace r4 := r4.kp k32
      replace kw := kw.trans k32
      replace y0 := k32.cell0 y0
      replace y1 := k32.cell0 y1
      replace y2 := k32.cell0 y2
      replace u0 := k32.cell0 u0
      replace u1 := k32.cell0 u1
      replace u2 := k32.cell0 u2
      replace d0 := k32.cell0 d0
      replace d1 := k32.cell0 d1
      replace d2 := k32.cell0 d2
      replace K := hide ((unhide K).trans k32)
      have z33 := k32.size
      clear k32
      clear hH
      refine hK.out _ _ ?_ (fun hH => ?_)
      ·exact ⟨y0, y1, y2, u0, u1, u2⟩
      clear hK KK
      try simp only [Act.put, zq1, zq2, zq3, zq4, zq5, zq6]
      refine wpAnyH_ready (rs := [28]) (by kernel_rfl) (by simp) ?_
      refine AllReadyH.cons rfl (fun KK hK => ?_) AllReadyH.nil
      simp only [zq1, zq2, zq3]
      rw [if_pos (by rfl)]
      refine wps2 5 (.tmp 79) (.tmp 81) _ rfl in_cmpO (.agg #[.bool N1, v4, .int .i64 x1]) (.agg #[.bool N2, v5, .int .i64 x2]) rfl rfl (cmp_told N1 N2 x1 x2 f2 f1 f4 f3 _ r4 r5 (unhide H2)) ?_
      rintro e w34 ⟨rfl, k34⟩
      refine ⟨_, rfl, ?_⟩
      replace r1 := r1.kp k34
      replace r2 := r2.kp k34
      replace r4 := r4.kp k34
      replace r5 := r5.kp k34
      replace kw := kw.trans k34
      replace y0 := k34.cell0 y0
      replace y1 := k34.cell0 y1
      replace y2 := k34.cell0 y2
      replace u0 := k34.cell0 u0
      replace u1 := k34.cell0 u1
      replace u2 := k34.cell0 u2
      replace d0 := k34.cell0 d0
      replace d1 := k34.cell0 d1
      replace d2 := k34.cell0 d2
      replace K := hide ((unhide K).trans k34)
      have z35 := k34.size
      clear k34
      clear hH
      refine hK.out _ _ ?_ (fun hH => ?_)
      ·exact ⟨y0, y1, y2, u0, u1, u2⟩
      clear hK KK
      try simp only [Act.put, zq1, zq2, zq3, zq4, zq5, zq6]
      refine wpAnyH_take (i := 29) (v := .int .i64 C) rfl (by kernel_rfl) (by kernel_rfl) (by kernel_rfl) (fun _ _ _ h => h) (Or.inl ⟨by rfl, ?_⟩) hH ?_
      ·intro wq hSw
       try dsimp only at hSw
       go_simp
      try simp only [Act.put, zq1, zq2, zq3, zq4, zq5, zq6]
      refine wpAnyH_take (i := 30) (v := .bool false) rfl (by kernel_rfl) (by kernel_rfl) (by kernel_rfl) (fun _ _ _ h => h) (Or.inl ⟨by rfl, ?_⟩) hH ?_
      ·intro wq hSw
       try dsimp only at hSw
       go_simp
      try simp only [Act.put, zq1, zq2, zq3, zq4, zq5, zq6]
      refine wpAnyH_take (i := 31) (v := .bool false) rfl (by kernel_rfl) (by kernel_rfl) (by kernel_rfl) (fun _ _ _ h => h) (Or.inl ⟨by rfl, ?_⟩) hH ?_
      ·intro wq hSw
       try dsimp only at hSw
       go_simp
      try simp only [Act.put, zq1, zq2, zq3, zq4, zq5, zq6]
      refine wpAnyH_done (by kernel_rfl) ?_ _
      clear hH
      go_wp2_with fail
      go_meet
      exact ⟨rfl, kw⟩
     ·have e0 := unhide HCS rfl
      subst e0
      have kd := (Kept.refl 0 0 wk24).drew
      replace r1 := r1.kp kd
      replace r2 := r2.kp kd
      replace kw := kw.trans kd
      replace y0 := kd.cell0 y0
      replace y1 := kd.cell0 y1
      replace y2 := kd.cell0 y2
      replace u0 := kd.cell0 u0
      replace u1 := kd.cell0 u1
      replace u2 := kd.cell0 u2
      replace d0 := kd.cell0 d0
      replace d1 := kd.cell0 d1
      replace d2 := kd.cell0 d2
      replace K := hide ((unhide K).trans kd)
      have z25 := kd.size
      clear kd
      refine wp_region_held_drew (S := (fun w' => w'.cell? ⟨w1.heap.size, 0, none⟩ = some (.bool s1) ∧ w'.cell? ⟨w1.heap.size, 1, none⟩ = some (.slice a1 xs.length c1) ∧ w'.cell? ⟨w1.heap.size, 2, none⟩ = some (.int .i64 x1) ∧ w'.cell? ⟨w1.heap.size + 1, 0, none⟩ = some (.bool s2) ∧ w'.cell? ⟨w1.heap.size + 1, 1, none⟩ = some (.slice a2 ys.length c2) ∧ w'.cell? ⟨w1.heap.size + 1, 2, none⟩ = some (.int .i64 x2))) (by kernel_rfl) ?_ (fun hH => ?_)
      ·exact ⟨y0, y1, y2, u0, u1, u2⟩
      refine wpAnyH_take (i := 0) (v := .bool true) rfl (by kernel_rfl) (by kernel_rfl) (by kernel_rfl) (fun _ _ _ h => h) (Or.inl ⟨by rfl, ?_⟩) hH ?_
      ·intro wq hSw
       try dsimp only at hSw
       go_simp
      try simp only [Act.put, zq1, zq2, zq3, zq4, zq5, zq6]
      refine wpAnyH_take (i := 1) (v := .bool true) rfl (by kernel_rfl) (by kernel_rfl) (by kernel_rfl) (fun _ _ _ h => h) (Or.inl ⟨by rfl, ?_⟩) hH ?_
      ·intro wq hSw
       try dsimp only at hSw
       go_simp
      try simp only [Act.put, zq1, zq2, zq3, zq4, zq5, zq6]
      refine wpAnyH_take (i := 2) (v := .int .i64 C) rfl (by kernel_rfl) (by kernel_rfl) (by kernel_rfl) (fun _ _ _ h => h) (Or.inl ⟨by rfl, ?_⟩) hH ?_
      ·intro wq hSw
       try dsimp only at hSw
       go_simp
      try simp only [Act.put, zq1, zq2, zq3, zq4, zq5, zq6]
      refine wpAnyH_take (i := 3) (v := .int .i64 C) rfl (by kernel_rfl) (by kernel_rfl) (by kernel_rfl) (fun _ _ _ h => h) (Or.inl ⟨by rfl, ?_⟩) hH ?_
      ·intro wq hSw
       try dsimp only at hSw
       go_simp
      try simp only [Act.put, zq1, zq2, zq3, zq4, zq5, zq6]
      refine wpAnyH_take (i := 4) (v := .bool false) rfl (by kernel_rfl) (by kernel_rfl) (by kernel_rfl) (fun _ _ _ h => h) (Or.inl ⟨by rfl, ?_⟩) hH ?_
      ·intro wq hSw
       try dsimp only at hSw
       go_simp
      try simp only [Act.put, zq1, zq2, zq3, zq4, zq5, zq6]
      refine wpAnyH_take (i := 5) (v := .bool false) rfl (by kernel_rfl) (by kernel_rfl) (by kernel_rfl) (fun _ _ _ h => h) (Or.inl ⟨by rfl, ?_⟩) hH ?_
      ·intro wq hSw
       try dsimp only at hSw
       go_simp
      try simp only [Act.put, zq1, zq2, zq3, zq4, zq5, zq6]
      refine wpAnyH_take (i := 6) (v := .bool false) rfl (by kernel_rfl) (by kernel_rfl) (by kernel_rfl) (fun _ _ _ h => h) (Or.inl ⟨by rfl, ?_⟩) hH ?_
      ·intro wq hSw
       try dsimp only at hSw
       go_simp
      try simp only [Act.put, zq1, zq2, zq3, zq4, zq5, zq6]
      refine wpAnyH_take (i := 7) (v := .int .i64 C) rfl (by kernel_rfl) (by kernel_rfl) (by kernel_rfl) (fun _ _ _ h => h) (Or.inl ⟨by rfl, ?_⟩) hH ?_
      ·intro wq hSw
       try dsimp only at hSw
       go_simp
      try simp only [Act.put, zq1, zq2, zq3, zq4, zq5, zq6]
      refine wpAnyH_take (i := 8) (v := .agg #[.bool s2, .slice a2 ys.length c2, .int .i64 x2]) rfl (by kernel_rfl) (by kernel_rfl) (by kernel_rfl) (fun _ _ _ h => h) (Or.inl ⟨by rfl, ?_⟩) hH ?_
      ·intro wq hSw
       try dsimp only at hSw
       go_simp
      try simp only [Act.put, zq1, zq2, zq3, zq4, zq5, zq6]
      refine wpAnyH_take (i := 9) (v := .agg #[.bool s1, .slice a1 xs.length c1, .int .i64 x1]) rfl (by kernel_rfl) (by kernel_rfl) (by kernel_rfl) (fun _ _ _ h => h) (Or.inl ⟨by rfl, ?_⟩) hH ?_
      ·intro wq hSw
       try dsimp only at hSw
       go_simp
      try simp only [Act.put, zq1, zq2, zq3, zq4, zq5, zq6]
      refine wpAnyH_ready (rs := [10]) (by kernel_rfl) (by simp) ?_
      refine AllReadyH.cons rfl (fun KK hK => ?_) AllReadyH.nil
      simp only [zq1, zq2, zq3]
      rw [if_pos (by rfl)]
      refine wps2 5 (.tmp 62) (.tmp 63) _ rfl in_cmpO (.agg #[.bool s2, .slice a2 ys.length c2, .int .i64 x2]) (.agg #[.bool s1, .slice a1 xs.length c1, .int .i64 x1]) rfl rfl (cmp_told s2 s1 x2 x1 f4 f3 f2 f1 _ r2 r1 (unhide H1)) ?_
      rintro e w26 ⟨rfl, k26⟩
      refine ⟨_, rfl, ?_⟩
      replace r1 := r1.kp k26
      replace r2 := r2.kp k26
      replace kw := kw.trans k26
      replace y0 := k26.cell0 y0
      replace y1 := k26.cell0 y1
      replace y2 := k26.cell0 y2
      replace u0 := k26.cell0 u0
      replace u1 := k26.cell0 u1
      replace u2 := k26.cell0 u2
      replace d0 := k26.cell0 d0
      replace d1 := k26.cell0 d1
      replace d2 := k26.cell0 d2
      replace K := hide ((unhide K).trans k26)
      have z27 := k26.size
      clear k26
      clear hH
      refine hK.out _ _ ?_ (fun hH => ?_)
      ·exact ⟨y0, y1, y2, u0, u1, u2⟩
      clear hK KK
      try simp only [Act.put, zq1, zq2, zq3, zq4, zq5, zq6]
      refine wpAnyH_take (i := 11) (v := .int .i64 C) rfl (by kernel_rfl) (by kernel_rfl) (by kernel_rfl) (fun _ _ _ h => h) (Or.inl ⟨by rfl, ?_⟩) hH ?_
      ·intro wq hSw
       try dsimp only at hSw
       go_simp
      try simp only [Act.put, zq1, zq2, zq3, zq4, zq5, zq6]
      refine wpAnyH_take (i := 12) (v := .bool false) rfl (by kernel_rfl) (by kernel_rfl) (by kernel_rfl) (fun _ _ _ h => h) (Or.inl ⟨by rfl, ?_⟩) hH ?_
      ·intro wq hSw
       try dsimp only at hSw
       go_simp
      try simp only [Act.put, zq1, zq2, zq3, zq4, zq5, zq6]
      refine wpAnyH_take (i := 13) (v := .bool false) rfl (by kernel_rfl) (by kernel_rfl) (by kernel_rfl) (fun _ _ _ h => h) (Or.inl ⟨by rfl, ?_⟩) hH ?_
      ·intro wq hSw
       try dsimp only at hSw
       go_simp
      try simp only [Act.put, zq1, zq2, zq3, zq4, zq5, zq6]
      refine wpAnyH_take (i := 14) (v := .bool false) rfl (by kernel_rfl) (by kernel_rfl) (by kernel_rfl) (fun _ _ _ h => h) (Or.inl ⟨by rfl, ?_⟩) hH ?_
      ·intro wq hSw
       try dsimp only at hSw
       go_simp
      try simp only [Act.put, zq1, zq2, zq3, zq4, zq5, zq6]
      refine wpAnyH_take (i := 15) (v := .int .i64 C) rfl (by kernel_rfl) (by kernel_rfl) (by kernel_rfl) (fun _ _ _ h => h) (Or.inl ⟨by rfl, ?_⟩) hH ?_
      ·intro wq hSw
       try dsimp only at hSw
       go_simp
      try simp only [Act.put, zq1, zq2, zq3, zq4, zq5, zq6]
      refine wpAnyH_take (i := 16) (v := .bool BZ) rfl (by kernel_rfl) (by kernel_rfl) (by kernel_rfl) (fun _ _ _ h => h) (Or.inl ⟨by rfl, ?_⟩) hH ?_
      ·intro wq hSw
       try dsimp only at hSw
       go_simp
      try simp only [Act.put, zq1, zq2, zq3, zq4, zq5, zq6]
      refine wpAnyH_take (i := 17) (v := .agg #[.bool s1, .slice a1 xs.length c1, .int .i64 x1]) rfl (by kernel_rfl) (by kernel_rfl) (by kernel_rfl) (fun _ _ _ h => h) (Or.inl ⟨by rfl, ?_⟩) hH ?_
      ·intro wq hSw
       try dsimp only at hSw
       go_simp
      try simp only [Act.put, zq1, zq2, zq3, zq4, zq5, zq6]
      refine wpAnyH_take (i := 18) (v := .agg #[.bool s2, .slice a2 ys.length c2, .int .i64 x2]) rfl (by kernel_rfl) (by kernel_rfl) (by kernel_rfl) (fun _ _ _ h => h) (Or.inl ⟨by rfl, ?_⟩) hH ?_
      ·intro wq hSw
       try dsimp only at hSw
       go_simp
      try simp only [Act.put, zq1, zq2, zq3, zq4, zq5, zq6]
      refine wpAnyH_ready (rs := [19]) (by kernel_rfl) (by simp) ?_
      refine AllReadyH.cons rfl (fun KK hK => ?_) AllReadyH.nil
      simp only [zq1, zq2, zq3]
      rw [if_pos (by rfl)]
      refine wps2 9 (.tmp 71) (.tmp 72) _ rfl in_sameO (.agg #[.bool s1, .slice a1 xs.length c1, .int .i64 x1]) (.agg #[.bool s2, .slice a2 ys.length c2, .int .i64 x2]) rfl rfl (same_told s1 s2 x1 x2 _ r1 r2 (unhide H3)) ?_
      rintro e w28 ⟨rfl, k28⟩
      refine ⟨_, rfl, ?_⟩
      replace r1 := r1.kp k28
      replace r2 := r2.kp k28
      replace kw := kw.trans k28
      replace y0 := k28.cell0 y0
      replace y1 := k28.cell0 y1
      replace y2 := k28.cell0 y2
      replace u0 := k28.cell0 u0
      replace u1 := k28.cell0 u1
      replace u2 := k28.cell0 u2
      replace d0 := k28.cell0 d0
      replace d1 := k28.cell0 d1
      replace d2 := k28.cell0 d2
      replace K := hide ((unhide K).trans k28)
      have z29 := k28.size
      clear k28
      clear hH
      refine hK.out _ _ ?_ (fun hH => ?_)
      ·exact ⟨y0, y1, y2, u0, u1, u2⟩
      clear hK KK
      try simp only [Act.put, zq1, zq2, zq3, zq4, zq5, zq6]
      refine wpAnyH_take (i := 20) (v := .bool false) rfl (by kernel_rfl) (by kernel_rfl) (by kernel_rfl) (fun _ _ _ h => h) (Or.inl ⟨by rfl, ?_⟩) hH ?_
      ·intro wq hSw
       try dsimp only at hSw
       go_simp
      try simp only [Act.put, zq1, zq2, zq3, zq4, zq5, zq6]
      refine wpAnyH_take (i := 21) (v := .bool false) rfl (by kernel_rfl) (by kernel_rfl) (by kernel_rfl) (fun _ _ _ h => h) (Or.inl ⟨by rfl, ?_⟩) hH ?_
      ·intro wq hSw
       try dsimp only at hSw
       go_simp
      try simp only [Act.put, zq1, zq2, zq3, zq4, zq5, zq6]
      refine wpAnyH_take (i := 22) (v := .bool false) rfl (by kernel_rfl) (by kernel_rfl) (by kernel_rfl) (fun _ _ _ h => h) (Or.inl ⟨by rfl, ?_⟩) hH ?_
      ·intro wq hSw
       try dsimp only at hSw
       go_simp
      try simp only [Act.put, zq1, zq2, zq3, zq4, zq5, zq6]
      refine wpAnyH_take (i := 23) (v := .int .i64 C) rfl (by kernel_rfl) (by kernel_rfl) (by kernel_rfl) (fun _ _ _ h => h) (Or.inl ⟨by rfl, ?_⟩) hH ?_
      ·intro wq hSw
       try dsimp only at hSw
       go_simp
      try simp only [Act.put, zq1, zq2, zq3, zq4, zq5, zq6]
      refine wpAnyH_take (i := 24) (v := .agg #[.bool s1, .slice a1 xs.length c1, .int .i64 x1]) rfl (by kernel_rfl) (by kernel_rfl) (by kernel_rfl) (fun _ _ _ h => h) (Or.inl ⟨by rfl, ?_⟩) hH ?_
      ·intro wq hSw
       try dsimp only at hSw
       go_simp
      try simp only [Act.put, zq1, zq2, zq3, zq4, zq5, zq6]
      refine wpAnyH_take (i := 26) (v := .agg #[.bool s2, .slice a2 ys.length c2, .int .i64 x2]) rfl (by kernel_rfl) (by kernel_rfl) (by kernel_rfl) (fun _ _ _ h => h) (Or.inl ⟨by rfl, ?_⟩) hH ?_
      ·intro wq hSw
       try dsimp only at hSw
       go_simp
      try simp only [Act.put, zq1, zq2, zq3, zq4, zq5, zq6]
      refine wpAnyH_ready (rs := [25]) (by kernel_rfl) (by simp) ?_
      refine AllReadyH.cons rfl (fun KK hK => ?_) AllReadyH.nil
      simp only [zq1, zq2, zq3]
      rw [if_pos (by rfl)]
      refine wps1 10 (.tmp 78) _ rfl in_negO (.agg #[.bool s1, .slice a1 xs.length c1, .int .i64 x1]) rfl (neg_told f2 f1 _ r1 (T.kept (unhide K)) (unhide HO1) (unhide HN1)) ?_
      rintro e w30 ⟨v4, rfl, r4, k30⟩
      refine ⟨_, rfl, ?_⟩
      replace r1 := r1.kp k30
      replace r2 := r2.kp k30
      replace kw := kw.trans k30
      replace y0 := k30.cell0 y0
      replace y1 := k30.cell0 y1
      replace y2 := k30.cell0 y2
      replace u0 := k30.cell0 u0
      replace u1 := k30.cell0 u1
      replace u2 := k30.cell0 u2
      replace d0 := k30.cell0 d0
      replace d1 := k30.cell0 d1
      replace d2 := k30.cell0 d2
      replace K := hide ((unhide K).trans k30)
      have z31 := k30.size
      clear k30
      clear hH
      refine hK.out _ _ ?_ (fun hH => ?_)
      ·exact ⟨y0, y1, y2, u0, u1, u2⟩
      clear hK KK
      try simp only [Act.put, zq1, zq2, zq3, zq4, zq5, zq6]
      refine wpAnyH_ready (rs := [27]) (by kernel_rfl) (by simp) ?_
      refine AllReadyH.cons rfl (fun KK hK => ?_) AllReadyH.nil
      simp only [zq1, zq2, zq3]
      rw [if_pos (by rfl)]
      refine wps1 10 (.tmp 80) _ rfl in_negO (.agg #[.bool s2, .slice a2 ys.length c2, .int .i64 x2]) rfl (neg_told f4 f3 _ r2 (T.kept (unhide K)) (unhide HO2) (unhide HN2)) ?_
      rintro e w32 ⟨v5, rfl, r5, k32⟩
      refine ⟨_, rfl, ?_⟩
      replace r1 := r1.kp k32
      replace r2 := r2.kp k32
      replace r4 := r4.kp k32
      replace kw := kw.trans k32
      replace y0 := k32.cell0 y0
      replace y1 := k32.cell0 y1
      replace y2 := k32.cell0 y2
      replace u0 := k32.cell0 u0
      replace u1 := k32.cell0 u1
      replace u2 := k32.cell0 u2
      replace d0 := k32.cell0 d0
      replace d1 := k32.cell0 d1
      replace d2 := k32.cell0 d2
      replace K := hide ((unhide K).trans k32)
      have z33 := k32.size
      clear k32
      clear hH
      refine hK.out _ _ ?_ (fun hH => ?_)
      ·exact ⟨y0, y1, y2, u0, u1, u2⟩
      clear hK KK
      try simp only [Act.put, zq1, zq2, zq3, zq4, zq5, zq6]
      refine wpAnyH_ready (rs := [28]) (by kernel_rfl) (by simp) ?_
      refine AllReadyH.cons rfl (fun KK hK => ?_) AllReadyH.nil
      simp only [zq1, zq2, zq3]
      rw [if_pos (by rfl)]
      refine wps2 5 (.tmp 79) (.tmp 81) _ rfl in_cmpO (.agg #[.bool N1, v4, .int .i64 x1]) (.agg #[.bool N2, v5, .int .i64 x2]) rfl rfl (cmp_told N1 N2 x1 x2 f2 f1 f4 f3 _ r4 r5 (unhide H2)) ?_
      rintro e w34 ⟨rfl, k34⟩
      refine ⟨_, rfl, ?_⟩
      replace r1 := r1.kp k34
      replace r2 := r2.kp k34
      replace r4 := r4.kp k34
      replace r5 := r5.kp k34
      replace kw := kw.trans k34
      replace y0 := k34.cell0 y0
      replace y1 := k34.cell0 y1
      replace y2 := k34.cell0 y2
      replace u0 := k34.cell0 u0
      replace u1 := k34.cell0 u1
      replace u2 := k34.cell0 u2
      replace d0 := k34.cell0 d0
      replace d1 := k34.cell0 d1
      replace d2 := k34.cell0 d2
      replace K := hide ((unhide K).trans k34)
      have z35 := k34.size
      clear k34
      clear hH
      refine hK.out _ _ ?_ (fun hH => ?_)
      ·exact ⟨y0, y1, y2, u0, u1, u2⟩
      clear hK KK
      try simp only [Act.put, zq1, zq2, zq3, zq4, zq5, zq6]
      refine wpAnyH_take (i := 29) (v := .int .i64 C) rfl (by kernel_rfl) (by kernel_rfl) (by kernel_rfl) (fun _ _ _ h => h) (Or.inl ⟨by rfl, ?_⟩) hH ?_
      ·intro wq hSw
       try dsimp only at hSw
       go_simp
      try simp only [Act.put, zq1, zq2, zq3, zq4, zq5, zq6]
      refine wpAnyH_take (i := 30) (v := .bool false) rfl (by kernel_rfl) (by kernel_rfl) (by kernel_rfl) (fun _ _ _ h => h) (Or.inl ⟨by rfl, ?_⟩) hH ?_
      ·intro wq hSw
       try dsimp only at hSw
       go_simp
      try simp only [Act.put, zq1, zq2, zq3, zq4, zq5, zq6]
      refine wpAnyH_take (i := 31) (v := .bool false) rfl (by kernel_rfl) (by kernel_rfl) (by kernel_rfl) (fun _ _ _ h => h) (Or.inl ⟨by rfl, ?_⟩) hH ?_
      ·intro wq hSw
       try dsimp only at hSw
       go_simp
      try simp only [Act.put, zq1, zq2, zq3, zq4, zq5, zq6]
      refine wpAnyH_done (by kernel_rfl) ?_ _
      clear hH
      go_wp2_with fail
      go_meet
      exact ⟨rfl, kw⟩
    case rest =>
     obtain ⟨rfl, kk⟩ := hcut
     replace r1 := r1.kp kk
     replace r2 := r2.kp kk
     replace y0 := kk.cell0 y0
     replace y1 := kk.cell0 y1
     replace y2 := kk.cell0 y2
     replace u0 := kk.cell0 u0
     replace u1 := kk.cell0 u1
     replace u2 := kk.cell0 u2
     replace d0 := kk.cell0 d0
     replace d1 := kk.cell0 d1
     replace d2 := kk.cell0 d2
     replace K := hide ((unhide K).trans kk)
     have z25 := kk.size
     clear kk
     generalize wc = wk26 at *
     (try clear z1); (try clear z2); (try clear z3); (try clear z4); (try clear z5); (try clear z6); (try clear z7); (try clear z8); (try clear z9); (try clear z10); (try clear z11); (try clear z12); (try clear z13); (try clear z14); (try clear z15); (try clear z16); (try clear z17); (try clear z18); (try clear z19); (try clear z20); (try clear z21); (try clear z22); (try clear z23); (try clear z24); (try clear z25); (try clear z26)
     (try clear sz1); (try clear sz2); (try clear sz3); (try clear sz4); (try clear sz5); (try clear sz6); (try clear sz7); (try clear sz8); (try clear sz9); (try clear sz10); (try clear sz11); (try clear sz12); (try clear sz13); (try clear sz14); (try clear sz15); (try clear sz16); (try clear sz17); (try clear sz18); (try clear sz19); (try clear sz20); (try clear sz21); (try clear sz22); (try clear sz23); (try clear sz24); (try clear sz25); (try clear sz26)
     (try clear SGN); (try clear HCS); (try clear HS1); (try clear HSG); (try clear H1); (try clear H2); (try clear H3); (try clear HN1); (try clear HN2); (try clear d0); (try clear d1); (try clear d2); (try clear cr1); (try clear cr2); (try clear hwN); (try clear hNC); (try clear HBZ); (try clear hBZ); (try clear HSS); (try clear sg); (try clear hB)
     go_wp2_with fail
     obtain ⟨E1, hE1⟩ : ∃ e, shE xs x1 5 = e := ⟨_, rfl⟩
     obtain ⟨E2, hE2⟩ : ∃ e, shE ys x2 5 = e := ⟨_, rfl⟩
     have mk := dshift_impl s1 x1 f2 f1 5 wk26 r1 (T.kept (unhide K))
     rw [unhide HO1, show (true && l4eB 5) = true from rfl] at mk
     have tx : ansDB true (wval s1 xs) (x1 + 5) = true → s1 = ansDS true (wval s1 xs) (x1 + 5) ∧ xs = ansDL true (wval s1 xs) (x1 + 5) ∧ E1 = ansDE true (wval s1 xs) (x1 + 5) ∧ dokB s1 xs E1 = true := fun hb => by
      obtain ⟨c1, c2, c3, c4⟩ := shift_told (unhide HO1) hb
      rw [hE1] at c3 c4
      exact ⟨c1.symm, c2.symm, c3.symm, c4⟩
     have rx := ansDE_range true (wval s1 xs) (x1 + 5)
     generalize ansDS true (wval s1 xs) (x1 + 5) = XS at mk tx
     generalize ansDL true (wval s1 xs) (x1 + 5) = XL at mk tx
     generalize ansDE true (wval s1 xs) (x1 + 5) = XE at mk tx rx
     generalize ansDB true (wval s1 xs) (x1 + 5) = XB at mk tx
     have TX := hide tx
     have RX := hide rx
     clear tx rx
     refine (mk).mono ?_
     rintro e w27 ⟨vX, rfl, rX, k27⟩
     replace r1 := r1.kp k27
     replace r2 := r2.kp k27
     replace y0 := k27.cell0 y0
     replace y1 := k27.cell0 y1
     replace y2 := k27.cell0 y2
     replace u0 := k27.cell0 u0
     replace u1 := k27.cell0 u1
     replace u2 := k27.cell0 u2
     replace K := hide ((unhide K).trans k27)
     have z28 := k27.size
     clear k27
     clear mk
     obtain ⟨aX, cX, hv⟩ := Row.form' rX
     subst hv
     have kn := (Kept.refl 0 0 w27).alloc (.cells #[.bool XS, .slice aX XL.length cX, .int .i64 XE] 29)
     have g0 : (w27.alloc (.cells #[.bool XS, .slice aX XL.length cX, .int .i64 XE] 29)).cell? ⟨w27.heap.size, 0, none⟩ = some (.bool XS) := new_cell2 _ _ _ _ _ _ (by simp) rfl
     have g1 : (w27.alloc (.cells #[.bool XS, .slice aX XL.length cX, .int .i64 XE] 29)).cell? ⟨w27.heap.size, 1, none⟩ = some (.slice aX XL.length cX) := new_cell2 _ _ _ _ _ _ (by simp) rfl
     have g2 : (w27.alloc (.cells #[.bool XS, .slice aX XL.length cX, .int .i64 XE] 29)).cell? ⟨w27.heap.size, 2, none⟩ = some (.int .i64 XE) := new_cell2 _ _ _ _ _ _ (by simp) rfl
     have sz30 : w27.heap.size + 1 ≤ (w27.alloc (.cells #[.bool XS, .slice aX XL.length cX, .int .i64 XE] 29)).heap.size := by simp
     replace r1 := r1.kp kn
     replace r2 := r2.kp kn
     replace rX := rX.kp kn
     replace y0 := kn.cell0 y0
     replace y1 := kn.cell0 y1
     replace y2 := kn.cell0 y2
     replace u0 := kn.cell0 u0
     replace u1 := kn.cell0 u1
     replace u2 := kn.cell0 u2
     replace K := hide ((unhide K).trans kn)
     have z31 := kn.size
     clear kn
     go_wp2_with fail
     generalize (w27.alloc (.cells #[.bool XS, .slice aX XL.length cX, .int .i64 XE] 29)) = wn32 at *
     have mk := dshift_impl s2 x2 f4 f3 5 wn32 r2 (T.kept (unhide K))
     rw [unhide HO2, show (true && l4eB 5) = true from rfl] at mk
     have tx : ansDB true (wval s2 ys) (x2 + 5) = true → s2 = ansDS true (wval s2 ys) (x2 + 5) ∧ ys = ansDL true (wval s2 ys) (x2 + 5) ∧ E2 = ansDE true (wval s2 ys) (x2 + 5) ∧ dokB s2 ys E2 = true := fun hb => by
      obtain ⟨c1, c2, c3, c4⟩ := shift_told (unhide HO2) hb
      rw [hE2] at c3 c4
      exact ⟨c1.symm, c2.symm, c3.symm, c4⟩
     have rx := ansDE_range true (wval s2 ys) (x2 + 5)
     generalize ansDS true (wval s2 ys) (x2 + 5) = YS at mk tx
     generalize ansDL true (wval s2 ys) (x2 + 5) = YL at mk tx
     generalize ansDE true (wval s2 ys) (x2 + 5) = YE at mk tx rx
     generalize ansDB true (wval s2 ys) (x2 + 5) = YB at mk tx
     have TY := hide tx
     have RY := hide rx
     clear tx rx
     refine (mk).mono ?_
     rintro e w33 ⟨vY, rfl, rY, k33⟩
     replace r1 := r1.kp k33
     replace r2 := r2.kp k33
     replace rX := rX.kp k33
     replace y0 := k33.cell0 y0
     replace y1 := k33.cell0 y1
     replace y2 := k33.cell0 y2
     replace u0 := k33.cell0 u0
     replace u1 := k33.cell0 u1
     replace u2 := k33.cell0 u2
     replace g0 := k33.cell0 g0
     replace g1 := k33.cell0 g1
     replace g2 := k33.cell0 g2
     replace K := hide ((unhide K).trans k33)
     have z34 := k33.size
     clear k33
     clear mk
     obtain ⟨aY, cY, hv⟩ := Row.form' rY
     subst hv
     have kn := (Kept.refl 0 0 w33).alloc (.cells #[.bool YS, .slice aY YL.length cY, .int .i64 YE] 29)
     have h0 : (w33.alloc (.cells #[.bool YS, .slice aY YL.length cY, .int .i64 YE] 29)).cell? ⟨w33.heap.size, 0, none⟩ = some (.bool YS) := new_cell2 _ _ _ _ _ _ (by simp) rfl
     have h1 : (w33.alloc (.cells #[.bool YS, .slice aY YL.length cY, .int .i64 YE] 29)).cell? ⟨w33.heap.size, 1, none⟩ = some (.slice aY YL.length cY) := new_cell2 _ _ _ _ _ _ (by simp) rfl
     have h2 : (w33.alloc (.cells #[.bool YS, .slice aY YL.length cY, .int .i64 YE] 29)).cell? ⟨w33.heap.size, 2, none⟩ = some (.int .i64 YE) := new_cell2 _ _ _ _ _ _ (by simp) rfl
     have sz36 : w33.heap.size + 1 ≤ (w33.alloc (.cells #[.bool YS, .slice aY YL.length cY, .int .i64 YE] 29)).heap.size := by simp
     replace r1 := r1.kp kn
     replace r2 := r2.kp kn
     replace rX := rX.kp kn
     replace rY := rY.kp kn
     replace y0 := kn.cell0 y0
     replace y1 := kn.cell0 y1
     replace y2 := kn.cell0 y2
     replace u0 := kn.cell0 u0
     replace u1 := kn.cell0 u1
     replace u2 := kn.cell0 u2
     replace g0 := kn.cell0 g0
     replace g1 := kn.cell0 g1
     replace g2 := kn.cell0 g2
     replace K := hide ((unhide K).trans kn)
     have z37 := kn.size
     clear kn
     go_upto_region 15 with fail
     generalize (w33.alloc (.cells #[.bool YS, .slice aY YL.length cY, .int .i64 YE] 29)) = wn38 at *
     have HE1 := hide hE1
     have HE2 := hide hE2
     clear hE1 hE2
     go_cut [106] (fun q wx => q = .bool false ∧ Kept 0 0 wn38 wx)
     case first =>
      have kw := Kept.refl 0 0 wn38
      cases XB
      ·go_wp2_with fail
       go_meet
       exact ⟨rfl, kw⟩
      cases YB
      ·go_wp2_with fail
       go_meet
       exact ⟨rfl, kw⟩
      obtain ⟨e1, e2, e3, e4⟩ := unhide TX rfl
      subst e1 e2 e3
      obtain ⟨e5, e6, e7, e8⟩ := unhide TY rfl
      subst e5 e6 e7
      have hcs := cmp_shift (k := 5) (unhide HO1) (unhide HO2)
      rw [unhide HE1, unhide HE2, unhide HC] at hcs
      have HCC := hide (hcs e4 e8)
      obtain ⟨-, bb1, bb2, -, -⟩ := dok_parts e4
      obtain ⟨-, bb3, bb4, -, -⟩ := dok_parts e8
      clear hcs e4 e8
      go_wp2_with fail
      refine (cmp_told s1 s2 E1 E2 (Int.le_trans bb2 (by decide)) (Int.le_trans (by decide) bb1) (Int.le_trans bb4 (by decide)) (Int.le_trans (by decide) bb3) _ rX rY (unhide HCC)).mono ?_
      rintro e w39 ⟨rfl, k39⟩
      replace r1 := r1.kp k39
      replace r2 := r2.kp k39
      replace rX := rX.kp k39
      replace rY := rY.kp k39
      replace kw := kw.trans k39
      replace y0 := k39.cell0 y0
      replace y1 := k39.cell0 y1
      replace y2 := k39.cell0 y2
      replace u0 := k39.cell0 u0
      replace u1 := k39.cell0 u1
      replace u2 := k39.cell0 u2
      replace g0 := k39.cell0 g0
      replace g1 := k39.cell0 g1
      replace g2 := k39.cell0 g2
      replace h0 := k39.cell0 h0
      replace h1 := k39.cell0 h1
      replace h2 := k39.cell0 h2
      replace K := hide ((unhide K).trans k39)
      have z40 := k39.size
      clear k39
      go_wp2_with fail
      go_meet
      exact ⟨rfl, kw⟩
     case rest =>
      obtain ⟨rfl, kk⟩ := hcut
      replace r1 := r1.kp kk
      replace r2 := r2.kp kk
      replace rX := rX.kp kk
      replace rY := rY.kp kk
      replace y0 := kk.cell0 y0
      replace y1 := kk.cell0 y1
      replace y2 := kk.cell0 y2
      replace u0 := kk.cell0 u0
      replace u1 := kk.cell0 u1
      replace u2 := kk.cell0 u2
      replace g0 := kk.cell0 g0
      replace g1 := kk.cell0 g1
      replace g2 := kk.cell0 g2
      replace h0 := kk.cell0 h0
      replace h1 := kk.cell0 h1
      replace h2 := kk.cell0 h2
      replace K := hide ((unhide K).trans kk)
      have z39 := kk.size
      clear kk
      generalize wc = wk40 at *
      (try clear z1); (try clear z2); (try clear z3); (try clear z4); (try clear z5); (try clear z6); (try clear z7); (try clear z8); (try clear z9); (try clear z10); (try clear z11); (try clear z12); (try clear z13); (try clear z14); (try clear z15); (try clear z16); (try clear z17); (try clear z18); (try clear z19); (try clear z20); (try clear z21); (try clear z22); (try clear z23); (try clear z24); (try clear z25); (try clear z26); (try clear z27); (try clear z28); (try clear z29); (try clear z30); (try clear z31); (try clear z32); (try clear z33); (try clear z34); (try clear z35); (try clear z36); (try clear z37); (try clear z38); (try clear z39); (try clear z40)
      (try clear sz1); (try clear sz2); (try clear sz3); (try clear sz4); (try clear sz5); (try clear sz6); (try clear sz7); (try clear sz8); (try clear sz9); (try clear sz10); (try clear sz11); (try clear sz12); (try clear sz13); (try clear sz14); (try clear sz15); (try clear sz16); (try clear sz17); (try clear sz18); (try clear sz19); (try clear sz20); (try clear sz21); (try clear sz22); (try clear sz23); (try clear sz24); (try clear sz25); (try clear sz26); (try clear sz27); (try clear sz28); (try clear sz29); (try clear sz30); (try clear sz31); (try clear sz32); (try clear sz33); (try clear sz34); (try clear sz35); (try clear sz36); (try clear sz37); (try clear sz38); (try clear sz39); (try clear sz40)
      clear rY
      go_wp2_with fail
      obtain ⟨bb1, bb2⟩ := unhide RX
      have mk := dshift_impl XS XE (Int.le_trans bb2 (by decide)) (Int.le_trans (by decide) bb1) (-5) wk40 rX (T.kept (unhide K))
      have tz : XB = true → true = ansDB (dokB XS XL XE && l4eB (-5)) (wval XS XL) (XE + -5) ∧ s1 = ansDS (dokB XS XL XE && l4eB (-5)) (wval XS XL) (XE + -5) ∧ xs = ansDL (dokB XS XL XE && l4eB (-5)) (wval XS XL) (XE + -5) ∧ x1 = ansDE (dokB XS XL XE && l4eB (-5)) (wval XS XL) (XE + -5) := fun hb => by
       obtain ⟨e1, e2, e3, e4⟩ := unhide TX hb
       rw [← e1, ← e2, ← e3, e4, show (true && l4eB (-5)) = true from rfl, ← unhide HE1]
       obtain ⟨d0, d1, d2, d3⟩ := shift_back 5 (unhide HO1)
       exact ⟨d0.symm, d1.symm, d2.symm, d3.symm⟩
      generalize ansDS (dokB XS XL XE && l4eB (-5)) (wval XS XL) (XE + -5) = ZS at mk tz
      generalize ansDL (dokB XS XL XE && l4eB (-5)) (wval XS XL) (XE + -5) = ZL at mk tz
      generalize ansDE (dokB XS XL XE && l4eB (-5)) (wval XS XL) (XE + -5) = ZE at mk tz
      generalize ansDB (dokB XS XL XE && l4eB (-5)) (wval XS XL) (XE + -5) = ZB at mk tz
      have TZ := hide tz
      clear tz
      refine (mk).mono ?_
      rintro e w41 ⟨vZ, rfl, rZ, k41⟩
      replace r1 := r1.kp k41
      replace r2 := r2.kp k41
      replace rX := rX.kp k41
      replace y0 := k41.cell0 y0
      replace y1 := k41.cell0 y1
      replace y2 := k41.cell0 y2
      replace u0 := k41.cell0 u0
      replace u1 := k41.cell0 u1
      replace u2 := k41.cell0 u2
      replace g0 := k41.cell0 g0
      replace g1 := k41.cell0 g1
      replace g2 := k41.cell0 g2
      replace h0 := k41.cell0 h0
      replace h1 := k41.cell0 h1
      replace h2 := k41.cell0 h2
      replace K := hide ((unhide K).trans k41)
      have z42 := k41.size
      clear k41
      clear mk
      obtain ⟨aZ, cZ, hv⟩ := Row.form' rZ
      subst hv
      have kn := (Kept.refl 0 0 w41).alloc (.cells #[.bool ZS, .slice aZ ZL.length cZ, .int .i64 ZE] 29)
      have j0 : (w41.alloc (.cells #[.bool ZS, .slice aZ ZL.length cZ, .int .i64 ZE] 29)).cell? ⟨w41.heap.size, 0, none⟩ = some (.bool ZS) := new_cell2 _ _ _ _ _ _ (by simp) rfl
      have j1 : (w41.alloc (.cells #[.bool ZS, .slice aZ ZL.length cZ, .int .i64 ZE] 29)).cell? ⟨w41.heap.size, 1, none⟩ = some (.slice aZ ZL.length cZ) := new_cell2 _ _ _ _ _ _ (by simp) rfl
      have j2 : (w41.alloc (.cells #[.bool ZS, .slice aZ ZL.length cZ, .int .i64 ZE] 29)).cell? ⟨w41.heap.size, 2, none⟩ = some (.int .i64 ZE) := new_cell2 _ _ _ _ _ _ (by simp) rfl
      have sz44 : w41.heap.size + 1 ≤ (w41.alloc (.cells #[.bool ZS, .slice aZ ZL.length cZ, .int .i64 ZE] 29)).heap.size := by simp
      replace r1 := r1.kp kn
      replace r2 := r2.kp kn
      replace rX := rX.kp kn
      replace rZ := rZ.kp kn
      replace y0 := kn.cell0 y0
      replace y1 := kn.cell0 y1
      replace y2 := kn.cell0 y2
      replace u0 := kn.cell0 u0
      replace u1 := kn.cell0 u1
      replace u2 := kn.cell0 u2
      replace g0 := kn.cell0 g0
      replace g1 := kn.cell0 g1
      replace g2 := kn.cell0 g2
      replace h0 := kn.cell0 h0
      replace h1 := kn.cell0 h1
      replace h2 := kn.cell0 h2
      replace K := hide ((unhide K).trans kn)
      have z45 := kn.size
      clear kn
      go_upto_region 18 with fail
      generalize (w41.alloc (.cells #[.bool ZS, .slice aZ ZL.length cZ, .int .i64 ZE] 29)) = wn46 at *
      cases XB
      ·have kd := (Kept.refl 0 0 wn46).drew
       replace r1 := r1.kp kd
       replace r2 := r2.kp kd
       replace rX := rX.kp kd
       replace rZ := rZ.kp kd
       replace y0 := kd.cell0 y0
       replace y1 := kd.cell0 y1
       replace y2 := kd.cell0 y2
       replace u0 := kd.cell0 u0
       replace u1 := kd.cell0 u1
       replace u2 := kd.cell0 u2
       replace g0 := kd.cell0 g0
       replace g1 := kd.cell0 g1
       replace g2 := kd.cell0 g2
       replace h0 := kd.cell0 h0
       replace h1 := kd.cell0 h1
       replace h2 := kd.cell0 h2
       replace j0 := kd.cell0 j0
       replace j1 := kd.cell0 j1
       replace j2 := kd.cell0 j2
       replace K := hide ((unhide K).trans kd)
       have z47 := kd.size
       clear kd
       refine wp_region_held_drew (S := (fun w' => w'.cell? ⟨w1.heap.size, 0, none⟩ = some (.bool s1) ∧ w'.cell? ⟨w1.heap.size, 1, none⟩ = some (.slice a1 xs.length c1) ∧ w'.cell? ⟨w1.heap.size, 2, none⟩ = some (.int .i64 x1) ∧ w'.cell? ⟨w27.heap.size, 0, none⟩ = some (.bool XS) ∧ w'.cell? ⟨w27.heap.size, 1, none⟩ = some (.slice aX XL.length cX) ∧ w'.cell? ⟨w27.heap.size, 2, none⟩ = some (.int .i64 XE) ∧ w'.cell? ⟨w41.heap.size, 0, none⟩ = some (.bool ZS) ∧ w'.cell? ⟨w41.heap.size, 1, none⟩ = some (.slice aZ ZL.length cZ) ∧ w'.cell? ⟨w41.heap.size, 2, none⟩ = some (.int .i64 ZE))) (by kernel_rfl) ?_ (fun hH => ?_)
       ·exact ⟨y0, y1, y2, g0, g1, g2, j0, j1, j2⟩
       refine wpAnyH_take (i := 0) (v := .bool false) rfl (by kernel_rfl) (by kernel_rfl) (by kernel_rfl) (fun _ _ _ h => h) (Or.inl ⟨by rfl, ?_⟩) hH ?_
       ·intro wq hSw
        try dsimp only at hSw
        go_simp
       try simp only [Act.put, zq1, zq2, zq3, zq4, zq5, zq6]
       refine wpAnyH_take (i := 1) (v := .bool true) rfl (by kernel_rfl) (by kernel_rfl) (by kernel_rfl) (fun _ _ _ h => h) (Or.inl ⟨by rfl, ?_⟩) hH ?_
       ·intro wq hSw
        try dsimp only at hSw
        go_simp
       try simp only [Act.put, zq1, zq2, zq3, zq4, zq5, zq6]
       refine wpAnyH_take (i := 2) (v := .bool true) rfl (by kernel_rfl) (by kernel_rfl) (by kernel_rfl) (fun _ _ _ h => h) (Or.inl ⟨by rfl, ?_⟩) hH ?_
       ·intro wq hSw
        try dsimp only at hSw
        go_simp
       try simp only [Act.put, zq1, zq2, zq3, zq4, zq5, zq6]
       refine wpAnyH_take (i := 3) (v := undef) rfl (by kernel_rfl) (by kernel_rfl) (by kernel_rfl) (fun _ _ _ h => h) (Or.inr ⟨by rfl, rfl⟩) hH ?_
       try simp only [Act.put, zq1, zq2, zq3, zq4, zq5, zq6]
       refine wpAnyH_take (i := 4) (v := undef) rfl (by kernel_rfl) (by kernel_rfl) (by kernel_rfl) (fun _ _ _ h => h) (Or.inr ⟨by rfl, rfl⟩) hH ?_
       try simp only [Act.put, zq1, zq2, zq3, zq4, zq5, zq6]
       refine wpAnyH_take (i := 5) (v := undef) rfl (by kernel_rfl) (by kernel_rfl) (by kernel_rfl) (fun _ _ _ h => h) (Or.inr ⟨by rfl, rfl⟩) hH ?_
       try simp only [Act.put, zq1, zq2, zq3, zq4, zq5, zq6]
       refine wpAnyH_take (i := 6) (v := undef) rfl (by kernel_rfl) (by kernel_rfl) (by kernel_rfl) (fun _ _ _ h => h) (Or.inr ⟨by rfl, rfl⟩) hH ?_
       try simp only [Act.put, zq1, zq2, zq3, zq4, zq5, zq6]
       refine wpAnyH_take (i := 7) (v := undef) rfl (by kernel_rfl) (by kernel_rfl) (by kernel_rfl) (fun _ _ _ h => h) (Or.inr ⟨by rfl, rfl⟩) hH ?_
       try simp only [Act.put, zq1, zq2, zq3, zq4, zq5, zq6]
       refine wpAnyH_take (i := 8) (v := undef) rfl (by kernel_rfl) (by kernel_rfl) (by kernel_rfl) (fun _ _ _ h => h) (Or.inr ⟨by rfl, rfl⟩) hH ?_
       try simp only [Act.put, zq1, zq2, zq3, zq4, zq5, zq6]
       refine wpAnyH_take (i := 9) (v := undef) rfl (by kernel_rfl) (by kernel_rfl) (by kernel_rfl) (fun _ _ _ h => h) (Or.inr ⟨by rfl, rfl⟩) hH ?_
       try simp only [Act.put, zq1, zq2, zq3, zq4, zq5, zq6]
       refine wpAnyH_take (i := 10) (v := undef) rfl (by kernel_rfl) (by kernel_rfl) (by kernel_rfl) (fun _ _ _ h => h) (Or.inr ⟨by rfl, rfl⟩) hH ?_
       try simp only [Act.put, zq1, zq2, zq3, zq4, zq5, zq6]
       refine wpAnyH_take (i := 11) (v := undef) rfl (by kernel_rfl) (by kernel_rfl) (by kernel_rfl) (fun _ _ _ h => h) (Or.inr ⟨by rfl, rfl⟩) hH ?_
       try simp only [Act.put, zq1, zq2, zq3, zq4, zq5, zq6]
       refine wpAnyH_take (i := 12) (v := undef) rfl (by kernel_rfl) (by kernel_rfl) (by kernel_rfl) (fun _ _ _ h => h) (Or.inr ⟨by rfl, rfl⟩) hH ?_
       try simp only [Act.put, zq1, zq2, zq3, zq4, zq5, zq6]
       refine wpAnyH_take (i := 13) (v := undef) rfl (by kernel_rfl) (by kernel_rfl) (by kernel_rfl) (fun _ _ _ h => h) (Or.inr ⟨by rfl, rfl⟩) hH ?_
       try simp only [Act.put, zq1, zq2, zq3, zq4, zq5, zq6]
       refine wpAnyH_take (i := 14) (v := undef) rfl (by kernel_rfl) (by kernel_rfl) (by kernel_rfl) (fun _ _ _ h => h) (Or.inr ⟨by rfl, rfl⟩) hH ?_
       try simp only [Act.put, zq1, zq2, zq3, zq4, zq5, zq6]
       refine wpAnyH_take (i := 15) (v := undef) rfl (by kernel_rfl) (by kernel_rfl) (by kernel_rfl) (fun _ _ _ h => h) (Or.inr ⟨by rfl, rfl⟩) hH ?_
       try simp only [Act.put, zq1, zq2, zq3, zq4, zq5, zq6]
       refine wpAnyH_take (i := 16) (v := undef) rfl (by kernel_rfl) (by kernel_rfl) (by kernel_rfl) (fun _ _ _ h => h) (Or.inr ⟨by rfl, rfl⟩) hH ?_
       try simp only [Act.put, zq1, zq2, zq3, zq4, zq5, zq6]
       refine wpAnyH_take (i := 17) (v := undef) rfl (by kernel_rfl) (by kernel_rfl) (by kernel_rfl) (fun _ _ _ h => h) (Or.inr ⟨by rfl, rfl⟩) hH ?_
       try simp only [Act.put, zq1, zq2, zq3, zq4, zq5, zq6]
       refine wpAnyH_take (i := 18) (v := undef) rfl (by kernel_rfl) (by kernel_rfl) (by kernel_rfl) (fun _ _ _ h => h) (Or.inr ⟨by rfl, rfl⟩) hH ?_
       try simp only [Act.put, zq1, zq2, zq3, zq4, zq5, zq6]
       refine wpAnyH_take (i := 19) (v := undef) rfl (by kernel_rfl) (by kernel_rfl) (by kernel_rfl) (fun _ _ _ h => h) (Or.inr ⟨by rfl, rfl⟩) hH ?_
       try simp only [Act.put, zq1, zq2, zq3, zq4, zq5, zq6]
       refine wpAnyH_take (i := 20) (v := undef) rfl (by kernel_rfl) (by kernel_rfl) (by kernel_rfl) (fun _ _ _ h => h) (Or.inr ⟨by rfl, rfl⟩) hH ?_
       try simp only [Act.put, zq1, zq2, zq3, zq4, zq5, zq6]
       refine wpAnyH_take (i := 21) (v := undef) rfl (by kernel_rfl) (by kernel_rfl) (by kernel_rfl) (fun _ _ _ h => h) (Or.inr ⟨by rfl, rfl⟩) hH ?_
       try simp only [Act.put, zq1, zq2, zq3, zq4, zq5, zq6]
       refine wpAnyH_take (i := 22) (v := undef) rfl (by kernel_rfl) (by kernel_rfl) (by kernel_rfl) (fun _ _ _ h => h) (Or.inr ⟨by rfl, rfl⟩) hH ?_
       try simp only [Act.put, zq1, zq2, zq3, zq4, zq5, zq6]
       refine wpAnyH_take (i := 23) (v := undef) rfl (by kernel_rfl) (by kernel_rfl) (by kernel_rfl) (fun _ _ _ h => h) (Or.inr ⟨by rfl, rfl⟩) hH ?_
       try simp only [Act.put, zq1, zq2, zq3, zq4, zq5, zq6]
       refine wpAnyH_take (i := 24) (v := undef) rfl (by kernel_rfl) (by kernel_rfl) (by kernel_rfl) (fun _ _ _ h => h) (Or.inr ⟨by rfl, rfl⟩) hH ?_
       try simp only [Act.put, zq1, zq2, zq3, zq4, zq5, zq6]
       refine wpAnyH_take (i := 25) (v := .bool true) rfl (by kernel_rfl) (by kernel_rfl) (by kernel_rfl) (fun _ _ _ h => h) (Or.inl ⟨by rfl, ?_⟩) hH ?_
       ·intro wq hSw
        try dsimp only at hSw
        go_simp
       try simp only [Act.put, zq1, zq2, zq3, zq4, zq5, zq6]
       refine wpAnyH_take (i := 26) (v := .bool true) rfl (by kernel_rfl) (by kernel_rfl) (by kernel_rfl) (fun _ _ _ h => h) (Or.inl ⟨by rfl, ?_⟩) hH ?_
       ·intro wq hSw
        try dsimp only at hSw
        go_simp
       try simp only [Act.put, zq1, zq2, zq3, zq4, zq5, zq6]
       refine wpAnyH_done (by kernel_rfl) ?_ _
       clear hH
       go_wp2_with fail
       go_ret
       exact ⟨rfl, (unhide K).toBelow⟩
      obtain ⟨e1, e2, e3, e4⟩ := unhide TX rfl
      subst e1 e2 e3
      obtain ⟨e5, e6, e7, e8⟩ := unhide TZ rfl
      subst e5 e6 e7 e8
      have HE4 := hide e4
      have hself := hide (show sameDB s1 xs x1 s1 xs x1 = true from by unfold sameDB sameL; simp)
      clear e4
      (try clear z1); (try clear z2); (try clear z3); (try clear z4); (try clear z5); (try clear z6); (try clear z7); (try clear z8); (try clear z9); (try clear z10); (try clear z11); (try clear z12); (try clear z13); (try clear z14); (try clear z15); (try clear z16); (try clear z17); (try clear z18); (try clear z19); (try clear z20); (try clear z21); (try clear z22); (try clear z23); (try clear z24); (try clear z25); (try clear z26); (try clear z27); (try clear z28); (try clear z29); (try clear z30); (try clear z31); (try clear z32); (try clear z33); (try clear z34); (try clear z35); (try clear z36); (try clear z37); (try clear z38); (try clear z39); (try clear z40); (try clear z41); (try clear z42); (try clear z43); (try clear z44); (try clear z45); (try clear z46)
      (try clear sz1); (try clear sz2); (try clear sz3); (try clear sz4); (try clear sz5); (try clear sz6); (try clear sz7); (try clear sz8); (try clear sz9); (try clear sz10); (try clear sz11); (try clear sz12); (try clear sz13); (try clear sz14); (try clear sz15); (try clear sz16); (try clear sz17); (try clear sz18); (try clear sz19); (try clear sz20); (try clear sz21); (try clear sz22); (try clear sz23); (try clear sz24); (try clear sz25); (try clear sz26); (try clear sz27); (try clear sz28); (try clear sz29); (try clear sz30); (try clear sz31); (try clear sz32); (try clear sz33); (try clear sz34); (try clear sz35); (try clear sz36); (try clear sz37); (try clear sz38); (try clear sz39); (try clear sz40); (try clear sz41); (try clear sz42); (try clear sz43); (try clear sz44); (try clear sz45); (try clear sz46)
      by_cases h0 : xs.length = 0
      ·have hb0 : ((xs.length : Int) == 0) = true := beq_iff_eq.2 (by omega)
       clear h0
       have kd := (Kept.refl 0 0 wn46).drew
       replace r1 := r1.kp kd
       replace r2 := r2.kp kd
       replace rX := rX.kp kd
       replace rZ := rZ.kp kd
       replace y0 := kd.cell0 y0
       replace y1 := kd.cell0 y1
       replace y2 := kd.cell0 y2
       replace u0 := kd.cell0 u0
       replace u1 := kd.cell0 u1
       replace u2 := kd.cell0 u2
       replace g0 := kd.cell0 g0
       replace g1 := kd.cell0 g1
       replace g2 := kd.cell0 g2
       replace h0 := kd.cell0 h0
       replace h1 := kd.cell0 h1
       replace h2 := kd.cell0 h2
       replace j0 := kd.cell0 j0
       replace j1 := kd.cell0 j1
       replace j2 := kd.cell0 j2
       replace K := hide ((unhide K).trans kd)
       have z47 := kd.size
       clear kd
       refine wp_region_held_drew (S := (fun w' => w'.cell? ⟨w1.heap.size, 0, none⟩ = some (.bool s1) ∧ w'.cell? ⟨w1.heap.size, 1, none⟩ = some (.slice a1 xs.length c1) ∧ w'.cell? ⟨w1.heap.size, 2, none⟩ = some (.int .i64 x1) ∧ w'.cell? ⟨w27.heap.size, 0, none⟩ = some (.bool s1) ∧ w'.cell? ⟨w27.heap.size, 1, none⟩ = some (.slice aX xs.length cX) ∧ w'.cell? ⟨w27.heap.size, 2, none⟩ = some (.int .i64 E1) ∧ w'.cell? ⟨w41.heap.size, 0, none⟩ = some (.bool s1) ∧ w'.cell? ⟨w41.heap.size, 1, none⟩ = some (.slice aZ xs.length cZ) ∧ w'.cell? ⟨w41.heap.size, 2, none⟩ = some (.int .i64 x1))) (by kernel_rfl) ?_ (fun hH => ?_)
       ·exact ⟨y0, y1, y2, g0, g1, g2, j0, j1, j2⟩
       refine wpAnyH_take (i := 0) (v := .bool true) rfl (by kernel_rfl) (by kernel_rfl) (by kernel_rfl) (fun _ _ _ h => h) (Or.inl ⟨by rfl, ?_⟩) hH ?_
       ·intro wq hSw
        try dsimp only at hSw
        go_simp
       try simp only [Act.put, zq1, zq2, zq3, zq4, zq5, zq6]
       refine wpAnyH_take (i := 1) (v := .bool false) rfl (by kernel_rfl) (by kernel_rfl) (by kernel_rfl) (fun _ _ _ h => h) (Or.inl ⟨by rfl, ?_⟩) hH ?_
       ·intro wq hSw
        try dsimp only at hSw
        go_simp
       try simp only [Act.put, zq1, zq2, zq3, zq4, zq5, zq6]
       refine wpAnyH_take (i := 2) (v := .bool false) rfl (by kernel_rfl) (by kernel_rfl) (by kernel_rfl) (fun _ _ _ h => h) (Or.inl ⟨by rfl, ?_⟩) hH ?_
       ·intro wq hSw
        try dsimp only at hSw
        go_simp
       try simp only [Act.put, zq1, zq2, zq3, zq4, zq5, zq6]
       refine wpAnyH_take (i := 3) (v := .bool true) rfl (by kernel_rfl) (by kernel_rfl) (by kernel_rfl) (fun _ _ _ h => h) (Or.inl ⟨by rfl, ?_⟩) hH ?_
       ·intro wq hSw
        try dsimp only at hSw
        go_simp
       try simp only [Act.put, zq1, zq2, zq3, zq4, zq5, zq6]
       refine wpAnyH_take (i := 4) (v := .bool true) rfl (by kernel_rfl) (by kernel_rfl) (by kernel_rfl) (fun _ _ _ h => h) (Or.inl ⟨by rfl, ?_⟩) hH ?_
       ·intro wq hSw
        try dsimp only at hSw
        go_simp
       try simp only [Act.put, zq1, zq2, zq3, zq4, zq5, zq6]
       refine wpAnyH_take (i := 5) (v := .agg #[.bool s1, .slice aZ xs.length cZ, .int .i64 x1]) rfl (by kernel_rfl) (by kernel_rfl) (by kernel_rfl) (fun _ _ _ h => h) (Or.inl ⟨by rfl, ?_⟩) hH ?_
       ·intro wq hSw
        try dsimp only at hSw
        go_simp
       try simp only [Act.put, zq1, zq2, zq3, zq4, zq5, zq6]
       refine wpAnyH_take (i := 6) (v := .agg #[.bool s1, .slice a1 xs.length c1, .int .i64 x1]) rfl (by kernel_rfl) (by kernel_rfl) (by kernel_rfl) (fun _ _ _ h => h) (Or.inl ⟨by rfl, ?_⟩) hH ?_
       ·intro wq hSw
        try dsimp only at hSw
        go_simp
       try simp only [Act.put, zq1, zq2, zq3, zq4, zq5, zq6]
       refine wpAnyH_ready (rs := [7]) (by kernel_rfl) (by simp) ?_
       refine AllReadyH.cons rfl (fun KK hK => ?_) AllReadyH.nil
       simp only [zq1, zq2, zq3]
       rw [if_pos (by rfl)]
       refine wps2 9 (.tmp 117) (.tmp 118) _ rfl in_sameO (.agg #[.bool s1, .slice aZ xs.length cZ, .int .i64 x1]) (.agg #[.bool s1, .slice a1 xs.length c1, .int .i64 x1]) rfl rfl (same_told s1 s1 x1 x1 _ rZ r1 (unhide hself)) ?_
       rintro e w48 ⟨rfl, k48⟩
       refine ⟨_, rfl, ?_⟩
       replace r1 := r1.kp k48
       replace r2 := r2.kp k48
       replace rX := rX.kp k48
       replace rZ := rZ.kp k48
       replace y0 := k48.cell0 y0
       replace y1 := k48.cell0 y1
       replace y2 := k48.cell0 y2
       replace u0 := k48.cell0 u0
       replace u1 := k48.cell0 u1
       replace u2 := k48.cell0 u2
       replace g0 := k48.cell0 g0
       replace g1 := k48.cell0 g1
       replace g2 := k48.cell0 g2
       replace h0 := k48.cell0 h0
       replace h1 := k48.cell0 h1
       replace h2 := k48.cell0 h2
       replace j0 := k48.cell0 j0
       replace j1 := k48.cell0 j1
       replace j2 := k48.cell0 j2
       replace K := hide ((unhide K).trans k48)
       have z49 := k48.size
       clear k48
       clear hH
       refine hK.out _ _ ?_ (fun hH => ?_)
       ·exact ⟨y0, y1, y2, g0, g1, g2, j0, j1, j2⟩
       clear hK KK
       try simp only [Act.put, zq1, zq2, zq3, zq4, zq5, zq6]
       refine wpAnyH_take (i := 8) (v := .bool true) rfl (by kernel_rfl) (by kernel_rfl) (by kernel_rfl) (fun _ _ _ h => h) (Or.inl ⟨by rfl, ?_⟩) hH ?_
       ·intro wq hSw
        try dsimp only at hSw
        go_simp
       try simp only [Act.put, zq1, zq2, zq3, zq4, zq5, zq6]
       refine wpAnyH_take (i := 9) (v := .bool true) rfl (by kernel_rfl) (by kernel_rfl) (by kernel_rfl) (fun _ _ _ h => h) (Or.inl ⟨by rfl, ?_⟩) hH ?_
       ·intro wq hSw
        try dsimp only at hSw
        go_simp
       try simp only [Act.put, zq1, zq2, zq3, zq4, zq5, zq6]
       refine wpAnyH_take (i := 10) (v := .pointer (some ⟨w1.heap.size, 0, none⟩)) rfl (by kernel_rfl) (by kernel_rfl) (by kernel_rfl) (fun _ _ _ h => h) (Or.inl ⟨by rfl, ?_⟩) hH ?_
       ·intro wq hSw
        try dsimp only at hSw
        go_simp
       try simp only [Act.put, zq1, zq2, zq3, zq4, zq5, zq6]
       refine wpAnyH_take (i := 11) (v := .pointer (some ⟨w1.heap.size, 1, none⟩)) rfl (by kernel_rfl) (by kernel_rfl) (by kernel_rfl) (fun _ _ _ h => h) (Or.inl ⟨by rfl, ?_⟩) hH ?_
       ·intro wq hSw
        try dsimp only at hSw
        go_simp
       try simp only [Act.put, zq1, zq2, zq3, zq4, zq5, zq6]
       refine wpAnyH_take (i := 12) (v := .pointer (some ⟨w1.heap.size, 1, none⟩)) rfl (by kernel_rfl) (by kernel_rfl) (by kernel_rfl) (fun _ _ _ h => h) (Or.inl ⟨by rfl, ?_⟩) hH ?_
       ·intro wq hSw
        try dsimp only at hSw
        go_simp
       try simp only [Act.put, zq1, zq2, zq3, zq4, zq5, zq6]
       refine wpAnyH_take (i := 13) (v := .slice a1 xs.length c1) rfl (by kernel_rfl) (by kernel_rfl) (by kernel_rfl) (fun _ _ _ h => h) (Or.inl ⟨by rfl, ?_⟩) hH ?_
       ·intro wq hSw
        try dsimp only at hSw
        go_simp
       try simp only [Act.put, zq1, zq2, zq3, zq4, zq5, zq6]
       refine wpAnyH_take (i := 14) (v := .int .i64 (xs.length : Int)) rfl (by kernel_rfl) (by kernel_rfl) (by kernel_rfl) (fun _ _ _ h => h) (Or.inl ⟨by rfl, ?_⟩) hH ?_
       ·intro wq hSw
        try dsimp only at hSw
        go_simp
       try simp only [Act.put, zq1, zq2, zq3, zq4, zq5, zq6]
       refine wpAnyH_take (i := 15) (v := .bool true) rfl (by kernel_rfl) (by kernel_rfl) (by kernel_rfl) (fun _ _ _ h => h) (Or.inl ⟨by rfl, ?_⟩) hH ?_
       ·intro wq hSw
        try dsimp only at hSw
        go_simp
       try simp only [Act.put, zq1, zq2, zq3, zq4, zq5, zq6]
       refine wpAnyH_take (i := 16) (v := .bool true) rfl (by kernel_rfl) (by kernel_rfl) (by kernel_rfl) (fun _ _ _ h => h) (Or.inl ⟨by rfl, ?_⟩) hH ?_
       ·intro wq hSw
        try dsimp only at hSw
        go_simp
       try simp only [Act.put, zq1, zq2, zq3, zq4, zq5, zq6]
       refine wpAnyH_take (i := 17) (v := undef) rfl (by kernel_rfl) (by kernel_rfl) (by kernel_rfl) (fun _ _ _ h => h) (Or.inr ⟨by rfl, rfl⟩) hH ?_
       try simp only [Act.put, zq1, zq2, zq3, zq4, zq5, zq6]
       refine wpAnyH_take (i := 18) (v := undef) rfl (by kernel_rfl) (by kernel_rfl) (by kernel_rfl) (fun _ _ _ h => h) (Or.inr ⟨by rfl, rfl⟩) hH ?_
       try simp only [Act.put, zq1, zq2, zq3, zq4, zq5, zq6]
       refine wpAnyH_take (i := 19) (v := undef) rfl (by kernel_rfl) (by kernel_rfl) (by kernel_rfl) (fun _ _ _ h => h) (Or.inr ⟨by rfl, rfl⟩) hH ?_
       try simp only [Act.put, zq1, zq2, zq3, zq4, zq5, zq6]
       refine wpAnyH_take (i := 20) (v := undef) rfl (by kernel_rfl) (by kernel_rfl) (by kernel_rfl) (fun _ _ _ h => h) (Or.inr ⟨by rfl, rfl⟩) hH ?_
       try simp only [Act.put, zq1, zq2, zq3, zq4, zq5, zq6]
       refine wpAnyH_take (i := 21) (v := undef) rfl (by kernel_rfl) (by kernel_rfl) (by kernel_rfl) (fun _ _ _ h => h) (Or.inr ⟨by rfl, rfl⟩) hH ?_
       try simp only [Act.put, zq1, zq2, zq3, zq4, zq5, zq6]
       refine wpAnyH_take (i := 22) (v := undef) rfl (by kernel_rfl) (by kernel_rfl) (by kernel_rfl) (fun _ _ _ h => h) (Or.inr ⟨by rfl, rfl⟩) hH ?_
       try simp only [Act.put, zq1, zq2, zq3, zq4, zq5, zq6]
       refine wpAnyH_take (i := 23) (v := .bool true) rfl (by kernel_rfl) (by kernel_rfl) (by kernel_rfl) (fun _ _ _ h => h) (Or.inl ⟨by rfl, ?_⟩) hH ?_
       ·intro wq hSw
        try dsimp only at hSw
        go_simp
       try simp only [Act.put, zq1, zq2, zq3, zq4, zq5, zq6]
       refine wpAnyH_take (i := 24) (v := .bool true) rfl (by kernel_rfl) (by kernel_rfl) (by kernel_rfl) (fun _ _ _ h => h) (Or.inl ⟨by rfl, ?_⟩) hH ?_
       ·intro wq hSw
        try dsimp only at hSw
        go_simp
       try simp only [Act.put, zq1, zq2, zq3, zq4, zq5, zq6]
       refine wpAnyH_take (i := 25) (v := .bool true) rfl (by kernel_rfl) (by kernel_rfl) (by kernel_rfl) (fun _ _ _ h => h) (Or.inl ⟨by rfl, ?_⟩) hH ?_
       ·intro wq hSw
        try dsimp only at hSw
        go_simp
       try simp only [Act.put, zq1, zq2, zq3, zq4, zq5, zq6]
       refine wpAnyH_take (i := 26) (v := .bool true) rfl (by kernel_rfl) (by kernel_rfl) (by kernel_rfl) (fun _ _ _ h => h) (Or.inl ⟨by rfl, ?_⟩) hH ?_
       ·intro wq hSw
        try dsimp only at hSw
        go_simp
       try simp only [Act.put, zq1, zq2, zq3, zq4, zq5, zq6]
       refine wpAnyH_done (by kernel_rfl) ?_ _
       clear hH
       go_wp2_with fail
       go_ret
       exact ⟨rfl, (unhide K).toBelow⟩
      have hb0 : ((xs.length : Int) == 0) = false := beq_eq_false_iff_ne.2 (by omega)
      have hts := top_shift (k := 5) (unhide HO1)
      rw [unhide HE1] at hts
      replace hts := hts (unhide HE4) (by omega)
      obtain ⟨t1, t2⟩ := topD_small (unhide HO1) (by omega)
      obtain ⟨T0, hT0⟩ : ∃ t, topD s1 xs x1 = t := ⟨_, rfl⟩
      rw [hT0] at hts t1 t2
      obtain ⟨T1, hT1⟩ : ∃ t, T0 + 5 = t := ⟨_, rfl⟩
      rw [hT1] at hts
      have hw5 : IntKind.i64.wrap (T0 + 5) = T1 := by rw [← hT1]; exact w64 _ (by omega) (by omega)
      have HT0 := hide hT0
      have HT1 := hide hts
      obtain ⟨-, bb3, bb4, -, -⟩ := dok_parts (unhide HE4)
      clear hT0 hts hT1 h0
      have kd := (Kept.refl 0 0 wn46).drew
      replace r1 := r1.kp kd
      replace r2 := r2.kp kd
      replace rX := rX.kp kd
      replace rZ := rZ.kp kd
      replace y0 := kd.cell0 y0
      replace y1 := kd.cell0 y1
      replace y2 := kd.cell0 y2
      replace u0 := kd.cell0 u0
      replace u1 := kd.cell0 u1
      replace u2 := kd.cell0 u2
      replace g0 := kd.cell0 g0
      replace g1 := kd.cell0 g1
      replace g2 := kd.cell0 g2
      replace h0 := kd.cell0 h0
      replace h1 := kd.cell0 h1
      replace h2 := kd.cell0 h2
      replace j0 := kd.cell0 j0
      replace j1 := kd.cell0 j1
      replace j2 := kd.cell0 j2
      replace K := hide ((unhide K).trans kd)
      have z47 := kd.size
      clear kd
      refine wp_region_held_drew (S := (fun w' => w'.cell? ⟨w1.heap.size, 0, none⟩ = some (.bool s1) ∧ w'.cell? ⟨w1.heap.size, 1, none⟩ = some (.slice a1 xs.length c1) ∧ w'.cell? ⟨w1.heap.size, 2, none⟩ = some (.int .i64 x1) ∧ w'.cell? ⟨w27.heap.size, 0, none⟩ = some (.bool s1) ∧ w'.cell? ⟨w27.heap.size, 1, none⟩ = some (.slice aX xs.length cX) ∧ w'.cell? ⟨w27.heap.size, 2, none⟩ = some (.int .i64 E1) ∧ w'.cell? ⟨w41.heap.size, 0, none⟩ = some (.bool s1) ∧ w'.cell? ⟨w41.heap.size, 1, none⟩ = some (.slice aZ xs.length cZ) ∧ w'.cell? ⟨w41.heap.size, 2, none⟩ = some (.int .i64 x1))) (by kernel_rfl) ?_ (fun hH => ?_)
      ·exact ⟨y0, y1, y2, g0, g1, g2, j0, j1, j2⟩
      refine wpAnyH_take (i := 0) (v := .bool true) rfl (by kernel_rfl) (by kernel_rfl) (by kernel_rfl) (fun _ _ _ h => h) (Or.inl ⟨by rfl, ?_⟩) hH ?_
      ·intro wq hSw
       try dsimp only at hSw
       go_simp
      try simp only [Act.put, zq1, zq2, zq3, zq4, zq5, zq6]
      refine wpAnyH_take (i := 1) (v := .bool false) rfl (by kernel_rfl) (by kernel_rfl) (by kernel_rfl) (fun _ _ _ h => h) (Or.inl ⟨by rfl, ?_⟩) hH ?_
      ·intro wq hSw
       try dsimp only at hSw
       go_simp
      try simp only [Act.put, zq1, zq2, zq3, zq4, zq5, zq6]
      refine wpAnyH_take (i := 2) (v := .bool false) rfl (by kernel_rfl) (by kernel_rfl) (by kernel_rfl) (fun _ _ _ h => h) (Or.inl ⟨by rfl, ?_⟩) hH ?_
      ·intro wq hSw
       try dsimp only at hSw
       go_simp
      try simp only [Act.put, zq1, zq2, zq3, zq4, zq5, zq6]
      refine wpAnyH_take (i := 3) (v := .bool true) rfl (by kernel_rfl) (by kernel_rfl) (by kernel_rfl) (fun _ _ _ h => h) (Or.inl ⟨by rfl, ?_⟩) hH ?_
      ·intro wq hSw
       try dsimp only at hSw
       go_simp
      try simp only [Act.put, zq1, zq2, zq3, zq4, zq5, zq6]
      refine wpAnyH_take (i := 4) (v := .bool true) rfl (by kernel_rfl) (by kernel_rfl) (by kernel_rfl) (fun _ _ _ h => h) (Or.inl ⟨by rfl, ?_⟩) hH ?_
      ·intro wq hSw
       try dsimp only at hSw
       go_simp
      try simp only [Act.put, zq1, zq2, zq3, zq4, zq5, zq6]
      refine wpAnyH_take (i := 5) (v := .agg #[.bool s1, .slice aZ xs.length cZ, .int .i64 x1]) rfl (by kernel_rfl) (by kernel_rfl) (by kernel_rfl) (fun _ _ _ h => h) (Or.inl ⟨by rfl, ?_⟩) hH ?_
      ·intro wq hSw
       try dsimp only at hSw
       go_simp
      try simp only [Act.put, zq1, zq2, zq3, zq4, zq5, zq6]
      refine wpAnyH_take (i := 6) (v := .agg #[.bool s1, .slice a1 xs.length c1, .int .i64 x1]) rfl (by kernel_rfl) (by kernel_rfl) (by kernel_rfl) (fun _ _ _ h => h) (Or.inl ⟨by rfl, ?_⟩) hH ?_
      ·intro wq hSw
       try dsimp only at hSw
       go_simp
      try simp only [Act.put, zq1, zq2, zq3, zq4, zq5, zq6]
      refine wpAnyH_ready (rs := [7]) (by kernel_rfl) (by simp) ?_
      refine AllReadyH.cons rfl (fun KK hK => ?_) AllReadyH.nil
      simp only [zq1, zq2, zq3]
      rw [if_pos (by rfl)]
      refine wps2 9 (.tmp 117) (.tmp 118) _ rfl in_sameO (.agg #[.bool s1, .slice aZ xs.length cZ, .int .i64 x1]) (.agg #[.bool s1, .slice a1 xs.length c1, .int .i64 x1]) rfl rfl (same_told s1 s1 x1 x1 _ rZ r1 (unhide hself)) ?_
      rintro e w48 ⟨rfl, k48⟩
      refine ⟨_, rfl, ?_⟩
      replace r1 := r1.kp k48
      replace r2 := r2.kp k48
      replace rX := rX.kp k48
      replace rZ := rZ.kp k48
      replace y0 := k48.cell0 y0
      replace y1 := k48.cell0 y1
      replace y2 := k48.cell0 y2
      replace u0 := k48.cell0 u0
      replace u1 := k48.cell0 u1
      replace u2 := k48.cell0 u2
      replace g0 := k48.cell0 g0
      replace g1 := k48.cell0 g1
      replace g2 := k48.cell0 g2
      replace h0 := k48.cell0 h0
      replace h1 := k48.cell0 h1
      replace h2 := k48.cell0 h2
      replace j0 := k48.cell0 j0
      replace j1 := k48.cell0 j1
      replace j2 := k48.cell0 j2
      replace K := hide ((unhide K).trans k48)
      have z49 := k48.size
      clear k48
      clear hH
      refine hK.out _ _ ?_ (fun hH => ?_)
      ·exact ⟨y0, y1, y2, g0, g1, g2, j0, j1, j2⟩
      clear hK KK
      try simp only [Act.put, zq1, zq2, zq3, zq4, zq5, zq6]
      refine wpAnyH_take (i := 8) (v := .bool true) rfl (by kernel_rfl) (by kernel_rfl) (by kernel_rfl) (fun _ _ _ h => h) (Or.inl ⟨by rfl, ?_⟩) hH ?_
      ·intro wq hSw
       try dsimp only at hSw
       go_simp
      try simp only [Act.put, zq1, zq2, zq3, zq4, zq5, zq6]
      refine wpAnyH_take (i := 9) (v := .bool true) rfl (by kernel_rfl) (by kernel_rfl) (by kernel_rfl) (fun _ _ _ h => h) (Or.inl ⟨by rfl, ?_⟩) hH ?_
      ·intro wq hSw
       try dsimp only at hSw
       go_simp
      try simp only [Act.put, zq1, zq2, zq3, zq4, zq5, zq6]
      refine wpAnyH_take (i := 10) (v := .pointer (some ⟨w1.heap.size, 0, none⟩)) rfl (by kernel_rfl) (by kernel_rfl) (by kernel_rfl) (fun _ _ _ h => h) (Or.inl ⟨by rfl, ?_⟩) hH ?_
      ·intro wq hSw
       try dsimp only at hSw
       go_simp
      try simp only [Act.put, zq1, zq2, zq3, zq4, zq5, zq6]
      refine wpAnyH_take (i := 11) (v := .pointer (some ⟨w1.heap.size, 1, none⟩)) rfl (by kernel_rfl) (by kernel_rfl) (by kernel_rfl) (fun _ _ _ h => h) (Or.inl ⟨by rfl, ?_⟩) hH ?_
      ·intro wq hSw
       try dsimp only at hSw
       go_simp
      try simp only [Act.put, zq1, zq2, zq3, zq4, zq5, zq6]
      refine wpAnyH_take (i := 12) (v := .pointer (some ⟨w1.heap.size, 1, none⟩)) rfl (by kernel_rfl) (by kernel_rfl) (by kernel_rfl) (fun _ _ _ h => h) (Or.inl ⟨by rfl, ?_⟩) hH ?_
      ·intro wq hSw
       try dsimp only at hSw
       go_simp
      try simp only [Act.put, zq1, zq2, zq3, zq4, zq5, zq6]
      refine wpAnyH_take (i := 13) (v := .slice a1 xs.length c1) rfl (by kernel_rfl) (by kernel_rfl) (by kernel_rfl) (fun _ _ _ h => h) (Or.inl ⟨by rfl, ?_⟩) hH ?_
      ·intro wq hSw
       try dsimp only at hSw
       go_simp
      try simp only [Act.put, zq1, zq2, zq3, zq4, zq5, zq6]
      refine wpAnyH_take (i := 14) (v := .int .i64 (xs.length : Int)) rfl (by kernel_rfl) (by kernel_rfl) (by kernel_rfl) (fun _ _ _ h => h) (Or.inl ⟨by rfl, ?_⟩) hH ?_
      ·intro wq hSw
       try dsimp only at hSw
       go_simp
      try simp only [Act.put, zq1, zq2, zq3, zq4, zq5, zq6]
      refine wpAnyH_take (i := 15) (v := .bool false) rfl (by kernel_rfl) (by kernel_rfl) (by kernel_rfl) (fun _ _ _ h => h) (Or.inl ⟨by rfl, ?_⟩) hH ?_
      ·intro wq hSw
       try dsimp only at hSw
       go_simp
      try simp only [Act.put, zq1, zq2, zq3, zq4, zq5, zq6]
      refine wpAnyH_take (i := 16) (v := .bool false) rfl (by kernel_rfl) (by kernel_rfl) (by kernel_rfl) (fun _ _ _ h => h) (Or.inl ⟨by rfl, ?_⟩) hH ?_
      ·intro wq hSw
       try dsimp only at hSw
       go_simp
      try simp only [Act.put, zq1, zq2, zq3, zq4, zq5, zq6]
      refine wpAnyH_take (i := 17) (v := .agg #[.bool s1, .slice aX xs.length cX, .int .i64 E1]) rfl (by kernel_rfl) (by kernel_rfl) (by kernel_rfl) (fun _ _ _ h => h) (Or.inl ⟨by rfl, ?_⟩) hH ?_
      ·intro wq hSw
       try dsimp only at hSw
       go_simp
      try simp only [Act.put, zq1, zq2, zq3, zq4, zq5, zq6]
      refine wpAnyH_take (i := 19) (v := .agg #[.bool s1, .slice a1 xs.length c1, .int .i64 x1]) rfl (by kernel_rfl) (by kernel_rfl) (by kernel_rfl) (fun _ _ _ h => h) (Or.inl ⟨by rfl, ?_⟩) hH ?_
      ·intro wq hSw
       try dsimp only at hSw
       go_simp
      try simp only [Act.put, zq1, zq2, zq3, zq4, zq5, zq6]
      refine wpAnyH_ready (rs := [18]) (by kernel_rfl) (by simp) ?_
      refine AllReadyH.cons rfl (fun KK hK => ?_) AllReadyH.nil
      simp only [zq1, zq2, zq3]
      rw [if_pos (by rfl)]
      refine wps1 12 (.tmp 129) _ rfl in_topO (.agg #[.bool s1, .slice aX xs.length cX, .int .i64 E1]) rfl (top_told (Int.le_trans bb4 (by decide)) (Int.le_trans (by decide) bb3) _ rX (unhide HT1)) ?_
      rintro e w50 ⟨rfl, k50⟩
      refine ⟨_, rfl, ?_⟩
      replace r1 := r1.kp k50
      replace r2 := r2.kp k50
      replace rX := rX.kp k50
      replace rZ := rZ.kp k50
      replace y0 := k50.cell0 y0
      replace y1 := k50.cell0 y1
      replace y2 := k50.cell0 y2
      replace u0 := k50.cell0 u0
      replace u1 := k50.cell0 u1
      replace u2 := k50.cell0 u2
      replace g0 := k50.cell0 g0
      replace g1 := k50.cell0 g1
      replace g2 := k50.cell0 g2
      replace h0 := k50.cell0 h0
      replace h1 := k50.cell0 h1
      replace h2 := k50.cell0 h2
      replace j0 := k50.cell0 j0
      replace j1 := k50.cell0 j1
      replace j2 := k50.cell0 j2
      replace K := hide ((unhide K).trans k50)
      have z51 := k50.size
      clear k50
      clear hH
      refine hK.out _ _ ?_ (fun hH => ?_)
      ·exact ⟨y0, y1, y2, g0, g1, g2, j0, j1, j2⟩
      clear hK KK
      try simp only [Act.put, zq1, zq2, zq3, zq4, zq5, zq6]
      refine wpAnyH_ready (rs := [20]) (by kernel_rfl) (by simp) ?_
      refine AllReadyH.cons rfl (fun KK hK => ?_) AllReadyH.nil
      simp only [zq1, zq2, zq3]
      rw [if_pos (by rfl)]
      refine wps1 12 (.tmp 131) _ rfl in_topO (.agg #[.bool s1, .slice a1 xs.length c1, .int .i64 x1]) rfl (top_told f2 f1 _ r1 (unhide HT0)) ?_
      rintro e w52 ⟨rfl, k52⟩
      refine ⟨_, rfl, ?_⟩
      replace r1 := r1.kp k52
      replace r2 := r2.kp k52
      replace rX := rX.kp k52
      replace rZ := rZ.kp k52
      replace y0 := k52.cell0 y0
      replace y1 := k52.cell0 y1
      replace y2 := k52.cell0 y2
      replace u0 := k52.cell0 u0
      replace u1 := k52.cell0 u1
      replace u2 := k52.cell0 u2
      replace g0 := k52.cell0 g0
      replace g1 := k52.cell0 g1
      replace g2 := k52.cell0 g2
      replace h0 := k52.cell0 h0
      replace h1 := k52.cell0 h1
      replace h2 := k52.cell0 h2
      replace j0 := k52.cell0 j0
      replace j1 := k52.cell0 j1
      replace j2 := k52.cell0 j2
      replace K := hide ((unhide K).trans k52)
      have z53 := k52.size
      clear k52
      clear hH
      refine hK.out _ _ ?_ (fun hH => ?_)
      ·exact ⟨y0, y1, y2, g0, g1, g2, j0, j1, j2⟩
      clear hK KK
      try simp only [Act.put, zq1, zq2, zq3, zq4, zq5, zq6]
      refine wpAnyH_take (i := 21) (v := .int .i64 T1) rfl (by kernel_rfl) (by kernel_rfl) (by kernel_rfl) (fun _ _ _ h => h) (Or.inl ⟨by rfl, ?_⟩) hH ?_
      ·intro wq hSw
       try dsimp only at hSw
       go_simp
      try simp only [Act.put, zq1, zq2, zq3, zq4, zq5, zq6]
      refine wpAnyH_take (i := 22) (v := .bool true) rfl (by kernel_rfl) (by kernel_rfl) (by kernel_rfl) (fun _ _ _ h => h) (Or.inl ⟨by rfl, ?_⟩) hH ?_
      ·intro wq hSw
       try dsimp only at hSw
       go_simp
      try simp only [Act.put, zq1, zq2, zq3, zq4, zq5, zq6]
      refine wpAnyH_take (i := 23) (v := .bool true) rfl (by kernel_rfl) (by kernel_rfl) (by kernel_rfl) (fun _ _ _ h => h) (Or.inl ⟨by rfl, ?_⟩) hH ?_
      ·intro wq hSw
       try dsimp only at hSw
       go_simp
      try simp only [Act.put, zq1, zq2, zq3, zq4, zq5, zq6]
      refine wpAnyH_take (i := 24) (v := .bool true) rfl (by kernel_rfl) (by kernel_rfl) (by kernel_rfl) (fun _ _ _ h => h) (Or.inl ⟨by rfl, ?_⟩) hH ?_
      ·intro wq hSw
       try dsimp only at hSw
       go_simp
      try simp only [Act.put, zq1, zq2, zq3, zq4, zq5, zq6]
      refine wpAnyH_take (i := 25) (v := .bool true) rfl (by kernel_rfl) (by kernel_rfl) (by kernel_rfl) (fun _ _ _ h => h) (Or.inl ⟨by rfl, ?_⟩) hH ?_
      ·intro wq hSw
       try dsimp only at hSw
       go_simp
      try simp only [Act.put, zq1, zq2, zq3, zq4, zq5, zq6]
      refine wpAnyH_take (i := 26) (v := .bool true) rfl (by kernel_rfl) (by kernel_rfl) (by kernel_rfl) (fun _ _ _ h => h) (Or.inl ⟨by rfl, ?_⟩) hH ?_
      ·intro wq hSw
       try dsimp only at hSw
       go_simp
      try simp only [Act.put, zq1, zq2, zq3, zq4, zq5, zq6]
      refine wpAnyH_done (by kernel_rfl) ?_ _
      clear hH
      go_wp2_with fail
      go_ret
      exact ⟨rfl, (unhide K).toBelow⟩

end Go.Proofs.YtianadklhakehaaDoor
