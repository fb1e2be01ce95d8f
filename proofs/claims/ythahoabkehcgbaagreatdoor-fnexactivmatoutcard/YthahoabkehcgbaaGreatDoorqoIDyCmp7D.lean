/-
  The contract of the program's DyCmp.
-/
import Derived.Test.YthahoabkehcgbaaGreatDoorqoDy7
import Derived.Test.YthahoabkehcgbaaGreatDoorqoIWCmp
import Derived.Deep.DeepCutAuto
namespace Go.Proofs.YthahoabkehcgbaaGreatDoor
open Go.RowKit
set_option linter.unusedVariables false
set_option maxRecDepth 8000
set_option linter.unusedSimpArgs false

theorem in_compareSigned : ∀ (w : World) (args : Array Value), (callFunc 196 args).run Tryz.prog w = .ok (.enter 196 args) w := enters Tryz.func196 (by decide) (fun h => by cases h)

set_option maxHeartbeats 8000000 in
theorem compareDyadic_impl {w0 w : World} {g1 g2 : Nat} {s1 s2 : Bool} {xs ys : List Int} {x1 x2 : Int} (sg : Dya2 w0 w g1 g2 s1 xs x1 s2 ys x2) (n1 : WN s1 xs) (n2 : WN s2 ys) (hx : Nrm xs) (hy : Nrm ys) (nx : xs.length ≤ 50000) (ny : ys.length ≤ 50000) (f1 : -3000 ≤ x1) (f2 : x1 ≤ 3000) (f3 : -3000 ≤ x2) (f4 : x2 ≤ 3000) :
    Calls Tryz.prog 150 #[.pointer (some ⟨g1, 0, none⟩), .pointer (some ⟨g2, 0, none⟩)] w fun e w' => e = .returned (.int .i64 (cmpDI (wval s1 xs) x1 (wval s2 ys) x2)) ∧ Kept 0 0 w0 w' := by
  have SG := hide sg
  go_enter Tryz.func150, Tryz.ntmps150
  go_wp2_with fail
  refine (align_impl (unhide SG) hx hy nx ny f1 f2 f3 f4).mono ?_
  rintro e w5 ⟨⟨r5, rfl⟩, sg5⟩
  obtain ⟨z1, z2⟩ := shl_any n1 (x1 - min x1 x2).toNat
  obtain ⟨z3, z4⟩ := shl_any n2 (x2 - min x1 x2).toNat
  have EQ : Hid (cmpI (wval s1 (limbs ((val xs).toNat * 2 ^ (x1 - min x1 x2).toNat))) (wval s2 (limbs ((val ys).toNat * 2 ^ (x2 - min x1 x2).toNat))) = cmpDI (wval s1 xs) x1 (wval s2 ys) x2) := by show _ = _; rw [z2, z4]; rfl
  generalize limbs ((val xs).toNat * 2 ^ (x1 - min x1 x2).toNat) = L1 at *
  generalize limbs ((val ys).toNat * 2 ^ (x2 - min x1 x2).toNat) = L2 at *
  generalize min x1 x2 = lo at *
  clear z2 z4 SG
  go_wp2_with fail
  replace sg5 := sg5.kept (Kept.refl 0 0 w5).drew
  have SG5 := hide sg5
  clear sg5
  refine wp_region_held_drew (S := (fun _ => True)) (by kernel_rfl) ?_ (fun hH => ?_)
  ·trivial
  generalize w5.drew = wd at *
  refine wpAnyH_take (i := 0) (v := .pointer (some ⟨g1, 0, none⟩)) rfl (by kernel_rfl) (by kernel_rfl) (by kernel_rfl) (fun _ _ _ h => h) (Or.inl ⟨by rfl, ?_⟩) hH ?_
  ·intro wq hSw
   try dsimp only at hSw
   go_simp
  try simp only [Act.put, zq1, zq2, zq3, zq4, zq5, zq6]
  refine wpAnyH_take (i := 1) (v := .pointer (some ⟨g1, 0, none⟩)) rfl (by kernel_rfl) (by kernel_rfl) (by kernel_rfl) (fun _ _ _ h => h) (Or.inl ⟨by rfl, ?_⟩) hH ?_
  ·intro wq hSw
   try dsimp only at hSw
   go_simp
  try simp only [Act.put, zq1, zq2, zq3, zq4, zq5, zq6]
  refine wpAnyH_take (i := 2) (v := .pointer (some ⟨g1, 0, none⟩)) rfl (by kernel_rfl) (by kernel_rfl) (by kernel_rfl) (fun _ _ _ h => h) (Or.inl ⟨by rfl, ?_⟩) hH ?_
  ·intro wq hSw
   try dsimp only at hSw
   go_simp
  try simp only [Act.put, zq1, zq2, zq3, zq4, zq5, zq6]
  refine wpAnyH_take (i := 3) (v := .pointer (some ⟨g2, 0, none⟩)) rfl (by kernel_rfl) (by kernel_rfl) (by kernel_rfl) (fun _ _ _ h => h) (Or.inl ⟨by rfl, ?_⟩) hH ?_
  ·intro wq hSw
   try dsimp only at hSw
   go_simp
  try simp only [Act.put, zq1, zq2, zq3, zq4, zq5, zq6]
  refine wpAnyH_take (i := 4) (v := .pointer (some ⟨g2, 0, none⟩)) rfl (by kernel_rfl) (by kernel_rfl) (by kernel_rfl) (fun _ _ _ h => h) (Or.inl ⟨by rfl, ?_⟩) hH ?_
  ·intro wq hSw
   try dsimp only at hSw
   go_simp
  try simp only [Act.put, zq1, zq2, zq3, zq4, zq5, zq6]
  refine wpAnyH_take (i := 5) (v := .pointer (some ⟨g2, 0, none⟩)) rfl (by kernel_rfl) (by kernel_rfl) (by kernel_rfl) (fun _ _ _ h => h) (Or.inl ⟨by rfl, ?_⟩) hH ?_
  ·intro wq hSw
   try dsimp only at hSw
   go_simp
  try simp only [Act.put, zq1, zq2, zq3, zq4, zq5, zq6]
  refine wpAnyH_ready (rs := [6]) (by kernel_rfl) (by simp) ?_
  refine AllReadyH.cons rfl (fun KK hK => ?_) AllReadyH.nil
  simp only [zq1, zq2, zq3]
  rw [if_pos (by rfl)]
  refine wps2 196 (.tmp 10) (.tmp 13) _ rfl in_compareSigned (.pointer (some ⟨g1, 0, none⟩)) (.pointer (some ⟨g2, 0, none⟩)) rfl rfl (compareSigned_wn (unhide SG5).sg z1 z3) ?_
  rintro e w6 ⟨rfl, k6⟩
  refine ⟨_, rfl, ?_⟩
  clear hH
  refine hK.out _ _ ?_ (fun hH => ?_)
  ·trivial
  clear hK KK
  try simp only [Act.put, zq1, zq2, zq3, zq4, zq5, zq6]
  refine wpAnyH_take (i := 7) (v := .int .i64 (cmpI (wval s1 L1) (wval s2 L2))) rfl (by kernel_rfl) (by kernel_rfl) (by kernel_rfl) (fun _ _ _ h => h) (Or.inl ⟨by rfl, ?_⟩) hH ?_
  ·intro wq hSw
   try dsimp only at hSw
   go_simp
  try simp only [Act.put, zq1, zq2, zq3, zq4, zq5, zq6]
  refine wpAnyH_done (by kernel_rfl) ?_ _
  clear hH
  obtain ⟨u1, u2, t⟩ := (unhide SG5).sg.two
  have K7 := hide (t.k.trans k6)
  clear t k6 SG5
  go_wp2_with fail
  go_ret
  exact ⟨by rw [← unhide EQ]; rfl, unhide K7⟩

set_option maxHeartbeats 8000000 in
theorem dcmp_impl {b1 b2 : Bool} {l1 h1 l2 h2 : Nat} {v1 v2 : Value} {xs ys : List Int} (s1 s2 : Bool) (x1 x2 : Int) (hx1 : x1 ≤ 9223372036854775807) (hx0 : -9223372036854775808 ≤ x1) (hy1 : x2 ≤ 9223372036854775807) (hy0 : -9223372036854775808 ≤ x2) (w : World) (r1 : Row .i64 b1 l1 h1 w v1 xs) (r2 : Row .i64 b2 l2 h2 w v2 ys) :
    Calls Tryz.prog 166 #[.agg #[.bool s1, v1, .int .i64 x1], .agg #[.bool s2, v2, .int .i64 x2]] w fun e w' => e = .returned (.int .i64 (cmpD s1 xs x1 s2 ys x2)) ∧ Kept 0 0 w w' := by
  obtain ⟨Wn, hn0⟩ : ∃ wz, wz = ((w.alloc (.cells #[.bool s1, v1, .int .i64 x1] 52)).alloc (.cells #[.bool s2, v2, .int .i64 x2] 52)) := ⟨_, rfl⟩
  have k0 : Kept 0 0 w Wn := by rw [hn0]; exact (((Kept.refl 0 0 w).alloc _).alloc _)
  have p0 : Wn.cell? ⟨w.heap.size, 0, none⟩ = some (.bool s1) := by rw [hn0]; exact old_cell _ (new_cell2 _ _ _ _ _ _ (by simp) rfl)
  have p1 : Wn.cell? ⟨w.heap.size, 1, none⟩ = some (v1) := by rw [hn0]; exact old_cell _ (new_cell2 _ _ _ _ _ _ (by simp) rfl)
  have p2 : Wn.cell? ⟨w.heap.size, 2, none⟩ = some (.int .i64 x1) := by rw [hn0]; exact old_cell _ (new_cell2 _ _ _ _ _ _ (by simp) rfl)
  have t0 : Wn.cell? ⟨w.heap.size + 1, 0, none⟩ = some (.bool s2) := by rw [hn0]; exact new_cell2 _ _ _ _ _ _ (by simp) rfl
  have t1 : Wn.cell? ⟨w.heap.size + 1, 1, none⟩ = some (v2) := by rw [hn0]; exact new_cell2 _ _ _ _ _ _ (by simp) rfl
  have t2 : Wn.cell? ⟨w.heap.size + 1, 2, none⟩ = some (.int .i64 x2) := by rw [hn0]; exact new_cell2 _ _ _ _ _ _ (by simp) rfl
  subst hn0
  replace r1 := r1.kept k0 (by omega)
  replace r2 := r2.kept k0 (by omega)
  have s0 : ((w.alloc (.cells #[.bool s1, v1, .int .i64 x1] 52)).alloc (.cells #[.bool s2, v2, .int .i64 x2] 52)).heap.size = w.heap.size + 2 := by simp
  obtain ⟨a1, c1, hv⟩ := Row.form' r1
  subst hv
  obtain ⟨a2, c2, hv⟩ := Row.form' r2
  subst hv
  have K := hide (k0)
  clear k0
  have S0 := hide s0
  clear s0
  go_enter Tryz.func166, Tryz.ntmps166
  go_wp2_with fail
  generalize ((w.alloc (.cells #[.bool s1, .slice a1 xs.length c1, .int .i64 x1] 52)).alloc (.cells #[.bool s2, .slice a2 ys.length c2, .int .i64 x2] 52)) = W at *
  refine (dok_impl s1 x1 hx1 hx0 _ r1).mono ?_
  rintro e w1 ⟨rfl, k1⟩
  replace r1 := r1.kept k1 (by omega)
  replace r2 := r2.kept k1 (by omega)
  replace p0 := k1.cell0 p0
  replace p1 := k1.cell0 p1
  replace p2 := k1.cell0 p2
  replace t0 := k1.cell0 t0
  replace t1 := k1.cell0 t1
  replace t2 := k1.cell0 t2
  replace K := hide ((unhide K).trans k1)
  have z2 := k1.size
  clear k1
  cases ho1 : dokB s1 xs x1
  ·have HO := hide ho1
   clear ho1
   clear r1 r2
   go_wp2_with fail
   go_ret
   exact ⟨by rw [cmpD_bad1 (unhide HO)]; rfl, unhide K⟩
  have HO1 := hide ho1
  clear ho1
  go_wp2_with fail
  refine (dok_impl s2 x2 hy1 hy0 _ r2).mono ?_
  rintro e w3 ⟨rfl, k3⟩
  replace r1 := r1.kept k3 (by omega)
  replace r2 := r2.kept k3 (by omega)
  replace p0 := k3.cell0 p0
  replace p1 := k3.cell0 p1
  replace p2 := k3.cell0 p2
  replace t0 := k3.cell0 t0
  replace t1 := k3.cell0 t1
  replace t2 := k3.cell0 t2
  replace K := hide ((unhide K).trans k3)
  have z4 := k3.size
  clear k3
  cases ho2 : dokB s2 ys x2
  ·have HO := hide ho2
   clear ho2
   clear r1 r2
   go_wp2_with fail
   go_ret
   exact ⟨by rw [cmpD_bad2 (unhide HO)]; rfl, unhide K⟩
  have HO2 := hide ho2
  clear ho2
  obtain ⟨w1', e1, e2, -, -⟩ := dok_parts (unhide HO1)
  obtain ⟨w2', e3, e4, -, -⟩ := dok_parts (unhide HO2)
  have n1 := wok_wn w1'
  have n2 := wok_wn w2'
  obtain ⟨-, -, lx, hx⟩ := wok_int w1'
  obtain ⟨-, -, ly, hy⟩ := wok_int w2'
  clear w1' w2'
  have mx : xs.length ≤ 1000000 := by omega
  have my : ys.length ≤ 1000000 := by omega
  go_upto_region 3 with fail
  go_cut [5, 6] (fun p q wx => ∃ X Y, p = .pointer (some ⟨X, 0, none⟩) ∧ q = .pointer (some ⟨Y, 0, none⟩) ∧ Dya2 w3 wx X Y s1 xs x1 s2 ys x2)
  case first =>
   have kw := Kept.refl 0 0 w3
   have kd := (Kept.refl 0 0 w3).drew
   replace r1 := r1.kept kd (by omega)
   replace r2 := r2.kept kd (by omega)
   replace kw := kw.trans kd
   replace p0 := kd.cell0 p0
   replace p1 := kd.cell0 p1
   replace p2 := kd.cell0 p2
   replace t0 := kd.cell0 t0
   replace t1 := kd.cell0 t1
   replace t2 := kd.cell0 t2
   replace K := hide ((unhide K).trans kd)
   have z5 := kd.size
   clear kd
   refine wp_region_held_drew (S := (fun w' => w'.cell? ⟨w.heap.size, 0, none⟩ = some (.bool s1) ∧ w'.cell? ⟨w.heap.size, 1, none⟩ = some (.slice a1 xs.length c1) ∧ w'.cell? ⟨w.heap.size, 2, none⟩ = some (.int .i64 x1) ∧ w'.cell? ⟨w.heap.size + 1, 0, none⟩ = some (.bool s2) ∧ w'.cell? ⟨w.heap.size + 1, 1, none⟩ = some (.slice a2 ys.length c2) ∧ w'.cell? ⟨w.heap.size + 1, 2, none⟩ = some (.int .i64 x2))) (by kernel_rfl) ?_ (fun hH => ?_)
   ·exact ⟨p0, p1, p2, t0, t1, t2⟩
   generalize w3.drew = wd at *
   refine wpAnyH_take (i := 0) (v := .agg #[.bool s1, .slice a1 xs.length c1, .int .i64 x1]) rfl (by kernel_rfl) (by kernel_rfl) (by kernel_rfl) (fun _ _ _ h => h) (Or.inl ⟨by rfl, ?_⟩) hH ?_
   ·intro wq hSw
    try dsimp only at hSw
    go_simp
   try simp only [Act.put, zq1, zq2, zq3, zq4, zq5, zq6]
   refine wpAnyH_take (i := 2) (v := .agg #[.bool s2, .slice a2 ys.length c2, .int .i64 x2]) rfl (by kernel_rfl) (by kernel_rfl) (by kernel_rfl) (fun _ _ _ h => h) (Or.inl ⟨by rfl, ?_⟩) hH ?_
   ·intro wq hSw
    try dsimp only at hSw
    go_simp
   try simp only [Act.put, zq1, zq2, zq3, zq4, zq5, zq6]
   refine wpAnyH_ready (rs := [1, 4, 5]) (by kernel_rfl) (by simp) ?_
   refine AllReadyH.cons rfl (fun KK hK => ?_) (AllReadyH.cons rfl (fun KK hK => ?_) (AllReadyH.cons rfl (fun KK hK => ?_) AllReadyH.nil))
   ·simp only [zq1, zq2, zq3]
    rw [if_pos (by rfl)]
    refine wps1 129 (.tmp 15) _ rfl in_dyadicOf (.agg #[.bool s1, .slice a1 xs.length c1, .int .i64 x1]) rfl (dyadicOf_impl s1 x1 _ r1 mx) ?_
    rintro e w6 ⟨v3, rfl, o3, k6⟩
    refine ⟨_, rfl, ?_⟩
    replace r1 := r1.kept k6 (by omega)
    replace r2 := r2.kept k6 (by omega)
    replace kw := kw.trans k6
    replace p0 := k6.cell0 p0
    replace p1 := k6.cell0 p1
    replace p2 := k6.cell0 p2
    replace t0 := k6.cell0 t0
    replace t1 := k6.cell0 t1
    replace t2 := k6.cell0 t2
    replace K := hide ((unhide K).trans k6)
    have z7 := k6.size
    clear k6
    have l3 := o3.lt
    obtain ⟨a3, c3, hv⟩ := own_slice o3
    subst hv
    clear hH
    refine hK.out _ _ ?_ (fun hH => ?_)
    ·exact ⟨p0, p1, p2, t0, t1, t2⟩
    clear hK KK
    try simp only [Act.put, zq1, zq2, zq3, zq4, zq5, zq6]
    refine wpAnyH_ready (rs := [3, 4, 5]) (by kernel_rfl) (by simp) ?_
    refine AllReadyH.cons rfl (fun KK hK => ?_) (AllReadyH.cons rfl (fun KK hK => ?_) (AllReadyH.cons rfl (fun KK hK => ?_) AllReadyH.nil))
    ·simp only [zq1, zq2, zq3]
     rw [if_pos (by rfl)]
     refine wps1 129 (.tmp 17) _ rfl in_dyadicOf (.agg #[.bool s2, .slice a2 ys.length c2, .int .i64 x2]) rfl (dyadicOf_impl s2 x2 _ r2 my) ?_
     rintro e w8 ⟨v4, rfl, o4, k8⟩
     refine ⟨_, rfl, ?_⟩
     replace r1 := r1.kept k8 (by omega)
     replace r2 := r2.kept k8 (by omega)
     replace kw := kw.trans k8
     replace o3 := own_kept o3 k8
     replace p0 := k8.cell0 p0
     replace p1 := k8.cell0 p1
     replace p2 := k8.cell0 p2
     replace t0 := k8.cell0 t0
     replace t1 := k8.cell0 t1
     replace t2 := k8.cell0 t2
     replace K := hide ((unhide K).trans k8)
     have z9 := k8.size
     clear k8
     have l4 := o4.lt
     obtain ⟨a4, c4, hv⟩ := own_slice o4
     subst hv
     clear hH
     refine hK.out _ _ ?_ (fun hH => ?_)
     ·exact ⟨p0, p1, p2, t0, t1, t2⟩
     clear hK KK
     try simp only [Act.put, zq1, zq2, zq3, zq4, zq5, zq6]
     refine wpAnyH_ready (rs := [4, 5]) (by kernel_rfl) (by simp) ?_
     refine AllReadyH.cons rfl (fun KK hK => ?_) (AllReadyH.cons rfl (fun KK hK => ?_) AllReadyH.nil)
     ·simp only [zq1, zq2, zq3]
      rw [if_pos (by rfl)]
      go_simp
      have kn := (Kept.refl 0 0 w8).alloc (.cells #[.slice none 0 0, .bool false, .int .i64 0] 150)
      replace r1 := r1.kept kn (by omega)
      replace r2 := r2.kept kn (by omega)
      replace kw := kw.trans kn
      replace o3 := own_kept o3 kn
      replace o4 := own_kept o4 kn
      replace p0 := kn.cell0 p0
      replace p1 := kn.cell0 p1
      replace p2 := kn.cell0 p2
      replace t0 := kn.cell0 t0
      replace t1 := kn.cell0 t1
      replace t2 := kn.cell0 t2
      replace K := hide ((unhide K).trans kn)
      have z11 := kn.size
      clear kn
      have szX_ : w8.heap.size < (w8.alloc (.cells #[.slice none 0 0, .bool false, .int .i64 0] 150)).heap.size := by simp
      have X_0 : (w8.alloc (.cells #[.slice none 0 0, .bool false, .int .i64 0] 150)).cell? ⟨w8.heap.size, 0, none⟩ = some (.slice none 0 0) := new_cell2 _ _ _ _ _ _ rfl rfl
      have X_f0 : (w8.alloc (.cells #[.slice none 0 0, .bool false, .int .i64 0] 150)).frozen? ⟨w8.heap.size, 0, none⟩ = false := new_loose2 _ _ _ _ _ rfl
      have X_1 : (w8.alloc (.cells #[.slice none 0 0, .bool false, .int .i64 0] 150)).cell? ⟨w8.heap.size, 1, none⟩ = some (.bool false) := new_cell2 _ _ _ _ _ _ rfl rfl
      have X_f1 : (w8.alloc (.cells #[.slice none 0 0, .bool false, .int .i64 0] 150)).frozen? ⟨w8.heap.size, 1, none⟩ = false := new_loose2 _ _ _ _ _ rfl
      have X_2 : (w8.alloc (.cells #[.slice none 0 0, .bool false, .int .i64 0] 150)).cell? ⟨w8.heap.size, 2, none⟩ = some (.int .i64 0) := new_cell2 _ _ _ _ _ _ rfl rfl
      have X_f2 : (w8.alloc (.cells #[.slice none 0 0, .bool false, .int .i64 0] 150)).frozen? ⟨w8.heap.size, 2, none⟩ = false := new_loose2 _ _ _ _ _ rfl
      clear hH
      refine hK.out _ _ ?_ (fun hH => ?_)
      ·exact ⟨p0, p1, p2, t0, t1, t2⟩
      clear hK KK
      try simp only [Act.put, zq1, zq2, zq3, zq4, zq5, zq6]
      generalize w8.alloc (.cells #[.slice none 0 0, .bool false, .int .i64 0] 150) = w10 at *
      refine wpAnyH_ready (rs := [5]) (by kernel_rfl) (by simp) ?_
      refine AllReadyH.cons rfl (fun KK hK => ?_) AllReadyH.nil
      ·simp only [zq1, zq2, zq3]
       rw [if_pos (by rfl)]
       go_simp
       have kn := (Kept.refl 0 0 w10).alloc (.cells #[.slice none 0 0, .bool false, .int .i64 0] 150)
       replace r1 := r1.kept kn (by omega)
       replace r2 := r2.kept kn (by omega)
       replace kw := kw.trans kn
       replace o3 := own_kept o3 kn
       replace o4 := own_kept o4 kn
       replace X_f0 := kn.loose0 (zbl X_0) X_f0
       replace X_f1 := kn.loose0 (zbl X_1) X_f1
       replace X_f2 := kn.loose0 (zbl X_2) X_f2
       replace p0 := kn.cell0 p0
       replace p1 := kn.cell0 p1
       replace p2 := kn.cell0 p2
       replace t0 := kn.cell0 t0
       replace t1 := kn.cell0 t1
       replace t2 := kn.cell0 t2
       replace X_0 := kn.cell0 X_0
       replace X_1 := kn.cell0 X_1
       replace X_2 := kn.cell0 X_2
       replace K := hide ((unhide K).trans kn)
       have z13 := kn.size
       clear kn
       have szY_ : w10.heap.size < (w10.alloc (.cells #[.slice none 0 0, .bool false, .int .i64 0] 150)).heap.size := by simp
       have Y_0 : (w10.alloc (.cells #[.slice none 0 0, .bool false, .int .i64 0] 150)).cell? ⟨w10.heap.size, 0, none⟩ = some (.slice none 0 0) := new_cell2 _ _ _ _ _ _ rfl rfl
       have Y_f0 : (w10.alloc (.cells #[.slice none 0 0, .bool false, .int .i64 0] 150)).frozen? ⟨w10.heap.size, 0, none⟩ = false := new_loose2 _ _ _ _ _ rfl
       have Y_1 : (w10.alloc (.cells #[.slice none 0 0, .bool false, .int .i64 0] 150)).cell? ⟨w10.heap.size, 1, none⟩ = some (.bool false) := new_cell2 _ _ _ _ _ _ rfl rfl
       have Y_f1 : (w10.alloc (.cells #[.slice none 0 0, .bool false, .int .i64 0] 150)).frozen? ⟨w10.heap.size, 1, none⟩ = false := new_loose2 _ _ _ _ _ rfl
       have Y_2 : (w10.alloc (.cells #[.slice none 0 0, .bool false, .int .i64 0] 150)).cell? ⟨w10.heap.size, 2, none⟩ = some (.int .i64 0) := new_cell2 _ _ _ _ _ _ rfl rfl
       have Y_f2 : (w10.alloc (.cells #[.slice none 0 0, .bool false, .int .i64 0] 150)).frozen? ⟨w10.heap.size, 2, none⟩ = false := new_loose2 _ _ _ _ _ rfl
       clear hH
       refine hK.out _ _ ?_ (fun hH => ?_)
       ·exact ⟨p0, p1, p2, t0, t1, t2⟩
       clear hK KK
       try simp only [Act.put, zq1, zq2, zq3, zq4, zq5, zq6]
       generalize w10.alloc (.cells #[.slice none 0 0, .bool false, .int .i64 0] 150) = w12 at *
       refine wpAnyH_ready (rs := [6]) (by kernel_rfl) (by simp) ?_
       refine AllReadyH.cons rfl (fun KK hK => ?_) AllReadyH.nil
       simp only [zq1, zq2, zq3]
       rw [if_pos (by rfl)]
       go_simp
       clear hH
       refine hK.out _ _ ?_ (fun hH => ?_)
       ·exact ⟨(cw3 (by have := unhide S0; dsimp only; omega) p0), (cw3 (by have := unhide S0; dsimp only; omega) p1), (cw3 (by have := unhide S0; dsimp only; omega) p2), (cw3 (by have := unhide S0; dsimp only; omega) t0), (cw3 (by have := unhide S0; dsimp only; omega) t1), (cw3 (by have := unhide S0; dsimp only; omega) t2)⟩
       clear hK KK
       try simp only [Act.put, zq1, zq2, zq3, zq4, zq5, zq6]
       refine wpAnyH_ready (rs := [7]) (by kernel_rfl) (by simp) ?_
       refine AllReadyH.cons rfl (fun KK hK => ?_) AllReadyH.nil
       simp only [zq1, zq2, zq3]
       rw [if_pos (by rfl)]
       go_simp
       clear hH
       refine hK.out _ _ ?_ (fun hH => ?_)
       ·exact ⟨(cw6 (by have := unhide S0; dsimp only; omega) p0), (cw6 (by have := unhide S0; dsimp only; omega) p1), (cw6 (by have := unhide S0; dsimp only; omega) p2), (cw6 (by have := unhide S0; dsimp only; omega) t0), (cw6 (by have := unhide S0; dsimp only; omega) t1), (cw6 (by have := unhide S0; dsimp only; omega) t2)⟩
       clear hK KK
       try simp only [Act.put, zq1, zq2, zq3, zq4, zq5, zq6]
       refine wpAnyH_done (by kernel_rfl) ?_ _
       clear hH
       go_wp2_with fail
       go_meet
       exact ⟨_, _, rfl, rfl, dya_pair s1 s2 x1 x2 kw o3 o4 X_0 X_1 X_2 X_f0 X_f1 X_f2 Y_0 Y_1 Y_2 Y_f0 Y_f1 Y_f2 (by omega) (by omega) (by omega) (by omega) (by omega) (fun e => by have := l3 _ e; omega) (fun e => by have := l3 _ e; omega) (fun e => by have := l4 _ e; omega) (fun e => by have := l4 _ e; omega) (fun k e1 e2 => by have := l3 _ e1; have := l4 _ e2; omega)⟩
     ·simp only [zq1, zq2, zq3]
      rw [if_pos (by rfl)]
      go_simp
      have kn := (Kept.refl 0 0 w8).alloc (.cells #[.slice none 0 0, .bool false, .int .i64 0] 150)
      replace r1 := r1.kept kn (by omega)
      replace r2 := r2.kept kn (by omega)
      replace kw := kw.trans kn
      replace o3 := own_kept o3 kn
      replace o4 := own_kept o4 kn
      replace p0 := kn.cell0 p0
      replace p1 := kn.cell0 p1
      replace p2 := kn.cell0 p2
      replace t0 := kn.cell0 t0
      replace t1 := kn.cell0 t1
      replace t2 := kn.cell0 t2
      replace K := hide ((unhide K).trans kn)
      have z11 := kn.size
      clear kn
      have szY_ : w8.heap.size < (w8.alloc (.cells #[.slice none 0 0, .bool false, .int .i64 0] 150)).heap.size := by simp
      have Y_0 : (w8.alloc (.cells #[.slice none 0 0, .bool false, .int .i64 0] 150)).cell? ⟨w8.heap.size, 0, none⟩ = some (.slice none 0 0) := new_cell2 _ _ _ _ _ _ rfl rfl
      have Y_f0 : (w8.alloc (.cells #[.slice none 0 0, .bool false, .int .i64 0] 150)).frozen? ⟨w8.heap.size, 0, none⟩ = false := new_loose2 _ _ _ _ _ rfl
      have Y_1 : (w8.alloc (.cells #[.slice none 0 0, .bool false, .int .i64 0] 150)).cell? ⟨w8.heap.size, 1, none⟩ = some (.bool false) := new_cell2 _ _ _ _ _ _ rfl rfl
      have Y_f1 : (w8.alloc (.cells #[.slice none 0 0, .bool false, .int .i64 0] 150)).frozen? ⟨w8.heap.size, 1, none⟩ = false := new_loose2 _ _ _ _ _ rfl
      have Y_2 : (w8.alloc (.cells #[.slice none 0 0, .bool false, .int .i64 0] 150)).cell? ⟨w8.heap.size, 2, none⟩ = some (.int .i64 0) := new_cell2 _ _ _ _ _ _ rfl rfl
      have Y_f2 : (w8.alloc (.cells #[.slice none 0 0, .bool false, .int .i64 0] 150)).frozen? ⟨w8.heap.size, 2, none⟩ = false := new_loose2 _ _ _ _ _ rfl
      clear hH
      refine hK.out _ _ ?_ (fun hH => ?_)
      ·exact ⟨p0, p1, p2, t0, t1, t2⟩
      clear hK KK
      try simp only [Act.put, zq1, zq2, zq3, zq4, zq5, zq6]
      generalize w8.alloc (.cells #[.slice none 0 0, .bool false, .int .i64 0] 150) = w10 at *
      refine wpAnyH_ready (rs := [4]) (by kernel_rfl) (by simp) ?_
      refine AllReadyH.cons rfl (fun KK hK => ?_) AllReadyH.nil
      ·simp only [zq1, zq2, zq3]
       rw [if_pos (by rfl)]
       go_simp
       have kn := (Kept.refl 0 0 w10).alloc (.cells #[.slice none 0 0, .bool false, .int .i64 0] 150)
       replace r1 := r1.kept kn (by omega)
       replace r2 := r2.kept kn (by omega)
       replace kw := kw.trans kn
       replace o3 := own_kept o3 kn
       replace o4 := own_kept o4 kn
       replace Y_f0 := kn.loose0 (zbl Y_0) Y_f0
       replace Y_f1 := kn.loose0 (zbl Y_1) Y_f1
       replace Y_f2 := kn.loose0 (zbl Y_2) Y_f2
       replace p0 := kn.cell0 p0
       replace p1 := kn.cell0 p1
       replace p2 := kn.cell0 p2
       replace t0 := kn.cell0 t0
       replace t1 := kn.cell0 t1
       replace t2 := kn.cell0 t2
       replace Y_0 := kn.cell0 Y_0
       replace Y_1 := kn.cell0 Y_1
       replace Y_2 := kn.cell0 Y_2
       replace K := hide ((unhide K).trans kn)
       have z13 := kn.size
       clear kn
       have szX_ : w10.heap.size < (w10.alloc (.cells #[.slice none 0 0, .bool false, .int .i64 0] 150)).heap.size := by simp
       have X_0 : (w10.alloc (.cells #[.slice none 0 0, .bool false, .int .i64 0] 150)).cell? ⟨w10.heap.size, 0, none⟩ = some (.slice none 0 0) := new_cell2 _ _ _ _ _ _ rfl rfl
       have X_f0 : (w10.alloc (.cells #[.slice none 0 0, .bool false, .int .i64 0] 150)).frozen? ⟨w10.heap.size, 0, none⟩ = false := new_loose2 _ _ _ _ _ rfl
       have X_1 : (w10.alloc (.cells #[.slice none 0 0, .bool false, .int .i64 0] 150)).cell? ⟨w10.heap.size, 1, none⟩ = some (.bool false) := new_cell2 _ _ _ _ _ _ rfl rfl
       have X_f1 : (w10.alloc (.cells #[.slice none 0 0, .bool false, .int .i64 0] 150)).frozen? ⟨w10.heap.size, 1, none⟩ = false := new_loose2 _ _ _ _ _ rfl
       have X_2 : (w10.alloc (.cells #[.slice none 0 0, .bool false, .int .i64 0] 150)).cell? ⟨w10.heap.size, 2, none⟩ = some (.int .i64 0) := new_cell2 _ _ _ _ _ _ rfl rfl
       have X_f2 : (w10.alloc (.cells #[.slice none 0 0, .bool false, .int .i64 0] 150)).frozen? ⟨w10.heap.size, 2, none⟩ = false := new_loose2 _ _ _ _ _ rfl
       clear hH
       refine hK.out _ _ ?_ (fun hH => ?_)
       ·exact ⟨p0, p1, p2, t0, t1, t2⟩
       clear hK KK
       try simp only [Act.put, zq1, zq2, zq3, zq4, zq5, zq6]
       generalize w10.alloc (.cells #[.slice none 0 0, .bool false, .int .i64 0] 150) = w12 at *
       refine wpAnyH_ready (rs := [6]) (by kernel_rfl) (by simp) ?_
       refine AllReadyH.cons rfl (fun KK hK => ?_) AllReadyH.nil
       simp only [zq1, zq2, zq3]
       rw [if_pos (by rfl)]
       go_simp
       clear hH
       refine hK.out _ _ ?_ (fun hH => ?_)
       ·exact ⟨(cw3 (by have := unhide S0; dsimp only; omega) p0), (cw3 (by have := unhide S0; dsimp only; omega) p1), (cw3 (by have := unhide S0; dsimp only; omega) p2), (cw3 (by have := unhide S0; dsimp only; omega) t0), (cw3 (by have := unhide S0; dsimp only; omega) t1), (cw3 (by have := unhide S0; dsimp only; omega) t2)⟩
       clear hK KK
       try simp only [Act.put, zq1, zq2, zq3, zq4, zq5, zq6]
       refine wpAnyH_ready (rs := [7]) (by kernel_rfl) (by simp) ?_
       refine AllReadyH.cons rfl (fun KK hK => ?_) AllReadyH.nil
       simp only [zq1, zq2, zq3]
       rw [if_pos (by rfl)]
       go_simp
       clear hH
       refine hK.out _ _ ?_ (fun hH => ?_)
       ·exact ⟨(cw6 (by have := unhide S0; dsimp only; omega) p0), (cw6 (by have := unhide S0; dsimp only; omega) p1), (cw6 (by have := unhide S0; dsimp only; omega) p2), (cw6 (by have := unhide S0; dsimp only; omega) t0), (cw6 (by have := unhide S0; dsimp only; omega) t1), (cw6 (by have := unhide S0; dsimp only; omega) t2)⟩
       clear hK KK
       try simp only [Act.put, zq1, zq2, zq3, zq4, zq5, zq6]
       refine wpAnyH_done (by kernel_rfl) ?_ _
       clear hH
       go_wp2_with fail
       go_meet
       exact ⟨_, _, rfl, rfl, dya_pair s1 s2 x1 x2 kw o3 o4 X_0 X_1 X_2 X_f0 X_f1 X_f2 Y_0 Y_1 Y_2 Y_f0 Y_f1 Y_f2 (by omega) (by omega) (by omega) (by omega) (by omega) (fun e => by have := l3 _ e; omega) (fun e => by have := l3 _ e; omega) (fun e => by have := l4 _ e; omega) (fun e => by have := l4 _ e; omega) (fun k e1 e2 => by have := l3 _ e1; have := l4 _ e2; omega)⟩
    ·simp only [zq1, zq2, zq3]
     rw [if_pos (by rfl)]
     go_simp
     have kn := (Kept.refl 0 0 w6).alloc (.cells #[.slice none 0 0, .bool false, .int .i64 0] 150)
     replace r1 := r1.kept kn (by omega)
     replace r2 := r2.kept kn (by omega)
     replace kw := kw.trans kn
     replace o3 := own_kept o3 kn
     replace p0 := kn.cell0 p0
     replace p1 := kn.cell0 p1
     replace p2 := kn.cell0 p2
     replace t0 := kn.cell0 t0
     replace t1 := kn.cell0 t1
     replace t2 := kn.cell0 t2
     replace K := hide ((unhide K).trans kn)
     have z9 := kn.size
     clear kn
     have szX_ : w6.heap.size < (w6.alloc (.cells #[.slice none 0 0, .bool false, .int .i64 0] 150)).heap.size := by simp
     have X_0 : (w6.alloc (.cells #[.slice none 0 0, .bool false, .int .i64 0] 150)).cell? ⟨w6.heap.size, 0, none⟩ = some (.slice none 0 0) := new_cell2 _ _ _ _ _ _ rfl rfl
     have X_f0 : (w6.alloc (.cells #[.slice none 0 0, .bool false, .int .i64 0] 150)).frozen? ⟨w6.heap.size, 0, none⟩ = false := new_loose2 _ _ _ _ _ rfl
     have X_1 : (w6.alloc (.cells #[.slice none 0 0, .bool false, .int .i64 0] 150)).cell? ⟨w6.heap.size, 1, none⟩ = some (.bool false) := new_cell2 _ _ _ _ _ _ rfl rfl
     have X_f1 : (w6.alloc (.cells #[.slice none 0 0, .bool false, .int .i64 0] 150)).frozen? ⟨w6.heap.size, 1, none⟩ = false := new_loose2 _ _ _ _ _ rfl
     have X_2 : (w6.alloc (.cells #[.slice none 0 0, .bool false, .int .i64 0] 150)).cell? ⟨w6.heap.size, 2, none⟩ = some (.int .i64 0) := new_cell2 _ _ _ _ _ _ rfl rfl
     have X_f2 : (w6.alloc (.cells #[.slice none 0 0, .bool false, .int .i64 0] 150)).frozen? ⟨w6.heap.size, 2, none⟩ = false := new_loose2 _ _ _ _ _ rfl
     clear hH
     refine hK.out _ _ ?_ (fun hH => ?_)
     ·exact ⟨p0, p1, p2, t0, t1, t2⟩
     clear hK KK
     try simp only [Act.put, zq1, zq2, zq3, zq4, zq5, zq6]
     generalize w6.alloc (.cells #[.slice none 0 0, .bool false, .int .i64 0] 150) = w8 at *
     refine wpAnyH_ready (rs := [3, 5]) (by kernel_rfl) (by simp) ?_
     refine AllReadyH.cons rfl (fun KK hK => ?_) (AllReadyH.cons rfl (fun KK hK => ?_) AllReadyH.nil)
     ·simp only [zq1, zq2, zq3]
      rw [if_pos (by rfl)]
      refine wps1 129 (.tmp 17) _ rfl in_dyadicOf (.agg #[.bool s2, .slice a2 ys.length c2, .int .i64 x2]) rfl (dyadicOf_impl s2 x2 _ r2 my) ?_
      rintro e w10 ⟨v4, rfl, o4, k10⟩
      refine ⟨_, rfl, ?_⟩
      replace r1 := r1.kept k10 (by omega)
      replace r2 := r2.kept k10 (by omega)
      replace kw := kw.trans k10
      replace o3 := own_kept o3 k10
      replace X_f0 := k10.loose0 (zbl X_0) X_f0
      replace X_f1 := k10.loose0 (zbl X_1) X_f1
      replace X_f2 := k10.loose0 (zbl X_2) X_f2
      replace p0 := k10.cell0 p0
      replace p1 := k10.cell0 p1
      replace p2 := k10.cell0 p2
      replace t0 := k10.cell0 t0
      replace t1 := k10.cell0 t1
      replace t2 := k10.cell0 t2
      replace X_0 := k10.cell0 X_0
      replace X_1 := k10.cell0 X_1
      replace X_2 := k10.cell0 X_2
      replace K := hide ((unhide K).trans k10)
      have z11 := k10.size
      clear k10
      have l4 := o4.lt
      obtain ⟨a4, c4, hv⟩ := own_slice o4
      subst hv
      clear hH
      refine hK.out _ _ ?_ (fun hH => ?_)
      ·exact ⟨p0, p1, p2, t0, t1, t2⟩
      clear hK KK
      try simp only [Act.put, zq1, zq2, zq3, zq4, zq5, zq6]
      refine wpAnyH_ready (rs := [5]) (by kernel_rfl) (by simp) ?_
      refine AllReadyH.cons rfl (fun KK hK => ?_) AllReadyH.nil
      ·simp only [zq1, zq2, zq3]
       rw [if_pos (by rfl)]
       go_simp
       have kn := (Kept.refl 0 0 w10).alloc (.cells #[.slice none 0 0, .bool false, .int .i64 0] 150)
       replace r1 := r1.kept kn (by omega)
       replace r2 := r2.kept kn (by omega)
       replace kw := kw.trans kn
       replace o3 := own_kept o3 kn
       replace o4 := own_kept o4 kn
       replace X_f0 := kn.loose0 (zbl X_0) X_f0
       replace X_f1 := kn.loose0 (zbl X_1) X_f1
       replace X_f2 := kn.loose0 (zbl X_2) X_f2
       replace p0 := kn.cell0 p0
       replace p1 := kn.cell0 p1
       replace p2 := kn.cell0 p2
       replace t0 := kn.cell0 t0
       replace t1 := kn.cell0 t1
       replace t2 := kn.cell0 t2
       replace X_0 := kn.cell0 X_0
       replace X_1 := kn.cell0 X_1
       replace X_2 := kn.cell0 X_2
       replace K := hide ((unhide K).trans kn)
       have z13 := kn.size
       clear kn
       have szY_ : w10.heap.size < (w10.alloc (.cells #[.slice none 0 0, .bool false, .int .i64 0] 150)).heap.size := by simp
       have Y_0 : (w10.alloc (.cells #[.slice none 0 0, .bool false, .int .i64 0] 150)).cell? ⟨w10.heap.size, 0, none⟩ = some (.slice none 0 0) := new_cell2 _ _ _ _ _ _ rfl rfl
       have Y_f0 : (w10.alloc (.cells #[.slice none 0 0, .bool false, .int .i64 0] 150)).frozen? ⟨w10.heap.size, 0, none⟩ = false := new_loose2 _ _ _ _ _ rfl
       have Y_1 : (w10.alloc (.cells #[.slice none 0 0, .bool false, .int .i64 0] 150)).cell? ⟨w10.heap.size, 1, none⟩ = some (.bool false) := new_cell2 _ _ _ _ _ _ rfl rfl
       have Y_f1 : (w10.alloc (.cells #[.slice none 0 0, .bool false, .int .i64 0] 150)).frozen? ⟨w10.heap.size, 1, none⟩ = false := new_loose2 _ _ _ _ _ rfl
       have Y_2 : (w10.alloc (.cells #[.slice none 0 0, .bool false, .int .i64 0] 150)).cell? ⟨w10.heap.size, 2, none⟩ = some (.int .i64 0) := new_cell2 _ _ _ _ _ _ rfl rfl
       have Y_f2 : (w10.alloc (.cells #[.slice none 0 0, .bool false, .int .i64 0] 150)).frozen? ⟨w10.heap.size, 2, none⟩ = false := new_loose2 _ _ _ _ _ rfl
       clear hH
       refine hK.out _ _ ?_ (fun hH => ?_)
       ·exact ⟨p0, p1, p2, t0, t1, t2⟩
       clear hK KK
       try simp only [Act.put, zq1, zq2, zq3, zq4, zq5, zq6]
       generalize w10.alloc (.cells #[.slice none 0 0, .bool false, .int .i64 0] 150) = w12 at *
       refine wpAnyH_ready (rs := [6]) (by kernel_rfl) (by simp) ?_
       refine AllReadyH.cons rfl (fun KK hK => ?_) AllReadyH.nil
       simp only [zq1, zq2, zq3]
       rw [if_pos (by rfl)]
       go_simp
       clear hH
       refine hK.out _ _ ?_ (fun hH => ?_)
       ·exact ⟨(cw3 (by have := unhide S0; dsimp only; omega) p0), (cw3 (by have := unhide S0; dsimp only; omega) p1), (cw3 (by have := unhide S0; dsimp only; omega) p2), (cw3 (by have := unhide S0; dsimp only; omega) t0), (cw3 (by have := unhide S0; dsimp only; omega) t1), (cw3 (by have := unhide S0; dsimp only; omega) t2)⟩
       clear hK KK
       try simp only [Act.put, zq1, zq2, zq3, zq4, zq5, zq6]
       refine wpAnyH_ready (rs := [7]) (by kernel_rfl) (by simp) ?_
       refine AllReadyH.cons rfl (fun KK hK => ?_) AllReadyH.nil
       simp only [zq1, zq2, zq3]
       rw [if_pos (by rfl)]
       go_simp
       clear hH
       refine hK.out _ _ ?_ (fun hH => ?_)
       ·exact ⟨(cw6 (by have := unhide S0; dsimp only; omega) p0), (cw6 (by have := unhide S0; dsimp only; omega) p1), (cw6 (by have := unhide S0; dsimp only; omega) p2), (cw6 (by have := unhide S0; dsimp only; omega) t0), (cw6 (by have := unhide S0; dsimp only; omega) t1), (cw6 (by have := unhide S0; dsimp only; omega) t2)⟩
       clear hK KK
       try simp only [Act.put, zq1, zq2, zq3, zq4, zq5, zq6]
       refine wpAnyH_done (by kernel_rfl) ?_ _
       clear hH
       go_wp2_with fail
       go_meet
       exact ⟨_, _, rfl, rfl, dya_pair s1 s2 x1 x2 kw o3 o4 X_0 X_1 X_2 X_f0 X_f1 X_f2 Y_0 Y_1 Y_2 Y_f0 Y_f1 Y_f2 (by omega) (by omega) (by omega) (by omega) (by omega) (fun e => by have := l3 _ e; omega) (fun e => by have := l3 _ e; omega) (fun e => by have := l4 _ e; omega) (fun e => by have := l4 _ e; omega) (fun k e1 e2 => by have := l3 _ e1; have := l4 _ e2; omega)⟩
     ·simp only [zq1, zq2, zq3]
      rw [if_pos (by rfl)]
      go_simp
      have kn := (Kept.refl 0 0 w8).alloc (.cells #[.slice none 0 0, .bool false, .int .i64 0] 150)
      replace r1 := r1.kept kn (by omega)
      replace r2 := r2.kept kn (by omega)
      replace kw := kw.trans kn
      replace o3 := own_kept o3 kn
      replace X_f0 := kn.loose0 (zbl X_0) X_f0
      replace X_f1 := kn.loose0 (zbl X_1) X_f1
      replace X_f2 := kn.loose0 (zbl X_2) X_f2
      replace p0 := kn.cell0 p0
      replace p1 := kn.cell0 p1
      replace p2 := kn.cell0 p2
      replace t0 := kn.cell0 t0
      replace t1 := kn.cell0 t1
      replace t2 := kn.cell0 t2
      replace X_0 := kn.cell0 X_0
      replace X_1 := kn.cell0 X_1
      replace X_2 := kn.cell0 X_2
      replace K := hide ((unhide K).trans kn)
      have z11 := kn.size
      clear kn
      have szY_ : w8.heap.size < (w8.alloc (.cells #[.slice none 0 0, .bool false, .int .i64 0] 150)).heap.size := by simp
      have Y_0 : (w8.alloc (.cells #[.slice none 0 0, .bool false, .int .i64 0] 150)).cell? ⟨w8.heap.size, 0, none⟩ = some (.slice none 0 0) := new_cell2 _ _ _ _ _ _ rfl rfl
      have Y_f0 : (w8.alloc (.cells #[.slice none 0 0, .bool false, .int .i64 0] 150)).frozen? ⟨w8.heap.size, 0, none⟩ = false := new_loose2 _ _ _ _ _ rfl
      have Y_1 : (w8.alloc (.cells #[.slice none 0 0, .bool false, .int .i64 0] 150)).cell? ⟨w8.heap.size, 1, none⟩ = some (.bool false) := new_cell2 _ _ _ _ _ _ rfl rfl
      have Y_f1 : (w8.alloc (.cells #[.slice none 0 0, .bool false, .int .i64 0] 150)).frozen? ⟨w8.heap.size, 1, none⟩ = false := new_loose2 _ _ _ _ _ rfl
      have Y_2 : (w8.alloc (.cells #[.slice none 0 0, .bool false, .int .i64 0] 150)).cell? ⟨w8.heap.size, 2, none⟩ = some (.int .i64 0) := new_cell2 _ _ _ _ _ _ rfl rfl
      have Y_f2 : (w8.alloc (.cells #[.slice none 0 0, .bool false, .int .i64 0] 150)).frozen? ⟨w8.heap.size, 2, none⟩ = false := new_loose2 _ _ _ _ _ rfl
      clear hH
      refine hK.out _ _ ?_ (fun hH => ?_)
      ·exact ⟨p0, p1, p2, t0, t1, t2⟩
      clear hK KK
      try simp only [Act.put, zq1, zq2, zq3, zq4, zq5, zq6]
      generalize w8.alloc (.cells #[.slice none 0 0, .bool false, .int .i64 0] 150) = w10 at *
      refine wpAnyH_ready (rs := [3]) (by kernel_rfl) (by simp) ?_
      refine AllReadyH.cons rfl (fun KK hK => ?_) AllReadyH.nil
      ·simp only [zq1, zq2, zq3]
       rw [if_pos (by rfl)]
       refine wps1 129 (.tmp 17) _ rfl in_dyadicOf (.agg #[.bool s2, .slice a2 ys.length c2, .int .i64 x2]) rfl (dyadicOf_impl s2 x2 _ r2 my) ?_
       rintro e w12 ⟨v4, rfl, o4, k12⟩
       refine ⟨_, rfl, ?_⟩
       replace r1 := r1.kept k12 (by omega)
       replace r2 := r2.kept k12 (by omega)
       replace kw := kw.trans k12
       replace o3 := own_kept o3 k12
       replace X_f0 := k12.loose0 (zbl X_0) X_f0
       replace X_f1 := k12.loose0 (zbl X_1) X_f1
       replace X_f2 := k12.loose0 (zbl X_2) X_f2
       replace Y_f0 := k12.loose0 (zbl Y_0) Y_f0
       replace Y_f1 := k12.loose0 (zbl Y_1) Y_f1
       replace Y_f2 := k12.loose0 (zbl Y_2) Y_f2
       replace p0 := k12.cell0 p0
       replace p1 := k12.cell0 p1
       replace p2 := k12.cell0 p2
       replace t0 := k12.cell0 t0
       replace t1 := k12.cell0 t1
       replace t2 := k12.cell0 t2
       replace X_0 := k12.cell0 X_0
       replace X_1 := k12.cell0 X_1
       replace X_2 := k12.cell0 X_2
       replace Y_0 := k12.cell0 Y_0
       replace Y_1 := k12.cell0 Y_1
       replace Y_2 := k12.cell0 Y_2
       replace K := hide ((unhide K).trans k12)
       have z13 := k12.size
       clear k12
       have l4 := o4.lt
       obtain ⟨a4, c4, hv⟩ := own_slice o4
       subst hv
       clear hH
       refine hK.out _ _ ?_ (fun hH => ?_)
       ·exact ⟨p0, p1, p2, t0, t1, t2⟩
       clear hK KK
       try simp only [Act.put, zq1, zq2, zq3, zq4, zq5, zq6]
       refine wpAnyH_ready (rs := [6]) (by kernel_rfl) (by simp) ?_
       refine AllReadyH.cons rfl (fun KK hK => ?_) AllReadyH.nil
       simp only [zq1, zq2, zq3]
       rw [if_pos (by rfl)]
       go_simp
       clear hH
       refine hK.out _ _ ?_ (fun hH => ?_)
       ·exact ⟨(cw3 (by have := unhide S0; dsimp only; omega) p0), (cw3 (by have := unhide S0; dsimp only; omega) p1), (cw3 (by have := unhide S0; dsimp only; omega) p2), (cw3 (by have := unhide S0; dsimp only; omega) t0), (cw3 (by have := unhide S0; dsimp only; omega) t1), (cw3 (by have := unhide S0; dsimp only; omega) t2)⟩
       clear hK KK
       try simp only [Act.put, zq1, zq2, zq3, zq4, zq5, zq6]
       refine wpAnyH_ready (rs := [7]) (by kernel_rfl) (by simp) ?_
       refine AllReadyH.cons rfl (fun KK hK => ?_) AllReadyH.nil
       simp only [zq1, zq2, zq3]
       rw [if_pos (by rfl)]
       go_simp
       clear hH
       refine hK.out _ _ ?_ (fun hH => ?_)
       ·exact ⟨(cw6 (by have := unhide S0; dsimp only; omega) p0), (cw6 (by have := unhide S0; dsimp only; omega) p1), (cw6 (by have := unhide S0; dsimp only; omega) p2), (cw6 (by have := unhide S0; dsimp only; omega) t0), (cw6 (by have := unhide S0; dsimp only; omega) t1), (cw6 (by have := unhide S0; dsimp only; omega) t2)⟩
       clear hK KK
       try simp only [Act.put, zq1, zq2, zq3, zq4, zq5, zq6]
       refine wpAnyH_done (by kernel_rfl) ?_ _
       clear hH
       go_wp2_with fail
       go_meet
       exact ⟨_, _, rfl, rfl, dya_pair s1 s2 x1 x2 kw o3 o4 X_0 X_1 X_2 X_f0 X_f1 X_f2 Y_0 Y_1 Y_2 Y_f0 Y_f1 Y_f2 (by omega) (by omega) (by omega) (by omega) (by omega) (fun e => by have := l3 _ e; omega) (fun e => by have := l3 _ e; omega) (fun e => by have := l4 _ e; omega) (fun e => by have := l4 _ e; omega) (fun k e1 e2 => by have := l3 _ e1; have := l4 _ e2; omega)⟩
    ·simp only [zq1, zq2, zq3]
     rw [if_pos (by rfl)]
     go_simp
     have kn := (Kept.refl 0 0 w6).alloc (.cells #[.slice none 0 0, .bool false, .int .i64 0] 150)
     replace r1 := r1.kept kn (by omega)
     replace r2 := r2.kept kn (by omega)
     replace kw := kw.trans kn
     replace o3 := own_kept o3 kn
     replace p0 := kn.cell0 p0
     replace p1 := kn.cell0 p1
     replace p2 := kn.cell0 p2
     replace t0 := kn.cell0 t0
     replace t1 := kn.cell0 t1
     replace t2 := kn.cell0 t2
     replace K := hide ((unhide K).trans kn)
     have z9 := kn.size
     clear kn
     have szY_ : w6.heap.size < (w6.alloc (.cells #[.slice none 0 0, .bool false, .int .i64 0] 150)).heap.size := by simp
     have Y_0 : (w6.alloc (.cells #[.slice none 0 0, .bool false, .int .i64 0] 150)).cell? ⟨w6.heap.size, 0, none⟩ = some (.slice none 0 0) := new_cell2 _ _ _ _ _ _ rfl rfl
     have Y_f0 : (w6.alloc (.cells #[.slice none 0 0, .bool false, .int .i64 0] 150)).frozen? ⟨w6.heap.size, 0, none⟩ = false := new_loose2 _ _ _ _ _ rfl
     have Y_1 : (w6.alloc (.cells #[.slice none 0 0, .bool false, .int .i64 0] 150)).cell? ⟨w6.heap.size, 1, none⟩ = some (.bool false) := new_cell2 _ _ _ _ _ _ rfl rfl
     have Y_f1 : (w6.alloc (.cells #[.slice none 0 0, .bool false, .int .i64 0] 150)).frozen? ⟨w6.heap.size, 1, none⟩ = false := new_loose2 _ _ _ _ _ rfl
     have Y_2 : (w6.alloc (.cells #[.slice none 0 0, .bool false, .int .i64 0] 150)).cell? ⟨w6.heap.size, 2, none⟩ = some (.int .i64 0) := new_cell2 _ _ _ _ _ _ rfl rfl
     have Y_f2 : (w6.alloc (.cells #[.slice none 0 0, .bool false, .int .i64 0] 150)).frozen? ⟨w6.heap.size, 2, none⟩ = false := new_loose2 _ _ _ _ _ rfl
     clear hH
     refine hK.out _ _ ?_ (fun hH => ?_)
     ·exact ⟨p0, p1, p2, t0, t1, t2⟩
     clear hK KK
     try simp only [Act.put, zq1, zq2, zq3, zq4, zq5, zq6]
     generalize w6.alloc (.cells #[.slice none 0 0, .bool false, .int .i64 0] 150) = w8 at *
     refine wpAnyH_ready (rs := [3, 4]) (by kernel_rfl) (by simp) ?_
     refine AllReadyH.cons rfl (fun KK hK => ?_) (AllReadyH.cons rfl (fun KK hK => ?_) AllReadyH.nil)
     ·simp only [zq1, zq2, zq3]
      rw [if_pos (by rfl)]
      refine wps1 129 (.tmp 17) _ rfl in_dyadicOf (.agg #[.bool s2, .slice a2 ys.length c2, .int .i64 x2]) rfl (dyadicOf_impl s2 x2 _ r2 my) ?_
      rintro e w10 ⟨v4, rfl, o4, k10⟩
      refine ⟨_, rfl, ?_⟩
      replace r1 := r1.kept k10 (by omega)
      replace r2 := r2.kept k10 (by omega)
      replace kw := kw.trans k10
      replace o3 := own_kept o3 k10
      replace Y_f0 := k10.loose0 (zbl Y_0) Y_f0
      replace Y_f1 := k10.loose0 (zbl Y_1) Y_f1
      replace Y_f2 := k10.loose0 (zbl Y_2) Y_f2
      replace p0 := k10.cell0 p0
      replace p1 := k10.cell0 p1
      replace p2 := k10.cell0 p2
      replace t0 := k10.cell0 t0
      replace t1 := k10.cell0 t1
      replace t2 := k10.cell0 t2
      replace Y_0 := k10.cell0 Y_0
      replace Y_1 := k10.cell0 Y_1
      replace Y_2 := k10.cell0 Y_2
      replace K := hide ((unhide K).trans k10)
      have z11 := k10.size
      clear k10
      have l4 := o4.lt
      obtain ⟨a4, c4, hv⟩ := own_slice o4
      subst hv
      clear hH
      refine hK.out _ _ ?_ (fun hH => ?_)
      ·exact ⟨p0, p1, p2, t0, t1, t2⟩
      clear hK KK
      try simp only [Act.put, zq1, zq2, zq3, zq4, zq5, zq6]
      refine wpAnyH_ready (rs := [4]) (by kernel_rfl) (by simp) ?_
      refine AllReadyH.cons rfl (fun KK hK => ?_) AllReadyH.nil
      ·simp only [zq1, zq2, zq3]
       rw [if_pos (by rfl)]
       go_simp
       have kn := (Kept.refl 0 0 w10).alloc (.cells #[.slice none 0 0, .bool false, .int .i64 0] 150)
       replace r1 := r1.kept kn (by omega)
       replace r2 := r2.kept kn (by omega)
       replace kw := kw.trans kn
       replace o3 := own_kept o3 kn
       replace o4 := own_kept o4 kn
       replace Y_f0 := kn.loose0 (zbl Y_0) Y_f0
       replace Y_f1 := kn.loose0 (zbl Y_1) Y_f1
       replace Y_f2 := kn.loose0 (zbl Y_2) Y_f2
       replace p0 := kn.cell0 p0
       replace p1 := kn.cell0 p1
       replace p2 := kn.cell0 p2
       replace t0 := kn.cell0 t0
       replace t1 := kn.cell0 t1
       replace t2 := kn.cell0 t2
       replace Y_0 := kn.cell0 Y_0
       replace Y_1 := kn.cell0 Y_1
       replace Y_2 := kn.cell0 Y_2
       replace K := hide ((unhide K).trans kn)
       have z13 := kn.size
       clear kn
       have szX_ : w10.heap.size < (w10.alloc (.cells #[.slice none 0 0, .bool false, .int .i64 0] 150)).heap.size := by simp
       have X_0 : (w10.alloc (.cells #[.slice none 0 0, .bool false, .int .i64 0] 150)).cell? ⟨w10.heap.size, 0, none⟩ = some (.slice none 0 0) := new_cell2 _ _ _ _ _ _ rfl rfl
       have X_f0 : (w10.alloc (.cells #[.slice none 0 0, .bool false, .int .i64 0] 150)).frozen? ⟨w10.heap.size, 0, none⟩ = false := new_loose2 _ _ _ _ _ rfl
       have X_1 : (w10.alloc (.cells #[.slice none 0 0, .bool false, .int .i64 0] 150)).cell? ⟨w10.heap.size, 1, none⟩ = some (.bool false) := new_cell2 _ _ _ _ _ _ rfl rfl
       have X_f1 : (w10.alloc (.cells #[.slice none 0 0, .bool false, .int .i64 0] 150)).frozen? ⟨w10.heap.size, 1, none⟩ = false := new_loose2 _ _ _ _ _ rfl
       have X_2 : (w10.alloc (.cells #[.slice none 0 0, .bool false, .int .i64 0] 150)).cell? ⟨w10.heap.size, 2, none⟩ = some (.int .i64 0) := new_cell2 _ _ _ _ _ _ rfl rfl
       have X_f2 : (w10.alloc (.cells #[.slice none 0 0, .bool false, .int .i64 0] 150)).frozen? ⟨w10.heap.size, 2, none⟩ = false := new_loose2 _ _ _ _ _ rfl
       clear hH
       refine hK.out _ _ ?_ (fun hH => ?_)
       ·exact ⟨p0, p1, p2, t0, t1, t2⟩
       clear hK KK
       try simp only [Act.put, zq1, zq2, zq3, zq4, zq5, zq6]
       generalize w10.alloc (.cells #[.slice none 0 0, .bool false, .int .i64 0] 150) = w12 at *
       refine wpAnyH_ready (rs := [6]) (by kernel_rfl) (by simp) ?_
       refine AllReadyH.cons rfl (fun KK hK => ?_) AllReadyH.nil
       simp only [zq1, zq2, zq3]
       rw [if_pos (by rfl)]
       go_simp
       clear hH
       refine hK.out _ _ ?_ (fun hH => ?_)
       ·exact ⟨(cw3 (by have := unhide S0; dsimp only; omega) p0), (cw3 (by have := unhide S0; dsimp only; omega) p1), (cw3 (by have := unhide S0; dsimp only; omega) p2), (cw3 (by have := unhide S0; dsimp only; omega) t0), (cw3 (by have := unhide S0; dsimp only; omega) t1), (cw3 (by have := unhide S0; dsimp only; omega) t2)⟩
       clear hK KK
       try simp only [Act.put, zq1, zq2, zq3, zq4, zq5, zq6]
       refine wpAnyH_ready (rs := [7]) (by kernel_rfl) (by simp) ?_
       refine AllReadyH.cons rfl (fun KK hK => ?_) AllReadyH.nil
       simp only [zq1, zq2, zq3]
       rw [if_pos (by rfl)]
       go_simp
       clear hH
       refine hK.out _ _ ?_ (fun hH => ?_)
       ·exact ⟨(cw6 (by have := unhide S0; dsimp only; omega) p0), (cw6 (by have := unhide S0; dsimp only; omega) p1), (cw6 (by have := unhide S0; dsimp only; omega) p2), (cw6 (by have := unhide S0; dsimp only; omega) t0), (cw6 (by have := unhide S0; dsimp only; omega) t1), (cw6 (by have := unhide S0; dsimp only; omega) t2)⟩
       clear hK KK
       try simp only [Act.put, zq1, zq2, zq3, zq4, zq5, zq6]
       refine wpAnyH_done (by kernel_rfl) ?_ _
       clear hH
       go_wp2_with fail
       go_meet
       exact ⟨_, _, rfl, rfl, dya_pair s1 s2 x1 x2 kw o3 o4 X_0 X_1 X_2 X_f0 X_f1 X_f2 Y_0 Y_1 Y_2 Y_f0 Y_f1 Y_f2 (by omega) (by omega) (by omega) (by omega) (by omega) (fun e => by have := l3 _ e; omega) (fun e => by have := l3 _ e; omega) (fun e => by have := l4 _ e; omega) (fun e => by have := l4 _ e; omega) (fun k e1 e2 => by have := l3 _ e1; have := l4 _ e2; omega)⟩
     ·simp only [zq1, zq2, zq3]
      rw [if_pos (by rfl)]
      go_simp
      have kn := (Kept.refl 0 0 w8).alloc (.cells #[.slice none 0 0, .bool false, .int .i64 0] 150)
      replace r1 := r1.kept kn (by omega)
      replace r2 := r2.kept kn (by omega)
      replace kw := kw.trans kn
      replace o3 := own_kept o3 kn
      replace Y_f0 := kn.loose0 (zbl Y_0) Y_f0
      replace Y_f1 := kn.loose0 (zbl Y_1) Y_f1
      replace Y_f2 := kn.loose0 (zbl Y_2) Y_f2
      replace p0 := kn.cell0 p0
      replace p1 := kn.cell0 p1
      replace p2 := kn.cell0 p2
      replace t0 := kn.cell0 t0
      replace t1 := kn.cell0 t1
      replace t2 := kn.cell0 t2
      replace Y_0 := kn.cell0 Y_0
      replace Y_1 := kn.cell0 Y_1
      replace Y_2 := kn.cell0 Y_2
      replace K := hide ((unhide K).trans kn)
      have z11 := kn.size
      clear kn
      have szX_ : w8.heap.size < (w8.alloc (.cells #[.slice none 0 0, .bool false, .int .i64 0] 150)).heap.size := by simp
      have X_0 : (w8.alloc (.cells #[.slice none 0 0, .bool false, .int .i64 0] 150)).cell? ⟨w8.heap.size, 0, none⟩ = some (.slice none 0 0) := new_cell2 _ _ _ _ _ _ rfl rfl
      have X_f0 : (w8.alloc (.cells #[.slice none 0 0, .bool false, .int .i64 0] 150)).frozen? ⟨w8.heap.size, 0, none⟩ = false := new_loose2 _ _ _ _ _ rfl
      have X_1 : (w8.alloc (.cells #[.slice none 0 0, .bool false, .int .i64 0] 150)).cell? ⟨w8.heap.size, 1, none⟩ = some (.bool false) := new_cell2 _ _ _ _ _ _ rfl rfl
      have X_f1 : (w8.alloc (.cells #[.slice none 0 0, .bool false, .int .i64 0] 150)).frozen? ⟨w8.heap.size, 1, none⟩ = false := new_loose2 _ _ _ _ _ rfl
      have X_2 : (w8.alloc (.cells #[.slice none 0 0, .bool false, .int .i64 0] 150)).cell? ⟨w8.heap.size, 2, none⟩ = some (.int .i64 0) := new_cell2 _ _ _ _ _ _ rfl rfl
      have X_f2 : (w8.alloc (.cells #[.slice none 0 0, .bool false, .int .i64 0] 150)).frozen? ⟨w8.heap.size, 2, none⟩ = false := new_loose2 _ _ _ _ _ rfl
      clear hH
      refine hK.out _ _ ?_ (fun hH => ?_)
      ·exact ⟨p0, p1, p2, t0, t1, t2⟩
      clear hK KK
      try simp only [Act.put, zq1, zq2, zq3, zq4, zq5, zq6]
      generalize w8.alloc (.cells #[.slice none 0 0, .bool false, .int .i64 0] 150) = w10 at *
      refine wpAnyH_ready (rs := [3]) (by kernel_rfl) (by simp) ?_
      refine AllReadyH.cons rfl (fun KK hK => ?_) AllReadyH.nil
      ·simp only [zq1, zq2, zq3]
       rw [if_pos (by rfl)]
       refine wps1 129 (.tmp 17) _ rfl in_dyadicOf (.agg #[.bool s2, .slice a2 ys.length c2, .int .i64 x2]) rfl (dyadicOf_impl s2 x2 _ r2 my) ?_
       rintro e w12 ⟨v4, rfl, o4, k12⟩
       refine ⟨_, rfl, ?_⟩
       replace r1 := r1.kept k12 (by omega)
       replace r2 := r2.kept k12 (by omega)
       replace kw := kw.trans k12
       replace o3 := own_kept o3 k12
       replace Y_f0 := k12.loose0 (zbl Y_0) Y_f0
       replace Y_f1 := k12.loose0 (zbl Y_1) Y_f1
       replace Y_f2 := k12.loose0 (zbl Y_2) Y_f2
       replace X_f0 := k12.loose0 (zbl X_0) X_f0
       replace X_f1 := k12.loose0 (zbl X_1) X_f1
       replace X_f2 := k12.loose0 (zbl X_2) X_f2
       replace p0 := k12.cell0 p0
       replace p1 := k12.cell0 p1
       replace p2 := k12.cell0 p2
       replace t0 := k12.cell0 t0
       replace t1 := k12.cell0 t1
       replace t2 := k12.cell0 t2
       replace Y_0 := k12.cell0 Y_0
       replace Y_1 := k12.cell0 Y_1
       replace Y_2 := k12.cell0 Y_2
       replace X_0 := k12.cell0 X_0
       replace X_1 := k12.cell0 X_1
       replace X_2 := k12.cell0 X_2
       replace K := hide ((unhide K).trans k12)
       have z13 := k12.size
       clear k12
       have l4 := o4.lt
       obtain ⟨a4, c4, hv⟩ := own_slice o4
       subst hv
       clear hH
       refine hK.out _ _ ?_ (fun hH => ?_)
       ·exact ⟨p0, p1, p2, t0, t1, t2⟩
       clear hK KK
       try simp only [Act.put, zq1, zq2, zq3, zq4, zq5, zq6]
       refine wpAnyH_ready (rs := [6]) (by kernel_rfl) (by simp) ?_
       refine AllReadyH.cons rfl (fun KK hK => ?_) AllReadyH.nil
       simp only [zq1, zq2, zq3]
       rw [if_pos (by rfl)]
       go_simp
       clear hH
       refine hK.out _ _ ?_ (fun hH => ?_)
       ·exact ⟨(cw3 (by have := unhide S0; dsimp only; omega) p0), (cw3 (by have := unhide S0; dsimp only; omega) p1), (cw3 (by have := unhide S0; dsimp only; omega) p2), (cw3 (by have := unhide S0; dsimp only; omega) t0), (cw3 (by have := unhide S0; dsimp only; omega) t1), (cw3 (by have := unhide S0; dsimp only; omega) t2)⟩
       clear hK KK
       try simp only [Act.put, zq1, zq2, zq3, zq4, zq5, zq6]
       refine wpAnyH_ready (rs := [7]) (by kernel_rfl) (by simp) ?_
       refine AllReadyH.cons rfl (fun KK hK => ?_) AllReadyH.nil
       simp only [zq1, zq2, zq3]
       rw [if_pos (by rfl)]
       go_simp
       clear hH
       refine hK.out _ _ ?_ (fun hH => ?_)
       ·exact ⟨(cw6 (by have := unhide S0; dsimp only; omega) p0), (cw6 (by have := unhide S0; dsimp only; omega) p1), (cw6 (by have := unhide S0; dsimp only; omega) p2), (cw6 (by have := unhide S0; dsimp only; omega) t0), (cw6 (by have := unhide S0; dsimp only; omega) t1), (cw6 (by have := unhide S0; dsimp only; omega) t2)⟩
       clear hK KK
       try simp only [Act.put, zq1, zq2, zq3, zq4, zq5, zq6]
       refine wpAnyH_done (by kernel_rfl) ?_ _
       clear hH
       go_wp2_with fail
       go_meet
       exact ⟨_, _, rfl, rfl, dya_pair s1 s2 x1 x2 kw o3 o4 X_0 X_1 X_2 X_f0 X_f1 X_f2 Y_0 Y_1 Y_2 Y_f0 Y_f1 Y_f2 (by omega) (by omega) (by omega) (by omega) (by omega) (fun e => by have := l3 _ e; omega) (fun e => by have := l3 _ e; omega) (fun e => by have := l4 _ e; omega) (fun e => by have := l4 _ e; omega) (fun k e1 e2 => by have := l3 _ e1; have := l4 _ e2; omega)⟩
   ·simp only [zq1, zq2, zq3]
    rw [if_pos (by rfl)]
    go_simp
    have kn := (Kept.refl 0 0 wd).alloc (.cells #[.slice none 0 0, .bool false, .int .i64 0] 150)
    replace r1 := r1.kept kn (by omega)
    replace r2 := r2.kept kn (by omega)
    replace kw := kw.trans kn
    replace p0 := kn.cell0 p0
    replace p1 := kn.cell0 p1
    replace p2 := kn.cell0 p2
    replace t0 := kn.cell0 t0
    replace t1 := kn.cell0 t1
    replace t2 := kn.cell0 t2
    replace K := hide ((unhide K).trans kn)
    have z7 := kn.size
    clear kn
    have szX_ : wd.heap.size < (wd.alloc (.cells #[.slice none 0 0, .bool false, .int .i64 0] 150)).heap.size := by simp
    have X_0 : (wd.alloc (.cells #[.slice none 0 0, .bool false, .int .i64 0] 150)).cell? ⟨wd.heap.size, 0, none⟩ = some (.slice none 0 0) := new_cell2 _ _ _ _ _ _ rfl rfl
    have X_f0 : (wd.alloc (.cells #[.slice none 0 0, .bool false, .int .i64 0] 150)).frozen? ⟨wd.heap.size, 0, none⟩ = false := new_loose2 _ _ _ _ _ rfl
    have X_1 : (wd.alloc (.cells #[.slice none 0 0, .bool false, .int .i64 0] 150)).cell? ⟨wd.heap.size, 1, none⟩ = some (.bool false) := new_cell2 _ _ _ _ _ _ rfl rfl
    have X_f1 : (wd.alloc (.cells #[.slice none 0 0, .bool false, .int .i64 0] 150)).frozen? ⟨wd.heap.size, 1, none⟩ = false := new_loose2 _ _ _ _ _ rfl
    have X_2 : (wd.alloc (.cells #[.slice none 0 0, .bool false, .int .i64 0] 150)).cell? ⟨wd.heap.size, 2, none⟩ = some (.int .i64 0) := new_cell2 _ _ _ _ _ _ rfl rfl
    have X_f2 : (wd.alloc (.cells #[.slice none 0 0, .bool false, .int .i64 0] 150)).frozen? ⟨wd.heap.size, 2, none⟩ = false := new_loose2 _ _ _ _ _ rfl
    clear hH
    refine hK.out _ _ ?_ (fun hH => ?_)
    ·exact ⟨p0, p1, p2, t0, t1, t2⟩
    clear hK KK
    try simp only [Act.put, zq1, zq2, zq3, zq4, zq5, zq6]
    generalize wd.alloc (.cells #[.slice none 0 0, .bool false, .int .i64 0] 150) = w6 at *
    refine wpAnyH_ready (rs := [1, 5]) (by kernel_rfl) (by simp) ?_
    refine AllReadyH.cons rfl (fun KK hK => ?_) (AllReadyH.cons rfl (fun KK hK => ?_) AllReadyH.nil)
    ·simp only [zq1, zq2, zq3]
     rw [if_pos (by rfl)]
     refine wps1 129 (.tmp 15) _ rfl in_dyadicOf (.agg #[.bool s1, .slice a1 xs.length c1, .int .i64 x1]) rfl (dyadicOf_impl s1 x1 _ r1 mx) ?_
     rintro e w8 ⟨v3, rfl, o3, k8⟩
     refine ⟨_, rfl, ?_⟩
     replace r1 := r1.kept k8 (by omega)
     replace r2 := r2.kept k8 (by omega)
     replace kw := kw.trans k8
     replace X_f0 := k8.loose0 (zbl X_0) X_f0
     replace X_f1 := k8.loose0 (zbl X_1) X_f1
     replace X_f2 := k8.loose0 (zbl X_2) X_f2
     replace p0 := k8.cell0 p0
     replace p1 := k8.cell0 p1
     replace p2 := k8.cell0 p2
     replace t0 := k8.cell0 t0
     replace t1 := k8.cell0 t1
     replace t2 := k8.cell0 t2
     replace X_0 := k8.cell0 X_0
     replace X_1 := k8.cell0 X_1
     replace X_2 := k8.cell0 X_2
     replace K := hide ((unhide K).trans k8)
     have z9 := k8.size
     clear k8
     have l3 := o3.lt
     obtain ⟨a3, c3, hv⟩ := own_slice o3
     subst hv
     clear hH
     refine hK.out _ _ ?_ (fun hH => ?_)
     ·exact ⟨p0, p1, p2, t0, t1, t2⟩
     clear hK KK
     try simp only [Act.put, zq1, zq2, zq3, zq4, zq5, zq6]
     refine wpAnyH_ready (rs := [3, 5]) (by kernel_rfl) (by simp) ?_
     refine AllReadyH.cons rfl (fun KK hK => ?_) (AllReadyH.cons rfl (fun KK hK => ?_) AllReadyH.nil)
     ·simp only [zq1, zq2, zq3]
      rw [if_pos (by rfl)]
      refine wps1 129 (.tmp 17) _ rfl in_dyadicOf (.agg #[.bool s2, .slice a2 ys.length c2, .int .i64 x2]) rfl (dyadicOf_impl s2 x2 _ r2 my) ?_
      rintro e w10 ⟨v4, rfl, o4, k10⟩
      refine ⟨_, rfl, ?_⟩
      replace r1 := r1.kept k10 (by omega)
      replace r2 := r2.kept k10 (by omega)
      replace kw := kw.trans k10
      replace o3 := own_kept o3 k10
      replace X_f0 := k10.loose0 (zbl X_0) X_f0
      replace X_f1 := k10.loose0 (zbl X_1) X_f1
      replace X_f2 := k10.loose0 (zbl X_2) X_f2
      replace p0 := k10.cell0 p0
      replace p1 := k10.cell0 p1
      replace p2 := k10.cell0 p2
      replace t0 := k10.cell0 t0
      replace t1 := k10.cell0 t1
      replace t2 := k10.cell0 t2
      replace X_0 := k10.cell0 X_0
      replace X_1 := k10.cell0 X_1
      replace X_2 := k10.cell0 X_2
      replace K := hide ((unhide K).trans k10)
      have z11 := k10.size
      clear k10
      have l4 := o4.lt
      obtain ⟨a4, c4, hv⟩ := own_slice o4
      subst hv
      clear hH
      refine hK.out _ _ ?_ (fun hH => ?_)
      ·exact ⟨p0, p1, p2, t0, t1, t2⟩
      clear hK KK
      try simp only [Act.put, zq1, zq2, zq3, zq4, zq5, zq6]
      refine wpAnyH_ready (rs := [5]) (by kernel_rfl) (by simp) ?_
      refine AllReadyH.cons rfl (fun KK hK => ?_) AllReadyH.nil
      ·simp only [zq1, zq2, zq3]
       rw [if_pos (by rfl)]
       go_simp
       have kn := (Kept.refl 0 0 w10).alloc (.cells #[.slice none 0 0, .bool false, .int .i64 0] 150)
       replace r1 := r1.kept kn (by omega)
       replace r2 := r2.kept kn (by omega)
       replace kw := kw.trans kn
       replace o3 := own_kept o3 kn
       replace o4 := own_kept o4 kn
       replace X_f0 := kn.loose0 (zbl X_0) X_f0
       replace X_f1 := kn.loose0 (zbl X_1) X_f1
       replace X_f2 := kn.loose0 (zbl X_2) X_f2
       replace p0 := kn.cell0 p0
       replace p1 := kn.cell0 p1
       replace p2 := kn.cell0 p2
       replace t0 := kn.cell0 t0
       replace t1 := kn.cell0 t1
       replace t2 := kn.cell0 t2
       replace X_0 := kn.cell0 X_0
       replace X_1 := kn.cell0 X_1
       replace X_2 := kn.cell0 X_2
       replace K := hide ((unhide K).trans kn)
       have z13 := kn.size
       clear kn
       have szY_ : w10.heap.size < (w10.alloc (.cells #[.slice none 0 0, .bool false, .int .i64 0] 150)).heap.size := by simp
       have Y_0 : (w10.alloc (.cells #[.slice none 0 0, .bool false, .int .i64 0] 150)).cell? ⟨w10.heap.size, 0, none⟩ = some (.slice none 0 0) := new_cell2 _ _ _ _ _ _ rfl rfl
       have Y_f0 : (w10.alloc (.cells #[.slice none 0 0, .bool false, .int .i64 0] 150)).frozen? ⟨w10.heap.size, 0, none⟩ = false := new_loose2 _ _ _ _ _ rfl
       have Y_1 : (w10.alloc (.cells #[.slice none 0 0, .bool false, .int .i64 0] 150)).cell? ⟨w10.heap.size, 1, none⟩ = some (.bool false) := new_cell2 _ _ _ _ _ _ rfl rfl
       have Y_f1 : (w10.alloc (.cells #[.slice none 0 0, .bool false, .int .i64 0] 150)).frozen? ⟨w10.heap.size, 1, none⟩ = false := new_loose2 _ _ _ _ _ rfl
       have Y_2 : (w10.alloc (.cells #[.slice none 0 0, .bool false, .int .i64 0] 150)).cell? ⟨w10.heap.size, 2, none⟩ = some (.int .i64 0) := new_cell2 _ _ _ _ _ _ rfl rfl
       have Y_f2 : (w10.alloc (.cells #[.slice none 0 0, .bool false, .int .i64 0] 150)).frozen? ⟨w10.heap.size, 2, none⟩ = false := new_loose2 _ _ _ _ _ rfl
       clear hH
       refine hK.out _ _ ?_ (fun hH => ?_)
       ·exact ⟨p0, p1, p2, t0, t1, t2⟩
       clear hK KK
       try simp only [Act.put, zq1, zq2, zq3, zq4, zq5, zq6]
       generalize w10.alloc (.cells #[.slice none 0 0, .bool false, .int .i64 0] 150) = w12 at *
       refine wpAnyH_ready (rs := [6]) (by kernel_rfl) (by simp) ?_
       refine AllReadyH.cons rfl (fun KK hK => ?_) AllReadyH.nil
       simp only [zq1, zq2, zq3]
       rw [if_pos (by rfl)]
       go_simp
       clear hH
       refine hK.out _ _ ?_ (fun hH => ?_)
       ·exact ⟨(cw3 (by have := unhide S0; dsimp only; omega) p0), (cw3 (by have := unhide S0; dsimp only; omega) p1), (cw3 (by have := unhide S0; dsimp only; omega) p2), (cw3 (by have := unhide S0; dsimp only; omega) t0), (cw3 (by have := unhide S0; dsimp only; omega) t1), (cw3 (by have := unhide S0; dsimp only; omega) t2)⟩
       clear hK KK
       try simp only [Act.put, zq1, zq2, zq3, zq4, zq5, zq6]
       refine wpAnyH_ready (rs := [7]) (by kernel_rfl) (by simp) ?_
       refine AllReadyH.cons rfl (fun KK hK => ?_) AllReadyH.nil
       simp only [zq1, zq2, zq3]
       rw [if_pos (by rfl)]
       go_simp
       clear hH
       refine hK.out _ _ ?_ (fun hH => ?_)
       ·exact ⟨(cw6 (by have := unhide S0; dsimp only; omega) p0), (cw6 (by have := unhide S0; dsimp only; omega) p1), (cw6 (by have := unhide S0; dsimp only; omega) p2), (cw6 (by have := unhide S0; dsimp only; omega) t0), (cw6 (by have := unhide S0; dsimp only; omega) t1), (cw6 (by have := unhide S0; dsimp only; omega) t2)⟩
       clear hK KK
       try simp only [Act.put, zq1, zq2, zq3, zq4, zq5, zq6]
       refine wpAnyH_done (by kernel_rfl) ?_ _
       clear hH
       go_wp2_with fail
       go_meet
       exact ⟨_, _, rfl, rfl, dya_pair s1 s2 x1 x2 kw o3 o4 X_0 X_1 X_2 X_f0 X_f1 X_f2 Y_0 Y_1 Y_2 Y_f0 Y_f1 Y_f2 (by omega) (by omega) (by omega) (by omega) (by omega) (fun e => by have := l3 _ e; omega) (fun e => by have := l3 _ e; omega) (fun e => by have := l4 _ e; omega) (fun e => by have := l4 _ e; omega) (fun k e1 e2 => by have := l3 _ e1; have := l4 _ e2; omega)⟩
     ·simp only [zq1, zq2, zq3]
      rw [if_pos (by rfl)]
      go_simp
      have kn := (Kept.refl 0 0 w8).alloc (.cells #[.slice none 0 0, .bool false, .int .i64 0] 150)
      replace r1 := r1.kept kn (by omega)
      replace r2 := r2.kept kn (by omega)
      replace kw := kw.trans kn
      replace o3 := own_kept o3 kn
      replace X_f0 := kn.loose0 (zbl X_0) X_f0
      replace X_f1 := kn.loose0 (zbl X_1) X_f1
      replace X_f2 := kn.loose0 (zbl X_2) X_f2
      replace p0 := kn.cell0 p0
      replace p1 := kn.cell0 p1
      replace p2 := kn.cell0 p2
      replace t0 := kn.cell0 t0
      replace t1 := kn.cell0 t1
      replace t2 := kn.cell0 t2
      replace X_0 := kn.cell0 X_0
      replace X_1 := kn.cell0 X_1
      replace X_2 := kn.cell0 X_2
      replace K := hide ((unhide K).trans kn)
      have z11 := kn.size
      clear kn
      have szY_ : w8.heap.size < (w8.alloc (.cells #[.slice none 0 0, .bool false, .int .i64 0] 150)).heap.size := by simp
      have Y_0 : (w8.alloc (.cells #[.slice none 0 0, .bool false, .int .i64 0] 150)).cell? ⟨w8.heap.size, 0, none⟩ = some (.slice none 0 0) := new_cell2 _ _ _ _ _ _ rfl rfl
      have Y_f0 : (w8.alloc (.cells #[.slice none 0 0, .bool false, .int .i64 0] 150)).frozen? ⟨w8.heap.size, 0, none⟩ = false := new_loose2 _ _ _ _ _ rfl
      have Y_1 : (w8.alloc (.cells #[.slice none 0 0, .bool false, .int .i64 0] 150)).cell? ⟨w8.heap.size, 1, none⟩ = some (.bool false) := new_cell2 _ _ _ _ _ _ rfl rfl
      have Y_f1 : (w8.alloc (.cells #[.slice none 0 0, .bool false, .int .i64 0] 150)).frozen? ⟨w8.heap.size, 1, none⟩ = false := new_loose2 _ _ _ _ _ rfl
      have Y_2 : (w8.alloc (.cells #[.slice none 0 0, .bool false, .int .i64 0] 150)).cell? ⟨w8.heap.size, 2, none⟩ = some (.int .i64 0) := new_cell2 _ _ _ _ _ _ rfl rfl
      have Y_f2 : (w8.alloc (.cells #[.slice none 0 0, .bool false, .int .i64 0] 150)).frozen? ⟨w8.heap.size, 2, none⟩ = false := new_loose2 _ _ _ _ _ rfl
      clear hH
      refine hK.out _ _ ?_ (fun hH => ?_)
      ·exact ⟨p0, p1, p2, t0, t1, t2⟩
      clear hK KK
      try simp only [Act.put, zq1, zq2, zq3, zq4, zq5, zq6]
      generalize w8.alloc (.cells #[.slice none 0 0, .bool false, .int .i64 0] 150) = w10 at *
      refine wpAnyH_ready (rs := [3]) (by kernel_rfl) (by simp) ?_
      refine AllReadyH.cons rfl (fun KK hK => ?_) AllReadyH.nil
      ·simp only [zq1, zq2, zq3]
       rw [if_pos (by rfl)]
       refine wps1 129 (.tmp 17) _ rfl in_dyadicOf (.agg #[.bool s2, .slice a2 ys.length c2, .int .i64 x2]) rfl (dyadicOf_impl s2 x2 _ r2 my) ?_
       rintro e w12 ⟨v4, rfl, o4, k12⟩
       refine ⟨_, rfl, ?_⟩
       replace r1 := r1.kept k12 (by omega)
       replace r2 := r2.kept k12 (by omega)
       replace kw := kw.trans k12
       replace o3 := own_kept o3 k12
       replace X_f0 := k12.loose0 (zbl X_0) X_f0
       replace X_f1 := k12.loose0 (zbl X_1) X_f1
       replace X_f2 := k12.loose0 (zbl X_2) X_f2
       replace Y_f0 := k12.loose0 (zbl Y_0) Y_f0
       replace Y_f1 := k12.loose0 (zbl Y_1) Y_f1
       replace Y_f2 := k12.loose0 (zbl Y_2) Y_f2
       replace p0 := k12.cell0 p0
       replace p1 := k12.cell0 p1
       replace p2 := k12.cell0 p2
       replace t0 := k12.cell0 t0
       replace t1 := k12.cell0 t1
       replace t2 := k12.cell0 t2
       replace X_0 := k12.cell0 X_0
       replace X_1 := k12.cell0 X_1
       replace X_2 := k12.cell0 X_2
       replace Y_0 := k12.cell0 Y_0
       replace Y_1 := k12.cell0 Y_1
       replace Y_2 := k12.cell0 Y_2
       replace K := hide ((unhide K).trans k12)
       have z13 := k12.size
       clear k12
       have l4 := o4.lt
       obtain ⟨a4, c4, hv⟩ := own_slice o4
       subst hv
       clear hH
       refine hK.out _ _ ?_ (fun hH => ?_)
       ·exact ⟨p0, p1, p2, t0, t1, t2⟩
       clear hK KK
       try simp only [Act.put, zq1, zq2, zq3, zq4, zq5, zq6]
       refine wpAnyH_ready (rs := [6]) (by kernel_rfl) (by simp) ?_
       refine AllReadyH.cons rfl (fun KK hK => ?_) AllReadyH.nil
       simp only [zq1, zq2, zq3]
       rw [if_pos (by rfl)]
       go_simp
       clear hH
       refine hK.out _ _ ?_ (fun hH => ?_)
       ·exact ⟨(cw3 (by have := unhide S0; dsimp only; omega) p0), (cw3 (by have := unhide S0; dsimp only; omega) p1), (cw3 (by have := unhide S0; dsimp only; omega) p2), (cw3 (by have := unhide S0; dsimp only; omega) t0), (cw3 (by have := unhide S0; dsimp only; omega) t1), (cw3 (by have := unhide S0; dsimp only; omega) t2)⟩
       clear hK KK
       try simp only [Act.put, zq1, zq2, zq3, zq4, zq5, zq6]
       refine wpAnyH_ready (rs := [7]) (by kernel_rfl) (by simp) ?_
       refine AllReadyH.cons rfl (fun KK hK => ?_) AllReadyH.nil
       simp only [zq1, zq2, zq3]
       rw [if_pos (by rfl)]
       go_simp
       clear hH
       refine hK.out _ _ ?_ (fun hH => ?_)
       ·exact ⟨(cw6 (by have := unhide S0; dsimp only; omega) p0), (cw6 (by have := unhide S0; dsimp only; omega) p1), (cw6 (by have := unhide S0; dsimp only; omega) p2), (cw6 (by have := unhide S0; dsimp only; omega) t0), (cw6 (by have := unhide S0; dsimp only; omega) t1), (cw6 (by have := unhide S0; dsimp only; omega) t2)⟩
       clear hK KK
       try simp only [Act.put, zq1, zq2, zq3, zq4, zq5, zq6]
       refine wpAnyH_done (by kernel_rfl) ?_ _
       clear hH
       go_wp2_with fail
       go_meet
       exact ⟨_, _, rfl, rfl, dya_pair s1 s2 x1 x2 kw o3 o4 X_0 X_1 X_2 X_f0 X_f1 X_f2 Y_0 Y_1 Y_2 Y_f0 Y_f1 Y_f2 (by omega) (by omega) (by omega) (by omega) (by omega) (fun e => by have := l3 _ e; omega) (fun e => by have := l3 _ e; omega) (fun e => by have := l4 _ e; omega) (fun e => by have := l4 _ e; omega) (fun k e1 e2 => by have := l3 _ e1; have := l4 _ e2; omega)⟩
    ·simp only [zq1, zq2, zq3]
     rw [if_pos (by rfl)]
     go_simp
     have kn := (Kept.refl 0 0 w6).alloc (.cells #[.slice none 0 0, .bool false, .int .i64 0] 150)
     replace r1 := r1.kept kn (by omega)
     replace r2 := r2.kept kn (by omega)
     replace kw := kw.trans kn
     replace X_f0 := kn.loose0 (zbl X_0) X_f0
     replace X_f1 := kn.loose0 (zbl X_1) X_f1
     replace X_f2 := kn.loose0 (zbl X_2) X_f2
     replace p0 := kn.cell0 p0
     replace p1 := kn.cell0 p1
     replace p2 := kn.cell0 p2
     replace t0 := kn.cell0 t0
     replace t1 := kn.cell0 t1
     replace t2 := kn.cell0 t2
     replace X_0 := kn.cell0 X_0
     replace X_1 := kn.cell0 X_1
     replace X_2 := kn.cell0 X_2
     replace K := hide ((unhide K).trans kn)
     have z9 := kn.size
     clear kn
     have szY_ : w6.heap.size < (w6.alloc (.cells #[.slice none 0 0, .bool false, .int .i64 0] 150)).heap.size := by simp
     have Y_0 : (w6.alloc (.cells #[.slice none 0 0, .bool false, .int .i64 0] 150)).cell? ⟨w6.heap.size, 0, none⟩ = some (.slice none 0 0) := new_cell2 _ _ _ _ _ _ rfl rfl
     have Y_f0 : (w6.alloc (.cells #[.slice none 0 0, .bool false, .int .i64 0] 150)).frozen? ⟨w6.heap.size, 0, none⟩ = false := new_loose2 _ _ _ _ _ rfl
     have Y_1 : (w6.alloc (.cells #[.slice none 0 0, .bool false, .int .i64 0] 150)).cell? ⟨w6.heap.size, 1, none⟩ = some (.bool false) := new_cell2 _ _ _ _ _ _ rfl rfl
     have Y_f1 : (w6.alloc (.cells #[.slice none 0 0, .bool false, .int .i64 0] 150)).frozen? ⟨w6.heap.size, 1, none⟩ = false := new_loose2 _ _ _ _ _ rfl
     have Y_2 : (w6.alloc (.cells #[.slice none 0 0, .bool false, .int .i64 0] 150)).cell? ⟨w6.heap.size, 2, none⟩ = some (.int .i64 0) := new_cell2 _ _ _ _ _ _ rfl rfl
     have Y_f2 : (w6.alloc (.cells #[.slice none 0 0, .bool false, .int .i64 0] 150)).frozen? ⟨w6.heap.size, 2, none⟩ = false := new_loose2 _ _ _ _ _ rfl
     clear hH
     refine hK.out _ _ ?_ (fun hH => ?_)
     ·exact ⟨p0, p1, p2, t0, t1, t2⟩
     clear hK KK
     try simp only [Act.put, zq1, zq2, zq3, zq4, zq5, zq6]
     generalize w6.alloc (.cells #[.slice none 0 0, .bool false, .int .i64 0] 150) = w8 at *
     refine wpAnyH_ready (rs := [1]) (by kernel_rfl) (by simp) ?_
     refine AllReadyH.cons rfl (fun KK hK => ?_) AllReadyH.nil
     ·simp only [zq1, zq2, zq3]
      rw [if_pos (by rfl)]
      refine wps1 129 (.tmp 15) _ rfl in_dyadicOf (.agg #[.bool s1, .slice a1 xs.length c1, .int .i64 x1]) rfl (dyadicOf_impl s1 x1 _ r1 mx) ?_
      rintro e w10 ⟨v3, rfl, o3, k10⟩
      refine ⟨_, rfl, ?_⟩
      replace r1 := r1.kept k10 (by omega)
      replace r2 := r2.kept k10 (by omega)
      replace kw := kw.trans k10
      replace X_f0 := k10.loose0 (zbl X_0) X_f0
      replace X_f1 := k10.loose0 (zbl X_1) X_f1
      replace X_f2 := k10.loose0 (zbl X_2) X_f2
      replace Y_f0 := k10.loose0 (zbl Y_0) Y_f0
      replace Y_f1 := k10.loose0 (zbl Y_1) Y_f1
      replace Y_f2 := k10.loose0 (zbl Y_2) Y_f2
      replace p0 := k10.cell0 p0
      replace p1 := k10.cell0 p1
      replace p2 := k10.cell0 p2
      replace t0 := k10.cell0 t0
      replace t1 := k10.cell0 t1
      replace t2 := k10.cell0 t2
      replace X_0 := k10.cell0 X_0
      replace X_1 := k10.cell0 X_1
      replace X_2 := k10.cell0 X_2
      replace Y_0 := k10.cell0 Y_0
      replace Y_1 := k10.cell0 Y_1
      replace Y_2 := k10.cell0 Y_2
      replace K := hide ((unhide K).trans k10)
      have z11 := k10.size
      clear k10
      have l3 := o3.lt
      obtain ⟨a3, c3, hv⟩ := own_slice o3
      subst hv
      clear hH
      refine hK.out _ _ ?_ (fun hH => ?_)
      ·exact ⟨p0, p1, p2, t0, t1, t2⟩
      clear hK KK
      try simp only [Act.put, zq1, zq2, zq3, zq4, zq5, zq6]
      refine wpAnyH_ready (rs := [3]) (by kernel_rfl) (by simp) ?_
      refine AllReadyH.cons rfl (fun KK hK => ?_) AllReadyH.nil
      ·simp only [zq1, zq2, zq3]
       rw [if_pos (by rfl)]
       refine wps1 129 (.tmp 17) _ rfl in_dyadicOf (.agg #[.bool s2, .slice a2 ys.length c2, .int .i64 x2]) rfl (dyadicOf_impl s2 x2 _ r2 my) ?_
       rintro e w12 ⟨v4, rfl, o4, k12⟩
       refine ⟨_, rfl, ?_⟩
       replace r1 := r1.kept k12 (by omega)
       replace r2 := r2.kept k12 (by omega)
       replace kw := kw.trans k12
       replace o3 := own_kept o3 k12
       replace X_f0 := k12.loose0 (zbl X_0) X_f0
       replace X_f1 := k12.loose0 (zbl X_1) X_f1
       replace X_f2 := k12.loose0 (zbl X_2) X_f2
       replace Y_f0 := k12.loose0 (zbl Y_0) Y_f0
       replace Y_f1 := k12.loose0 (zbl Y_1) Y_f1
       replace Y_f2 := k12.loose0 (zbl Y_2) Y_f2
       replace p0 := k12.cell0 p0
       replace p1 := k12.cell0 p1
       replace p2 := k12.cell0 p2
       replace t0 := k12.cell0 t0
       replace t1 := k12.cell0 t1
       replace t2 := k12.cell0 t2
       replace X_0 := k12.cell0 X_0
       replace X_1 := k12.cell0 X_1
       replace X_2 := k12.cell0 X_2
       replace Y_0 := k12.cell0 Y_0
       replace Y_1 := k12.cell0 Y_1
       replace Y_2 := k12.cell0 Y_2
       replace K := hide ((unhide K).trans k12)
       have z13 := k12.size
       clear k12
       have l4 := o4.lt
       obtain ⟨a4, c4, hv⟩ := own_slice o4
       subst hv
       clear hH
       refine hK.out _ _ ?_ (fun hH => ?_)
       ·exact ⟨p0, p1, p2, t0, t1, t2⟩
       clear hK KK
       try simp only [Act.put, zq1, zq2, zq3, zq4, zq5, zq6]
       refine wpAnyH_ready (rs := [6]) (by kernel_rfl) (by simp) ?_
       refine AllReadyH.cons rfl (fun KK hK => ?_) AllReadyH.nil
       simp only [zq1, zq2, zq3]
       rw [if_pos (by rfl)]
       go_simp
       clear hH
       refine hK.out _ _ ?_ (fun hH => ?_)
       ·exact ⟨(cw3 (by have := unhide S0; dsimp only; omega) p0), (cw3 (by have := unhide S0; dsimp only; omega) p1), (cw3 (by have := unhide S0; dsimp only; omega) p2), (cw3 (by have := unhide S0; dsimp only; omega) t0), (cw3 (by have := unhide S0; dsimp only; omega) t1), (cw3 (by have := unhide S0; dsimp only; omega) t2)⟩
       clear hK KK
       try simp only [Act.put, zq1, zq2, zq3, zq4, zq5, zq6]
       refine wpAnyH_ready (rs := [7]) (by kernel_rfl) (by simp) ?_
       refine AllReadyH.cons rfl (fun KK hK => ?_) AllReadyH.nil
       simp only [zq1, zq2, zq3]
       rw [if_pos (by rfl)]
       go_simp
       clear hH
       refine hK.out _ _ ?_ (fun hH => ?_)
       ·exact ⟨(cw6 (by have := unhide S0; dsimp only; omega) p0), (cw6 (by have := unhide S0; dsimp only; omega) p1), (cw6 (by have := unhide S0; dsimp only; omega) p2), (cw6 (by have := unhide S0; dsimp only; omega) t0), (cw6 (by have := unhide S0; dsimp only; omega) t1), (cw6 (by have := unhide S0; dsimp only; omega) t2)⟩
       clear hK KK
       try simp only [Act.put, zq1, zq2, zq3, zq4, zq5, zq6]
       refine wpAnyH_done (by kernel_rfl) ?_ _
       clear hH
       go_wp2_with fail
       go_meet
       exact ⟨_, _, rfl, rfl, dya_pair s1 s2 x1 x2 kw o3 o4 X_0 X_1 X_2 X_f0 X_f1 X_f2 Y_0 Y_1 Y_2 Y_f0 Y_f1 Y_f2 (by omega) (by omega) (by omega) (by omega) (by omega) (fun e => by have := l3 _ e; omega) (fun e => by have := l3 _ e; omega) (fun e => by have := l4 _ e; omega) (fun e => by have := l4 _ e; omega) (fun k e1 e2 => by have := l3 _ e1; have := l4 _ e2; omega)⟩
   ·simp only [zq1, zq2, zq3]
    rw [if_pos (by rfl)]
    go_simp
    have kn := (Kept.refl 0 0 wd).alloc (.cells #[.slice none 0 0, .bool false, .int .i64 0] 150)
    replace r1 := r1.kept kn (by omega)
    replace r2 := r2.kept kn (by omega)
    replace kw := kw.trans kn
    replace p0 := kn.cell0 p0
    replace p1 := kn.cell0 p1
    replace p2 := kn.cell0 p2
    replace t0 := kn.cell0 t0
    replace t1 := kn.cell0 t1
    replace t2 := kn.cell0 t2
    replace K := hide ((unhide K).trans kn)
    have z7 := kn.size
    clear kn
    have szY_ : wd.heap.size < (wd.alloc (.cells #[.slice none 0 0, .bool false, .int .i64 0] 150)).heap.size := by simp
    have Y_0 : (wd.alloc (.cells #[.slice none 0 0, .bool false, .int .i64 0] 150)).cell? ⟨wd.heap.size, 0, none⟩ = some (.slice none 0 0) := new_cell2 _ _ _ _ _ _ rfl rfl
    have Y_f0 : (wd.alloc (.cells #[.slice none 0 0, .bool false, .int .i64 0] 150)).frozen? ⟨wd.heap.size, 0, none⟩ = false := new_loose2 _ _ _ _ _ rfl
    have Y_1 : (wd.alloc (.cells #[.slice none 0 0, .bool false, .int .i64 0] 150)).cell? ⟨wd.heap.size, 1, none⟩ = some (.bool false) := new_cell2 _ _ _ _ _ _ rfl rfl
    have Y_f1 : (wd.alloc (.cells #[.slice none 0 0, .bool false, .int .i64 0] 150)).frozen? ⟨wd.heap.size, 1, none⟩ = false := new_loose2 _ _ _ _ _ rfl
    have Y_2 : (wd.alloc (.cells #[.slice none 0 0, .bool false, .int .i64 0] 150)).cell? ⟨wd.heap.size, 2, none⟩ = some (.int .i64 0) := new_cell2 _ _ _ _ _ _ rfl rfl
    have Y_f2 : (wd.alloc (.cells #[.slice none 0 0, .bool false, .int .i64 0] 150)).frozen? ⟨wd.heap.size, 2, none⟩ = false := new_loose2 _ _ _ _ _ rfl
    clear hH
    refine hK.out _ _ ?_ (fun hH => ?_)
    ·exact ⟨p0, p1, p2, t0, t1, t2⟩
    clear hK KK
    try simp only [Act.put, zq1, zq2, zq3, zq4, zq5, zq6]
    generalize wd.alloc (.cells #[.slice none 0 0, .bool false, .int .i64 0] 150) = w6 at *
    refine wpAnyH_ready (rs := [1, 4]) (by kernel_rfl) (by simp) ?_
    refine AllReadyH.cons rfl (fun KK hK => ?_) (AllReadyH.cons rfl (fun KK hK => ?_) AllReadyH.nil)
    ·simp only [zq1, zq2, zq3]
     rw [if_pos (by rfl)]
     refine wps1 129 (.tmp 15) _ rfl in_dyadicOf (.agg #[.bool s1, .slice a1 xs.length c1, .int .i64 x1]) rfl (dyadicOf_impl s1 x1 _ r1 mx) ?_
     rintro e w8 ⟨v3, rfl, o3, k8⟩
     refine ⟨_, rfl, ?_⟩
     replace r1 := r1.kept k8 (by omega)
     replace r2 := r2.kept k8 (by omega)
     replace kw := kw.trans k8
     replace Y_f0 := k8.loose0 (zbl Y_0) Y_f0
     replace Y_f1 := k8.loose0 (zbl Y_1) Y_f1
     replace Y_f2 := k8.loose0 (zbl Y_2) Y_f2
     replace p0 := k8.cell0 p0
     replace p1 := k8.cell0 p1
     replace p2 := k8.cell0 p2
     replace t0 := k8.cell0 t0
     replace t1 := k8.cell0 t1
     replace t2 := k8.cell0 t2
     replace Y_0 := k8.cell0 Y_0
     replace Y_1 := k8.cell0 Y_1
     replace Y_2 := k8.cell0 Y_2
     replace K := hide ((unhide K).trans k8)
     have z9 := k8.size
     clear k8
     have l3 := o3.lt
     obtain ⟨a3, c3, hv⟩ := own_slice o3
     subst hv
     clear hH
     refine hK.out _ _ ?_ (fun hH => ?_)
     ·exact ⟨p0, p1, p2, t0, t1, t2⟩
     clear hK KK
     try simp only [Act.put, zq1, zq2, zq3, zq4, zq5, zq6]
     refine wpAnyH_ready (rs := [3, 4]) (by kernel_rfl) (by simp) ?_
     refine AllReadyH.cons rfl (fun KK hK => ?_) (AllReadyH.cons rfl (fun KK hK => ?_) AllReadyH.nil)
     ·simp only [zq1, zq2, zq3]
      rw [if_pos (by rfl)]
      refine wps1 129 (.tmp 17) _ rfl in_dyadicOf (.agg #[.bool s2, .slice a2 ys.length c2, .int .i64 x2]) rfl (dyadicOf_impl s2 x2 _ r2 my) ?_
      rintro e w10 ⟨v4, rfl, o4, k10⟩
      refine ⟨_, rfl, ?_⟩
      replace r1 := r1.kept k10 (by omega)
      replace r2 := r2.kept k10 (by omega)
      replace kw := kw.trans k10
      replace o3 := own_kept o3 k10
      replace Y_f0 := k10.loose0 (zbl Y_0) Y_f0
      replace Y_f1 := k10.loose0 (zbl Y_1) Y_f1
      replace Y_f2 := k10.loose0 (zbl Y_2) Y_f2
      replace p0 := k10.cell0 p0
      replace p1 := k10.cell0 p1
      replace p2 := k10.cell0 p2
      replace t0 := k10.cell0 t0
      replace t1 := k10.cell0 t1
      replace t2 := k10.cell0 t2
      replace Y_0 := k10.cell0 Y_0
      replace Y_1 := k10.cell0 Y_1
      replace Y_2 := k10.cell0 Y_2
      replace K := hide ((unhide K).trans k10)
      have z11 := k10.size
      clear k10
      have l4 := o4.lt
      obtain ⟨a4, c4, hv⟩ := own_slice o4
      subst hv
      clear hH
      refine hK.out _ _ ?_ (fun hH => ?_)
      ·exact ⟨p0, p1, p2, t0, t1, t2⟩
      clear hK KK
      try simp only [Act.put, zq1, zq2, zq3, zq4, zq5, zq6]
      refine wpAnyH_ready (rs := [4]) (by kernel_rfl) (by simp) ?_
      refine AllReadyH.cons rfl (fun KK hK => ?_) AllReadyH.nil
      ·simp only [zq1, zq2, zq3]
       rw [if_pos (by rfl)]
       go_simp
       have kn := (Kept.refl 0 0 w10).alloc (.cells #[.slice none 0 0, .bool false, .int .i64 0] 150)
       replace r1 := r1.kept kn (by omega)
       replace r2 := r2.kept kn (by omega)
       replace kw := kw.trans kn
       replace o3 := own_kept o3 kn
       replace o4 := own_kept o4 kn
       replace Y_f0 := kn.loose0 (zbl Y_0) Y_f0
       replace Y_f1 := kn.loose0 (zbl Y_1) Y_f1
       replace Y_f2 := kn.loose0 (zbl Y_2) Y_f2
       replace p0 := kn.cell0 p0
       replace p1 := kn.cell0 p1
       replace p2 := kn.cell0 p2
       replace t0 := kn.cell0 t0
       replace t1 := kn.cell0 t1
       replace t2 := kn.cell0 t2
       replace Y_0 := kn.cell0 Y_0
       replace Y_1 := kn.cell0 Y_1
       replace Y_2 := kn.cell0 Y_2
       replace K := hide ((unhide K).trans kn)
       have z13 := kn.size
       clear kn
       have szX_ : w10.heap.size < (w10.alloc (.cells #[.slice none 0 0, .bool false, .int .i64 0] 150)).heap.size := by simp
       have X_0 : (w10.alloc (.cells #[.slice none 0 0, .bool false, .int .i64 0] 150)).cell? ⟨w10.heap.size, 0, none⟩ = some (.slice none 0 0) := new_cell2 _ _ _ _ _ _ rfl rfl
       have X_f0 : (w10.alloc (.cells #[.slice none 0 0, .bool false, .int .i64 0] 150)).frozen? ⟨w10.heap.size, 0, none⟩ = false := new_loose2 _ _ _ _ _ rfl
       have X_1 : (w10.alloc (.cells #[.slice none 0 0, .bool false, .int .i64 0] 150)).cell? ⟨w10.heap.size, 1, none⟩ = some (.bool false) := new_cell2 _ _ _ _ _ _ rfl rfl
       have X_f1 : (w10.alloc (.cells #[.slice none 0 0, .bool false, .int .i64 0] 150)).frozen? ⟨w10.heap.size, 1, none⟩ = false := new_loose2 _ _ _ _ _ rfl
       have X_2 : (w10.alloc (.cells #[.slice none 0 0, .bool false, .int .i64 0] 150)).cell? ⟨w10.heap.size, 2, none⟩ = some (.int .i64 0) := new_cell2 _ _ _ _ _ _ rfl rfl
       have X_f2 : (w10.alloc (.cells #[.slice none 0 0, .bool false, .int .i64 0] 150)).frozen? ⟨w10.heap.size, 2, none⟩ = false := new_loose2 _ _ _ _ _ rfl
       clear hH
       refine hK.out _ _ ?_ (fun hH => ?_)
       ·exact ⟨p0, p1, p2, t0, t1, t2⟩
       clear hK KK
       try simp only [Act.put, zq1, zq2, zq3, zq4, zq5, zq6]
       generalize w10.alloc (.cells #[.slice none 0 0, .bool false, .int .i64 0] 150) = w12 at *
       refine wpAnyH_ready (rs := [6]) (by kernel_rfl) (by simp) ?_
       refine AllReadyH.cons rfl (fun KK hK => ?_) AllReadyH.nil
       simp only [zq1, zq2, zq3]
       rw [if_pos (by rfl)]
       go_simp
       clear hH
       refine hK.out _ _ ?_ (fun hH => ?_)
       ·exact ⟨(cw3 (by have := unhide S0; dsimp only; omega) p0), (cw3 (by have := unhide S0; dsimp only; omega) p1), (cw3 (by have := unhide S0; dsimp only; omega) p2), (cw3 (by have := unhide S0; dsimp only; omega) t0), (cw3 (by have := unhide S0; dsimp only; omega) t1), (cw3 (by have := unhide S0; dsimp only; omega) t2)⟩
       clear hK KK
       try simp only [Act.put, zq1, zq2, zq3, zq4, zq5, zq6]
       refine wpAnyH_ready (rs := [7]) (by kernel_rfl) (by simp) ?_
       refine AllReadyH.cons rfl (fun KK hK => ?_) AllReadyH.nil
       simp only [zq1, zq2, zq3]
       rw [if_pos (by rfl)]
       go_simp
       clear hH
       refine hK.out _ _ ?_ (fun hH => ?_)
       ·exact ⟨(cw6 (by have := unhide S0; dsimp only; omega) p0), (cw6 (by have := unhide S0; dsimp only; omega) p1), (cw6 (by have := unhide S0; dsimp only; omega) p2), (cw6 (by have := unhide S0; dsimp only; omega) t0), (cw6 (by have := unhide S0; dsimp only; omega) t1), (cw6 (by have := unhide S0; dsimp only; omega) t2)⟩
       clear hK KK
       try simp only [Act.put, zq1, zq2, zq3, zq4, zq5, zq6]
       refine wpAnyH_done (by kernel_rfl) ?_ _
       clear hH
       go_wp2_with fail
       go_meet
       exact ⟨_, _, rfl, rfl, dya_pair s1 s2 x1 x2 kw o3 o4 X_0 X_1 X_2 X_f0 X_f1 X_f2 Y_0 Y_1 Y_2 Y_f0 Y_f1 Y_f2 (by omega) (by omega) (by omega) (by omega) (by omega) (fun e => by have := l3 _ e; omega) (fun e => by have := l3 _ e; omega) (fun e => by have := l4 _ e; omega) (fun e => by have := l4 _ e; omega) (fun k e1 e2 => by have := l3 _ e1; have := l4 _ e2; omega)⟩
     ·simp only [zq1, zq2, zq3]
      rw [if_pos (by rfl)]
      go_simp
      have kn := (Kept.refl 0 0 w8).alloc (.cells #[.slice none 0 0, .bool false, .int .i64 0] 150)
      replace r1 := r1.kept kn (by omega)
      replace r2 := r2.kept kn (by omega)
      replace kw := kw.trans kn
      replace o3 := own_kept o3 kn
      replace Y_f0 := kn.loose0 (zbl Y_0) Y_f0
      replace Y_f1 := kn.loose0 (zbl Y_1) Y_f1
      replace Y_f2 := kn.loose0 (zbl Y_2) Y_f2
      replace p0 := kn.cell0 p0
      replace p1 := kn.cell0 p1
      replace p2 := kn.cell0 p2
      replace t0 := kn.cell0 t0
      replace t1 := kn.cell0 t1
      replace t2 := kn.cell0 t2
      replace Y_0 := kn.cell0 Y_0
      replace Y_1 := kn.cell0 Y_1
      replace Y_2 := kn.cell0 Y_2
      replace K := hide ((unhide K).trans kn)
      have z11 := kn.size
      clear kn
      have szX_ : w8.heap.size < (w8.alloc (.cells #[.slice none 0 0, .bool false, .int .i64 0] 150)).heap.size := by simp
      have X_0 : (w8.alloc (.cells #[.slice none 0 0, .bool false, .int .i64 0] 150)).cell? ⟨w8.heap.size, 0, none⟩ = some (.slice none 0 0) := new_cell2 _ _ _ _ _ _ rfl rfl
      have X_f0 : (w8.alloc (.cells #[.slice none 0 0, .bool false, .int .i64 0] 150)).frozen? ⟨w8.heap.size, 0, none⟩ = false := new_loose2 _ _ _ _ _ rfl
      have X_1 : (w8.alloc (.cells #[.slice none 0 0, .bool false, .int .i64 0] 150)).cell? ⟨w8.heap.size, 1, none⟩ = some (.bool false) := new_cell2 _ _ _ _ _ _ rfl rfl
      have X_f1 : (w8.alloc (.cells #[.slice none 0 0, .bool false, .int .i64 0] 150)).frozen? ⟨w8.heap.size, 1, none⟩ = false := new_loose2 _ _ _ _ _ rfl
      have X_2 : (w8.alloc (.cells #[.slice none 0 0, .bool false, .int .i64 0] 150)).cell? ⟨w8.heap.size, 2, none⟩ = some (.int .i64 0) := new_cell2 _ _ _ _ _ _ rfl rfl
      have X_f2 : (w8.alloc (.cells #[.slice none 0 0, .bool false, .int .i64 0] 150)).frozen? ⟨w8.heap.size, 2, none⟩ = false := new_loose2 _ _ _ _ _ rfl
      clear hH
      refine hK.out _ _ ?_ (fun hH => ?_)
      ·exact ⟨p0, p1, p2, t0, t1, t2⟩
      clear hK KK
      try simp only [Act.put, zq1, zq2, zq3, zq4, zq5, zq6]
      generalize w8.alloc (.cells #[.slice none 0 0, .bool false, .int .i64 0] 150) = w10 at *
      refine wpAnyH_ready (rs := [3]) (by kernel_rfl) (by simp) ?_
      refine AllReadyH.cons rfl (fun KK hK => ?_) AllReadyH.nil
      ·simp only [zq1, zq2, zq3]
       rw [if_pos (by rfl)]
       refine wps1 129 (.tmp 17) _ rfl in_dyadicOf (.agg #[.bool s2, .slice a2 ys.length c2, .int .i64 x2]) rfl (dyadicOf_impl s2 x2 _ r2 my) ?_
       rintro e w12 ⟨v4, rfl, o4, k12⟩
       refine ⟨_, rfl, ?_⟩
       replace r1 := r1.kept k12 (by omega)
       replace r2 := r2.kept k12 (by omega)
       replace kw := kw.trans k12
       replace o3 := own_kept o3 k12
       replace Y_f0 := k12.loose0 (zbl Y_0) Y_f0
       replace Y_f1 := k12.loose0 (zbl Y_1) Y_f1
       replace Y_f2 := k12.loose0 (zbl Y_2) Y_f2
       replace X_f0 := k12.loose0 (zbl X_0) X_f0
       replace X_f1 := k12.loose0 (zbl X_1) X_f1
       replace X_f2 := k12.loose0 (zbl X_2) X_f2
       replace p0 := k12.cell0 p0
       replace p1 := k12.cell0 p1
       replace p2 := k12.cell0 p2
       replace t0 := k12.cell0 t0
       replace t1 := k12.cell0 t1
       replace t2 := k12.cell0 t2
       replace Y_0 := k12.cell0 Y_0
       replace Y_1 := k12.cell0 Y_1
       replace Y_2 := k12.cell0 Y_2
       replace X_0 := k12.cell0 X_0
       replace X_1 := k12.cell0 X_1
       replace X_2 := k12.cell0 X_2
       replace K := hide ((unhide K).trans k12)
       have z13 := k12.size
       clear k12
       have l4 := o4.lt
       obtain ⟨a4, c4, hv⟩ := own_slice o4
       subst hv
       clear hH
       refine hK.out _ _ ?_ (fun hH => ?_)
       ·exact ⟨p0, p1, p2, t0, t1, t2⟩
       clear hK KK
       try simp only [Act.put, zq1, zq2, zq3, zq4, zq5, zq6]
       refine wpAnyH_ready (rs := [6]) (by kernel_rfl) (by simp) ?_
       refine AllReadyH.cons rfl (fun KK hK => ?_) AllReadyH.nil
       simp only [zq1, zq2, zq3]
       rw [if_pos (by rfl)]
       go_simp
       clear hH
       refine hK.out _ _ ?_ (fun hH => ?_)
       ·exact ⟨(cw3 (by have := unhide S0; dsimp only; omega) p0), (cw3 (by have := unhide S0; dsimp only; omega) p1), (cw3 (by have := unhide S0; dsimp only; omega) p2), (cw3 (by have := unhide S0; dsimp only; omega) t0), (cw3 (by have := unhide S0; dsimp only; omega) t1), (cw3 (by have := unhide S0; dsimp only; omega) t2)⟩
       clear hK KK
       try simp only [Act.put, zq1, zq2, zq3, zq4, zq5, zq6]
       refine wpAnyH_ready (rs := [7]) (by kernel_rfl) (by simp) ?_
       refine AllReadyH.cons rfl (fun KK hK => ?_) AllReadyH.nil
       simp only [zq1, zq2, zq3]
       rw [if_pos (by rfl)]
       go_simp
       clear hH
       refine hK.out _ _ ?_ (fun hH => ?_)
       ·exact ⟨(cw6 (by have := unhide S0; dsimp only; omega) p0), (cw6 (by have := unhide S0; dsimp only; omega) p1), (cw6 (by have := unhide S0; dsimp only; omega) p2), (cw6 (by have := unhide S0; dsimp only; omega) t0), (cw6 (by have := unhide S0; dsimp only; omega) t1), (cw6 (by have := unhide S0; dsimp only; omega) t2)⟩
       clear hK KK
       try simp only [Act.put, zq1, zq2, zq3, zq4, zq5, zq6]
       refine wpAnyH_done (by kernel_rfl) ?_ _
       clear hH
       go_wp2_with fail
       go_meet
       exact ⟨_, _, rfl, rfl, dya_pair s1 s2 x1 x2 kw o3 o4 X_0 X_1 X_2 X_f0 X_f1 X_f2 Y_0 Y_1 Y_2 Y_f0 Y_f1 Y_f2 (by omega) (by omega) (by omega) (by omega) (by omega) (fun e => by have := l3 _ e; omega) (fun e => by have := l3 _ e; omega) (fun e => by have := l4 _ e; omega) (fun e => by have := l4 _ e; omega) (fun k e1 e2 => by have := l3 _ e1; have := l4 _ e2; omega)⟩
    ·simp only [zq1, zq2, zq3]
     rw [if_pos (by rfl)]
     go_simp
     have kn := (Kept.refl 0 0 w6).alloc (.cells #[.slice none 0 0, .bool false, .int .i64 0] 150)
     replace r1 := r1.kept kn (by omega)
     replace r2 := r2.kept kn (by omega)
     replace kw := kw.trans kn
     replace Y_f0 := kn.loose0 (zbl Y_0) Y_f0
     replace Y_f1 := kn.loose0 (zbl Y_1) Y_f1
     replace Y_f2 := kn.loose0 (zbl Y_2) Y_f2
     replace p0 := kn.cell0 p0
     replace p1 := kn.cell0 p1
     replace p2 := kn.cell0 p2
     replace t0 := kn.cell0 t0
     replace t1 := kn.cell0 t1
     replace t2 := kn.cell0 t2
     replace Y_0 := kn.cell0 Y_0
     replace Y_1 := kn.cell0 Y_1
     replace Y_2 := kn.cell0 Y_2
     replace K := hide ((unhide K).trans kn)
     have z9 := kn.size
     clear kn
     have szX_ : w6.heap.size < (w6.alloc (.cells #[.slice none 0 0, .bool false, .int .i64 0] 150)).heap.size := by simp
     have X_0 : (w6.alloc (.cells #[.slice none 0 0, .bool false, .int .i64 0] 150)).cell? ⟨w6.heap.size, 0, none⟩ = some (.slice none 0 0) := new_cell2 _ _ _ _ _ _ rfl rfl
     have X_f0 : (w6.alloc (.cells #[.slice none 0 0, .bool false, .int .i64 0] 150)).frozen? ⟨w6.heap.size, 0, none⟩ = false := new_loose2 _ _ _ _ _ rfl
     have X_1 : (w6.alloc (.cells #[.slice none 0 0, .bool false, .int .i64 0] 150)).cell? ⟨w6.heap.size, 1, none⟩ = some (.bool false) := new_cell2 _ _ _ _ _ _ rfl rfl
     have X_f1 : (w6.alloc (.cells #[.slice none 0 0, .bool false, .int .i64 0] 150)).frozen? ⟨w6.heap.size, 1, none⟩ = false := new_loose2 _ _ _ _ _ rfl
     have X_2 : (w6.alloc (.cells #[.slice none 0 0, .bool false, .int .i64 0] 150)).cell? ⟨w6.heap.size, 2, none⟩ = some (.int .i64 0) := new_cell2 _ _ _ _ _ _ rfl rfl
     have X_f2 : (w6.alloc (.cells #[.slice none 0 0, .bool false, .int .i64 0] 150)).frozen? ⟨w6.heap.size, 2, none⟩ = false := new_loose2 _ _ _ _ _ rfl
     clear hH
     refine hK.out _ _ ?_ (fun hH => ?_)
     ·exact ⟨p0, p1, p2, t0, t1, t2⟩
     clear hK KK
     try simp only [Act.put, zq1, zq2, zq3, zq4, zq5, zq6]
     generalize w6.alloc (.cells #[.slice none 0 0, .bool false, .int .i64 0] 150) = w8 at *
     refine wpAnyH_ready (rs := [1]) (by kernel_rfl) (by simp) ?_
     refine AllReadyH.cons rfl (fun KK hK => ?_) AllReadyH.nil
     ·simp only [zq1, zq2, zq3]
      rw [if_pos (by rfl)]
      refine wps1 129 (.tmp 15) _ rfl in_dyadicOf (.agg #[.bool s1, .slice a1 xs.length c1, .int .i64 x1]) rfl (dyadicOf_impl s1 x1 _ r1 mx) ?_
      rintro e w10 ⟨v3, rfl, o3, k10⟩
      refine ⟨_, rfl, ?_⟩
      replace r1 := r1.kept k10 (by omega)
      replace r2 := r2.kept k10 (by omega)
      replace kw := kw.trans k10
      replace Y_f0 := k10.loose0 (zbl Y_0) Y_f0
      replace Y_f1 := k10.loose0 (zbl Y_1) Y_f1
      replace Y_f2 := k10.loose0 (zbl Y_2) Y_f2
      replace X_f0 := k10.loose0 (zbl X_0) X_f0
      replace X_f1 := k10.loose0 (zbl X_1) X_f1
      replace X_f2 := k10.loose0 (zbl X_2) X_f2
      replace p0 := k10.cell0 p0
      replace p1 := k10.cell0 p1
      replace p2 := k10.cell0 p2
      replace t0 := k10.cell0 t0
      replace t1 := k10.cell0 t1
      replace t2 := k10.cell0 t2
      replace Y_0 := k10.cell0 Y_0
      replace Y_1 := k10.cell0 Y_1
      replace Y_2 := k10.cell0 Y_2
      replace X_0 := k10.cell0 X_0
      replace X_1 := k10.cell0 X_1
      replace X_2 := k10.cell0 X_2
      replace K := hide ((unhide K).trans k10)
      have z11 := k10.size
      clear k10
      have l3 := o3.lt
      obtain ⟨a3, c3, hv⟩ := own_slice o3
      subst hv
      clear hH
      refine hK.out _ _ ?_ (fun hH => ?_)
      ·exact ⟨p0, p1, p2, t0, t1, t2⟩
      clear hK KK
      try simp only [Act.put, zq1, zq2, zq3, zq4, zq5, zq6]
      refine wpAnyH_ready (rs := [3]) (by kernel_rfl) (by simp) ?_
      refine AllReadyH.cons rfl (fun KK hK => ?_) AllReadyH.nil
      ·simp only [zq1, zq2, zq3]
       rw [if_pos (by rfl)]
       refine wps1 129 (.tmp 17) _ rfl in_dyadicOf (.agg #[.bool s2, .slice a2 ys.length c2, .int .i64 x2]) rfl (dyadicOf_impl s2 x2 _ r2 my) ?_
       rintro e w12 ⟨v4, rfl, o4, k12⟩
       refine ⟨_, rfl, ?_⟩
       replace r1 := r1.kept k12 (by omega)
       replace r2 := r2.kept k12 (by omega)
       replace kw := kw.trans k12
       replace o3 := own_kept o3 k12
       replace Y_f0 := k12.loose0 (zbl Y_0) Y_f0
       replace Y_f1 := k12.loose0 (zbl Y_1) Y_f1
       replace Y_f2 := k12.loose0 (zbl Y_2) Y_f2
       replace X_f0 := k12.loose0 (zbl X_0) X_f0
       replace X_f1 := k12.loose0 (zbl X_1) X_f1
       replace X_f2 := k12.loose0 (zbl X_2) X_f2
       replace p0 := k12.cell0 p0
       replace p1 := k12.cell0 p1
       replace p2 := k12.cell0 p2
       replace t0 := k12.cell0 t0
       replace t1 := k12.cell0 t1
       replace t2 := k12.cell0 t2
       replace Y_0 := k12.cell0 Y_0
       replace Y_1 := k12.cell0 Y_1
       replace Y_2 := k12.cell0 Y_2
       replace X_0 := k12.cell0 X_0
       replace X_1 := k12.cell0 X_1
       replace X_2 := k12.cell0 X_2
       replace K := hide ((unhide K).trans k12)
       have z13 := k12.size
       clear k12
       have l4 := o4.lt
       obtain ⟨a4, c4, hv⟩ := own_slice o4
       subst hv
       clear hH
       refine hK.out _ _ ?_ (fun hH => ?_)
       ·exact ⟨p0, p1, p2, t0, t1, t2⟩
       clear hK KK
       try simp only [Act.put, zq1, zq2, zq3, zq4, zq5, zq6]
       refine wpAnyH_ready (rs := [6]) (by kernel_rfl) (by simp) ?_
       refine AllReadyH.cons rfl (fun KK hK => ?_) AllReadyH.nil
       simp only [zq1, zq2, zq3]
       rw [if_pos (by rfl)]
       go_simp
       clear hH
       refine hK.out _ _ ?_ (fun hH => ?_)
       ·exact ⟨(cw3 (by have := unhide S0; dsimp only; omega) p0), (cw3 (by have := unhide S0; dsimp only; omega) p1), (cw3 (by have := unhide S0; dsimp only; omega) p2), (cw3 (by have := unhide S0; dsimp only; omega) t0), (cw3 (by have := unhide S0; dsimp only; omega) t1), (cw3 (by have := unhide S0; dsimp only; omega) t2)⟩
       clear hK KK
       try simp only [Act.put, zq1, zq2, zq3, zq4, zq5, zq6]
       refine wpAnyH_ready (rs := [7]) (by kernel_rfl) (by simp) ?_
       refine AllReadyH.cons rfl (fun KK hK => ?_) AllReadyH.nil
       simp only [zq1, zq2, zq3]
       rw [if_pos (by rfl)]
       go_simp
       clear hH
       refine hK.out _ _ ?_ (fun hH => ?_)
       ·exact ⟨(cw6 (by have := unhide S0; dsimp only; omega) p0), (cw6 (by have := unhide S0; dsimp only; omega) p1), (cw6 (by have := unhide S0; dsimp only; omega) p2), (cw6 (by have := unhide S0; dsimp only; omega) t0), (cw6 (by have := unhide S0; dsimp only; omega) t1), (cw6 (by have := unhide S0; dsimp only; omega) t2)⟩
       clear hK KK
       try simp only [Act.put, zq1, zq2, zq3, zq4, zq5, zq6]
       refine wpAnyH_done (by kernel_rfl) ?_ _
       clear hH
       go_wp2_with fail
       go_meet
       exact ⟨_, _, rfl, rfl, dya_pair s1 s2 x1 x2 kw o3 o4 X_0 X_1 X_2 X_f0 X_f1 X_f2 Y_0 Y_1 Y_2 Y_f0 Y_f1 Y_f2 (by omega) (by omega) (by omega) (by omega) (by omega) (fun e => by have := l3 _ e; omega) (fun e => by have := l3 _ e; omega) (fun e => by have := l4 _ e; omega) (fun e => by have := l4 _ e; omega) (fun k e1 e2 => by have := l3 _ e1; have := l4 _ e2; omega)⟩
  case rest =>
   obtain ⟨X, Y, rfl, rfl, sg⟩ := hcut
   go_wp2_with fail
   refine (compareDyadic_impl sg n1 n2 hx hy (by omega) (by omega) e1 e2 e3 e4).mono ?_
   rintro e w6 ⟨rfl, k7⟩
   replace r1 := r1.kept k7 (by omega)
   replace r2 := r2.kept k7 (by omega)
   replace p0 := k7.cell0 p0
   replace p1 := k7.cell0 p1
   replace p2 := k7.cell0 p2
   replace t0 := k7.cell0 t0
   replace t1 := k7.cell0 t1
   replace t2 := k7.cell0 t2
   replace K := hide ((unhide K).trans k7)
   have z5 := k7.size
   clear k7 r1 r2
   go_wp2_with fail
   go_ret
   exact ⟨by rw [cmpD_ok (unhide HO1) (unhide HO2)]; rfl, unhide K⟩

end Go.Proofs.YthahoabkehcgbaaGreatDoor

