/-
  Pairs of dyadic numbers: the program's product of a pair.
-/
import Derived.Test.YtpognolidbgkkaaDoorDy11m
import Derived.Test.YtpognolidbgkkaaDoorBC
import Derived.Deep.DeepCutAuto
import Derived.Deep.RegionHeld3
namespace Go.Proofs.YtpognolidbgkkaaDoor
open Go.RowKit
set_option linter.unusedVariables false
set_option maxRecDepth 8000
set_option linter.unusedSimpArgs false

theorem in_dyadicOf_p : ∀ (w : World) (args : Array Value), (callFunc 39 args).run Tryd.prog w = .ok (.enter 39 args) w := enters Tryd.func39 (by decide) (fun h => by cases h)

set_option maxHeartbeats 8000000 in
theorem product_impl {b1 b2 : Bool} {l1 h1 l2 h2 : Nat} {v1 v2 : Value} {xs ys : List Int} (s1 s2 : Bool) (x1 x2 : Int) (w : World) (r1 : Row .i64 b1 l1 h1 w v1 xs) (r2 : Row .i64 b2 l2 h2 w v2 ys) (o1 : dokB s1 xs x1 = true) (o2 : dokB s2 ys x2 = true) :
    Calls Tryd.prog 37 #[.agg #[.bool s1, v1, .int .i64 x1, .bool s2, v2, .int .i64 x2]] w fun e w' => ∃ v', e = .returned (.agg #[v', .bool (!(s1 == s2)), .int .i64 (x1 + x2)]) ∧ w'.ownsRow w.heap.size 3 1 v' (limbs (val xs * val ys).toNat).length ((limbs (val xs * val ys).toNat).map (Value.int .i64)) ∧ Kept 0 0 w w' := by
  obtain ⟨zs, hzs⟩ : ∃ z, limbs (val xs * val ys).toNat = z := ⟨_, rfl⟩
  obtain ⟨sx, hsx⟩ : ∃ z, (!(s1 == s2)) = z := ⟨_, rfl⟩
  rw [hzs, hsx]
  have HZ := hide hzs
  have HS := hide hsx
  clear hzs hsx
  obtain ⟨Wn, hn0⟩ : ∃ wz, wz = ((w.alloc (.cells #[.bool s1, v1, .int .i64 x1, .bool s2, v2, .int .i64 x2] 51)).alloc (.cells #[.slice none 0 0, .bool false, .int .i64 0] 75)) := ⟨_, rfl⟩
  have k0 : Kept 0 0 w Wn := by rw [hn0]; exact (((Kept.refl 0 0 w).alloc _).alloc _)
  have p0 : Wn.cell? ⟨w.heap.size, 0, none⟩ = some (.bool s1) := by rw [hn0]; exact old_cell _ (new_cell2 _ _ _ _ _ _ (by simp) rfl)
  have p1 : Wn.cell? ⟨w.heap.size, 1, none⟩ = some (v1) := by rw [hn0]; exact old_cell _ (new_cell2 _ _ _ _ _ _ (by simp) rfl)
  have p2 : Wn.cell? ⟨w.heap.size, 2, none⟩ = some (.int .i64 x1) := by rw [hn0]; exact old_cell _ (new_cell2 _ _ _ _ _ _ (by simp) rfl)
  have p3 : Wn.cell? ⟨w.heap.size, 3, none⟩ = some (.bool s2) := by rw [hn0]; exact old_cell _ (new_cell2 _ _ _ _ _ _ (by simp) rfl)
  have p4 : Wn.cell? ⟨w.heap.size, 4, none⟩ = some (v2) := by rw [hn0]; exact old_cell _ (new_cell2 _ _ _ _ _ _ (by simp) rfl)
  have p5 : Wn.cell? ⟨w.heap.size, 5, none⟩ = some (.int .i64 x2) := by rw [hn0]; exact old_cell _ (new_cell2 _ _ _ _ _ _ (by simp) rfl)
  have q0 : Wn.cell? ⟨w.heap.size + 1, 0, none⟩ = some (.slice none 0 0) := by rw [hn0]; exact new_cell2 _ _ _ _ _ _ (by simp) rfl
  have qf0 : Wn.frozen? ⟨w.heap.size + 1, 0, none⟩ = false := by rw [hn0]; exact new_loose2 _ _ _ _ _ (by simp)
  have q1 : Wn.cell? ⟨w.heap.size + 1, 1, none⟩ = some (.bool false) := by rw [hn0]; exact new_cell2 _ _ _ _ _ _ (by simp) rfl
  have qf1 : Wn.frozen? ⟨w.heap.size + 1, 1, none⟩ = false := by rw [hn0]; exact new_loose2 _ _ _ _ _ (by simp)
  have q2 : Wn.cell? ⟨w.heap.size + 1, 2, none⟩ = some (.int .i64 0) := by rw [hn0]; exact new_cell2 _ _ _ _ _ _ (by simp) rfl
  have qf2 : Wn.frozen? ⟨w.heap.size + 1, 2, none⟩ = false := by rw [hn0]; exact new_loose2 _ _ _ _ _ (by simp)
  subst hn0
  replace r1 := r1.kept k0 (by omega)
  replace r2 := r2.kept k0 (by omega)
  have s0 : ((w.alloc (.cells #[.bool s1, v1, .int .i64 x1, .bool s2, v2, .int .i64 x2] 51)).alloc (.cells #[.slice none 0 0, .bool false, .int .i64 0] 75)).heap.size = w.heap.size + 2 := by simp
  obtain ⟨a1, c1, hv⟩ := r1.form'
  subst hv
  obtain ⟨a2, c2, hv⟩ := r2.form'
  subst hv
  have K := hide (k0)
  clear k0
  have S0 := hide s0
  clear s0
  go_enter Tryd.func37, Tryd.ntmps37
  go_wp2_with fail
  generalize ((w.alloc (.cells #[.bool s1, .slice a1 xs.length c1, .int .i64 x1, .bool s2, .slice a2 ys.length c2, .int .i64 x2] 51)).alloc (.cells #[.slice none 0 0, .bool false, .int .i64 0] 75)) = W at *
  obtain ⟨w1', e1, e2, -, -⟩ := dok_parts o1
  obtain ⟨w2', e3, e4, -, -⟩ := dok_parts o2
  have n1 := wok_wn w1'
  have n2 := wok_wn w2'
  obtain ⟨-, -, lx, hx⟩ := wok_int w1'
  obtain ⟨-, -, ly, hy⟩ := wok_int w2'
  clear w1' w2'
  have mx : xs.length ≤ 1000000 := by omega
  have my : ys.length ≤ 1000000 := by omega
  go_cut [3, 4] (fun p q wx => ∃ X Y, p = .pointer (some ⟨X, 0, none⟩) ∧ q = .pointer (some ⟨Y, 0, none⟩) ∧ Dya2 W wx X Y s1 xs x1 s2 ys x2)
  case first =>
   have kw := Kept.refl 0 0 W
   have kd := (Kept.refl 0 0 W).drew
   revert r1 r2; refine kd.n2 ?_; intro r1 r2
   replace kw := kw.trans kd
   replace qf0 := kd.loose0 (zbl q0) qf0
   replace qf1 := kd.loose0 (zbl q1) qf1
   replace qf2 := kd.loose0 (zbl q2) qf2
   revert p0 p1 p2 p3 p4 p5 q0 q1 q2; refine kd.m9 ?_; intro p0 p1 p2 p3 p4 p5 q0 q1 q2
   replace K := hide ((unhide K).trans kd)
   have z1 := kd.size
   clear kd
   refine wp_region_held_drew (S := (fun w' => w'.cell? ⟨w.heap.size, 0, none⟩ = some (.bool s1) ∧ w'.cell? ⟨w.heap.size, 1, none⟩ = some (.slice a1 xs.length c1) ∧ w'.cell? ⟨w.heap.size, 2, none⟩ = some (.int .i64 x1) ∧ w'.cell? ⟨w.heap.size, 3, none⟩ = some (.bool s2) ∧ w'.cell? ⟨w.heap.size, 4, none⟩ = some (.slice a2 ys.length c2) ∧ w'.cell? ⟨w.heap.size, 5, none⟩ = some (.int .i64 x2))) (by kernel_rfl) ?_ (fun hH => ?_)
   ·exact ⟨p0, p1, p2, p3, p4, p5⟩
   generalize W.drew = wd at *
   refine wT (i := 0) (v := .pointer (some ⟨w.heap.size, 0, none⟩)) rfl (Or.inl ⟨by rfl, ?_⟩) hH ?_
   ·intro wq hSw
    try dsimp only at hSw
    go_simp
   try simp only [Act.put, zq1, zq2, zq3, zq4, zq5, zq6]
   refine wT (i := 1) (v := .agg #[.bool s1, .slice a1 xs.length c1, .int .i64 x1]) rfl (Or.inl ⟨by rfl, ?_⟩) hH ?_
   ·intro wq hSw
    try dsimp only at hSw
    go_simp
   try simp only [Act.put, zq1, zq2, zq3, zq4, zq5, zq6]
   refine wT (i := 3) (v := .pointer (some ⟨w.heap.size, 3, none⟩)) rfl (Or.inl ⟨by rfl, ?_⟩) hH ?_
   ·intro wq hSw
    try dsimp only at hSw
    go_simp
   try simp only [Act.put, zq1, zq2, zq3, zq4, zq5, zq6]
   refine wT (i := 4) (v := .agg #[.bool s2, .slice a2 ys.length c2, .int .i64 x2]) rfl (Or.inl ⟨by rfl, ?_⟩) hH ?_
   ·intro wq hSw
    try dsimp only at hSw
    go_simp
   try simp only [Act.put, zq1, zq2, zq3, zq4, zq5, zq6]
   refine wpAnyH_ready (rs := [2, 6, 7]) (by kernel_rfl) (by simp) ?_
   refine AllReadyH.cons rfl (fun KK hK => ?_) (AllReadyH.cons rfl (fun KK hK => ?_) (AllReadyH.cons rfl (fun KK hK => ?_) AllReadyH.nil))
   ·simp only [zq1, zq2, zq3]
    rw [if_pos (by rfl)]
    refine wps1 39 (.tmp 6) _ rfl in_dyadicOf_p (.agg #[.bool s1, .slice a1 xs.length c1, .int .i64 x1]) rfl (dyadicOf_impl s1 x1 _ r1 mx) ?_
    rintro e w2 ⟨v3, rfl, o3, k2⟩
    refine ⟨_, rfl, ?_⟩
    revert r1 r2; refine k2.n2 ?_; intro r1 r2
    replace kw := kw.trans k2
    replace qf0 := k2.loose0 (zbl q0) qf0
    replace qf1 := k2.loose0 (zbl q1) qf1
    replace qf2 := k2.loose0 (zbl q2) qf2
    revert p0 p1 p2 p3 p4 p5 q0 q1 q2; refine k2.m9 ?_; intro p0 p1 p2 p3 p4 p5 q0 q1 q2
    replace K := hide ((unhide K).trans k2)
    have z3 := k2.size
    clear k2
    have l3 := o3.lt
    obtain ⟨a3, c3, hv⟩ := own_slice o3
    subst hv
    clear hH
    refine hK.out _ _ ?_ (fun hH => ?_)
    ·exact ⟨p0, p1, p2, p3, p4, p5⟩
    clear hK KK
    try simp only [Act.put, zq1, zq2, zq3, zq4, zq5, zq6]
    refine wpAnyH_ready (rs := [5, 6, 7]) (by kernel_rfl) (by simp) ?_
    refine AllReadyH.cons rfl (fun KK hK => ?_) (AllReadyH.cons rfl (fun KK hK => ?_) (AllReadyH.cons rfl (fun KK hK => ?_) AllReadyH.nil))
    ·simp only [zq1, zq2, zq3]
     rw [if_pos (by rfl)]
     refine wps1 39 (.tmp 9) _ rfl in_dyadicOf_p (.agg #[.bool s2, .slice a2 ys.length c2, .int .i64 x2]) rfl (dyadicOf_impl s2 x2 _ r2 my) ?_
     rintro e w4 ⟨v4, rfl, o4, k4⟩
     refine ⟨_, rfl, ?_⟩
     revert r1 r2; refine k4.n2 ?_; intro r1 r2
     replace kw := kw.trans k4
     replace o3 := own_kept o3 k4
     replace qf0 := k4.loose0 (zbl q0) qf0
     replace qf1 := k4.loose0 (zbl q1) qf1
     replace qf2 := k4.loose0 (zbl q2) qf2
     revert p0 p1 p2 p3 p4 p5 q0 q1 q2; refine k4.m9 ?_; intro p0 p1 p2 p3 p4 p5 q0 q1 q2
     replace K := hide ((unhide K).trans k4)
     have z5 := k4.size
     clear k4
     have l4 := o4.lt
     obtain ⟨a4, c4, hv⟩ := own_slice o4
     subst hv
     clear hH
     refine hK.out _ _ ?_ (fun hH => ?_)
     ·exact ⟨p0, p1, p2, p3, p4, p5⟩
     clear hK KK
     try simp only [Act.put, zq1, zq2, zq3, zq4, zq5, zq6]
     refine wpAnyH_ready (rs := [6, 7]) (by kernel_rfl) (by simp) ?_
     refine AllReadyH.cons rfl (fun KK hK => ?_) (AllReadyH.cons rfl (fun KK hK => ?_) AllReadyH.nil)
     ·simp only [zq1, zq2, zq3]
      rw [if_pos (by rfl)]
      go_simp
      have kn := (Kept.refl 0 0 w4).alloc (.cells #[.slice none 0 0, .bool false, .int .i64 0] 75)
      revert r1 r2; refine kn.n2 ?_; intro r1 r2
      replace kw := kw.trans kn
      replace o3 := own_kept o3 kn
      replace o4 := own_kept o4 kn
      replace qf0 := kn.loose0 (zbl q0) qf0
      replace qf1 := kn.loose0 (zbl q1) qf1
      replace qf2 := kn.loose0 (zbl q2) qf2
      revert p0 p1 p2 p3 p4 p5 q0 q1 q2; refine kn.m9 ?_; intro p0 p1 p2 p3 p4 p5 q0 q1 q2
      replace K := hide ((unhide K).trans kn)
      have z7 := kn.size
      clear kn
      have szX_ : w4.heap.size < (w4.alloc (.cells #[.slice none 0 0, .bool false, .int .i64 0] 75)).heap.size := by simp
      have Ba : (w4.alloc (.cells #[.slice none 0 0, .bool false, .int .i64 0] 75)).cell? ⟨w4.heap.size, 0, none⟩ = some (.slice none 0 0) := new_cell2 _ _ _ _ _ _ rfl rfl
      have Bg : (w4.alloc (.cells #[.slice none 0 0, .bool false, .int .i64 0] 75)).frozen? ⟨w4.heap.size, 0, none⟩ = false := new_loose2 _ _ _ _ _ rfl
      have Bb : (w4.alloc (.cells #[.slice none 0 0, .bool false, .int .i64 0] 75)).cell? ⟨w4.heap.size, 1, none⟩ = some (.bool false) := new_cell2 _ _ _ _ _ _ rfl rfl
      have Bh : (w4.alloc (.cells #[.slice none 0 0, .bool false, .int .i64 0] 75)).frozen? ⟨w4.heap.size, 1, none⟩ = false := new_loose2 _ _ _ _ _ rfl
      have Bc : (w4.alloc (.cells #[.slice none 0 0, .bool false, .int .i64 0] 75)).cell? ⟨w4.heap.size, 2, none⟩ = some (.int .i64 0) := new_cell2 _ _ _ _ _ _ rfl rfl
      have Bi : (w4.alloc (.cells #[.slice none 0 0, .bool false, .int .i64 0] 75)).frozen? ⟨w4.heap.size, 2, none⟩ = false := new_loose2 _ _ _ _ _ rfl
      clear hH
      refine hK.out _ _ ?_ (fun hH => ?_)
      ·exact ⟨p0, p1, p2, p3, p4, p5⟩
      clear hK KK
      try simp only [Act.put, zq1, zq2, zq3, zq4, zq5, zq6]
      generalize w4.alloc (.cells #[.slice none 0 0, .bool false, .int .i64 0] 75) = w6 at *
      refine wR 7 (by kernel_rfl) rfl (fun KK hK => ?_)
      ·simp only [zq1, zq2, zq3]
       rw [if_pos (by rfl)]
       go_simp
       have kn := (Kept.refl 0 0 w6).alloc (.cells #[.slice none 0 0, .bool false, .int .i64 0] 75)
       revert r1 r2; refine kn.n2 ?_; intro r1 r2
       replace kw := kw.trans kn
       replace o3 := own_kept o3 kn
       replace o4 := own_kept o4 kn
       replace qf0 := kn.loose0 (zbl q0) qf0
       replace qf1 := kn.loose0 (zbl q1) qf1
       replace qf2 := kn.loose0 (zbl q2) qf2
       replace Bg := kn.loose0 (zbl Ba) Bg
       replace Bh := kn.loose0 (zbl Bb) Bh
       replace Bi := kn.loose0 (zbl Bc) Bi
       revert p0 p1 p2 p3 p4 p5 q0 q1 q2 Ba Bb Bc; refine kn.m12 ?_; intro p0 p1 p2 p3 p4 p5 q0 q1 q2 Ba Bb Bc
       replace K := hide ((unhide K).trans kn)
       have z9 := kn.size
       clear kn
       have szY_ : w6.heap.size < (w6.alloc (.cells #[.slice none 0 0, .bool false, .int .i64 0] 75)).heap.size := by simp
       have Bd : (w6.alloc (.cells #[.slice none 0 0, .bool false, .int .i64 0] 75)).cell? ⟨w6.heap.size, 0, none⟩ = some (.slice none 0 0) := new_cell2 _ _ _ _ _ _ rfl rfl
       have Bj : (w6.alloc (.cells #[.slice none 0 0, .bool false, .int .i64 0] 75)).frozen? ⟨w6.heap.size, 0, none⟩ = false := new_loose2 _ _ _ _ _ rfl
       have Be : (w6.alloc (.cells #[.slice none 0 0, .bool false, .int .i64 0] 75)).cell? ⟨w6.heap.size, 1, none⟩ = some (.bool false) := new_cell2 _ _ _ _ _ _ rfl rfl
       have Bk : (w6.alloc (.cells #[.slice none 0 0, .bool false, .int .i64 0] 75)).frozen? ⟨w6.heap.size, 1, none⟩ = false := new_loose2 _ _ _ _ _ rfl
       have Bf : (w6.alloc (.cells #[.slice none 0 0, .bool false, .int .i64 0] 75)).cell? ⟨w6.heap.size, 2, none⟩ = some (.int .i64 0) := new_cell2 _ _ _ _ _ _ rfl rfl
       have Bl : (w6.alloc (.cells #[.slice none 0 0, .bool false, .int .i64 0] 75)).frozen? ⟨w6.heap.size, 2, none⟩ = false := new_loose2 _ _ _ _ _ rfl
       clear hH
       refine hK.out _ _ ?_ (fun hH => ?_)
       ·exact ⟨p0, p1, p2, p3, p4, p5⟩
       clear hK KK
       try simp only [Act.put, zq1, zq2, zq3, zq4, zq5, zq6]
       generalize w6.alloc (.cells #[.slice none 0 0, .bool false, .int .i64 0] 75) = w8 at *
       refine wR 8 (by kernel_rfl) rfl (fun KK hK => ?_)
       simp only [zq1, zq2, zq3]
       rw [if_pos (by rfl)]
       go_simp
       clear hH
       refine hK.out _ _ ?_ (fun hH => ?_)
       ·have sq := unhide S0; exact ⟨(cw3 (by dsimp only; omega) p0), (cw3 (by dsimp only; omega) p1), (cw3 (by dsimp only; omega) p2), (cw3 (by dsimp only; omega) p3), (cw3 (by dsimp only; omega) p4), (cw3 (by dsimp only; omega) p5)⟩
       clear hK KK
       try simp only [Act.put, zq1, zq2, zq3, zq4, zq5, zq6]
       refine wR 9 (by kernel_rfl) rfl (fun KK hK => ?_)
       simp only [zq1, zq2, zq3]
       rw [if_pos (by rfl)]
       go_simp
       clear hH
       refine hK.out _ _ ?_ (fun hH => ?_)
       ·have sq := unhide S0; exact ⟨(cw6 (by dsimp only; omega) p0), (cw6 (by dsimp only; omega) p1), (cw6 (by dsimp only; omega) p2), (cw6 (by dsimp only; omega) p3), (cw6 (by dsimp only; omega) p4), (cw6 (by dsimp only; omega) p5)⟩
       clear hK KK
       try simp only [Act.put, zq1, zq2, zq3, zq4, zq5, zq6]
       refine wpAnyH_done (by kernel_rfl) ?_ _
       clear hH
       go_wp2_with fail
       go_meet
       exact ⟨_, _, rfl, rfl, dya_pair s1 s2 x1 x2 kw o3 o4 Ba Bb Bc Bg Bh Bi Bd Be Bf Bj Bk Bl (by omega) (by omega) (by omega) (by omega) (by omega) (fun e => by have := l3 _ e; omega) (fun e => by have := l3 _ e; omega) (fun e => by have := l4 _ e; omega) (fun e => by have := l4 _ e; omega) (fun k e1 e2 => by have := l3 _ e1; have := l4 _ e2; omega)⟩
     ·simp only [zq1, zq2, zq3]
      rw [if_pos (by rfl)]
      go_simp
      have kn := (Kept.refl 0 0 w4).alloc (.cells #[.slice none 0 0, .bool false, .int .i64 0] 75)
      replace r1 := r1.kp kn
      replace r2 := r2.kp kn
      replace kw := kw.trans kn
      replace o3 := own_kept o3 kn
      replace o4 := own_kept o4 kn
      replace qf0 := kn.loose0 (zbl q0) qf0
      replace qf1 := kn.loose0 (zbl q1) qf1
      replace qf2 := kn.loose0 (zbl q2) qf2
      replace p0 := kn.cell0 p0
      replace p1 := kn.cell0 p1
      replace p2 := kn.cell0 p2
      replace p3 := kn.cell0 p3
      replace p4 := kn.cell0 p4
      replace p5 := kn.cell0 p5
      replace q0 := kn.cell0 q0
      replace q1 := kn.cell0 q1
      replace q2 := kn.cell0 q2
      replace K := hide ((unhide K).trans kn)
      have z7 := kn.size
      clear kn
      have szY_ : w4.heap.size < (w4.alloc (.cells #[.slice none 0 0, .bool false, .int .i64 0] 75)).heap.size := by simp
      have Bd : (w4.alloc (.cells #[.slice none 0 0, .bool false, .int .i64 0] 75)).cell? ⟨w4.heap.size, 0, none⟩ = some (.slice none 0 0) := new_cell2 _ _ _ _ _ _ rfl rfl
      have Bj : (w4.alloc (.cells #[.slice none 0 0, .bool false, .int .i64 0] 75)).frozen? ⟨w4.heap.size, 0, none⟩ = false := new_loose2 _ _ _ _ _ rfl
      have Be : (w4.alloc (.cells #[.slice none 0 0, .bool false, .int .i64 0] 75)).cell? ⟨w4.heap.size, 1, none⟩ = some (.bool false) := new_cell2 _ _ _ _ _ _ rfl rfl
      have Bk : (w4.alloc (.cells #[.slice none 0 0, .bool false, .int .i64 0] 75)).frozen? ⟨w4.heap.size, 1, none⟩ = false := new_loose2 _ _ _ _ _ rfl
      have Bf : (w4.alloc (.cells #[.slice none 0 0, .bool false, .int .i64 0] 75)).cell? ⟨w4.heap.size, 2, none⟩ = some (.int .i64 0) := new_cell2 _ _ _ _ _ _ rfl rfl
      have Bl : (w4.alloc (.cells #[.slice none 0 0, .bool false, .int .i64 0] 75)).frozen? ⟨w4.heap.size, 2, none⟩ = false := new_loose2 _ _ _ _ _ rfl
      clear hH
      refine hK.out _ _ ?_ (fun hH => ?_)
      ·exact ⟨p0, p1, p2, p3, p4, p5⟩
      clear hK KK
      try simp only [Act.put, zq1, zq2, zq3, zq4, zq5, zq6]
      generalize w4.alloc (.cells #[.slice none 0 0, .bool false, .int .i64 0] 75) = w6 at *
      refine wR 6 (by kernel_rfl) rfl (fun KK hK => ?_)
      ·simp only [zq1, zq2, zq3]
       rw [if_pos (by rfl)]
       go_simp
       have kn := (Kept.refl 0 0 w6).alloc (.cells #[.slice none 0 0, .bool false, .int .i64 0] 75)
       revert r1 r2; refine kn.n2 ?_; intro r1 r2
       replace kw := kw.trans kn
       replace o3 := own_kept o3 kn
       replace o4 := own_kept o4 kn
       replace qf0 := kn.loose0 (zbl q0) qf0
       replace qf1 := kn.loose0 (zbl q1) qf1
       replace qf2 := kn.loose0 (zbl q2) qf2
       replace Bj := kn.loose0 (zbl Bd) Bj
       replace Bk := kn.loose0 (zbl Be) Bk
       replace Bl := kn.loose0 (zbl Bf) Bl
       revert p0 p1 p2 p3 p4 p5 q0 q1 q2 Bd Be Bf; refine kn.m12 ?_; intro p0 p1 p2 p3 p4 p5 q0 q1 q2 Bd Be Bf
       replace K := hide ((unhide K).trans kn)
       have z9 := kn.size
       clear kn
       have szX_ : w6.heap.size < (w6.alloc (.cells #[.slice none 0 0, .bool false, .int .i64 0] 75)).heap.size := by simp
       have Ba : (w6.alloc (.cells #[.slice none 0 0, .bool false, .int .i64 0] 75)).cell? ⟨w6.heap.size, 0, none⟩ = some (.slice none 0 0) := new_cell2 _ _ _ _ _ _ rfl rfl
       have Bg : (w6.alloc (.cells #[.slice none 0 0, .bool false, .int .i64 0] 75)).frozen? ⟨w6.heap.size, 0, none⟩ = false := new_loose2 _ _ _ _ _ rfl
       have Bb : (w6.alloc (.cells #[.slice none 0 0, .bool false, .int .i64 0] 75)).cell? ⟨w6.heap.size, 1, none⟩ = some (.bool false) := new_cell2 _ _ _ _ _ _ rfl rfl
       have Bh : (w6.alloc (.cells #[.slice none 0 0, .bool false, .int .i64 0] 75)).frozen? ⟨w6.heap.size, 1, none⟩ = false := new_loose2 _ _ _ _ _ rfl
       have Bc : (w6.alloc (.cells #[.slice none 0 0, .bool false, .int .i64 0] 75)).cell? ⟨w6.heap.size, 2, none⟩ = some (.int .i64 0) := new_cell2 _ _ _ _ _ _ rfl rfl
       have Bi : (w6.alloc (.cells #[.slice none 0 0, .bool false, .int .i64 0] 75)).frozen? ⟨w6.heap.size, 2, none⟩ = false := new_loose2 _ _ _ _ _ rfl
       clear hH
       refine hK.out _ _ ?_ (fun hH => ?_)
       ·exact ⟨p0, p1, p2, p3, p4, p5⟩
       clear hK KK
       try simp only [Act.put, zq1, zq2, zq3, zq4, zq5, zq6]
       generalize w6.alloc (.cells #[.slice none 0 0, .bool false, .int .i64 0] 75) = w8 at *
       refine wR 8 (by kernel_rfl) rfl (fun KK hK => ?_)
       simp only [zq1, zq2, zq3]
       rw [if_pos (by rfl)]
       go_simp
       clear hH
       refine hK.out _ _ ?_ (fun hH => ?_)
       ·have sq := unhide S0; exact ⟨(cw3 (by dsimp only; omega) p0), (cw3 (by dsimp only; omega) p1), (cw3 (by dsimp only; omega) p2), (cw3 (by dsimp only; omega) p3), (cw3 (by dsimp only; omega) p4), (cw3 (by dsimp only; omega) p5)⟩
       clear hK KK
       try simp only [Act.put, zq1, zq2, zq3, zq4, zq5, zq6]
       refine wR 9 (by kernel_rfl) rfl (fun KK hK => ?_)
       simp only [zq1, zq2, zq3]
       rw [if_pos (by rfl)]
       go_simp
       clear hH
       refine hK.out _ _ ?_ (fun hH => ?_)
       ·have sq := unhide S0; exact ⟨(cw6 (by dsimp only; omega) p0), (cw6 (by dsimp only; omega) p1), (cw6 (by dsimp only; omega) p2), (cw6 (by dsimp only; omega) p3), (cw6 (by dsimp only; omega) p4), (cw6 (by dsimp only; omega) p5)⟩
       clear hK KK
       try simp only [Act.put, zq1, zq2, zq3, zq4, zq5, zq6]
       refine wpAnyH_done (by kernel_rfl) ?_ _
       clear hH
       go_wp2_with fail
       go_meet
       exact ⟨_, _, rfl, rfl, dya_pair s1 s2 x1 x2 kw o3 o4 Ba Bb Bc Bg Bh Bi Bd Be Bf Bj Bk Bl (by omega) (by omega) (by omega) (by omega) (by omega) (fun e => by have := l3 _ e; omega) (fun e => by have := l3 _ e; omega) (fun e => by have := l4 _ e; omega) (fun e => by have := l4 _ e; omega) (fun k e1 e2 => by have := l3 _ e1; have := l4 _ e2; omega)⟩
    ·simp only [zq1, zq2, zq3]
     rw [if_pos (by rfl)]
     go_simp
     have kn := (Kept.refl 0 0 w2).alloc (.cells #[.slice none 0 0, .bool false, .int .i64 0] 75)
     replace r1 := r1.kp kn
     replace r2 := r2.kp kn
     replace kw := kw.trans kn
     replace o3 := own_kept o3 kn
     replace qf0 := kn.loose0 (zbl q0) qf0
     replace qf1 := kn.loose0 (zbl q1) qf1
     replace qf2 := kn.loose0 (zbl q2) qf2
     replace p0 := kn.cell0 p0
     replace p1 := kn.cell0 p1
     replace p2 := kn.cell0 p2
     replace p3 := kn.cell0 p3
     replace p4 := kn.cell0 p4
     replace p5 := kn.cell0 p5
     replace q0 := kn.cell0 q0
     replace q1 := kn.cell0 q1
     replace q2 := kn.cell0 q2
     replace K := hide ((unhide K).trans kn)
     have z5 := kn.size
     clear kn
     have szX_ : w2.heap.size < (w2.alloc (.cells #[.slice none 0 0, .bool false, .int .i64 0] 75)).heap.size := by simp
     have Ba : (w2.alloc (.cells #[.slice none 0 0, .bool false, .int .i64 0] 75)).cell? ⟨w2.heap.size, 0, none⟩ = some (.slice none 0 0) := new_cell2 _ _ _ _ _ _ rfl rfl
     have Bg : (w2.alloc (.cells #[.slice none 0 0, .bool false, .int .i64 0] 75)).frozen? ⟨w2.heap.size, 0, none⟩ = false := new_loose2 _ _ _ _ _ rfl
     have Bb : (w2.alloc (.cells #[.slice none 0 0, .bool false, .int .i64 0] 75)).cell? ⟨w2.heap.size, 1, none⟩ = some (.bool false) := new_cell2 _ _ _ _ _ _ rfl rfl
     have Bh : (w2.alloc (.cells #[.slice none 0 0, .bool false, .int .i64 0] 75)).frozen? ⟨w2.heap.size, 1, none⟩ = false := new_loose2 _ _ _ _ _ rfl
     have Bc : (w2.alloc (.cells #[.slice none 0 0, .bool false, .int .i64 0] 75)).cell? ⟨w2.heap.size, 2, none⟩ = some (.int .i64 0) := new_cell2 _ _ _ _ _ _ rfl rfl
     have Bi : (w2.alloc (.cells #[.slice none 0 0, .bool false, .int .i64 0] 75)).frozen? ⟨w2.heap.size, 2, none⟩ = false := new_loose2 _ _ _ _ _ rfl
     clear hH
     refine hK.out _ _ ?_ (fun hH => ?_)
     ·exact ⟨p0, p1, p2, p3, p4, p5⟩
     clear hK KK
     try simp only [Act.put, zq1, zq2, zq3, zq4, zq5, zq6]
     generalize w2.alloc (.cells #[.slice none 0 0, .bool false, .int .i64 0] 75) = w4 at *
     refine wpAnyH_ready (rs := [5, 7]) (by kernel_rfl) (by simp) ?_
     refine AllReadyH.cons rfl (fun KK hK => ?_) (AllReadyH.cons rfl (fun KK hK => ?_) AllReadyH.nil)
     ·simp only [zq1, zq2, zq3]
      rw [if_pos (by rfl)]
      refine wps1 39 (.tmp 9) _ rfl in_dyadicOf_p (.agg #[.bool s2, .slice a2 ys.length c2, .int .i64 x2]) rfl (dyadicOf_impl s2 x2 _ r2 my) ?_
      rintro e w6 ⟨v4, rfl, o4, k6⟩
      refine ⟨_, rfl, ?_⟩
      revert r1 r2; refine k6.n2 ?_; intro r1 r2
      replace kw := kw.trans k6
      replace o3 := own_kept o3 k6
      replace qf0 := k6.loose0 (zbl q0) qf0
      replace qf1 := k6.loose0 (zbl q1) qf1
      replace qf2 := k6.loose0 (zbl q2) qf2
      replace Bg := k6.loose0 (zbl Ba) Bg
      replace Bh := k6.loose0 (zbl Bb) Bh
      replace Bi := k6.loose0 (zbl Bc) Bi
      revert p0 p1 p2 p3 p4 p5 q0 q1 q2 Ba Bb Bc; refine k6.m12 ?_; intro p0 p1 p2 p3 p4 p5 q0 q1 q2 Ba Bb Bc
      replace K := hide ((unhide K).trans k6)
      have z7 := k6.size
      clear k6
      have l4 := o4.lt
      obtain ⟨a4, c4, hv⟩ := own_slice o4
      subst hv
      clear hH
      refine hK.out _ _ ?_ (fun hH => ?_)
      ·exact ⟨p0, p1, p2, p3, p4, p5⟩
      clear hK KK
      try simp only [Act.put, zq1, zq2, zq3, zq4, zq5, zq6]
      refine wR 7 (by kernel_rfl) rfl (fun KK hK => ?_)
      ·simp only [zq1, zq2, zq3]
       rw [if_pos (by rfl)]
       go_simp
       have kn := (Kept.refl 0 0 w6).alloc (.cells #[.slice none 0 0, .bool false, .int .i64 0] 75)
       revert r1 r2; refine kn.n2 ?_; intro r1 r2
       replace kw := kw.trans kn
       replace o3 := own_kept o3 kn
       replace o4 := own_kept o4 kn
       replace qf0 := kn.loose0 (zbl q0) qf0
       replace qf1 := kn.loose0 (zbl q1) qf1
       replace qf2 := kn.loose0 (zbl q2) qf2
       replace Bg := kn.loose0 (zbl Ba) Bg
       replace Bh := kn.loose0 (zbl Bb) Bh
       replace Bi := kn.loose0 (zbl Bc) Bi
       revert p0 p1 p2 p3 p4 p5 q0 q1 q2 Ba Bb Bc; refine kn.m12 ?_; intro p0 p1 p2 p3 p4 p5 q0 q1 q2 Ba Bb Bc
       replace K := hide ((unhide K).trans kn)
       have z9 := kn.size
       clear kn
       have szY_ : w6.heap.size < (w6.alloc (.cells #[.slice none 0 0, .bool false, .int .i64 0] 75)).heap.size := by simp
       have Bd : (w6.alloc (.cells #[.slice none 0 0, .bool false, .int .i64 0] 75)).cell? ⟨w6.heap.size, 0, none⟩ = some (.slice none 0 0) := new_cell2 _ _ _ _ _ _ rfl rfl
       have Bj : (w6.alloc (.cells #[.slice none 0 0, .bool false, .int .i64 0] 75)).frozen? ⟨w6.heap.size, 0, none⟩ = false := new_loose2 _ _ _ _ _ rfl
       have Be : (w6.alloc (.cells #[.slice none 0 0, .bool false, .int .i64 0] 75)).cell? ⟨w6.heap.size, 1, none⟩ = some (.bool false) := new_cell2 _ _ _ _ _ _ rfl rfl
       have Bk : (w6.alloc (.cells #[.slice none 0 0, .bool false, .int .i64 0] 75)).frozen? ⟨w6.heap.size, 1, none⟩ = false := new_loose2 _ _ _ _ _ rfl
       have Bf : (w6.alloc (.cells #[.slice none 0 0, .bool false, .int .i64 0] 75)).cell? ⟨w6.heap.size, 2, none⟩ = some (.int .i64 0) := new_cell2 _ _ _ _ _ _ rfl rfl
       have Bl : (w6.alloc (.cells #[.slice none 0 0, .bool false, .int .i64 0] 75)).frozen? ⟨w6.heap.size, 2, none⟩ = false := new_loose2 _ _ _ _ _ rfl
       clear hH
       refine hK.out _ _ ?_ (fun hH => ?_)
       ·exact ⟨p0, p1, p2, p3, p4, p5⟩
       clear hK KK
       try simp only [Act.put, zq1, zq2, zq3, zq4, zq5, zq6]
       generalize w6.alloc (.cells #[.slice none 0 0, .bool false, .int .i64 0] 75) = w8 at *
       refine wR 8 (by kernel_rfl) rfl (fun KK hK => ?_)
       simp only [zq1, zq2, zq3]
       rw [if_pos (by rfl)]
       go_simp
       clear hH
       refine hK.out _ _ ?_ (fun hH => ?_)
       ·have sq := unhide S0; exact ⟨(cw3 (by dsimp only; omega) p0), (cw3 (by dsimp only; omega) p1), (cw3 (by dsimp only; omega) p2), (cw3 (by dsimp only; omega) p3), (cw3 (by dsimp only; omega) p4), (cw3 (by dsimp only; omega) p5)⟩
       clear hK KK
       try simp only [Act.put, zq1, zq2, zq3, zq4, zq5, zq6]
       refine wR 9 (by kernel_rfl) rfl (fun KK hK => ?_)
       simp only [zq1, zq2, zq3]
       rw [if_pos (by rfl)]
       go_simp
       clear hH
       refine hK.out _ _ ?_ (fun hH => ?_)
       ·have sq := unhide S0; exact ⟨(cw6 (by dsimp only; omega) p0), (cw6 (by dsimp only; omega) p1), (cw6 (by dsimp only; omega) p2), (cw6 (by dsimp only; omega) p3), (cw6 (by dsimp only; omega) p4), (cw6 (by dsimp only; omega) p5)⟩
       clear hK KK
       try simp only [Act.put, zq1, zq2, zq3, zq4, zq5, zq6]
       refine wpAnyH_done (by kernel_rfl) ?_ _
       clear hH
       go_wp2_with fail
       go_meet
       exact ⟨_, _, rfl, rfl, dya_pair s1 s2 x1 x2 kw o3 o4 Ba Bb Bc Bg Bh Bi Bd Be Bf Bj Bk Bl (by omega) (by omega) (by omega) (by omega) (by omega) (fun e => by have := l3 _ e; omega) (fun e => by have := l3 _ e; omega) (fun e => by have := l4 _ e; omega) (fun e => by have := l4 _ e; omega) (fun k e1 e2 => by have := l3 _ e1; have := l4 _ e2; omega)⟩
     ·simp only [zq1, zq2, zq3]
      rw [if_pos (by rfl)]
      go_simp
      have kn := (Kept.refl 0 0 w4).alloc (.cells #[.slice none 0 0, .bool false, .int .i64 0] 75)
      replace r1 := r1.kp kn
      replace r2 := r2.kp kn
      replace kw := kw.trans kn
      replace o3 := own_kept o3 kn
      replace qf0 := kn.loose0 (zbl q0) qf0
      replace qf1 := kn.loose0 (zbl q1) qf1
      replace qf2 := kn.loose0 (zbl q2) qf2
      replace Bg := kn.loose0 (zbl Ba) Bg
      replace Bh := kn.loose0 (zbl Bb) Bh
      replace Bi := kn.loose0 (zbl Bc) Bi
      replace p0 := kn.cell0 p0
      replace p1 := kn.cell0 p1
      replace p2 := kn.cell0 p2
      replace p3 := kn.cell0 p3
      replace p4 := kn.cell0 p4
      replace p5 := kn.cell0 p5
      replace q0 := kn.cell0 q0
      replace q1 := kn.cell0 q1
      replace q2 := kn.cell0 q2
      replace Ba := kn.cell0 Ba
      replace Bb := kn.cell0 Bb
      replace Bc := kn.cell0 Bc
      replace K := hide ((unhide K).trans kn)
      have z7 := kn.size
      clear kn
      have szY_ : w4.heap.size < (w4.alloc (.cells #[.slice none 0 0, .bool false, .int .i64 0] 75)).heap.size := by simp
      have Bd : (w4.alloc (.cells #[.slice none 0 0, .bool false, .int .i64 0] 75)).cell? ⟨w4.heap.size, 0, none⟩ = some (.slice none 0 0) := new_cell2 _ _ _ _ _ _ rfl rfl
      have Bj : (w4.alloc (.cells #[.slice none 0 0, .bool false, .int .i64 0] 75)).frozen? ⟨w4.heap.size, 0, none⟩ = false := new_loose2 _ _ _ _ _ rfl
      have Be : (w4.alloc (.cells #[.slice none 0 0, .bool false, .int .i64 0] 75)).cell? ⟨w4.heap.size, 1, none⟩ = some (.bool false) := new_cell2 _ _ _ _ _ _ rfl rfl
      have Bk : (w4.alloc (.cells #[.slice none 0 0, .bool false, .int .i64 0] 75)).frozen? ⟨w4.heap.size, 1, none⟩ = false := new_loose2 _ _ _ _ _ rfl
      have Bf : (w4.alloc (.cells #[.slice none 0 0, .bool false, .int .i64 0] 75)).cell? ⟨w4.heap.size, 2, none⟩ = some (.int .i64 0) := new_cell2 _ _ _ _ _ _ rfl rfl
      have Bl : (w4.alloc (.cells #[.slice none 0 0, .bool false, .int .i64 0] 75)).frozen? ⟨w4.heap.size, 2, none⟩ = false := new_loose2 _ _ _ _ _ rfl
      clear hH
      refine hK.out _ _ ?_ (fun hH => ?_)
      ·exact ⟨p0, p1, p2, p3, p4, p5⟩
      clear hK KK
      try simp only [Act.put, zq1, zq2, zq3, zq4, zq5, zq6]
      generalize w4.alloc (.cells #[.slice none 0 0, .bool false, .int .i64 0] 75) = w6 at *
      refine wR 5 (by kernel_rfl) rfl (fun KK hK => ?_)
      ·simp only [zq1, zq2, zq3]
       rw [if_pos (by rfl)]
       refine wps1 39 (.tmp 9) _ rfl in_dyadicOf_p (.agg #[.bool s2, .slice a2 ys.length c2, .int .i64 x2]) rfl (dyadicOf_impl s2 x2 _ r2 my) ?_
       rintro e w8 ⟨v4, rfl, o4, k8⟩
       refine ⟨_, rfl, ?_⟩
       revert r1 r2; refine k8.n2 ?_; intro r1 r2
       replace kw := kw.trans k8
       replace o3 := own_kept o3 k8
       replace qf0 := k8.loose0 (zbl q0) qf0
       replace qf1 := k8.loose0 (zbl q1) qf1
       replace qf2 := k8.loose0 (zbl q2) qf2
       replace Bg := k8.loose0 (zbl Ba) Bg
       replace Bh := k8.loose0 (zbl Bb) Bh
       replace Bi := k8.loose0 (zbl Bc) Bi
       replace Bj := k8.loose0 (zbl Bd) Bj
       replace Bk := k8.loose0 (zbl Be) Bk
       replace Bl := k8.loose0 (zbl Bf) Bl
       revert p0 p1 p2 p3 p4 p5 q0 q1 q2 Ba Bb Bc; refine k8.m12 ?_; intro p0 p1 p2 p3 p4 p5 q0 q1 q2 Ba Bb Bc
       revert Bd Be Bf; refine k8.m3 ?_; intro Bd Be Bf
       replace K := hide ((unhide K).trans k8)
       have z9 := k8.size
       clear k8
       have l4 := o4.lt
       obtain ⟨a4, c4, hv⟩ := own_slice o4
       subst hv
       clear hH
       refine hK.out _ _ ?_ (fun hH => ?_)
       ·exact ⟨p0, p1, p2, p3, p4, p5⟩
       clear hK KK
       try simp only [Act.put, zq1, zq2, zq3, zq4, zq5, zq6]
       refine wR 8 (by kernel_rfl) rfl (fun KK hK => ?_)
       simp only [zq1, zq2, zq3]
       rw [if_pos (by rfl)]
       go_simp
       clear hH
       refine hK.out _ _ ?_ (fun hH => ?_)
       ·have sq := unhide S0; exact ⟨(cw3 (by dsimp only; omega) p0), (cw3 (by dsimp only; omega) p1), (cw3 (by dsimp only; omega) p2), (cw3 (by dsimp only; omega) p3), (cw3 (by dsimp only; omega) p4), (cw3 (by dsimp only; omega) p5)⟩
       clear hK KK
       try simp only [Act.put, zq1, zq2, zq3, zq4, zq5, zq6]
       refine wR 9 (by kernel_rfl) rfl (fun KK hK => ?_)
       simp only [zq1, zq2, zq3]
       rw [if_pos (by rfl)]
       go_simp
       clear hH
       refine hK.out _ _ ?_ (fun hH => ?_)
       ·have sq := unhide S0; exact ⟨(cw6 (by dsimp only; omega) p0), (cw6 (by dsimp only; omega) p1), (cw6 (by dsimp only; omega) p2), (cw6 (by dsimp only; omega) p3), (cw6 (by dsimp only; omega) p4), (cw6 (by dsimp only; omega) p5)⟩
       clear hK KK
       try simp only [Act.put, zq1, zq2, zq3, zq4, zq5, zq6]
       refine wpAnyH_done (by kernel_rfl) ?_ _
       clear hH
       go_wp2_with fail
       go_meet
       exact ⟨_, _, rfl, rfl, dya_pair s1 s2 x1 x2 kw o3 o4 Ba Bb Bc Bg Bh Bi Bd Be Bf Bj Bk Bl (by omega) (by omega) (by omega) (by omega) (by omega) (fun e => by have := l3 _ e; omega) (fun e => by have := l3 _ e; omega) (fun e => by have := l4 _ e; omega) (fun e => by have := l4 _ e; omega) (fun k e1 e2 => by have := l3 _ e1; have := l4 _ e2; omega)⟩
    ·simp only [zq1, zq2, zq3]
     rw [if_pos (by rfl)]
     go_simp
     have kn := (Kept.refl 0 0 w2).alloc (.cells #[.slice none 0 0, .bool false, .int .i64 0] 75)
     replace r1 := r1.kp kn
     replace r2 := r2.kp kn
     replace kw := kw.trans kn
     replace o3 := own_kept o3 kn
     replace qf0 := kn.loose0 (zbl q0) qf0
     replace qf1 := kn.loose0 (zbl q1) qf1
     replace qf2 := kn.loose0 (zbl q2) qf2
     replace p0 := kn.cell0 p0
     replace p1 := kn.cell0 p1
     replace p2 := kn.cell0 p2
     replace p3 := kn.cell0 p3
     replace p4 := kn.cell0 p4
     replace p5 := kn.cell0 p5
     replace q0 := kn.cell0 q0
     replace q1 := kn.cell0 q1
     replace q2 := kn.cell0 q2
     replace K := hide ((unhide K).trans kn)
     have z5 := kn.size
     clear kn
     have szY_ : w2.heap.size < (w2.alloc (.cells #[.slice none 0 0, .bool false, .int .i64 0] 75)).heap.size := by simp
     have Bd : (w2.alloc (.cells #[.slice none 0 0, .bool false, .int .i64 0] 75)).cell? ⟨w2.heap.size, 0, none⟩ = some (.slice none 0 0) := new_cell2 _ _ _ _ _ _ rfl rfl
     have Bj : (w2.alloc (.cells #[.slice none 0 0, .bool false, .int .i64 0] 75)).frozen? ⟨w2.heap.size, 0, none⟩ = false := new_loose2 _ _ _ _ _ rfl
     have Be : (w2.alloc (.cells #[.slice none 0 0, .bool false, .int .i64 0] 75)).cell? ⟨w2.heap.size, 1, none⟩ = some (.bool false) := new_cell2 _ _ _ _ _ _ rfl rfl
     have Bk : (w2.alloc (.cells #[.slice none 0 0, .bool false, .int .i64 0] 75)).frozen? ⟨w2.heap.size, 1, none⟩ = false := new_loose2 _ _ _ _ _ rfl
     have Bf : (w2.alloc (.cells #[.slice none 0 0, .bool false, .int .i64 0] 75)).cell? ⟨w2.heap.size, 2, none⟩ = some (.int .i64 0) := new_cell2 _ _ _ _ _ _ rfl rfl
     have Bl : (w2.alloc (.cells #[.slice none 0 0, .bool false, .int .i64 0] 75)).frozen? ⟨w2.heap.size, 2, none⟩ = false := new_loose2 _ _ _ _ _ rfl
     clear hH
     refine hK.out _ _ ?_ (fun hH => ?_)
     ·exact ⟨p0, p1, p2, p3, p4, p5⟩
     clear hK KK
     try simp only [Act.put, zq1, zq2, zq3, zq4, zq5, zq6]
     generalize w2.alloc (.cells #[.slice none 0 0, .bool false, .int .i64 0] 75) = w4 at *
     refine wpAnyH_ready (rs := [5, 6]) (by kernel_rfl) (by simp) ?_
     refine AllReadyH.cons rfl (fun KK hK => ?_) (AllReadyH.cons rfl (fun KK hK => ?_) AllReadyH.nil)
     ·simp only [zq1, zq2, zq3]
      rw [if_pos (by rfl)]
      refine wps1 39 (.tmp 9) _ rfl in_dyadicOf_p (.agg #[.bool s2, .slice a2 ys.length c2, .int .i64 x2]) rfl (dyadicOf_impl s2 x2 _ r2 my) ?_
      rintro e w6 ⟨v4, rfl, o4, k6⟩
      refine ⟨_, rfl, ?_⟩
      revert r1 r2; refine k6.n2 ?_; intro r1 r2
      replace kw := kw.trans k6
      replace o3 := own_kept o3 k6
      replace qf0 := k6.loose0 (zbl q0) qf0
      replace qf1 := k6.loose0 (zbl q1) qf1
      replace qf2 := k6.loose0 (zbl q2) qf2
      replace Bj := k6.loose0 (zbl Bd) Bj
      replace Bk := k6.loose0 (zbl Be) Bk
      replace Bl := k6.loose0 (zbl Bf) Bl
      revert p0 p1 p2 p3 p4 p5 q0 q1 q2 Bd Be Bf; refine k6.m12 ?_; intro p0 p1 p2 p3 p4 p5 q0 q1 q2 Bd Be Bf
      replace K := hide ((unhide K).trans k6)
      have z7 := k6.size
      clear k6
      have l4 := o4.lt
      obtain ⟨a4, c4, hv⟩ := own_slice o4
      subst hv
      clear hH
      refine hK.out _ _ ?_ (fun hH => ?_)
      ·exact ⟨p0, p1, p2, p3, p4, p5⟩
      clear hK KK
      try simp only [Act.put, zq1, zq2, zq3, zq4, zq5, zq6]
      refine wR 6 (by kernel_rfl) rfl (fun KK hK => ?_)
      ·simp only [zq1, zq2, zq3]
       rw [if_pos (by rfl)]
       go_simp
       have kn := (Kept.refl 0 0 w6).alloc (.cells #[.slice none 0 0, .bool false, .int .i64 0] 75)
       revert r1 r2; refine kn.n2 ?_; intro r1 r2
       replace kw := kw.trans kn
       replace o3 := own_kept o3 kn
       replace o4 := own_kept o4 kn
       replace qf0 := kn.loose0 (zbl q0) qf0
       replace qf1 := kn.loose0 (zbl q1) qf1
       replace qf2 := kn.loose0 (zbl q2) qf2
       replace Bj := kn.loose0 (zbl Bd) Bj
       replace Bk := kn.loose0 (zbl Be) Bk
       replace Bl := kn.loose0 (zbl Bf) Bl
       revert p0 p1 p2 p3 p4 p5 q0 q1 q2 Bd Be Bf; refine kn.m12 ?_; intro p0 p1 p2 p3 p4 p5 q0 q1 q2 Bd Be Bf
       replace K := hide ((unhide K).trans kn)
       have z9 := kn.size
       clear kn
       have szX_ : w6.heap.size < (w6.alloc (.cells #[.slice none 0 0, .bool false, .int .i64 0] 75)).heap.size := by simp
       have Ba : (w6.alloc (.cells #[.slice none 0 0, .bool false, .int .i64 0] 75)).cell? ⟨w6.heap.size, 0, none⟩ = some (.slice none 0 0) := new_cell2 _ _ _ _ _ _ rfl rfl
       have Bg : (w6.alloc (.cells #[.slice none 0 0, .bool false, .int .i64 0] 75)).frozen? ⟨w6.heap.size, 0, none⟩ = false := new_loose2 _ _ _ _ _ rfl
       have Bb : (w6.alloc (.cells #[.slice none 0 0, .bool false, .int .i64 0] 75)).cell? ⟨w6.heap.size, 1, none⟩ = some (.bool false) := new_cell2 _ _ _ _ _ _ rfl rfl
       have Bh : (w6.alloc (.cells #[.slice none 0 0, .bool false, .int .i64 0] 75)).frozen? ⟨w6.heap.size, 1, none⟩ = false := new_loose2 _ _ _ _ _ rfl
       have Bc : (w6.alloc (.cells #[.slice none 0 0, .bool false, .int .i64 0] 75)).cell? ⟨w6.heap.size, 2, none⟩ = some (.int .i64 0) := new_cell2 _ _ _ _ _ _ rfl rfl
       have Bi : (w6.alloc (.cells #[.slice none 0 0, .bool false, .int .i64 0] 75)).frozen? ⟨w6.heap.size, 2, none⟩ = false := new_loose2 _ _ _ _ _ rfl
       clear hH
       refine hK.out _ _ ?_ (fun hH => ?_)
       ·exact ⟨p0, p1, p2, p3, p4, p5⟩
       clear hK KK
       try simp only [Act.put, zq1, zq2, zq3, zq4, zq5, zq6]
       generalize w6.alloc (.cells #[.slice none 0 0, .bool false, .int .i64 0] 75) = w8 at *
       refine wR 8 (by kernel_rfl) rfl (fun KK hK => ?_)
       simp only [zq1, zq2, zq3]
       rw [if_pos (by rfl)]
       go_simp
       clear hH
       refine hK.out _ _ ?_ (fun hH => ?_)
       ·have sq := unhide S0; exact ⟨(cw3 (by dsimp only; omega) p0), (cw3 (by dsimp only; omega) p1), (cw3 (by dsimp only; omega) p2), (cw3 (by dsimp only; omega) p3), (cw3 (by dsimp only; omega) p4), (cw3 (by dsimp only; omega) p5)⟩
       clear hK KK
       try simp only [Act.put, zq1, zq2, zq3, zq4, zq5, zq6]
       refine wR 9 (by kernel_rfl) rfl (fun KK hK => ?_)
       simp only [zq1, zq2, zq3]
       rw [if_pos (by rfl)]
       go_simp
       clear hH
       refine hK.out _ _ ?_ (fun hH => ?_)
       ·have sq := unhide S0; exact ⟨(cw6 (by dsimp only; omega) p0), (cw6 (by dsimp only; omega) p1), (cw6 (by dsimp only; omega) p2), (cw6 (by dsimp only; omega) p3), (cw6 (by dsimp only; omega) p4), (cw6 (by dsimp only; omega) p5)⟩
       clear hK KK
       try simp only [Act.put, zq1, zq2, zq3, zq4, zq5, zq6]
       refine wpAnyH_done (by kernel_rfl) ?_ _
       clear hH
       go_wp2_with fail
       go_meet
       exact ⟨_, _, rfl, rfl, dya_pair s1 s2 x1 x2 kw o3 o4 Ba Bb Bc Bg Bh Bi Bd Be Bf Bj Bk Bl (by omega) (by omega) (by omega) (by omega) (by omega) (fun e => by have := l3 _ e; omega) (fun e => by have := l3 _ e; omega) (fun e => by have := l4 _ e; omega) (fun e => by have := l4 _ e; omega) (fun k e1 e2 => by have := l3 _ e1; have := l4 _ e2; omega)⟩
     ·simp only [zq1, zq2, zq3]
      rw [if_pos (by rfl)]
      go_simp
      have kn := (Kept.refl 0 0 w4).alloc (.cells #[.slice none 0 0, .bool false, .int .i64 0] 75)
      replace r1 := r1.kp kn
      replace r2 := r2.kp kn
      replace kw := kw.trans kn
      replace o3 := own_kept o3 kn
      replace qf0 := kn.loose0 (zbl q0) qf0
      replace qf1 := kn.loose0 (zbl q1) qf1
      replace qf2 := kn.loose0 (zbl q2) qf2
      replace Bj := kn.loose0 (zbl Bd) Bj
      replace Bk := kn.loose0 (zbl Be) Bk
      replace Bl := kn.loose0 (zbl Bf) Bl
      replace p0 := kn.cell0 p0
      replace p1 := kn.cell0 p1
      replace p2 := kn.cell0 p2
      replace p3 := kn.cell0 p3
      replace p4 := kn.cell0 p4
      replace p5 := kn.cell0 p5
      replace q0 := kn.cell0 q0
      replace q1 := kn.cell0 q1
      replace q2 := kn.cell0 q2
      replace Bd := kn.cell0 Bd
      replace Be := kn.cell0 Be
      replace Bf := kn.cell0 Bf
      replace K := hide ((unhide K).trans kn)
      have z7 := kn.size
      clear kn
      have szX_ : w4.heap.size < (w4.alloc (.cells #[.slice none 0 0, .bool false, .int .i64 0] 75)).heap.size := by simp
      have Ba : (w4.alloc (.cells #[.slice none 0 0, .bool false, .int .i64 0] 75)).cell? ⟨w4.heap.size, 0, none⟩ = some (.slice none 0 0) := new_cell2 _ _ _ _ _ _ rfl rfl
      have Bg : (w4.alloc (.cells #[.slice none 0 0, .bool false, .int .i64 0] 75)).frozen? ⟨w4.heap.size, 0, none⟩ = false := new_loose2 _ _ _ _ _ rfl
      have Bb : (w4.alloc (.cells #[.slice none 0 0, .bool false, .int .i64 0] 75)).cell? ⟨w4.heap.size, 1, none⟩ = some (.bool false) := new_cell2 _ _ _ _ _ _ rfl rfl
      have Bh : (w4.alloc (.cells #[.slice none 0 0, .bool false, .int .i64 0] 75)).frozen? ⟨w4.heap.size, 1, none⟩ = false := new_loose2 _ _ _ _ _ rfl
      have Bc : (w4.alloc (.cells #[.slice none 0 0, .bool false, .int .i64 0] 75)).cell? ⟨w4.heap.size, 2, none⟩ = some (.int .i64 0) := new_cell2 _ _ _ _ _ _ rfl rfl
      have Bi : (w4.alloc (.cells #[.slice none 0 0, .bool false, .int .i64 0] 75)).frozen? ⟨w4.heap.size, 2, none⟩ = false := new_loose2 _ _ _ _ _ rfl
      clear hH
      refine hK.out _ _ ?_ (fun hH => ?_)
      ·exact ⟨p0, p1, p2, p3, p4, p5⟩
      clear hK KK
      try simp only [Act.put, zq1, zq2, zq3, zq4, zq5, zq6]
      generalize w4.alloc (.cells #[.slice none 0 0, .bool false, .int .i64 0] 75) = w6 at *
      refine wR 5 (by kernel_rfl) rfl (fun KK hK => ?_)
      ·simp only [zq1, zq2, zq3]
       rw [if_pos (by rfl)]
       refine wps1 39 (.tmp 9) _ rfl in_dyadicOf_p (.agg #[.bool s2, .slice a2 ys.length c2, .int .i64 x2]) rfl (dyadicOf_impl s2 x2 _ r2 my) ?_
       rintro e w8 ⟨v4, rfl, o4, k8⟩
       refine ⟨_, rfl, ?_⟩
       revert r1 r2; refine k8.n2 ?_; intro r1 r2
       replace kw := kw.trans k8
       replace o3 := own_kept o3 k8
       replace qf0 := k8.loose0 (zbl q0) qf0
       replace qf1 := k8.loose0 (zbl q1) qf1
       replace qf2 := k8.loose0 (zbl q2) qf2
       replace Bj := k8.loose0 (zbl Bd) Bj
       replace Bk := k8.loose0 (zbl Be) Bk
       replace Bl := k8.loose0 (zbl Bf) Bl
       replace Bg := k8.loose0 (zbl Ba) Bg
       replace Bh := k8.loose0 (zbl Bb) Bh
       replace Bi := k8.loose0 (zbl Bc) Bi
       revert p0 p1 p2 p3 p4 p5 q0 q1 q2 Bd Be Bf; refine k8.m12 ?_; intro p0 p1 p2 p3 p4 p5 q0 q1 q2 Bd Be Bf
       revert Ba Bb Bc; refine k8.m3 ?_; intro Ba Bb Bc
       replace K := hide ((unhide K).trans k8)
       have z9 := k8.size
       clear k8
       have l4 := o4.lt
       obtain ⟨a4, c4, hv⟩ := own_slice o4
       subst hv
       clear hH
       refine hK.out _ _ ?_ (fun hH => ?_)
       ·exact ⟨p0, p1, p2, p3, p4, p5⟩
       clear hK KK
       try simp only [Act.put, zq1, zq2, zq3, zq4, zq5, zq6]
       refine wR 8 (by kernel_rfl) rfl (fun KK hK => ?_)
       simp only [zq1, zq2, zq3]
       rw [if_pos (by rfl)]
       go_simp
       clear hH
       refine hK.out _ _ ?_ (fun hH => ?_)
       ·have sq := unhide S0; exact ⟨(cw3 (by dsimp only; omega) p0), (cw3 (by dsimp only; omega) p1), (cw3 (by dsimp only; omega) p2), (cw3 (by dsimp only; omega) p3), (cw3 (by dsimp only; omega) p4), (cw3 (by dsimp only; omega) p5)⟩
       clear hK KK
       try simp only [Act.put, zq1, zq2, zq3, zq4, zq5, zq6]
       refine wR 9 (by kernel_rfl) rfl (fun KK hK => ?_)
       simp only [zq1, zq2, zq3]
       rw [if_pos (by rfl)]
       go_simp
       clear hH
       refine hK.out _ _ ?_ (fun hH => ?_)
       ·have sq := unhide S0; exact ⟨(cw6 (by dsimp only; omega) p0), (cw6 (by dsimp only; omega) p1), (cw6 (by dsimp only; omega) p2), (cw6 (by dsimp only; omega) p3), (cw6 (by dsimp only; omega) p4), (cw6 (by dsimp only; omega) p5)⟩
       clear hK KK
       try simp only [Act.put, zq1, zq2, zq3, zq4, zq5, zq6]
       refine wpAnyH_done (by kernel_rfl) ?_ _
       clear hH
       go_wp2_with fail
       go_meet
       exact ⟨_, _, rfl, rfl, dya_pair s1 s2 x1 x2 kw o3 o4 Ba Bb Bc Bg Bh Bi Bd Be Bf Bj Bk Bl (by omega) (by omega) (by omega) (by omega) (by omega) (fun e => by have := l3 _ e; omega) (fun e => by have := l3 _ e; omega) (fun e => by have := l4 _ e; omega) (fun e => by have := l4 _ e; omega) (fun k e1 e2 => by have := l3 _ e1; have := l4 _ e2; omega)⟩
   ·simp only [zq1, zq2, zq3]
    rw [if_pos (by rfl)]
    go_simp
    have kn := (Kept.refl 0 0 wd).alloc (.cells #[.slice none 0 0, .bool false, .int .i64 0] 75)
    replace r1 := r1.kp kn
    replace r2 := r2.kp kn
    replace kw := kw.trans kn
    replace qf0 := kn.loose0 (zbl q0) qf0
    replace qf1 := kn.loose0 (zbl q1) qf1
    replace qf2 := kn.loose0 (zbl q2) qf2
    replace p0 := kn.cell0 p0
    replace p1 := kn.cell0 p1
    replace p2 := kn.cell0 p2
    replace p3 := kn.cell0 p3
    replace p4 := kn.cell0 p4
    replace p5 := kn.cell0 p5
    replace q0 := kn.cell0 q0
    replace q1 := kn.cell0 q1
    replace q2 := kn.cell0 q2
    replace K := hide ((unhide K).trans kn)
    have z3 := kn.size
    clear kn
    have szX_ : wd.heap.size < (wd.alloc (.cells #[.slice none 0 0, .bool false, .int .i64 0] 75)).heap.size := by simp
    have Ba : (wd.alloc (.cells #[.slice none 0 0, .bool false, .int .i64 0] 75)).cell? ⟨wd.heap.size, 0, none⟩ = some (.slice none 0 0) := new_cell2 _ _ _ _ _ _ rfl rfl
    have Bg : (wd.alloc (.cells #[.slice none 0 0, .bool false, .int .i64 0] 75)).frozen? ⟨wd.heap.size, 0, none⟩ = false := new_loose2 _ _ _ _ _ rfl
    have Bb : (wd.alloc (.cells #[.slice none 0 0, .bool false, .int .i64 0] 75)).cell? ⟨wd.heap.size, 1, none⟩ = some (.bool false) := new_cell2 _ _ _ _ _ _ rfl rfl
    have Bh : (wd.alloc (.cells #[.slice none 0 0, .bool false, .int .i64 0] 75)).frozen? ⟨wd.heap.size, 1, none⟩ = false := new_loose2 _ _ _ _ _ rfl
    have Bc : (wd.alloc (.cells #[.slice none 0 0, .bool false, .int .i64 0] 75)).cell? ⟨wd.heap.size, 2, none⟩ = some (.int .i64 0) := new_cell2 _ _ _ _ _ _ rfl rfl
    have Bi : (wd.alloc (.cells #[.slice none 0 0, .bool false, .int .i64 0] 75)).frozen? ⟨wd.heap.size, 2, none⟩ = false := new_loose2 _ _ _ _ _ rfl
    clear hH
    refine hK.out _ _ ?_ (fun hH => ?_)
    ·exact ⟨p0, p1, p2, p3, p4, p5⟩
    clear hK KK
    try simp only [Act.put, zq1, zq2, zq3, zq4, zq5, zq6]
    generalize wd.alloc (.cells #[.slice none 0 0, .bool false, .int .i64 0] 75) = w2 at *
    refine wpAnyH_ready (rs := [2, 7]) (by kernel_rfl) (by simp) ?_
    refine AllReadyH.cons rfl (fun KK hK => ?_) (AllReadyH.cons rfl (fun KK hK => ?_) AllReadyH.nil)
    ·simp only [zq1, zq2, zq3]
     rw [if_pos (by rfl)]
     refine wps1 39 (.tmp 6) _ rfl in_dyadicOf_p (.agg #[.bool s1, .slice a1 xs.length c1, .int .i64 x1]) rfl (dyadicOf_impl s1 x1 _ r1 mx) ?_
     rintro e w4 ⟨v3, rfl, o3, k4⟩
     refine ⟨_, rfl, ?_⟩
     revert r1 r2; refine k4.n2 ?_; intro r1 r2
     replace kw := kw.trans k4
     replace qf0 := k4.loose0 (zbl q0) qf0
     replace qf1 := k4.loose0 (zbl q1) qf1
     replace qf2 := k4.loose0 (zbl q2) qf2
     replace Bg := k4.loose0 (zbl Ba) Bg
     replace Bh := k4.loose0 (zbl Bb) Bh
     replace Bi := k4.loose0 (zbl Bc) Bi
     revert p0 p1 p2 p3 p4 p5 q0 q1 q2 Ba Bb Bc; refine k4.m12 ?_; intro p0 p1 p2 p3 p4 p5 q0 q1 q2 Ba Bb Bc
     replace K := hide ((unhide K).trans k4)
     have z5 := k4.size
     clear k4
     have l3 := o3.lt
     obtain ⟨a3, c3, hv⟩ := own_slice o3
     subst hv
     clear hH
     refine hK.out _ _ ?_ (fun hH => ?_)
     ·exact ⟨p0, p1, p2, p3, p4, p5⟩
     clear hK KK
     try simp only [Act.put, zq1, zq2, zq3, zq4, zq5, zq6]
     refine wpAnyH_ready (rs := [5, 7]) (by kernel_rfl) (by simp) ?_
     refine AllReadyH.cons rfl (fun KK hK => ?_) (AllReadyH.cons rfl (fun KK hK => ?_) AllReadyH.nil)
     ·simp only [zq1, zq2, zq3]
      rw [if_pos (by rfl)]
      refine wps1 39 (.tmp 9) _ rfl in_dyadicOf_p (.agg #[.bool s2, .slice a2 ys.length c2, .int .i64 x2]) rfl (dyadicOf_impl s2 x2 _ r2 my) ?_
      rintro e w6 ⟨v4, rfl, o4, k6⟩
      refine ⟨_, rfl, ?_⟩
      revert r1 r2; refine k6.n2 ?_; intro r1 r2
      replace kw := kw.trans k6
      replace o3 := own_kept o3 k6
      replace qf0 := k6.loose0 (zbl q0) qf0
      replace qf1 := k6.loose0 (zbl q1) qf1
      replace qf2 := k6.loose0 (zbl q2) qf2
      replace Bg := k6.loose0 (zbl Ba) Bg
      replace Bh := k6.loose0 (zbl Bb) Bh
      replace Bi := k6.loose0 (zbl Bc) Bi
      revert p0 p1 p2 p3 p4 p5 q0 q1 q2 Ba Bb Bc; refine k6.m12 ?_; intro p0 p1 p2 p3 p4 p5 q0 q1 q2 Ba Bb Bc
      replace K := hide ((unhide K).trans k6)
      have z7 := k6.size
      clear k6
      have l4 := o4.lt
      obtain ⟨a4, c4, hv⟩ := own_slice o4
      subst hv
      clear hH
      refine hK.out _ _ ?_ (fun hH => ?_)
      ·exact ⟨p0, p1, p2, p3, p4, p5⟩
      clear hK KK
      try simp only [Act.put, zq1, zq2, zq3, zq4, zq5, zq6]
      refine wR 7 (by kernel_rfl) rfl (fun KK hK => ?_)
      ·simp only [zq1, zq2, zq3]
       rw [if_pos (by rfl)]
       go_simp
       have kn := (Kept.refl 0 0 w6).alloc (.cells #[.slice none 0 0, .bool false, .int .i64 0] 75)
       revert r1 r2; refine kn.n2 ?_; intro r1 r2
       replace kw := kw.trans kn
       replace o3 := own_kept o3 kn
       replace o4 := own_kept o4 kn
       replace qf0 := kn.loose0 (zbl q0) qf0
       replace qf1 := kn.loose0 (zbl q1) qf1
       replace qf2 := kn.loose0 (zbl q2) qf2
       replace Bg := kn.loose0 (zbl Ba) Bg
       replace Bh := kn.loose0 (zbl Bb) Bh
       replace Bi := kn.loose0 (zbl Bc) Bi
       revert p0 p1 p2 p3 p4 p5 q0 q1 q2 Ba Bb Bc; refine kn.m12 ?_; intro p0 p1 p2 p3 p4 p5 q0 q1 q2 Ba Bb Bc
       replace K := hide ((unhide K).trans kn)
       have z9 := kn.size
       clear kn
       have szY_ : w6.heap.size < (w6.alloc (.cells #[.slice none 0 0, .bool false, .int .i64 0] 75)).heap.size := by simp
       have Bd : (w6.alloc (.cells #[.slice none 0 0, .bool false, .int .i64 0] 75)).cell? ⟨w6.heap.size, 0, none⟩ = some (.slice none 0 0) := new_cell2 _ _ _ _ _ _ rfl rfl
       have Bj : (w6.alloc (.cells #[.slice none 0 0, .bool false, .int .i64 0] 75)).frozen? ⟨w6.heap.size, 0, none⟩ = false := new_loose2 _ _ _ _ _ rfl
       have Be : (w6.alloc (.cells #[.slice none 0 0, .bool false, .int .i64 0] 75)).cell? ⟨w6.heap.size, 1, none⟩ = some (.bool false) := new_cell2 _ _ _ _ _ _ rfl rfl
       have Bk : (w6.alloc (.cells #[.slice none 0 0, .bool false, .int .i64 0] 75)).frozen? ⟨w6.heap.size, 1, none⟩ = false := new_loose2 _ _ _ _ _ rfl
       have Bf : (w6.alloc (.cells #[.slice none 0 0, .bool false, .int .i64 0] 75)).cell? ⟨w6.heap.size, 2, none⟩ = some (.int .i64 0) := new_cell2 _ _ _ _ _ _ rfl rfl
       have Bl : (w6.alloc (.cells #[.slice none 0 0, .bool false, .int .i64 0] 75)).frozen? ⟨w6.heap.size, 2, none⟩ = false := new_loose2 _ _ _ _ _ rfl
       clear hH
       refine hK.out _ _ ?_ (fun hH => ?_)
       ·exact ⟨p0, p1, p2, p3, p4, p5⟩
       clear hK KK
       try simp only [Act.put, zq1, zq2, zq3, zq4, zq5, zq6]
       generalize w6.alloc (.cells #[.slice none 0 0, .bool false, .int .i64 0] 75) = w8 at *
       refine wR 8 (by kernel_rfl) rfl (fun KK hK => ?_)
       simp only [zq1, zq2, zq3]
       rw [if_pos (by rfl)]
       go_simp
       clear hH
       refine hK.out _ _ ?_ (fun hH => ?_)
       ·have sq := unhide S0; exact ⟨(cw3 (by dsimp only; omega) p0), (cw3 (by dsimp only; omega) p1), (cw3 (by dsimp only; omega) p2), (cw3 (by dsimp only; omega) p3), (cw3 (by dsimp only; omega) p4), (cw3 (by dsimp only; omega) p5)⟩
       clear hK KK
       try simp only [Act.put, zq1, zq2, zq3, zq4, zq5, zq6]
       refine wR 9 (by kernel_rfl) rfl (fun KK hK => ?_)
       simp only [zq1, zq2, zq3]
       rw [if_pos (by rfl)]
       go_simp
       clear hH
       refine hK.out _ _ ?_ (fun hH => ?_)
       ·have sq := unhide S0; exact ⟨(cw6 (by dsimp only; omega) p0), (cw6 (by dsimp only; omega) p1), (cw6 (by dsimp only; omega) p2), (cw6 (by dsimp only; omega) p3), (cw6 (by dsimp only; omega) p4), (cw6 (by dsimp only; omega) p5)⟩
       clear hK KK
       try simp only [Act.put, zq1, zq2, zq3, zq4, zq5, zq6]
       refine wpAnyH_done (by kernel_rfl) ?_ _
       clear hH
       go_wp2_with fail
       go_meet
       exact ⟨_, _, rfl, rfl, dya_pair s1 s2 x1 x2 kw o3 o4 Ba Bb Bc Bg Bh Bi Bd Be Bf Bj Bk Bl (by omega) (by omega) (by omega) (by omega) (by omega) (fun e => by have := l3 _ e; omega) (fun e => by have := l3 _ e; omega) (fun e => by have := l4 _ e; omega) (fun e => by have := l4 _ e; omega) (fun k e1 e2 => by have := l3 _ e1; have := l4 _ e2; omega)⟩
     ·simp only [zq1, zq2, zq3]
      rw [if_pos (by rfl)]
      go_simp
      have kn := (Kept.refl 0 0 w4).alloc (.cells #[.slice none 0 0, .bool false, .int .i64 0] 75)
      replace r1 := r1.kp kn
      replace r2 := r2.kp kn
      replace kw := kw.trans kn
      replace o3 := own_kept o3 kn
      replace qf0 := kn.loose0 (zbl q0) qf0
      replace qf1 := kn.loose0 (zbl q1) qf1
      replace qf2 := kn.loose0 (zbl q2) qf2
      replace Bg := kn.loose0 (zbl Ba) Bg
      replace Bh := kn.loose0 (zbl Bb) Bh
      replace Bi := kn.loose0 (zbl Bc) Bi
      replace p0 := kn.cell0 p0
      replace p1 := kn.cell0 p1
      replace p2 := kn.cell0 p2
      replace p3 := kn.cell0 p3
      replace p4 := kn.cell0 p4
      replace p5 := kn.cell0 p5
      replace q0 := kn.cell0 q0
      replace q1 := kn.cell0 q1
      replace q2 := kn.cell0 q2
      replace Ba := kn.cell0 Ba
      replace Bb := kn.cell0 Bb
      replace Bc := kn.cell0 Bc
      replace K := hide ((unhide K).trans kn)
      have z7 := kn.size
      clear kn
      have szY_ : w4.heap.size < (w4.alloc (.cells #[.slice none 0 0, .bool false, .int .i64 0] 75)).heap.size := by simp
      have Bd : (w4.alloc (.cells #[.slice none 0 0, .bool false, .int .i64 0] 75)).cell? ⟨w4.heap.size, 0, none⟩ = some (.slice none 0 0) := new_cell2 _ _ _ _ _ _ rfl rfl
      have Bj : (w4.alloc (.cells #[.slice none 0 0, .bool false, .int .i64 0] 75)).frozen? ⟨w4.heap.size, 0, none⟩ = false := new_loose2 _ _ _ _ _ rfl
      have Be : (w4.alloc (.cells #[.slice none 0 0, .bool false, .int .i64 0] 75)).cell? ⟨w4.heap.size, 1, none⟩ = some (.bool false) := new_cell2 _ _ _ _ _ _ rfl rfl
      have Bk : (w4.alloc (.cells #[.slice none 0 0, .bool false, .int .i64 0] 75)).frozen? ⟨w4.heap.size, 1, none⟩ = false := new_loose2 _ _ _ _ _ rfl
      have Bf : (w4.alloc (.cells #[.slice none 0 0, .bool false, .int .i64 0] 75)).cell? ⟨w4.heap.size, 2, none⟩ = some (.int .i64 0) := new_cell2 _ _ _ _ _ _ rfl rfl
      have Bl : (w4.alloc (.cells #[.slice none 0 0, .bool false, .int .i64 0] 75)).frozen? ⟨w4.heap.size, 2, none⟩ = false := new_loose2 _ _ _ _ _ rfl
      clear hH
      refine hK.out _ _ ?_ (fun hH => ?_)
      ·exact ⟨p0, p1, p2, p3, p4, p5⟩
      clear hK KK
      try simp only [Act.put, zq1, zq2, zq3, zq4, zq5, zq6]
      generalize w4.alloc (.cells #[.slice none 0 0, .bool false, .int .i64 0] 75) = w6 at *
      refine wR 5 (by kernel_rfl) rfl (fun KK hK => ?_)
      ·simp only [zq1, zq2, zq3]
       rw [if_pos (by rfl)]
       refine wps1 39 (.tmp 9) _ rfl in_dyadicOf_p (.agg #[.bool s2, .slice a2 ys.length c2, .int .i64 x2]) rfl (dyadicOf_impl s2 x2 _ r2 my) ?_
       rintro e w8 ⟨v4, rfl, o4, k8⟩
       refine ⟨_, rfl, ?_⟩
       revert r1 r2; refine k8.n2 ?_; intro r1 r2
       replace kw := kw.trans k8
       replace o3 := own_kept o3 k8
       replace qf0 := k8.loose0 (zbl q0) qf0
       replace qf1 := k8.loose0 (zbl q1) qf1
       replace qf2 := k8.loose0 (zbl q2) qf2
       replace Bg := k8.loose0 (zbl Ba) Bg
       replace Bh := k8.loose0 (zbl Bb) Bh
       replace Bi := k8.loose0 (zbl Bc) Bi
       replace Bj := k8.loose0 (zbl Bd) Bj
       replace Bk := k8.loose0 (zbl Be) Bk
       replace Bl := k8.loose0 (zbl Bf) Bl
       revert p0 p1 p2 p3 p4 p5 q0 q1 q2 Ba Bb Bc; refine k8.m12 ?_; intro p0 p1 p2 p3 p4 p5 q0 q1 q2 Ba Bb Bc
       revert Bd Be Bf; refine k8.m3 ?_; intro Bd Be Bf
       replace K := hide ((unhide K).trans k8)
       have z9 := k8.size
       clear k8
       have l4 := o4.lt
       obtain ⟨a4, c4, hv⟩ := own_slice o4
       subst hv
       clear hH
       refine hK.out _ _ ?_ (fun hH => ?_)
       ·exact ⟨p0, p1, p2, p3, p4, p5⟩
       clear hK KK
       try simp only [Act.put, zq1, zq2, zq3, zq4, zq5, zq6]
       refine wR 8 (by kernel_rfl) rfl (fun KK hK => ?_)
       simp only [zq1, zq2, zq3]
       rw [if_pos (by rfl)]
       go_simp
       clear hH
       refine hK.out _ _ ?_ (fun hH => ?_)
       ·have sq := unhide S0; exact ⟨(cw3 (by dsimp only; omega) p0), (cw3 (by dsimp only; omega) p1), (cw3 (by dsimp only; omega) p2), (cw3 (by dsimp only; omega) p3), (cw3 (by dsimp only; omega) p4), (cw3 (by dsimp only; omega) p5)⟩
       clear hK KK
       try simp only [Act.put, zq1, zq2, zq3, zq4, zq5, zq6]
       refine wR 9 (by kernel_rfl) rfl (fun KK hK => ?_)
       simp only [zq1, zq2, zq3]
       rw [if_pos (by rfl)]
       go_simp
       clear hH
       refine hK.out _ _ ?_ (fun hH => ?_)
       ·have sq := unhide S0; exact ⟨(cw6 (by dsimp only; omega) p0), (cw6 (by dsimp only; omega) p1), (cw6 (by dsimp only; omega) p2), (cw6 (by dsimp only; omega) p3), (cw6 (by dsimp only; omega) p4), (cw6 (by dsimp only; omega) p5)⟩
       clear hK KK
       try simp only [Act.put, zq1, zq2, zq3, zq4, zq5, zq6]
       refine wpAnyH_done (by kernel_rfl) ?_ _
       clear hH
       go_wp2_with fail
       go_meet
       exact ⟨_, _, rfl, rfl, dya_pair s1 s2 x1 x2 kw o3 o4 Ba Bb Bc Bg Bh Bi Bd Be Bf Bj Bk Bl (by omega) (by omega) (by omega) (by omega) (by omega) (fun e => by have := l3 _ e; omega) (fun e => by have := l3 _ e; omega) (fun e => by have := l4 _ e; omega) (fun e => by have := l4 _ e; omega) (fun k e1 e2 => by have := l3 _ e1; have := l4 _ e2; omega)⟩
    ·simp only [zq1, zq2, zq3]
     rw [if_pos (by rfl)]
     go_simp
     have kn := (Kept.refl 0 0 w2).alloc (.cells #[.slice none 0 0, .bool false, .int .i64 0] 75)
     replace r1 := r1.kp kn
     replace r2 := r2.kp kn
     replace kw := kw.trans kn
     replace qf0 := kn.loose0 (zbl q0) qf0
     replace qf1 := kn.loose0 (zbl q1) qf1
     replace qf2 := kn.loose0 (zbl q2) qf2
     replace Bg := kn.loose0 (zbl Ba) Bg
     replace Bh := kn.loose0 (zbl Bb) Bh
     replace Bi := kn.loose0 (zbl Bc) Bi
     replace p0 := kn.cell0 p0
     replace p1 := kn.cell0 p1
     replace p2 := kn.cell0 p2
     replace p3 := kn.cell0 p3
     replace p4 := kn.cell0 p4
     replace p5 := kn.cell0 p5
     replace q0 := kn.cell0 q0
     replace q1 := kn.cell0 q1
     replace q2 := kn.cell0 q2
     replace Ba := kn.cell0 Ba
     replace Bb := kn.cell0 Bb
     replace Bc := kn.cell0 Bc
     replace K := hide ((unhide K).trans kn)
     have z5 := kn.size
     clear kn
     have szY_ : w2.heap.size < (w2.alloc (.cells #[.slice none 0 0, .bool false, .int .i64 0] 75)).heap.size := by simp
     have Bd : (w2.alloc (.cells #[.slice none 0 0, .bool false, .int .i64 0] 75)).cell? ⟨w2.heap.size, 0, none⟩ = some (.slice none 0 0) := new_cell2 _ _ _ _ _ _ rfl rfl
     have Bj : (w2.alloc (.cells #[.slice none 0 0, .bool false, .int .i64 0] 75)).frozen? ⟨w2.heap.size, 0, none⟩ = false := new_loose2 _ _ _ _ _ rfl
     have Be : (w2.alloc (.cells #[.slice none 0 0, .bool false, .int .i64 0] 75)).cell? ⟨w2.heap.size, 1, none⟩ = some (.bool false) := new_cell2 _ _ _ _ _ _ rfl rfl
     have Bk : (w2.alloc (.cells #[.slice none 0 0, .bool false, .int .i64 0] 75)).frozen? ⟨w2.heap.size, 1, none⟩ = false := new_loose2 _ _ _ _ _ rfl
     have Bf : (w2.alloc (.cells #[.slice none 0 0, .bool false, .int .i64 0] 75)).cell? ⟨w2.heap.size, 2, none⟩ = some (.int .i64 0) := new_cell2 _ _ _ _ _ _ rfl rfl
     have Bl : (w2.alloc (.cells #[.slice none 0 0, .bool false, .int .i64 0] 75)).frozen? ⟨w2.heap.size, 2, none⟩ = false := new_loose2 _ _ _ _ _ rfl
     clear hH
     refine hK.out _ _ ?_ (fun hH => ?_)
     ·exact ⟨p0, p1, p2, p3, p4, p5⟩
     clear hK KK
     try simp only [Act.put, zq1, zq2, zq3, zq4, zq5, zq6]
     generalize w2.alloc (.cells #[.slice none 0 0, .bool false, .int .i64 0] 75) = w4 at *
     refine wR 2 (by kernel_rfl) rfl (fun KK hK => ?_)
     ·simp only [zq1, zq2, zq3]
      rw [if_pos (by rfl)]
      refine wps1 39 (.tmp 6) _ rfl in_dyadicOf_p (.agg #[.bool s1, .slice a1 xs.length c1, .int .i64 x1]) rfl (dyadicOf_impl s1 x1 _ r1 mx) ?_
      rintro e w6 ⟨v3, rfl, o3, k6⟩
      refine ⟨_, rfl, ?_⟩
      revert r1 r2; refine k6.n2 ?_; intro r1 r2
      replace kw := kw.trans k6
      replace qf0 := k6.loose0 (zbl q0) qf0
      replace qf1 := k6.loose0 (zbl q1) qf1
      replace qf2 := k6.loose0 (zbl q2) qf2
      replace Bg := k6.loose0 (zbl Ba) Bg
      replace Bh := k6.loose0 (zbl Bb) Bh
      replace Bi := k6.loose0 (zbl Bc) Bi
      replace Bj := k6.loose0 (zbl Bd) Bj
      replace Bk := k6.loose0 (zbl Be) Bk
      replace Bl := k6.loose0 (zbl Bf) Bl
      revert p0 p1 p2 p3 p4 p5 q0 q1 q2 Ba Bb Bc; refine k6.m12 ?_; intro p0 p1 p2 p3 p4 p5 q0 q1 q2 Ba Bb Bc
      revert Bd Be Bf; refine k6.m3 ?_; intro Bd Be Bf
      replace K := hide ((unhide K).trans k6)
      have z7 := k6.size
      clear k6
      have l3 := o3.lt
      obtain ⟨a3, c3, hv⟩ := own_slice o3
      subst hv
      clear hH
      refine hK.out _ _ ?_ (fun hH => ?_)
      ·exact ⟨p0, p1, p2, p3, p4, p5⟩
      clear hK KK
      try simp only [Act.put, zq1, zq2, zq3, zq4, zq5, zq6]
      refine wR 5 (by kernel_rfl) rfl (fun KK hK => ?_)
      ·simp only [zq1, zq2, zq3]
       rw [if_pos (by rfl)]
       refine wps1 39 (.tmp 9) _ rfl in_dyadicOf_p (.agg #[.bool s2, .slice a2 ys.length c2, .int .i64 x2]) rfl (dyadicOf_impl s2 x2 _ r2 my) ?_
       rintro e w8 ⟨v4, rfl, o4, k8⟩
       refine ⟨_, rfl, ?_⟩
       revert r1 r2; refine k8.n2 ?_; intro r1 r2
       replace kw := kw.trans k8
       replace o3 := own_kept o3 k8
       replace qf0 := k8.loose0 (zbl q0) qf0
       replace qf1 := k8.loose0 (zbl q1) qf1
       replace qf2 := k8.loose0 (zbl q2) qf2
       replace Bg := k8.loose0 (zbl Ba) Bg
       replace Bh := k8.loose0 (zbl Bb) Bh
       replace Bi := k8.loose0 (zbl Bc) Bi
       replace Bj := k8.loose0 (zbl Bd) Bj
       replace Bk := k8.loose0 (zbl Be) Bk
       replace Bl := k8.loose0 (zbl Bf) Bl
       revert p0 p1 p2 p3 p4 p5 q0 q1 q2 Ba Bb Bc; refine k8.m12 ?_; intro p0 p1 p2 p3 p4 p5 q0 q1 q2 Ba Bb Bc
       revert Bd Be Bf; refine k8.m3 ?_; intro Bd Be Bf
       replace K := hide ((unhide K).trans k8)
       have z9 := k8.size
       clear k8
       have l4 := o4.lt
       obtain ⟨a4, c4, hv⟩ := own_slice o4
       subst hv
       clear hH
       refine hK.out _ _ ?_ (fun hH => ?_)
       ·exact ⟨p0, p1, p2, p3, p4, p5⟩
       clear hK KK
       try simp only [Act.put, zq1, zq2, zq3, zq4, zq5, zq6]
       refine wR 8 (by kernel_rfl) rfl (fun KK hK => ?_)
       simp only [zq1, zq2, zq3]
       rw [if_pos (by rfl)]
       go_simp
       clear hH
       refine hK.out _ _ ?_ (fun hH => ?_)
       ·have sq := unhide S0; exact ⟨(cw3 (by dsimp only; omega) p0), (cw3 (by dsimp only; omega) p1), (cw3 (by dsimp only; omega) p2), (cw3 (by dsimp only; omega) p3), (cw3 (by dsimp only; omega) p4), (cw3 (by dsimp only; omega) p5)⟩
       clear hK KK
       try simp only [Act.put, zq1, zq2, zq3, zq4, zq5, zq6]
       refine wR 9 (by kernel_rfl) rfl (fun KK hK => ?_)
       simp only [zq1, zq2, zq3]
       rw [if_pos (by rfl)]
       go_simp
       clear hH
       refine hK.out _ _ ?_ (fun hH => ?_)
       ·have sq := unhide S0; exact ⟨(cw6 (by dsimp only; omega) p0), (cw6 (by dsimp only; omega) p1), (cw6 (by dsimp only; omega) p2), (cw6 (by dsimp only; omega) p3), (cw6 (by dsimp only; omega) p4), (cw6 (by dsimp only; omega) p5)⟩
       clear hK KK
       try simp only [Act.put, zq1, zq2, zq3, zq4, zq5, zq6]
       refine wpAnyH_done (by kernel_rfl) ?_ _
       clear hH
       go_wp2_with fail
       go_meet
       exact ⟨_, _, rfl, rfl, dya_pair s1 s2 x1 x2 kw o3 o4 Ba Bb Bc Bg Bh Bi Bd Be Bf Bj Bk Bl (by omega) (by omega) (by omega) (by omega) (by omega) (fun e => by have := l3 _ e; omega) (fun e => by have := l3 _ e; omega) (fun e => by have := l4 _ e; omega) (fun e => by have := l4 _ e; omega) (fun k e1 e2 => by have := l3 _ e1; have := l4 _ e2; omega)⟩
   ·simp only [zq1, zq2, zq3]
    rw [if_pos (by rfl)]
    go_simp
    have kn := (Kept.refl 0 0 wd).alloc (.cells #[.slice none 0 0, .bool false, .int .i64 0] 75)
    replace r1 := r1.kp kn
    replace r2 := r2.kp kn
    replace kw := kw.trans kn
    replace qf0 := kn.loose0 (zbl q0) qf0
    replace qf1 := kn.loose0 (zbl q1) qf1
    replace qf2 := kn.loose0 (zbl q2) qf2
    replace p0 := kn.cell0 p0
    replace p1 := kn.cell0 p1
    replace p2 := kn.cell0 p2
    replace p3 := kn.cell0 p3
    replace p4 := kn.cell0 p4
    replace p5 := kn.cell0 p5
    replace q0 := kn.cell0 q0
    replace q1 := kn.cell0 q1
    replace q2 := kn.cell0 q2
    replace K := hide ((unhide K).trans kn)
    have z3 := kn.size
    clear kn
    have szY_ : wd.heap.size < (wd.alloc (.cells #[.slice none 0 0, .bool false, .int .i64 0] 75)).heap.size := by simp
    have Bd : (wd.alloc (.cells #[.slice none 0 0, .bool false, .int .i64 0] 75)).cell? ⟨wd.heap.size, 0, none⟩ = some (.slice none 0 0) := new_cell2 _ _ _ _ _ _ rfl rfl
    have Bj : (wd.alloc (.cells #[.slice none 0 0, .bool false, .int .i64 0] 75)).frozen? ⟨wd.heap.size, 0, none⟩ = false := new_loose2 _ _ _ _ _ rfl
    have Be : (wd.alloc (.cells #[.slice none 0 0, .bool false, .int .i64 0] 75)).cell? ⟨wd.heap.size, 1, none⟩ = some (.bool false) := new_cell2 _ _ _ _ _ _ rfl rfl
    have Bk : (wd.alloc (.cells #[.slice none 0 0, .bool false, .int .i64 0] 75)).frozen? ⟨wd.heap.size, 1, none⟩ = false := new_loose2 _ _ _ _ _ rfl
    have Bf : (wd.alloc (.cells #[.slice none 0 0, .bool false, .int .i64 0] 75)).cell? ⟨wd.heap.size, 2, none⟩ = some (.int .i64 0) := new_cell2 _ _ _ _ _ _ rfl rfl
    have Bl : (wd.alloc (.cells #[.slice none 0 0, .bool false, .int .i64 0] 75)).frozen? ⟨wd.heap.size, 2, none⟩ = false := new_loose2 _ _ _ _ _ rfl
    clear hH
    refine hK.out _ _ ?_ (fun hH => ?_)
    ·exact ⟨p0, p1, p2, p3, p4, p5⟩
    clear hK KK
    try simp only [Act.put, zq1, zq2, zq3, zq4, zq5, zq6]
    generalize wd.alloc (.cells #[.slice none 0 0, .bool false, .int .i64 0] 75) = w2 at *
    refine wpAnyH_ready (rs := [2, 6]) (by kernel_rfl) (by simp) ?_
    refine AllReadyH.cons rfl (fun KK hK => ?_) (AllReadyH.cons rfl (fun KK hK => ?_) AllReadyH.nil)
    ·simp only [zq1, zq2, zq3]
     rw [if_pos (by rfl)]
     refine wps1 39 (.tmp 6) _ rfl in_dyadicOf_p (.agg #[.bool s1, .slice a1 xs.length c1, .int .i64 x1]) rfl (dyadicOf_impl s1 x1 _ r1 mx) ?_
     rintro e w4 ⟨v3, rfl, o3, k4⟩
     refine ⟨_, rfl, ?_⟩
     revert r1 r2; refine k4.n2 ?_; intro r1 r2
     replace kw := kw.trans k4
     replace qf0 := k4.loose0 (zbl q0) qf0
     replace qf1 := k4.loose0 (zbl q1) qf1
     replace qf2 := k4.loose0 (zbl q2) qf2
     replace Bj := k4.loose0 (zbl Bd) Bj
     replace Bk := k4.loose0 (zbl Be) Bk
     replace Bl := k4.loose0 (zbl Bf) Bl
     revert p0 p1 p2 p3 p4 p5 q0 q1 q2 Bd Be Bf; refine k4.m12 ?_; intro p0 p1 p2 p3 p4 p5 q0 q1 q2 Bd Be Bf
     replace K := hide ((unhide K).trans k4)
     have z5 := k4.size
     clear k4
     have l3 := o3.lt
     obtain ⟨a3, c3, hv⟩ := own_slice o3
     subst hv
     clear hH
     refine hK.out _ _ ?_ (fun hH => ?_)
     ·exact ⟨p0, p1, p2, p3, p4, p5⟩
     clear hK KK
     try simp only [Act.put, zq1, zq2, zq3, zq4, zq5, zq6]
     refine wpAnyH_ready (rs := [5, 6]) (by kernel_rfl) (by simp) ?_
     refine AllReadyH.cons rfl (fun KK hK => ?_) (AllReadyH.cons rfl (fun KK hK => ?_) AllReadyH.nil)
     ·simp only [zq1, zq2, zq3]
      rw [if_pos (by rfl)]
      refine wps1 39 (.tmp 9) _ rfl in_dyadicOf_p (.agg #[.bool s2, .slice a2 ys.length c2, .int .i64 x2]) rfl (dyadicOf_impl s2 x2 _ r2 my) ?_
      rintro e w6 ⟨v4, rfl, o4, k6⟩
      refine ⟨_, rfl, ?_⟩
      revert r1 r2; refine k6.n2 ?_; intro r1 r2
      replace kw := kw.trans k6
      replace o3 := own_kept o3 k6
      replace qf0 := k6.loose0 (zbl q0) qf0
      replace qf1 := k6.loose0 (zbl q1) qf1
      replace qf2 := k6.loose0 (zbl q2) qf2
      replace Bj := k6.loose0 (zbl Bd) Bj
      replace Bk := k6.loose0 (zbl Be) Bk
      replace Bl := k6.loose0 (zbl Bf) Bl
      revert p0 p1 p2 p3 p4 p5 q0 q1 q2 Bd Be Bf; refine k6.m12 ?_; intro p0 p1 p2 p3 p4 p5 q0 q1 q2 Bd Be Bf
      replace K := hide ((unhide K).trans k6)
      have z7 := k6.size
      clear k6
      have l4 := o4.lt
      obtain ⟨a4, c4, hv⟩ := own_slice o4
      subst hv
      clear hH
      refine hK.out _ _ ?_ (fun hH => ?_)
      ·exact ⟨p0, p1, p2, p3, p4, p5⟩
      clear hK KK
      try simp only [Act.put, zq1, zq2, zq3, zq4, zq5, zq6]
      refine wR 6 (by kernel_rfl) rfl (fun KK hK => ?_)
      ·simp only [zq1, zq2, zq3]
       rw [if_pos (by rfl)]
       go_simp
       have kn := (Kept.refl 0 0 w6).alloc (.cells #[.slice none 0 0, .bool false, .int .i64 0] 75)
       revert r1 r2; refine kn.n2 ?_; intro r1 r2
       replace kw := kw.trans kn
       replace o3 := own_kept o3 kn
       replace o4 := own_kept o4 kn
       replace qf0 := kn.loose0 (zbl q0) qf0
       replace qf1 := kn.loose0 (zbl q1) qf1
       replace qf2 := kn.loose0 (zbl q2) qf2
       replace Bj := kn.loose0 (zbl Bd) Bj
       replace Bk := kn.loose0 (zbl Be) Bk
       replace Bl := kn.loose0 (zbl Bf) Bl
       revert p0 p1 p2 p3 p4 p5 q0 q1 q2 Bd Be Bf; refine kn.m12 ?_; intro p0 p1 p2 p3 p4 p5 q0 q1 q2 Bd Be Bf
       replace K := hide ((unhide K).trans kn)
       have z9 := kn.size
       clear kn
       have szX_ : w6.heap.size < (w6.alloc (.cells #[.slice none 0 0, .bool false, .int .i64 0] 75)).heap.size := by simp
       have Ba : (w6.alloc (.cells #[.slice none 0 0, .bool false, .int .i64 0] 75)).cell? ⟨w6.heap.size, 0, none⟩ = some (.slice none 0 0) := new_cell2 _ _ _ _ _ _ rfl rfl
       have Bg : (w6.alloc (.cells #[.slice none 0 0, .bool false, .int .i64 0] 75)).frozen? ⟨w6.heap.size, 0, none⟩ = false := new_loose2 _ _ _ _ _ rfl
       have Bb : (w6.alloc (.cells #[.slice none 0 0, .bool false, .int .i64 0] 75)).cell? ⟨w6.heap.size, 1, none⟩ = some (.bool false) := new_cell2 _ _ _ _ _ _ rfl rfl
       have Bh : (w6.alloc (.cells #[.slice none 0 0, .bool false, .int .i64 0] 75)).frozen? ⟨w6.heap.size, 1, none⟩ = false := new_loose2 _ _ _ _ _ rfl
       have Bc : (w6.alloc (.cells #[.slice none 0 0, .bool false, .int .i64 0] 75)).cell? ⟨w6.heap.size, 2, none⟩ = some (.int .i64 0) := new_cell2 _ _ _ _ _ _ rfl rfl
       have Bi : (w6.alloc (.cells #[.slice none 0 0, .bool false, .int .i64 0] 75)).frozen? ⟨w6.heap.size, 2, none⟩ = false := new_loose2 _ _ _ _ _ rfl
       clear hH
       refine hK.out _ _ ?_ (fun hH => ?_)
       ·exact ⟨p0, p1, p2, p3, p4, p5⟩
       clear hK KK
       try simp only [Act.put, zq1, zq2, zq3, zq4, zq5, zq6]
       generalize w6.alloc (.cells #[.slice none 0 0, .bool false, .int .i64 0] 75) = w8 at *
       refine wR 8 (by kernel_rfl) rfl (fun KK hK => ?_)
       simp only [zq1, zq2, zq3]
       rw [if_pos (by rfl)]
       go_simp
       clear hH
       refine hK.out _ _ ?_ (fun hH => ?_)
       ·have sq := unhide S0; exact ⟨(cw3 (by dsimp only; omega) p0), (cw3 (by dsimp only; omega) p1), (cw3 (by dsimp only; omega) p2), (cw3 (by dsimp only; omega) p3), (cw3 (by dsimp only; omega) p4), (cw3 (by dsimp only; omega) p5)⟩
       clear hK KK
       try simp only [Act.put, zq1, zq2, zq3, zq4, zq5, zq6]
       refine wR 9 (by kernel_rfl) rfl (fun KK hK => ?_)
       simp only [zq1, zq2, zq3]
       rw [if_pos (by rfl)]
       go_simp
       clear hH
       refine hK.out _ _ ?_ (fun hH => ?_)
       ·have sq := unhide S0; exact ⟨(cw6 (by dsimp only; omega) p0), (cw6 (by dsimp only; omega) p1), (cw6 (by dsimp only; omega) p2), (cw6 (by dsimp only; omega) p3), (cw6 (by dsimp only; omega) p4), (cw6 (by dsimp only; omega) p5)⟩
       clear hK KK
       try simp only [Act.put, zq1, zq2, zq3, zq4, zq5, zq6]
       refine wpAnyH_done (by kernel_rfl) ?_ _
       clear hH
       go_wp2_with fail
       go_meet
       exact ⟨_, _, rfl, rfl, dya_pair s1 s2 x1 x2 kw o3 o4 Ba Bb Bc Bg Bh Bi Bd Be Bf Bj Bk Bl (by omega) (by omega) (by omega) (by omega) (by omega) (fun e => by have := l3 _ e; omega) (fun e => by have := l3 _ e; omega) (fun e => by have := l4 _ e; omega) (fun e => by have := l4 _ e; omega) (fun k e1 e2 => by have := l3 _ e1; have := l4 _ e2; omega)⟩
     ·simp only [zq1, zq2, zq3]
      rw [if_pos (by rfl)]
      go_simp
      have kn := (Kept.refl 0 0 w4).alloc (.cells #[.slice none 0 0, .bool false, .int .i64 0] 75)
      replace r1 := r1.kp kn
      replace r2 := r2.kp kn
      replace kw := kw.trans kn
      replace o3 := own_kept o3 kn
      replace qf0 := kn.loose0 (zbl q0) qf0
      replace qf1 := kn.loose0 (zbl q1) qf1
      replace qf2 := kn.loose0 (zbl q2) qf2
      replace Bj := kn.loose0 (zbl Bd) Bj
      replace Bk := kn.loose0 (zbl Be) Bk
      replace Bl := kn.loose0 (zbl Bf) Bl
      replace p0 := kn.cell0 p0
      replace p1 := kn.cell0 p1
      replace p2 := kn.cell0 p2
      replace p3 := kn.cell0 p3
      replace p4 := kn.cell0 p4
      replace p5 := kn.cell0 p5
      replace q0 := kn.cell0 q0
      replace q1 := kn.cell0 q1
      replace q2 := kn.cell0 q2
      replace Bd := kn.cell0 Bd
      replace Be := kn.cell0 Be
      replace Bf := kn.cell0 Bf
      replace K := hide ((unhide K).trans kn)
      have z7 := kn.size
      clear kn
      have szX_ : w4.heap.size < (w4.alloc (.cells #[.slice none 0 0, .bool false, .int .i64 0] 75)).heap.size := by simp
      have Ba : (w4.alloc (.cells #[.slice none 0 0, .bool false, .int .i64 0] 75)).cell? ⟨w4.heap.size, 0, none⟩ = some (.slice none 0 0) := new_cell2 _ _ _ _ _ _ rfl rfl
      have Bg : (w4.alloc (.cells #[.slice none 0 0, .bool false, .int .i64 0] 75)).frozen? ⟨w4.heap.size, 0, none⟩ = false := new_loose2 _ _ _ _ _ rfl
      have Bb : (w4.alloc (.cells #[.slice none 0 0, .bool false, .int .i64 0] 75)).cell? ⟨w4.heap.size, 1, none⟩ = some (.bool false) := new_cell2 _ _ _ _ _ _ rfl rfl
      have Bh : (w4.alloc (.cells #[.slice none 0 0, .bool false, .int .i64 0] 75)).frozen? ⟨w4.heap.size, 1, none⟩ = false := new_loose2 _ _ _ _ _ rfl
      have Bc : (w4.alloc (.cells #[.slice none 0 0, .bool false, .int .i64 0] 75)).cell? ⟨w4.heap.size, 2, none⟩ = some (.int .i64 0) := new_cell2 _ _ _ _ _ _ rfl rfl
      have Bi : (w4.alloc (.cells #[.slice none 0 0, .bool false, .int .i64 0] 75)).frozen? ⟨w4.heap.size, 2, none⟩ = false := new_loose2 _ _ _ _ _ rfl
      clear hH
      refine hK.out _ _ ?_ (fun hH => ?_)
      ·exact ⟨p0, p1, p2, p3, p4, p5⟩
      clear hK KK
      try simp only [Act.put, zq1, zq2, zq3, zq4, zq5, zq6]
      generalize w4.alloc (.cells #[.slice none 0 0, .bool false, .int .i64 0] 75) = w6 at *
      refine wR 5 (by kernel_rfl) rfl (fun KK hK => ?_)
      ·simp only [zq1, zq2, zq3]
       rw [if_pos (by rfl)]
       refine wps1 39 (.tmp 9) _ rfl in_dyadicOf_p (.agg #[.bool s2, .slice a2 ys.length c2, .int .i64 x2]) rfl (dyadicOf_impl s2 x2 _ r2 my) ?_
       rintro e w8 ⟨v4, rfl, o4, k8⟩
       refine ⟨_, rfl, ?_⟩
       revert r1 r2; refine k8.n2 ?_; intro r1 r2
       replace kw := kw.trans k8
       replace o3 := own_kept o3 k8
       replace qf0 := k8.loose0 (zbl q0) qf0
       replace qf1 := k8.loose0 (zbl q1) qf1
       replace qf2 := k8.loose0 (zbl q2) qf2
       replace Bj := k8.loose0 (zbl Bd) Bj
       replace Bk := k8.loose0 (zbl Be) Bk
       replace Bl := k8.loose0 (zbl Bf) Bl
       replace Bg := k8.loose0 (zbl Ba) Bg
       replace Bh := k8.loose0 (zbl Bb) Bh
       replace Bi := k8.loose0 (zbl Bc) Bi
       revert p0 p1 p2 p3 p4 p5 q0 q1 q2 Bd Be Bf; refine k8.m12 ?_; intro p0 p1 p2 p3 p4 p5 q0 q1 q2 Bd Be Bf
       revert Ba Bb Bc; refine k8.m3 ?_; intro Ba Bb Bc
       replace K := hide ((unhide K).trans k8)
       have z9 := k8.size
       clear k8
       have l4 := o4.lt
       obtain ⟨a4, c4, hv⟩ := own_slice o4
       subst hv
       clear hH
       refine hK.out _ _ ?_ (fun hH => ?_)
       ·exact ⟨p0, p1, p2, p3, p4, p5⟩
       clear hK KK
       try simp only [Act.put, zq1, zq2, zq3, zq4, zq5, zq6]
       refine wR 8 (by kernel_rfl) rfl (fun KK hK => ?_)
       simp only [zq1, zq2, zq3]
       rw [if_pos (by rfl)]
       go_simp
       clear hH
       refine hK.out _ _ ?_ (fun hH => ?_)
       ·have sq := unhide S0; exact ⟨(cw3 (by dsimp only; omega) p0), (cw3 (by dsimp only; omega) p1), (cw3 (by dsimp only; omega) p2), (cw3 (by dsimp only; omega) p3), (cw3 (by dsimp only; omega) p4), (cw3 (by dsimp only; omega) p5)⟩
       clear hK KK
       try simp only [Act.put, zq1, zq2, zq3, zq4, zq5, zq6]
       refine wR 9 (by kernel_rfl) rfl (fun KK hK => ?_)
       simp only [zq1, zq2, zq3]
       rw [if_pos (by rfl)]
       go_simp
       clear hH
       refine hK.out _ _ ?_ (fun hH => ?_)
       ·have sq := unhide S0; exact ⟨(cw6 (by dsimp only; omega) p0), (cw6 (by dsimp only; omega) p1), (cw6 (by dsimp only; omega) p2), (cw6 (by dsimp only; omega) p3), (cw6 (by dsimp only; omega) p4), (cw6 (by dsimp only; omega) p5)⟩
       clear hK KK
       try simp only [Act.put, zq1, zq2, zq3, zq4, zq5, zq6]
       refine wpAnyH_done (by kernel_rfl) ?_ _
       clear hH
       go_wp2_with fail
       go_meet
       exact ⟨_, _, rfl, rfl, dya_pair s1 s2 x1 x2 kw o3 o4 Ba Bb Bc Bg Bh Bi Bd Be Bf Bj Bk Bl (by omega) (by omega) (by omega) (by omega) (by omega) (fun e => by have := l3 _ e; omega) (fun e => by have := l3 _ e; omega) (fun e => by have := l4 _ e; omega) (fun e => by have := l4 _ e; omega) (fun k e1 e2 => by have := l3 _ e1; have := l4 _ e2; omega)⟩
    ·simp only [zq1, zq2, zq3]
     rw [if_pos (by rfl)]
     go_simp
     have kn := (Kept.refl 0 0 w2).alloc (.cells #[.slice none 0 0, .bool false, .int .i64 0] 75)
     replace r1 := r1.kp kn
     replace r2 := r2.kp kn
     replace kw := kw.trans kn
     replace qf0 := kn.loose0 (zbl q0) qf0
     replace qf1 := kn.loose0 (zbl q1) qf1
     replace qf2 := kn.loose0 (zbl q2) qf2
     replace Bj := kn.loose0 (zbl Bd) Bj
     replace Bk := kn.loose0 (zbl Be) Bk
     replace Bl := kn.loose0 (zbl Bf) Bl
     replace p0 := kn.cell0 p0
     replace p1 := kn.cell0 p1
     replace p2 := kn.cell0 p2
     replace p3 := kn.cell0 p3
     replace p4 := kn.cell0 p4
     replace p5 := kn.cell0 p5
     replace q0 := kn.cell0 q0
     replace q1 := kn.cell0 q1
     replace q2 := kn.cell0 q2
     replace Bd := kn.cell0 Bd
     replace Be := kn.cell0 Be
     replace Bf := kn.cell0 Bf
     replace K := hide ((unhide K).trans kn)
     have z5 := kn.size
     clear kn
     have szX_ : w2.heap.size < (w2.alloc (.cells #[.slice none 0 0, .bool false, .int .i64 0] 75)).heap.size := by simp
     have Ba : (w2.alloc (.cells #[.slice none 0 0, .bool false, .int .i64 0] 75)).cell? ⟨w2.heap.size, 0, none⟩ = some (.slice none 0 0) := new_cell2 _ _ _ _ _ _ rfl rfl
     have Bg : (w2.alloc (.cells #[.slice none 0 0, .bool false, .int .i64 0] 75)).frozen? ⟨w2.heap.size, 0, none⟩ = false := new_loose2 _ _ _ _ _ rfl
     have Bb : (w2.alloc (.cells #[.slice none 0 0, .bool false, .int .i64 0] 75)).cell? ⟨w2.heap.size, 1, none⟩ = some (.bool false) := new_cell2 _ _ _ _ _ _ rfl rfl
     have Bh : (w2.alloc (.cells #[.slice none 0 0, .bool false, .int .i64 0] 75)).frozen? ⟨w2.heap.size, 1, none⟩ = false := new_loose2 _ _ _ _ _ rfl
     have Bc : (w2.alloc (.cells #[.slice none 0 0, .bool false, .int .i64 0] 75)).cell? ⟨w2.heap.size, 2, none⟩ = some (.int .i64 0) := new_cell2 _ _ _ _ _ _ rfl rfl
     have Bi : (w2.alloc (.cells #[.slice none 0 0, .bool false, .int .i64 0] 75)).frozen? ⟨w2.heap.size, 2, none⟩ = false := new_loose2 _ _ _ _ _ rfl
     clear hH
     refine hK.out _ _ ?_ (fun hH => ?_)
     ·exact ⟨p0, p1, p2, p3, p4, p5⟩
     clear hK KK
     try simp only [Act.put, zq1, zq2, zq3, zq4, zq5, zq6]
     generalize w2.alloc (.cells #[.slice none 0 0, .bool false, .int .i64 0] 75) = w4 at *
     refine wR 2 (by kernel_rfl) rfl (fun KK hK => ?_)
     ·simp only [zq1, zq2, zq3]
      rw [if_pos (by rfl)]
      refine wps1 39 (.tmp 6) _ rfl in_dyadicOf_p (.agg #[.bool s1, .slice a1 xs.length c1, .int .i64 x1]) rfl (dyadicOf_impl s1 x1 _ r1 mx) ?_
      rintro e w6 ⟨v3, rfl, o3, k6⟩
      refine ⟨_, rfl, ?_⟩
      revert r1 r2; refine k6.n2 ?_; intro r1 r2
      replace kw := kw.trans k6
      replace qf0 := k6.loose0 (zbl q0) qf0
      replace qf1 := k6.loose0 (zbl q1) qf1
      replace qf2 := k6.loose0 (zbl q2) qf2
      replace Bj := k6.loose0 (zbl Bd) Bj
      replace Bk := k6.loose0 (zbl Be) Bk
      replace Bl := k6.loose0 (zbl Bf) Bl
      replace Bg := k6.loose0 (zbl Ba) Bg
      replace Bh := k6.loose0 (zbl Bb) Bh
      replace Bi := k6.loose0 (zbl Bc) Bi
      revert p0 p1 p2 p3 p4 p5 q0 q1 q2 Bd Be Bf; refine k6.m12 ?_; intro p0 p1 p2 p3 p4 p5 q0 q1 q2 Bd Be Bf
      revert Ba Bb Bc; refine k6.m3 ?_; intro Ba Bb Bc
      replace K := hide ((unhide K).trans k6)
      have z7 := k6.size
      clear k6
      have l3 := o3.lt
      obtain ⟨a3, c3, hv⟩ := own_slice o3
      subst hv
      clear hH
      refine hK.out _ _ ?_ (fun hH => ?_)
      ·exact ⟨p0, p1, p2, p3, p4, p5⟩
      clear hK KK
      try simp only [Act.put, zq1, zq2, zq3, zq4, zq5, zq6]
      refine wR 5 (by kernel_rfl) rfl (fun KK hK => ?_)
      ·simp only [zq1, zq2, zq3]
       rw [if_pos (by rfl)]
       refine wps1 39 (.tmp 9) _ rfl in_dyadicOf_p (.agg #[.bool s2, .slice a2 ys.length c2, .int .i64 x2]) rfl (dyadicOf_impl s2 x2 _ r2 my) ?_
       rintro e w8 ⟨v4, rfl, o4, k8⟩
       refine ⟨_, rfl, ?_⟩
       revert r1 r2; refine k8.n2 ?_; intro r1 r2
       replace kw := kw.trans k8
       replace o3 := own_kept o3 k8
       replace qf0 := k8.loose0 (zbl q0) qf0
       replace qf1 := k8.loose0 (zbl q1) qf1
       replace qf2 := k8.loose0 (zbl q2) qf2
       replace Bj := k8.loose0 (zbl Bd) Bj
       replace Bk := k8.loose0 (zbl Be) Bk
       replace Bl := k8.loose0 (zbl Bf) Bl
       replace Bg := k8.loose0 (zbl Ba) Bg
       replace Bh := k8.loose0 (zbl Bb) Bh
       replace Bi := k8.loose0 (zbl Bc) Bi
       revert p0 p1 p2 p3 p4 p5 q0 q1 q2 Bd Be Bf; refine k8.m12 ?_; intro p0 p1 p2 p3 p4 p5 q0 q1 q2 Bd Be Bf
       revert Ba Bb Bc; refine k8.m3 ?_; intro Ba Bb Bc
       replace K := hide ((unhide K).trans k8)
       have z9 := k8.size
       clear k8
       have l4 := o4.lt
       obtain ⟨a4, c4, hv⟩ := own_slice o4
       subst hv
       clear hH
       refine hK.out _ _ ?_ (fun hH => ?_)
       ·exact ⟨p0, p1, p2, p3, p4, p5⟩
       clear hK KK
       try simp only [Act.put, zq1, zq2, zq3, zq4, zq5, zq6]
       refine wR 8 (by kernel_rfl) rfl (fun KK hK => ?_)
       simp only [zq1, zq2, zq3]
       rw [if_pos (by rfl)]
       go_simp
       clear hH
       refine hK.out _ _ ?_ (fun hH => ?_)
       ·have sq := unhide S0; exact ⟨(cw3 (by dsimp only; omega) p0), (cw3 (by dsimp only; omega) p1), (cw3 (by dsimp only; omega) p2), (cw3 (by dsimp only; omega) p3), (cw3 (by dsimp only; omega) p4), (cw3 (by dsimp only; omega) p5)⟩
       clear hK KK
       try simp only [Act.put, zq1, zq2, zq3, zq4, zq5, zq6]
       refine wR 9 (by kernel_rfl) rfl (fun KK hK => ?_)
       simp only [zq1, zq2, zq3]
       rw [if_pos (by rfl)]
       go_simp
       clear hH
       refine hK.out _ _ ?_ (fun hH => ?_)
       ·have sq := unhide S0; exact ⟨(cw6 (by dsimp only; omega) p0), (cw6 (by dsimp only; omega) p1), (cw6 (by dsimp only; omega) p2), (cw6 (by dsimp only; omega) p3), (cw6 (by dsimp only; omega) p4), (cw6 (by dsimp only; omega) p5)⟩
       clear hK KK
       try simp only [Act.put, zq1, zq2, zq3, zq4, zq5, zq6]
       refine wpAnyH_done (by kernel_rfl) ?_ _
       clear hH
       go_wp2_with fail
       go_meet
       exact ⟨_, _, rfl, rfl, dya_pair s1 s2 x1 x2 kw o3 o4 Ba Bb Bc Bg Bh Bi Bd Be Bf Bj Bk Bl (by omega) (by omega) (by omega) (by omega) (by omega) (fun e => by have := l3 _ e; omega) (fun e => by have := l3 _ e; omega) (fun e => by have := l4 _ e; omega) (fun e => by have := l4 _ e; omega) (fun k e1 e2 => by have := l3 _ e1; have := l4 _ e2; omega)⟩
  case rest =>
   obtain ⟨X, Y, rfl, rfl, sg⟩ := hcut
   have zW : w.heap.size + 2 ≤ W.heap.size := by have := unhide S0; omega
   have bX : W.heap.size ≤ X := by obtain ⟨u1, u2, t⟩ := sg.sg.two; exact t.b1
   go_wp2_with fail
   refine (multiplyDyadic_impl sg hx hy (by omega) (by omega) e1 e2 e3 e4).mono ?_
   rintro e w6 ⟨⟨r6, rfl⟩, u6, n6, d6, x6, k6⟩
   rw [unhide HZ] at n6
   rw [unhide HS] at d6
   replace r1 := r1.kp k6
   replace r2 := r2.kp k6
   replace qf0 := k6.loose0 (zbl q0) qf0
   replace qf1 := k6.loose0 (zbl q1) qf1
   replace qf2 := k6.loose0 (zbl q2) qf2
   replace p0 := k6.cell0 p0
   replace p1 := k6.cell0 p1
   replace p2 := k6.cell0 p2
   replace p3 := k6.cell0 p3
   replace p4 := k6.cell0 p4
   replace p5 := k6.cell0 p5
   replace q0 := k6.cell0 q0
   replace q1 := k6.cell0 q1
   replace q2 := k6.cell0 q2
   replace K := hide ((unhide K).trans k6)
   have z1 := k6.size
   clear k6 r1 r2 sg
   have own := n6.own
   have n6c := n6.cell
   have d6c := d6.1
   have x6c := x6.1
   have lo6 := own.lt
   obtain ⟨a6, c6, hv⟩ := own_slice own
   subst hv
   have R9 := hide (own_less (own_apart (own_apart (own_apart own (p := ⟨w.heap.size + 1, 0, none⟩) (fun e => by have := lo6 _ e; dsimp only at this; omega) (.slice a6 zs.length c6)) (p := ⟨w.heap.size + 1, 1, none⟩) (fun e => by have := lo6 _ e; dsimp only at this; omega) (.bool sx)) (p := ⟨w.heap.size + 1, 2, none⟩) (fun e => by have := lo6 _ e; dsimp only at this; omega) (.int .i64 (x1 + x2))) (show w.heap.size ≤ _ by omega))
   have K9 := hide ((((unhide K).setNew (p := ⟨w.heap.size + 1, 0, none⟩) (by simp) (.slice a6 zs.length c6)).setNew (p := ⟨w.heap.size + 1, 1, none⟩) (by simp) (.bool sx)).setNew (p := ⟨w.heap.size + 1, 2, none⟩) (by simp) (.int .i64 (x1 + x2)))
   have Gq0 := hide (cell_off _ _ _ 2 (.int .i64 (x1 + x2)) _ (cell_off _ _ _ 1 (.bool sx) _ (cell_on _ _ _ (.slice a6 zs.length c6) _ q0) (by decide)) (by decide))
   have Gq1 := hide (cell_off _ _ _ 2 (.int .i64 (x1 + x2)) _ (cell_on _ _ _ (.bool sx) _ (cell_off _ _ _ 0 (.slice a6 zs.length c6) _ q1 (by decide))) (by decide))
   have Gq2 := hide (cell_on _ _ _ (.int .i64 (x1 + x2)) _ (cell_off _ _ _ 1 (.bool sx) _ (cell_off _ _ _ 0 (.slice a6 zs.length c6) _ q2 (by decide)) (by decide)))
   clear own n6 d6 x6 K lo6
   go_wp2_with fail
   have h0 := unhide Gq0
   have h1 := unhide Gq1
   have h2 := unhide Gq2
   exact bodyPost_ret (v := .agg #[.slice a6 zs.length c6, .bool sx, .int .i64 (x1 + x2)]) (by simp [results, Tryd.results37, go_sem, h0, h1, h2]) rfl ⟨_, rfl, unhide R9, unhide K9⟩

end Go.Proofs.YtpognolidbgkkaaDoor

