/-
  Pairs of dyadic numbers: the program's compareProducts.
-/
import Derived.Test.YtpognolidbgkkaaDoorPq1
import Derived.Test.YtpognolidbgkkaaDoorCmw
import Derived.Deep.DeepCutAuto
import Derived.Deep.RegionHeld3
namespace Go.Proofs.YtpognolidbgkkaaDoor
open Go.RowKit
set_option linter.unusedVariables false
set_option maxRecDepth 8000
set_option linter.unusedSimpArgs false

theorem in_product_q : ∀ (w : World) (args : Array Value), (callFunc 37 args).run Tryd.prog w = .ok (.enter 37 args) w := enters Tryd.func37 (by decide) (fun h => by cases h)

theorem mul_len2 {xs ys : List Int} (hx : Lim xs) (hy : Lim ys) (h1 : xs.length ≤ 100) (h2 : ys.length ≤ 100) : (limbs (val xs * val ys).toNat).length ≤ 200 := by
  refine (limbs_length_le _ _).2 ?_
  have a1 := val_lt hx
  have a2 := val_lt hy
  have b1 := val_nonneg hx
  have b2 := val_nonneg hy
  have c1 := pow_mono (a := xs.length) (b := 100) h1
  have c2 := pow_mono (a := ys.length) (b := 100) h2
  have e : (65536 : Int) ^ 200 = 65536 ^ 100 * 65536 ^ 100 := by rw [← Int.pow_add]
  obtain ⟨K, hK⟩ : ∃ K : Int, (65536 : Int) ^ 100 = K := ⟨_, rfl⟩
  rw [hK] at c1 c2 e
  rw [e]
  have d : val xs * val ys < K * K := by
   refine Int.lt_of_le_of_lt (Int.mul_le_mul_of_nonneg_right (show val xs ≤ K by omega) b2) ?_
   exact Int.mul_lt_mul_of_pos_left (by omega) (by omega)
  have f : 0 ≤ val xs * val ys := Int.mul_nonneg b1 b2
  omega

set_option maxHeartbeats 8000000 in
theorem cmpProducts_impl {b1 : Bool} {w1l w1h : Nat} {v1 : Value} {l1 : List Int} (s1 : Bool) (x1 : Int) {b2 : Bool} {w2l w2h : Nat} {v2 : Value} {l2 : List Int} (s2 : Bool) (x2 : Int) {b3 : Bool} {w3l w3h : Nat} {v3 : Value} {l3 : List Int} (s3 : Bool) (x3 : Int) {b4 : Bool} {w4l w4h : Nat} {v4 : Value} {l4 : List Int} (s4 : Bool) (x4 : Int) (w : World) (r1 : Row .i64 b1 w1l w1h w v1 l1) (r2 : Row .i64 b2 w2l w2h w v2 l2) (r3 : Row .i64 b3 w3l w3h w v3 l3) (r4 : Row .i64 b4 w4l w4h w v4 l4) (dk1 : dokB s1 l1 x1 = true) (dk2 : dokB s2 l2 x2 = true) (dk3 : dokB s3 l3 x3 = true) (dk4 : dokB s4 l4 x4 = true) :
    Calls Tryd.prog 18 #[.agg #[.bool s1, v1, .int .i64 x1, .bool s2, v2, .int .i64 x2], .agg #[.bool s3, v3, .int .i64 x3, .bool s4, v4, .int .i64 x4]] w fun e w' => e = .returned (.int .i64 (cmpDI (wval s1 l1 * wval s2 l2) (x1 + x2) (wval s3 l3 * wval s4 l4) (x3 + x4))) ∧ Kept 0 0 w w' := by
  obtain ⟨Wn, hn0⟩ : ∃ wz, wz = ((w.alloc (.cells #[.bool s1, v1, .int .i64 x1, .bool s2, v2, .int .i64 x2] 51)).alloc (.cells #[.bool s3, v3, .int .i64 x3, .bool s4, v4, .int .i64 x4] 51)) := ⟨_, rfl⟩
  have k0 : Kept 0 0 w Wn := by rw [hn0]; exact (((Kept.refl 0 0 w).alloc _).alloc _)
  have p0 : Wn.cell? ⟨w.heap.size, 0, none⟩ = some (.bool s1) := by rw [hn0]; exact old_cell _ (new_cell2 _ _ _ _ _ _ (by simp) rfl)
  have p1 : Wn.cell? ⟨w.heap.size, 1, none⟩ = some (v1) := by rw [hn0]; exact old_cell _ (new_cell2 _ _ _ _ _ _ (by simp) rfl)
  have p2 : Wn.cell? ⟨w.heap.size, 2, none⟩ = some (.int .i64 x1) := by rw [hn0]; exact old_cell _ (new_cell2 _ _ _ _ _ _ (by simp) rfl)
  have p3 : Wn.cell? ⟨w.heap.size, 3, none⟩ = some (.bool s2) := by rw [hn0]; exact old_cell _ (new_cell2 _ _ _ _ _ _ (by simp) rfl)
  have p4 : Wn.cell? ⟨w.heap.size, 4, none⟩ = some (v2) := by rw [hn0]; exact old_cell _ (new_cell2 _ _ _ _ _ _ (by simp) rfl)
  have p5 : Wn.cell? ⟨w.heap.size, 5, none⟩ = some (.int .i64 x2) := by rw [hn0]; exact old_cell _ (new_cell2 _ _ _ _ _ _ (by simp) rfl)
  have t0 : Wn.cell? ⟨w.heap.size + 1, 0, none⟩ = some (.bool s3) := by rw [hn0]; exact new_cell2 _ _ _ _ _ _ (by simp) rfl
  have t1 : Wn.cell? ⟨w.heap.size + 1, 1, none⟩ = some (v3) := by rw [hn0]; exact new_cell2 _ _ _ _ _ _ (by simp) rfl
  have t2 : Wn.cell? ⟨w.heap.size + 1, 2, none⟩ = some (.int .i64 x3) := by rw [hn0]; exact new_cell2 _ _ _ _ _ _ (by simp) rfl
  have t3 : Wn.cell? ⟨w.heap.size + 1, 3, none⟩ = some (.bool s4) := by rw [hn0]; exact new_cell2 _ _ _ _ _ _ (by simp) rfl
  have t4 : Wn.cell? ⟨w.heap.size + 1, 4, none⟩ = some (v4) := by rw [hn0]; exact new_cell2 _ _ _ _ _ _ (by simp) rfl
  have t5 : Wn.cell? ⟨w.heap.size + 1, 5, none⟩ = some (.int .i64 x4) := by rw [hn0]; exact new_cell2 _ _ _ _ _ _ (by simp) rfl
  subst hn0
  replace r1 := r1.kept k0 (by omega)
  replace r2 := r2.kept k0 (by omega)
  replace r3 := r3.kept k0 (by omega)
  replace r4 := r4.kept k0 (by omega)
  have s0 : ((w.alloc (.cells #[.bool s1, v1, .int .i64 x1, .bool s2, v2, .int .i64 x2] 51)).alloc (.cells #[.bool s3, v3, .int .i64 x3, .bool s4, v4, .int .i64 x4] 51)).heap.size = w.heap.size + 2 := by simp
  obtain ⟨a1, c1, hv⟩ := r1.form'
  subst hv
  obtain ⟨a2, c2, hv⟩ := r2.form'
  subst hv
  obtain ⟨a3, c3, hv⟩ := r3.form'
  subst hv
  obtain ⟨a4, c4, hv⟩ := r4.form'
  subst hv
  have K := hide (k0)
  clear k0
  have S0 := hide s0
  clear s0
  go_enter Tryd.func18, Tryd.ntmps18
  go_wp2_with fail
  generalize ((w.alloc (.cells #[.bool s1, .slice a1 l1.length c1, .int .i64 x1, .bool s2, .slice a2 l2.length c2, .int .i64 x2] 51)).alloc (.cells #[.bool s3, .slice a3 l3.length c3, .int .i64 x3, .bool s4, .slice a4 l4.length c4, .int .i64 x4] 51)) = W at *
  obtain ⟨w1', e1a, e1b, -, -⟩ := dok_parts dk1
  obtain ⟨-, -, lx1, hx1⟩ := wok_int w1'
  clear w1'
  obtain ⟨w2', e2a, e2b, -, -⟩ := dok_parts dk2
  obtain ⟨-, -, lx2, hx2⟩ := wok_int w2'
  clear w2'
  obtain ⟨w3', e3a, e3b, -, -⟩ := dok_parts dk3
  obtain ⟨-, -, lx3, hx3⟩ := wok_int w3'
  clear w3'
  obtain ⟨w4', e4a, e4b, -, -⟩ := dok_parts dk4
  obtain ⟨-, -, lx4, hx4⟩ := wok_int w4'
  clear w4'
  go_cut [5, 6] (fun p q wx => ∃ X Y, p = .pointer (some ⟨X, 0, none⟩) ∧ q = .pointer (some ⟨Y, 0, none⟩) ∧ Dya2 W wx X Y (!(s1 == s2)) (limbs (val l1 * val l2).toNat) (x1 + x2) (!(s3 == s4)) (limbs (val l3 * val l4).toNat) (x3 + x4))
  case first =>
   have kw := Kept.refl 0 0 W
   have kd := (Kept.refl 0 0 W).drew
   revert r1 r2 r3 r4; refine kd.n4 ?_; intro r1 r2 r3 r4
   replace kw := kw.trans kd
   revert p0 p1 p2 p3 p4 p5 t0 t1 t2 t3 t4 t5; refine kd.m12 ?_; intro p0 p1 p2 p3 p4 p5 t0 t1 t2 t3 t4 t5
   replace K := hide ((unhide K).trans kd)
   have z1 := kd.size
   clear kd
   refine wp_region_held_drew (S := (fun w' => w'.cell? ⟨w.heap.size, 0, none⟩ = some (.bool s1) ∧ w'.cell? ⟨w.heap.size, 1, none⟩ = some (.slice a1 l1.length c1) ∧ w'.cell? ⟨w.heap.size, 2, none⟩ = some (.int .i64 x1) ∧ w'.cell? ⟨w.heap.size, 3, none⟩ = some (.bool s2) ∧ w'.cell? ⟨w.heap.size, 4, none⟩ = some (.slice a2 l2.length c2) ∧ w'.cell? ⟨w.heap.size, 5, none⟩ = some (.int .i64 x2) ∧ w'.cell? ⟨w.heap.size + 1, 0, none⟩ = some (.bool s3) ∧ w'.cell? ⟨w.heap.size + 1, 1, none⟩ = some (.slice a3 l3.length c3) ∧ w'.cell? ⟨w.heap.size + 1, 2, none⟩ = some (.int .i64 x3) ∧ w'.cell? ⟨w.heap.size + 1, 3, none⟩ = some (.bool s4) ∧ w'.cell? ⟨w.heap.size + 1, 4, none⟩ = some (.slice a4 l4.length c4) ∧ w'.cell? ⟨w.heap.size + 1, 5, none⟩ = some (.int .i64 x4))) (by kernel_rfl) ?_ (fun hH => ?_)
   ·exact ⟨p0, p1, p2, p3, p4, p5, t0, t1, t2, t3, t4, t5⟩
   generalize W.drew = wd at *
   refine wT (i := 0) (v := .agg #[.bool s1, .slice a1 l1.length c1, .int .i64 x1, .bool s2, .slice a2 l2.length c2, .int .i64 x2]) rfl (Or.inl ⟨by rfl, ?_⟩) hH ?_
   ·intro wq hSw
    try dsimp only at hSw
    go_simp
   try simp only [Act.put, zq1, zq2, zq3, zq4, zq5, zq6]
   refine wT (i := 2) (v := .agg #[.bool s3, .slice a3 l3.length c3, .int .i64 x3, .bool s4, .slice a4 l4.length c4, .int .i64 x4]) rfl (Or.inl ⟨by rfl, ?_⟩) hH ?_
   ·intro wq hSw
    try dsimp only at hSw
    go_simp
   try simp only [Act.put, zq1, zq2, zq3, zq4, zq5, zq6]
   refine wpAnyH_ready (rs := [1, 4, 5]) (by kernel_rfl) (by simp) ?_
   refine AllReadyH.cons rfl (fun KK hK => ?_) (AllReadyH.cons rfl (fun KK hK => ?_) (AllReadyH.cons rfl (fun KK hK => ?_) AllReadyH.nil))
   ·simp only [zq1, zq2, zq3]
    rw [if_pos (by rfl)]
    refine wps1 37 (.tmp 7) _ rfl in_product_q (.agg #[.bool s1, .slice a1 l1.length c1, .int .i64 x1, .bool s2, .slice a2 l2.length c2, .int .i64 x2]) rfl (product_impl s1 s2 x1 x2 _ r1 r2 dk1 dk2) ?_
    rintro e w2 ⟨v5, rfl, o3, k2⟩
    refine ⟨_, rfl, ?_⟩
    revert r1 r2 r3 r4; refine k2.n4 ?_; intro r1 r2 r3 r4
    replace kw := kw.trans k2
    revert p0 p1 p2 p3 p4 p5 t0 t1 t2 t3 t4 t5; refine k2.m12 ?_; intro p0 p1 p2 p3 p4 p5 t0 t1 t2 t3 t4 t5
    replace K := hide ((unhide K).trans k2)
    have z3 := k2.size
    clear k2
    have l3' := o3.lt
    obtain ⟨a5, c5, hv⟩ := own_slice o3
    subst hv
    clear hH
    refine hK.out _ _ ?_ (fun hH => ?_)
    ·exact ⟨p0, p1, p2, p3, p4, p5, t0, t1, t2, t3, t4, t5⟩
    clear hK KK
    try simp only [Act.put, zq1, zq2, zq3, zq4, zq5, zq6]
    refine wpAnyH_ready (rs := [3, 4, 5]) (by kernel_rfl) (by simp) ?_
    refine AllReadyH.cons rfl (fun KK hK => ?_) (AllReadyH.cons rfl (fun KK hK => ?_) (AllReadyH.cons rfl (fun KK hK => ?_) AllReadyH.nil))
    ·simp only [zq1, zq2, zq3]
     rw [if_pos (by rfl)]
     refine wps1 37 (.tmp 9) _ rfl in_product_q (.agg #[.bool s3, .slice a3 l3.length c3, .int .i64 x3, .bool s4, .slice a4 l4.length c4, .int .i64 x4]) rfl (product_impl s3 s4 x3 x4 _ r3 r4 dk3 dk4) ?_
     rintro e w4 ⟨v6, rfl, o4, k4⟩
     refine ⟨_, rfl, ?_⟩
     revert r1 r2 r3 r4; refine k4.n4 ?_; intro r1 r2 r3 r4
     replace kw := kw.trans k4
     replace o3 := own_kept o3 k4
     revert p0 p1 p2 p3 p4 p5 t0 t1 t2 t3 t4 t5; refine k4.m12 ?_; intro p0 p1 p2 p3 p4 p5 t0 t1 t2 t3 t4 t5
     replace K := hide ((unhide K).trans k4)
     have z5 := k4.size
     clear k4
     have l4' := o4.lt
     obtain ⟨a6, c6, hv⟩ := own_slice o4
     subst hv
     clear hH
     refine hK.out _ _ ?_ (fun hH => ?_)
     ·exact ⟨p0, p1, p2, p3, p4, p5, t0, t1, t2, t3, t4, t5⟩
     clear hK KK
     try simp only [Act.put, zq1, zq2, zq3, zq4, zq5, zq6]
     refine wpAnyH_ready (rs := [4, 5]) (by kernel_rfl) (by simp) ?_
     refine AllReadyH.cons rfl (fun KK hK => ?_) (AllReadyH.cons rfl (fun KK hK => ?_) AllReadyH.nil)
     ·simp only [zq1, zq2, zq3]
      rw [if_pos (by rfl)]
      go_simp
      have kn := (Kept.refl 0 0 w4).alloc (.cells #[.slice none 0 0, .bool false, .int .i64 0] 75)
      revert r1 r2 r3 r4; refine kn.n4 ?_; intro r1 r2 r3 r4
      replace kw := kw.trans kn
      replace o3 := own_kept o3 kn
      replace o4 := own_kept o4 kn
      revert p0 p1 p2 p3 p4 p5 t0 t1 t2 t3 t4 t5; refine kn.m12 ?_; intro p0 p1 p2 p3 p4 p5 t0 t1 t2 t3 t4 t5
      replace K := hide ((unhide K).trans kn)
      have z7 := kn.size
      clear kn
      have szX_ : w4.heap.size < (w4.alloc (.cells #[.slice none 0 0, .bool false, .int .i64 0] 75)).heap.size := by simp
      have Ba : (w4.alloc (.cells #[.slice none 0 0, .bool false, .int .i64 0] 75)).cell? ⟨w4.heap.size, 0, none⟩ = some (.slice none 0 0) := new_cell2 _ _ _ _ _ _ rfl rfl
      have Bg : (w4.alloc (.cells #[.slice none 0 0, .bool false, .int .i64 0] 75)).frozen? ⟨w4.heap.size, 0, none⟩ = false := new_loose2 _ _ _ _ _ rfl
      have Bb : (w4.alloc (.cells #[.slice none 0 0, .bool false, .int .i64 0] 75)).cell? ⟨w4.heap.size, 1, none⟩ = some (.bool false) := new_cell2 _ _ _ _ _ _ rfl rfl
      have Bh : (w4.alloc (.cells #[.slice none 0 0, .bool false, .int .i64 0] 75)).frozen? ⟨w4.heap.size, 1, none⟩ = false := new_loose2 _ _ _ _ _ rfl
      have Bc : (w4.alloc (.cells #[.slice none 0 0, .bool false, .int .i64 0] 75)).cell? ⟨w4.heap.size, 2, none⟩ = some (.int .i64 0) := new_cell2 _ _ _ _ _ _ rfl rfl
      have Bi : (w4.alloc (.cells #[.slice none 0 0, .bool false, .int .i64 0] 75)).frozen? ⟨w4.heap.size, 2, none⟩ = false := new_loose2 _ _ _ _ _ rfl
      clear hH
      refine hK.out _ _ ?_ (fun hH => ?_)
      ·exact ⟨p0, p1, p2, p3, p4, p5, t0, t1, t2, t3, t4, t5⟩
      clear hK KK
      try simp only [Act.put, zq1, zq2, zq3, zq4, zq5, zq6]
      generalize w4.alloc (.cells #[.slice none 0 0, .bool false, .int .i64 0] 75) = w6 at *
      refine wR 5 (by kernel_rfl) rfl (fun KK hK => ?_)
      ·simp only [zq1, zq2, zq3]
       rw [if_pos (by rfl)]
       go_simp
       have kn := (Kept.refl 0 0 w6).alloc (.cells #[.slice none 0 0, .bool false, .int .i64 0] 75)
       revert r1 r2 r3 r4; refine kn.n4 ?_; intro r1 r2 r3 r4
       replace kw := kw.trans kn
       replace o3 := own_kept o3 kn
       replace o4 := own_kept o4 kn
       replace Bg := kn.loose0 (zbl Ba) Bg
       replace Bh := kn.loose0 (zbl Bb) Bh
       replace Bi := kn.loose0 (zbl Bc) Bi
       revert p0 p1 p2 p3 p4 p5 t0 t1 t2 t3 t4 t5; refine kn.m12 ?_; intro p0 p1 p2 p3 p4 p5 t0 t1 t2 t3 t4 t5
       revert Ba Bb Bc; refine kn.m3 ?_; intro Ba Bb Bc
       replace K := hide ((unhide K).trans kn)
       have z9 := kn.size
       clear kn
       have szY_ : w6.heap.size < (w6.alloc (.cells #[.slice none 0 0, .bool false, .int .i64 0] 75)).heap.size := by simp
       have Bd : (w6.alloc (.cells #[.slice none 0 0, .bool false, .int .i64 0] 75)).cell? ⟨w6.heap.size, 0, none⟩ = some (.slice none 0 0) := new_cell2 _ _ _ _ _ _ rfl rfl
       have Bj : (w6.alloc (.cells #[.slice none 0 0, .bool false, .int .i64 0] 75)).frozen? ⟨w6.heap.size, 0, none⟩ = false := new_loose2 _ _ _ _ _ rfl
       have Be : (w6.alloc (.cells #[.slice none 0 0, .bool false, .int .i64 0] 75)).cell? ⟨w6.heap.size, 1, none⟩ = some (.bool false) := new_cell2 _ _ _ _ _ _ rfl rfl
       have Bk : (w6.alloc (.cells #[.slice none 0 0, .bool false, .int .i64 0] 75)).frozen? ⟨w6.heap.size, 1, none⟩ = false := new_loose2 _ _ _ _ _ rfl
       have Bf : (w6.alloc (.cells #[.slice none 0 0, .bool false, .int .i64 0] 75)).cell? ⟨w6.heap.size, 2, none⟩ = some (.int .i64 0) := new_cell2 _ _ _ _ _ _ rfl rfl
       have Bl : (w6.alloc (.cells #[.slice none 0 0, .bool false, .int .i64 0] 75)).frozen? ⟨w6.heap.size, 2, none⟩ = false := new_loose2 _ _ _ _ _ rfl
       clear hH
       refine hK.out _ _ ?_ (fun hH => ?_)
       ·exact ⟨p0, p1, p2, p3, p4, p5, t0, t1, t2, t3, t4, t5⟩
       clear hK KK
       try simp only [Act.put, zq1, zq2, zq3, zq4, zq5, zq6]
       generalize w6.alloc (.cells #[.slice none 0 0, .bool false, .int .i64 0] 75) = w8 at *
       refine wR 6 (by kernel_rfl) rfl (fun KK hK => ?_)
       simp only [zq1, zq2, zq3]
       rw [if_pos (by rfl)]
       go_simp
       clear hH
       refine hK.out _ _ ?_ (fun hH => ?_)
       ·have sq := unhide S0; exact ⟨(cw3 (by dsimp only; omega) p0), (cw3 (by dsimp only; omega) p1), (cw3 (by dsimp only; omega) p2), (cw3 (by dsimp only; omega) p3), (cw3 (by dsimp only; omega) p4), (cw3 (by dsimp only; omega) p5), (cw3 (by dsimp only; omega) t0), (cw3 (by dsimp only; omega) t1), (cw3 (by dsimp only; omega) t2), (cw3 (by dsimp only; omega) t3), (cw3 (by dsimp only; omega) t4), (cw3 (by dsimp only; omega) t5)⟩
       clear hK KK
       try simp only [Act.put, zq1, zq2, zq3, zq4, zq5, zq6]
       refine wR 7 (by kernel_rfl) rfl (fun KK hK => ?_)
       simp only [zq1, zq2, zq3]
       rw [if_pos (by rfl)]
       go_simp
       clear hH
       refine hK.out _ _ ?_ (fun hH => ?_)
       ·have sq := unhide S0; exact ⟨(cw6 (by dsimp only; omega) p0), (cw6 (by dsimp only; omega) p1), (cw6 (by dsimp only; omega) p2), (cw6 (by dsimp only; omega) p3), (cw6 (by dsimp only; omega) p4), (cw6 (by dsimp only; omega) p5), (cw6 (by dsimp only; omega) t0), (cw6 (by dsimp only; omega) t1), (cw6 (by dsimp only; omega) t2), (cw6 (by dsimp only; omega) t3), (cw6 (by dsimp only; omega) t4), (cw6 (by dsimp only; omega) t5)⟩
       clear hK KK
       try simp only [Act.put, zq1, zq2, zq3, zq4, zq5, zq6]
       refine wpAnyH_done (by kernel_rfl) ?_ _
       clear hH
       go_wp2_with fail
       go_meet
       exact ⟨_, _, rfl, rfl, dya_pair (!(s1 == s2)) (!(s3 == s4)) (x1 + x2) (x3 + x4) kw o3 o4 Ba Bb Bc Bg Bh Bi Bd Be Bf Bj Bk Bl (by omega) (by omega) (by omega) (by omega) (by omega) (fun e => by have := l3' _ e; omega) (fun e => by have := l3' _ e; omega) (fun e => by have := l4' _ e; omega) (fun e => by have := l4' _ e; omega) (fun k e1 e2 => by have := l3' _ e1; have := l4' _ e2; omega)⟩
     ·simp only [zq1, zq2, zq3]
      rw [if_pos (by rfl)]
      go_simp
      have kn := (Kept.refl 0 0 w4).alloc (.cells #[.slice none 0 0, .bool false, .int .i64 0] 75)
      replace r1 := r1.kp kn
      replace r2 := r2.kp kn
      replace r3 := r3.kp kn
      replace r4 := r4.kp kn
      replace kw := kw.trans kn
      replace o3 := own_kept o3 kn
      replace o4 := own_kept o4 kn
      replace p0 := kn.cell0 p0
      replace p1 := kn.cell0 p1
      replace p2 := kn.cell0 p2
      replace p3 := kn.cell0 p3
      replace p4 := kn.cell0 p4
      replace p5 := kn.cell0 p5
      replace t0 := kn.cell0 t0
      replace t1 := kn.cell0 t1
      replace t2 := kn.cell0 t2
      replace t3 := kn.cell0 t3
      replace t4 := kn.cell0 t4
      replace t5 := kn.cell0 t5
      replace K := hide ((unhide K).trans kn)
      have z7 := kn.size
      clear kn
      have szY_ : w4.heap.size < (w4.alloc (.cells #[.slice none 0 0, .bool false, .int .i64 0] 75)).heap.size := by simp
      have Bd : (w4.alloc (.cells #[.slice none 0 0, .bool false, .int .i64 0] 75)).cell? ⟨w4.heap.size, 0, none⟩ = some (.slice none 0 0) := new_cell2 _ _ _ _ _ _ rfl rfl
      have Bj : (w4.alloc (.cells #[.slice none 0 0, .bool false, .int .i64 0] 75)).frozen? ⟨w4.heap.size, 0, none⟩ = false := new_loose2 _ _ _ _ _ rfl
      have Be : (w4.alloc (.cells #[.slice none 0 0, .bool false, .int .i64 0] 75)).cell? ⟨w4.heap.size, 1, none⟩ = some (.bool false) := new_cell2 _ _ _ _ _ _ rfl rfl
      have Bk : (w4.alloc (.cells #[.slice none 0 0, .bool false, .int .i64 0] 75)).frozen? ⟨w4.heap.size, 1, none⟩ = false := new_loose2 _ _ _ _ _ rfl
      have Bf : (w4.alloc (.cells #[.slice none 0 0, .bool false, .int .i64 0] 75)).cell? ⟨w4.heap.size, 2, none⟩ = some (.int .i64 0) := new_cell2 _ _ _ _ _ _ rfl rfl
      have Bl : (w4.alloc (.cells #[.slice none 0 0, .bool false, .int .i64 0] 75)).frozen? ⟨w4.heap.size, 2, none⟩ = false := new_loose2 _ _ _ _ _ rfl
      clear hH
      refine hK.out _ _ ?_ (fun hH => ?_)
      ·exact ⟨p0, p1, p2, p3, p4, p5, t0, t1, t2, t3, t4, t5⟩
      clear hK KK
      try simp only [Act.put, zq1, zq2, zq3, zq4, zq5, zq6]
      generalize w4.alloc (.cells #[.slice none 0 0, .bool false, .int .i64 0] 75) = w6 at *
      refine wR 4 (by kernel_rfl) rfl (fun KK hK => ?_)
      ·simp only [zq1, zq2, zq3]
       rw [if_pos (by rfl)]
       go_simp
       have kn := (Kept.refl 0 0 w6).alloc (.cells #[.slice none 0 0, .bool false, .int .i64 0] 75)
       revert r1 r2 r3 r4; refine kn.n4 ?_; intro r1 r2 r3 r4
       replace kw := kw.trans kn
       replace o3 := own_kept o3 kn
       replace o4 := own_kept o4 kn
       replace Bj := kn.loose0 (zbl Bd) Bj
       replace Bk := kn.loose0 (zbl Be) Bk
       replace Bl := kn.loose0 (zbl Bf) Bl
       revert p0 p1 p2 p3 p4 p5 t0 t1 t2 t3 t4 t5; refine kn.m12 ?_; intro p0 p1 p2 p3 p4 p5 t0 t1 t2 t3 t4 t5
       revert Bd Be Bf; refine kn.m3 ?_; intro Bd Be Bf
       replace K := hide ((unhide K).trans kn)
       have z9 := kn.size
       clear kn
       have szX_ : w6.heap.size < (w6.alloc (.cells #[.slice none 0 0, .bool false, .int .i64 0] 75)).heap.size := by simp
       have Ba : (w6.alloc (.cells #[.slice none 0 0, .bool false, .int .i64 0] 75)).cell? ⟨w6.heap.size, 0, none⟩ = some (.slice none 0 0) := new_cell2 _ _ _ _ _ _ rfl rfl
       have Bg : (w6.alloc (.cells #[.slice none 0 0, .bool false, .int .i64 0] 75)).frozen? ⟨w6.heap.size, 0, none⟩ = false := new_loose2 _ _ _ _ _ rfl
       have Bb : (w6.alloc (.cells #[.slice none 0 0, .bool false, .int .i64 0] 75)).cell? ⟨w6.heap.size, 1, none⟩ = some (.bool false) := new_cell2 _ _ _ _ _ _ rfl rfl
       have Bh : (w6.alloc (.cells #[.slice none 0 0, .bool false, .int .i64 0] 75)).frozen? ⟨w6.heap.size, 1, none⟩ = false := new_loose2 _ _ _ _ _ rfl
       have Bc : (w6.alloc (.cells #[.slice none 0 0, .bool false, .int .i64 0] 75)).cell? ⟨w6.heap.size, 2, none⟩ = some (.int .i64 0) := new_cell2 _ _ _ _ _ _ rfl rfl
       have Bi : (w6.alloc (.cells #[.slice none 0 0, .bool false, .int .i64 0] 75)).frozen? ⟨w6.heap.size, 2, none⟩ = false := new_loose2 _ _ _ _ _ rfl
       clear hH
       refine hK.out _ _ ?_ (fun hH => ?_)
       ·exact ⟨p0, p1, p2, p3, p4, p5, t0, t1, t2, t3, t4, t5⟩
       clear hK KK
       try simp only [Act.put, zq1, zq2, zq3, zq4, zq5, zq6]
       generalize w6.alloc (.cells #[.slice none 0 0, .bool false, .int .i64 0] 75) = w8 at *
       refine wR 6 (by kernel_rfl) rfl (fun KK hK => ?_)
       simp only [zq1, zq2, zq3]
       rw [if_pos (by rfl)]
       go_simp
       clear hH
       refine hK.out _ _ ?_ (fun hH => ?_)
       ·have sq := unhide S0; exact ⟨(cw3 (by dsimp only; omega) p0), (cw3 (by dsimp only; omega) p1), (cw3 (by dsimp only; omega) p2), (cw3 (by dsimp only; omega) p3), (cw3 (by dsimp only; omega) p4), (cw3 (by dsimp only; omega) p5), (cw3 (by dsimp only; omega) t0), (cw3 (by dsimp only; omega) t1), (cw3 (by dsimp only; omega) t2), (cw3 (by dsimp only; omega) t3), (cw3 (by dsimp only; omega) t4), (cw3 (by dsimp only; omega) t5)⟩
       clear hK KK
       try simp only [Act.put, zq1, zq2, zq3, zq4, zq5, zq6]
       refine wR 7 (by kernel_rfl) rfl (fun KK hK => ?_)
       simp only [zq1, zq2, zq3]
       rw [if_pos (by rfl)]
       go_simp
       clear hH
       refine hK.out _ _ ?_ (fun hH => ?_)
       ·have sq := unhide S0; exact ⟨(cw6 (by dsimp only; omega) p0), (cw6 (by dsimp only; omega) p1), (cw6 (by dsimp only; omega) p2), (cw6 (by dsimp only; omega) p3), (cw6 (by dsimp only; omega) p4), (cw6 (by dsimp only; omega) p5), (cw6 (by dsimp only; omega) t0), (cw6 (by dsimp only; omega) t1), (cw6 (by dsimp only; omega) t2), (cw6 (by dsimp only; omega) t3), (cw6 (by dsimp only; omega) t4), (cw6 (by dsimp only; omega) t5)⟩
       clear hK KK
       try simp only [Act.put, zq1, zq2, zq3, zq4, zq5, zq6]
       refine wpAnyH_done (by kernel_rfl) ?_ _
       clear hH
       go_wp2_with fail
       go_meet
       exact ⟨_, _, rfl, rfl, dya_pair (!(s1 == s2)) (!(s3 == s4)) (x1 + x2) (x3 + x4) kw o3 o4 Ba Bb Bc Bg Bh Bi Bd Be Bf Bj Bk Bl (by omega) (by omega) (by omega) (by omega) (by omega) (fun e => by have := l3' _ e; omega) (fun e => by have := l3' _ e; omega) (fun e => by have := l4' _ e; omega) (fun e => by have := l4' _ e; omega) (fun k e1 e2 => by have := l3' _ e1; have := l4' _ e2; omega)⟩
    ·simp only [zq1, zq2, zq3]
     rw [if_pos (by rfl)]
     go_simp
     have kn := (Kept.refl 0 0 w2).alloc (.cells #[.slice none 0 0, .bool false, .int .i64 0] 75)
     replace r1 := r1.kp kn
     replace r2 := r2.kp kn
     replace r3 := r3.kp kn
     replace r4 := r4.kp kn
     replace kw := kw.trans kn
     replace o3 := own_kept o3 kn
     replace p0 := kn.cell0 p0
     replace p1 := kn.cell0 p1
     replace p2 := kn.cell0 p2
     replace p3 := kn.cell0 p3
     replace p4 := kn.cell0 p4
     replace p5 := kn.cell0 p5
     replace t0 := kn.cell0 t0
     replace t1 := kn.cell0 t1
     replace t2 := kn.cell0 t2
     replace t3 := kn.cell0 t3
     replace t4 := kn.cell0 t4
     replace t5 := kn.cell0 t5
     replace K := hide ((unhide K).trans kn)
     have z5 := kn.size
     clear kn
     have szX_ : w2.heap.size < (w2.alloc (.cells #[.slice none 0 0, .bool false, .int .i64 0] 75)).heap.size := by simp
     have Ba : (w2.alloc (.cells #[.slice none 0 0, .bool false, .int .i64 0] 75)).cell? ⟨w2.heap.size, 0, none⟩ = some (.slice none 0 0) := new_cell2 _ _ _ _ _ _ rfl rfl
     have Bg : (w2.alloc (.cells #[.slice none 0 0, .bool false, .int .i64 0] 75)).frozen? ⟨w2.heap.size, 0, none⟩ = false := new_loose2 _ _ _ _ _ rfl
     have Bb : (w2.alloc (.cells #[.slice none 0 0, .bool false, .int .i64 0] 75)).cell? ⟨w2.heap.size, 1, none⟩ = some (.bool false) := new_cell2 _ _ _ _ _ _ rfl rfl
     have Bh : (w2.alloc (.cells #[.slice none 0 0, .bool false, .int .i64 0] 75)).frozen? ⟨w2.heap.size, 1, none⟩ = false := new_loose2 _ _ _ _ _ rfl
     have Bc : (w2.alloc (.cells #[.slice none 0 0, .bool false, .int .i64 0] 75)).cell? ⟨w2.heap.size, 2, none⟩ = some (.int .i64 0) := new_cell2 _ _ _ _ _ _ rfl rfl
     have Bi : (w2.alloc (.cells #[.slice none 0 0, .bool false, .int .i64 0] 75)).frozen? ⟨w2.heap.size, 2, none⟩ = false := new_loose2 _ _ _ _ _ rfl
     clear hH
     refine hK.out _ _ ?_ (fun hH => ?_)
     ·exact ⟨p0, p1, p2, p3, p4, p5, t0, t1, t2, t3, t4, t5⟩
     clear hK KK
     try simp only [Act.put, zq1, zq2, zq3, zq4, zq5, zq6]
     generalize w2.alloc (.cells #[.slice none 0 0, .bool false, .int .i64 0] 75) = w4 at *
     refine wpAnyH_ready (rs := [3, 5]) (by kernel_rfl) (by simp) ?_
     refine AllReadyH.cons rfl (fun KK hK => ?_) (AllReadyH.cons rfl (fun KK hK => ?_) AllReadyH.nil)
     ·simp only [zq1, zq2, zq3]
      rw [if_pos (by rfl)]
      refine wps1 37 (.tmp 9) _ rfl in_product_q (.agg #[.bool s3, .slice a3 l3.length c3, .int .i64 x3, .bool s4, .slice a4 l4.length c4, .int .i64 x4]) rfl (product_impl s3 s4 x3 x4 _ r3 r4 dk3 dk4) ?_
      rintro e w6 ⟨v6, rfl, o4, k6⟩
      refine ⟨_, rfl, ?_⟩
      revert r1 r2 r3 r4; refine k6.n4 ?_; intro r1 r2 r3 r4
      replace kw := kw.trans k6
      replace o3 := own_kept o3 k6
      replace Bg := k6.loose0 (zbl Ba) Bg
      replace Bh := k6.loose0 (zbl Bb) Bh
      replace Bi := k6.loose0 (zbl Bc) Bi
      revert p0 p1 p2 p3 p4 p5 t0 t1 t2 t3 t4 t5; refine k6.m12 ?_; intro p0 p1 p2 p3 p4 p5 t0 t1 t2 t3 t4 t5
      revert Ba Bb Bc; refine k6.m3 ?_; intro Ba Bb Bc
      replace K := hide ((unhide K).trans k6)
      have z7 := k6.size
      clear k6
      have l4' := o4.lt
      obtain ⟨a6, c6, hv⟩ := own_slice o4
      subst hv
      clear hH
      refine hK.out _ _ ?_ (fun hH => ?_)
      ·exact ⟨p0, p1, p2, p3, p4, p5, t0, t1, t2, t3, t4, t5⟩
      clear hK KK
      try simp only [Act.put, zq1, zq2, zq3, zq4, zq5, zq6]
      refine wR 5 (by kernel_rfl) rfl (fun KK hK => ?_)
      ·simp only [zq1, zq2, zq3]
       rw [if_pos (by rfl)]
       go_simp
       have kn := (Kept.refl 0 0 w6).alloc (.cells #[.slice none 0 0, .bool false, .int .i64 0] 75)
       revert r1 r2 r3 r4; refine kn.n4 ?_; intro r1 r2 r3 r4
       replace kw := kw.trans kn
       replace o3 := own_kept o3 kn
       replace o4 := own_kept o4 kn
       replace Bg := kn.loose0 (zbl Ba) Bg
       replace Bh := kn.loose0 (zbl Bb) Bh
       replace Bi := kn.loose0 (zbl Bc) Bi
       revert p0 p1 p2 p3 p4 p5 t0 t1 t2 t3 t4 t5; refine kn.m12 ?_; intro p0 p1 p2 p3 p4 p5 t0 t1 t2 t3 t4 t5
       revert Ba Bb Bc; refine kn.m3 ?_; intro Ba Bb Bc
       replace K := hide ((unhide K).trans kn)
       have z9 := kn.size
       clear kn
       have szY_ : w6.heap.size < (w6.alloc (.cells #[.slice none 0 0, .bool false, .int .i64 0] 75)).heap.size := by simp
       have Bd : (w6.alloc (.cells #[.slice none 0 0, .bool false, .int .i64 0] 75)).cell? ⟨w6.heap.size, 0, none⟩ = some (.slice none 0 0) := new_cell2 _ _ _ _ _ _ rfl rfl
       have Bj : (w6.alloc (.cells #[.slice none 0 0, .bool false, .int .i64 0] 75)).frozen? ⟨w6.heap.size, 0, none⟩ = false := new_loose2 _ _ _ _ _ rfl
       have Be : (w6.alloc (.cells #[.slice none 0 0, .bool false, .int .i64 0] 75)).cell? ⟨w6.heap.size, 1, none⟩ = some (.bool false) := new_cell2 _ _ _ _ _ _ rfl rfl
       have Bk : (w6.alloc (.cells #[.slice none 0 0, .bool false, .int .i64 0] 75)).frozen? ⟨w6.heap.size, 1, none⟩ = false := new_loose2 _ _ _ _ _ rfl
       have Bf : (w6.alloc (.cells #[.slice none 0 0, .bool false, .int .i64 0] 75)).cell? ⟨w6.heap.size, 2, none⟩ = some (.int .i64 0) := new_cell2 _ _ _ _ _ _ rfl rfl
       have Bl : (w6.alloc (.cells #[.slice none 0 0, .bool false, .int .i64 0] 75)).frozen? ⟨w6.heap.size, 2, none⟩ = false := new_loose2 _ _ _ _ _ rfl
       clear hH
       refine hK.out _ _ ?_ (fun hH => ?_)
       ·exact ⟨p0, p1, p2, p3, p4, p5, t0, t1, t2, t3, t4, t5⟩
       clear hK KK
       try simp only [Act.put, zq1, zq2, zq3, zq4, zq5, zq6]
       generalize w6.alloc (.cells #[.slice none 0 0, .bool false, .int .i64 0] 75) = w8 at *
       refine wR 6 (by kernel_rfl) rfl (fun KK hK => ?_)
       simp only [zq1, zq2, zq3]
       rw [if_pos (by rfl)]
       go_simp
       clear hH
       refine hK.out _ _ ?_ (fun hH => ?_)
       ·have sq := unhide S0; exact ⟨(cw3 (by dsimp only; omega) p0), (cw3 (by dsimp only; omega) p1), (cw3 (by dsimp only; omega) p2), (cw3 (by dsimp only; omega) p3), (cw3 (by dsimp only; omega) p4), (cw3 (by dsimp only; omega) p5), (cw3 (by dsimp only; omega) t0), (cw3 (by dsimp only; omega) t1), (cw3 (by dsimp only; omega) t2), (cw3 (by dsimp only; omega) t3), (cw3 (by dsimp only; omega) t4), (cw3 (by dsimp only; omega) t5)⟩
       clear hK KK
       try simp only [Act.put, zq1, zq2, zq3, zq4, zq5, zq6]
       refine wR 7 (by kernel_rfl) rfl (fun KK hK => ?_)
       simp only [zq1, zq2, zq3]
       rw [if_pos (by rfl)]
       go_simp
       clear hH
       refine hK.out _ _ ?_ (fun hH => ?_)
       ·have sq := unhide S0; exact ⟨(cw6 (by dsimp only; omega) p0), (cw6 (by dsimp only; omega) p1), (cw6 (by dsimp only; omega) p2), (cw6 (by dsimp only; omega) p3), (cw6 (by dsimp only; omega) p4), (cw6 (by dsimp only; omega) p5), (cw6 (by dsimp only; omega) t0), (cw6 (by dsimp only; omega) t1), (cw6 (by dsimp only; omega) t2), (cw6 (by dsimp only; omega) t3), (cw6 (by dsimp only; omega) t4), (cw6 (by dsimp only; omega) t5)⟩
       clear hK KK
       try simp only [Act.put, zq1, zq2, zq3, zq4, zq5, zq6]
       refine wpAnyH_done (by kernel_rfl) ?_ _
       clear hH
       go_wp2_with fail
       go_meet
       exact ⟨_, _, rfl, rfl, dya_pair (!(s1 == s2)) (!(s3 == s4)) (x1 + x2) (x3 + x4) kw o3 o4 Ba Bb Bc Bg Bh Bi Bd Be Bf Bj Bk Bl (by omega) (by omega) (by omega) (by omega) (by omega) (fun e => by have := l3' _ e; omega) (fun e => by have := l3' _ e; omega) (fun e => by have := l4' _ e; omega) (fun e => by have := l4' _ e; omega) (fun k e1 e2 => by have := l3' _ e1; have := l4' _ e2; omega)⟩
     ·simp only [zq1, zq2, zq3]
      rw [if_pos (by rfl)]
      go_simp
      have kn := (Kept.refl 0 0 w4).alloc (.cells #[.slice none 0 0, .bool false, .int .i64 0] 75)
      replace r1 := r1.kp kn
      replace r2 := r2.kp kn
      replace r3 := r3.kp kn
      replace r4 := r4.kp kn
      replace kw := kw.trans kn
      replace o3 := own_kept o3 kn
      replace Bg := kn.loose0 (zbl Ba) Bg
      replace Bh := kn.loose0 (zbl Bb) Bh
      replace Bi := kn.loose0 (zbl Bc) Bi
      replace p0 := kn.cell0 p0
      replace p1 := kn.cell0 p1
      replace p2 := kn.cell0 p2
      replace p3 := kn.cell0 p3
      replace p4 := kn.cell0 p4
      replace p5 := kn.cell0 p5
      replace t0 := kn.cell0 t0
      replace t1 := kn.cell0 t1
      replace t2 := kn.cell0 t2
      replace t3 := kn.cell0 t3
      replace t4 := kn.cell0 t4
      replace t5 := kn.cell0 t5
      replace Ba := kn.cell0 Ba
      replace Bb := kn.cell0 Bb
      replace Bc := kn.cell0 Bc
      replace K := hide ((unhide K).trans kn)
      have z7 := kn.size
      clear kn
      have szY_ : w4.heap.size < (w4.alloc (.cells #[.slice none 0 0, .bool false, .int .i64 0] 75)).heap.size := by simp
      have Bd : (w4.alloc (.cells #[.slice none 0 0, .bool false, .int .i64 0] 75)).cell? ⟨w4.heap.size, 0, none⟩ = some (.slice none 0 0) := new_cell2 _ _ _ _ _ _ rfl rfl
      have Bj : (w4.alloc (.cells #[.slice none 0 0, .bool false, .int .i64 0] 75)).frozen? ⟨w4.heap.size, 0, none⟩ = false := new_loose2 _ _ _ _ _ rfl
      have Be : (w4.alloc (.cells #[.slice none 0 0, .bool false, .int .i64 0] 75)).cell? ⟨w4.heap.size, 1, none⟩ = some (.bool false) := new_cell2 _ _ _ _ _ _ rfl rfl
      have Bk : (w4.alloc (.cells #[.slice none 0 0, .bool false, .int .i64 0] 75)).frozen? ⟨w4.heap.size, 1, none⟩ = false := new_loose2 _ _ _ _ _ rfl
      have Bf : (w4.alloc (.cells #[.slice none 0 0, .bool false, .int .i64 0] 75)).cell? ⟨w4.heap.size, 2, none⟩ = some (.int .i64 0) := new_cell2 _ _ _ _ _ _ rfl rfl
      have Bl : (w4.alloc (.cells #[.slice none 0 0, .bool false, .int .i64 0] 75)).frozen? ⟨w4.heap.size, 2, none⟩ = false := new_loose2 _ _ _ _ _ rfl
      clear hH
      refine hK.out _ _ ?_ (fun hH => ?_)
      ·exact ⟨p0, p1, p2, p3, p4, p5, t0, t1, t2, t3, t4, t5⟩
      clear hK KK
      try simp only [Act.put, zq1, zq2, zq3, zq4, zq5, zq6]
      generalize w4.alloc (.cells #[.slice none 0 0, .bool false, .int .i64 0] 75) = w6 at *
      refine wR 3 (by kernel_rfl) rfl (fun KK hK => ?_)
      ·simp only [zq1, zq2, zq3]
       rw [if_pos (by rfl)]
       refine wps1 37 (.tmp 9) _ rfl in_product_q (.agg #[.bool s3, .slice a3 l3.length c3, .int .i64 x3, .bool s4, .slice a4 l4.length c4, .int .i64 x4]) rfl (product_impl s3 s4 x3 x4 _ r3 r4 dk3 dk4) ?_
       rintro e w8 ⟨v6, rfl, o4, k8⟩
       refine ⟨_, rfl, ?_⟩
       revert r1 r2 r3 r4; refine k8.n4 ?_; intro r1 r2 r3 r4
       replace kw := kw.trans k8
       replace o3 := own_kept o3 k8
       replace Bg := k8.loose0 (zbl Ba) Bg
       replace Bh := k8.loose0 (zbl Bb) Bh
       replace Bi := k8.loose0 (zbl Bc) Bi
       replace Bj := k8.loose0 (zbl Bd) Bj
       replace Bk := k8.loose0 (zbl Be) Bk
       replace Bl := k8.loose0 (zbl Bf) Bl
       revert p0 p1 p2 p3 p4 p5 t0 t1 t2 t3 t4 t5; refine k8.m12 ?_; intro p0 p1 p2 p3 p4 p5 t0 t1 t2 t3 t4 t5
       revert Ba Bb Bc Bd Be Bf; refine k8.m6 ?_; intro Ba Bb Bc Bd Be Bf
       replace K := hide ((unhide K).trans k8)
       have z9 := k8.size
       clear k8
       have l4' := o4.lt
       obtain ⟨a6, c6, hv⟩ := own_slice o4
       subst hv
       clear hH
       refine hK.out _ _ ?_ (fun hH => ?_)
       ·exact ⟨p0, p1, p2, p3, p4, p5, t0, t1, t2, t3, t4, t5⟩
       clear hK KK
       try simp only [Act.put, zq1, zq2, zq3, zq4, zq5, zq6]
       refine wR 6 (by kernel_rfl) rfl (fun KK hK => ?_)
       simp only [zq1, zq2, zq3]
       rw [if_pos (by rfl)]
       go_simp
       clear hH
       refine hK.out _ _ ?_ (fun hH => ?_)
       ·have sq := unhide S0; exact ⟨(cw3 (by dsimp only; omega) p0), (cw3 (by dsimp only; omega) p1), (cw3 (by dsimp only; omega) p2), (cw3 (by dsimp only; omega) p3), (cw3 (by dsimp only; omega) p4), (cw3 (by dsimp only; omega) p5), (cw3 (by dsimp only; omega) t0), (cw3 (by dsimp only; omega) t1), (cw3 (by dsimp only; omega) t2), (cw3 (by dsimp only; omega) t3), (cw3 (by dsimp only; omega) t4), (cw3 (by dsimp only; omega) t5)⟩
       clear hK KK
       try simp only [Act.put, zq1, zq2, zq3, zq4, zq5, zq6]
       refine wR 7 (by kernel_rfl) rfl (fun KK hK => ?_)
       simp only [zq1, zq2, zq3]
       rw [if_pos (by rfl)]
       go_simp
       clear hH
       refine hK.out _ _ ?_ (fun hH => ?_)
       ·have sq := unhide S0; exact ⟨(cw6 (by dsimp only; omega) p0), (cw6 (by dsimp only; omega) p1), (cw6 (by dsimp only; omega) p2), (cw6 (by dsimp only; omega) p3), (cw6 (by dsimp only; omega) p4), (cw6 (by dsimp only; omega) p5), (cw6 (by dsimp only; omega) t0), (cw6 (by dsimp only; omega) t1), (cw6 (by dsimp only; omega) t2), (cw6 (by dsimp only; omega) t3), (cw6 (by dsimp only; omega) t4), (cw6 (by dsimp only; omega) t5)⟩
       clear hK KK
       try simp only [Act.put, zq1, zq2, zq3, zq4, zq5, zq6]
       refine wpAnyH_done (by kernel_rfl) ?_ _
       clear hH
       go_wp2_with fail
       go_meet
       exact ⟨_, _, rfl, rfl, dya_pair (!(s1 == s2)) (!(s3 == s4)) (x1 + x2) (x3 + x4) kw o3 o4 Ba Bb Bc Bg Bh Bi Bd Be Bf Bj Bk Bl (by omega) (by omega) (by omega) (by omega) (by omega) (fun e => by have := l3' _ e; omega) (fun e => by have := l3' _ e; omega) (fun e => by have := l4' _ e; omega) (fun e => by have := l4' _ e; omega) (fun k e1 e2 => by have := l3' _ e1; have := l4' _ e2; omega)⟩
    ·simp only [zq1, zq2, zq3]
     rw [if_pos (by rfl)]
     go_simp
     have kn := (Kept.refl 0 0 w2).alloc (.cells #[.slice none 0 0, .bool false, .int .i64 0] 75)
     replace r1 := r1.kp kn
     replace r2 := r2.kp kn
     replace r3 := r3.kp kn
     replace r4 := r4.kp kn
     replace kw := kw.trans kn
     replace o3 := own_kept o3 kn
     replace p0 := kn.cell0 p0
     replace p1 := kn.cell0 p1
     replace p2 := kn.cell0 p2
     replace p3 := kn.cell0 p3
     replace p4 := kn.cell0 p4
     replace p5 := kn.cell0 p5
     replace t0 := kn.cell0 t0
     replace t1 := kn.cell0 t1
     replace t2 := kn.cell0 t2
     replace t3 := kn.cell0 t3
     replace t4 := kn.cell0 t4
     replace t5 := kn.cell0 t5
     replace K := hide ((unhide K).trans kn)
     have z5 := kn.size
     clear kn
     have szY_ : w2.heap.size < (w2.alloc (.cells #[.slice none 0 0, .bool false, .int .i64 0] 75)).heap.size := by simp
     have Bd : (w2.alloc (.cells #[.slice none 0 0, .bool false, .int .i64 0] 75)).cell? ⟨w2.heap.size, 0, none⟩ = some (.slice none 0 0) := new_cell2 _ _ _ _ _ _ rfl rfl
     have Bj : (w2.alloc (.cells #[.slice none 0 0, .bool false, .int .i64 0] 75)).frozen? ⟨w2.heap.size, 0, none⟩ = false := new_loose2 _ _ _ _ _ rfl
     have Be : (w2.alloc (.cells #[.slice none 0 0, .bool false, .int .i64 0] 75)).cell? ⟨w2.heap.size, 1, none⟩ = some (.bool false) := new_cell2 _ _ _ _ _ _ rfl rfl
     have Bk : (w2.alloc (.cells #[.slice none 0 0, .bool false, .int .i64 0] 75)).frozen? ⟨w2.heap.size, 1, none⟩ = false := new_loose2 _ _ _ _ _ rfl
     have Bf : (w2.alloc (.cells #[.slice none 0 0, .bool false, .int .i64 0] 75)).cell? ⟨w2.heap.size, 2, none⟩ = some (.int .i64 0) := new_cell2 _ _ _ _ _ _ rfl rfl
     have Bl : (w2.alloc (.cells #[.slice none 0 0, .bool false, .int .i64 0] 75)).frozen? ⟨w2.heap.size, 2, none⟩ = false := new_loose2 _ _ _ _ _ rfl
     clear hH
     refine hK.out _ _ ?_ (fun hH => ?_)
     ·exact ⟨p0, p1, p2, p3, p4, p5, t0, t1, t2, t3, t4, t5⟩
     clear hK KK
     try simp only [Act.put, zq1, zq2, zq3, zq4, zq5, zq6]
     generalize w2.alloc (.cells #[.slice none 0 0, .bool false, .int .i64 0] 75) = w4 at *
     refine wpAnyH_ready (rs := [3, 4]) (by kernel_rfl) (by simp) ?_
     refine AllReadyH.cons rfl (fun KK hK => ?_) (AllReadyH.cons rfl (fun KK hK => ?_) AllReadyH.nil)
     ·simp only [zq1, zq2, zq3]
      rw [if_pos (by rfl)]
      refine wps1 37 (.tmp 9) _ rfl in_product_q (.agg #[.bool s3, .slice a3 l3.length c3, .int .i64 x3, .bool s4, .slice a4 l4.length c4, .int .i64 x4]) rfl (product_impl s3 s4 x3 x4 _ r3 r4 dk3 dk4) ?_
      rintro e w6 ⟨v6, rfl, o4, k6⟩
      refine ⟨_, rfl, ?_⟩
      revert r1 r2 r3 r4; refine k6.n4 ?_; intro r1 r2 r3 r4
      replace kw := kw.trans k6
      replace o3 := own_kept o3 k6
      replace Bj := k6.loose0 (zbl Bd) Bj
      replace Bk := k6.loose0 (zbl Be) Bk
      replace Bl := k6.loose0 (zbl Bf) Bl
      revert p0 p1 p2 p3 p4 p5 t0 t1 t2 t3 t4 t5; refine k6.m12 ?_; intro p0 p1 p2 p3 p4 p5 t0 t1 t2 t3 t4 t5
      revert Bd Be Bf; refine k6.m3 ?_; intro Bd Be Bf
      replace K := hide ((unhide K).trans k6)
      have z7 := k6.size
      clear k6
      have l4' := o4.lt
      obtain ⟨a6, c6, hv⟩ := own_slice o4
      subst hv
      clear hH
      refine hK.out _ _ ?_ (fun hH => ?_)
      ·exact ⟨p0, p1, p2, p3, p4, p5, t0, t1, t2, t3, t4, t5⟩
      clear hK KK
      try simp only [Act.put, zq1, zq2, zq3, zq4, zq5, zq6]
      refine wR 4 (by kernel_rfl) rfl (fun KK hK => ?_)
      ·simp only [zq1, zq2, zq3]
       rw [if_pos (by rfl)]
       go_simp
       have kn := (Kept.refl 0 0 w6).alloc (.cells #[.slice none 0 0, .bool false, .int .i64 0] 75)
       revert r1 r2 r3 r4; refine kn.n4 ?_; intro r1 r2 r3 r4
       replace kw := kw.trans kn
       replace o3 := own_kept o3 kn
       replace o4 := own_kept o4 kn
       replace Bj := kn.loose0 (zbl Bd) Bj
       replace Bk := kn.loose0 (zbl Be) Bk
       replace Bl := kn.loose0 (zbl Bf) Bl
       revert p0 p1 p2 p3 p4 p5 t0 t1 t2 t3 t4 t5; refine kn.m12 ?_; intro p0 p1 p2 p3 p4 p5 t0 t1 t2 t3 t4 t5
       revert Bd Be Bf; refine kn.m3 ?_; intro Bd Be Bf
       replace K := hide ((unhide K).trans kn)
       have z9 := kn.size
       clear kn
       have szX_ : w6.heap.size < (w6.alloc (.cells #[.slice none 0 0, .bool false, .int .i64 0] 75)).heap.size := by simp
       have Ba : (w6.alloc (.cells #[.slice none 0 0, .bool false, .int .i64 0] 75)).cell? ⟨w6.heap.size, 0, none⟩ = some (.slice none 0 0) := new_cell2 _ _ _ _ _ _ rfl rfl
       have Bg : (w6.alloc (.cells #[.slice none 0 0, .bool false, .int .i64 0] 75)).frozen? ⟨w6.heap.size, 0, none⟩ = false := new_loose2 _ _ _ _ _ rfl
       have Bb : (w6.alloc (.cells #[.slice none 0 0, .bool false, .int .i64 0] 75)).cell? ⟨w6.heap.size, 1, none⟩ = some (.bool false) := new_cell2 _ _ _ _ _ _ rfl rfl
       have Bh : (w6.alloc (.cells #[.slice none 0 0, .bool false, .int .i64 0] 75)).frozen? ⟨w6.heap.size, 1, none⟩ = false := new_loose2 _ _ _ _ _ rfl
       have Bc : (w6.alloc (.cells #[.slice none 0 0, .bool false, .int .i64 0] 75)).cell? ⟨w6.heap.size, 2, none⟩ = some (.int .i64 0) := new_cell2 _ _ _ _ _ _ rfl rfl
       have Bi : (w6.alloc (.cells #[.slice none 0 0, .bool false, .int .i64 0] 75)).frozen? ⟨w6.heap.size, 2, none⟩ = false := new_loose2 _ _ _ _ _ rfl
       clear hH
       refine hK.out _ _ ?_ (fun hH => ?_)
       ·exact ⟨p0, p1, p2, p3, p4, p5, t0, t1, t2, t3, t4, t5⟩
       clear hK KK
       try simp only [Act.put, zq1, zq2, zq3, zq4, zq5, zq6]
       generalize w6.alloc (.cells #[.slice none 0 0, .bool false, .int .i64 0] 75) = w8 at *
       refine wR 6 (by kernel_rfl) rfl (fun KK hK => ?_)
       simp only [zq1, zq2, zq3]
       rw [if_pos (by rfl)]
       go_simp
       clear hH
       refine hK.out _ _ ?_ (fun hH => ?_)
       ·have sq := unhide S0; exact ⟨(cw3 (by dsimp only; omega) p0), (cw3 (by dsimp only; omega) p1), (cw3 (by dsimp only; omega) p2), (cw3 (by dsimp only; omega) p3), (cw3 (by dsimp only; omega) p4), (cw3 (by dsimp only; omega) p5), (cw3 (by dsimp only; omega) t0), (cw3 (by dsimp only; omega) t1), (cw3 (by dsimp only; omega) t2), (cw3 (by dsimp only; omega) t3), (cw3 (by dsimp only; omega) t4), (cw3 (by dsimp only; omega) t5)⟩
       clear hK KK
       try simp only [Act.put, zq1, zq2, zq3, zq4, zq5, zq6]
       refine wR 7 (by kernel_rfl) rfl (fun KK hK => ?_)
       simp only [zq1, zq2, zq3]
       rw [if_pos (by rfl)]
       go_simp
       clear hH
       refine hK.out _ _ ?_ (fun hH => ?_)
       ·have sq := unhide S0; exact ⟨(cw6 (by dsimp only; omega) p0), (cw6 (by dsimp only; omega) p1), (cw6 (by dsimp only; omega) p2), (cw6 (by dsimp only; omega) p3), (cw6 (by dsimp only; omega) p4), (cw6 (by dsimp only; omega) p5), (cw6 (by dsimp only; omega) t0), (cw6 (by dsimp only; omega) t1), (cw6 (by dsimp only; omega) t2), (cw6 (by dsimp only; omega) t3), (cw6 (by dsimp only; omega) t4), (cw6 (by dsimp only; omega) t5)⟩
       clear hK KK
       try simp only [Act.put, zq1, zq2, zq3, zq4, zq5, zq6]
       refine wpAnyH_done (by kernel_rfl) ?_ _
       clear hH
       go_wp2_with fail
       go_meet
       exact ⟨_, _, rfl, rfl, dya_pair (!(s1 == s2)) (!(s3 == s4)) (x1 + x2) (x3 + x4) kw o3 o4 Ba Bb Bc Bg Bh Bi Bd Be Bf Bj Bk Bl (by omega) (by omega) (by omega) (by omega) (by omega) (fun e => by have := l3' _ e; omega) (fun e => by have := l3' _ e; omega) (fun e => by have := l4' _ e; omega) (fun e => by have := l4' _ e; omega) (fun k e1 e2 => by have := l3' _ e1; have := l4' _ e2; omega)⟩
     ·simp only [zq1, zq2, zq3]
      rw [if_pos (by rfl)]
      go_simp
      have kn := (Kept.refl 0 0 w4).alloc (.cells #[.slice none 0 0, .bool false, .int .i64 0] 75)
      replace r1 := r1.kp kn
      replace r2 := r2.kp kn
      replace r3 := r3.kp kn
      replace r4 := r4.kp kn
      replace kw := kw.trans kn
      replace o3 := own_kept o3 kn
      replace Bj := kn.loose0 (zbl Bd) Bj
      replace Bk := kn.loose0 (zbl Be) Bk
      replace Bl := kn.loose0 (zbl Bf) Bl
      replace p0 := kn.cell0 p0
      replace p1 := kn.cell0 p1
      replace p2 := kn.cell0 p2
      replace p3 := kn.cell0 p3
      replace p4 := kn.cell0 p4
      replace p5 := kn.cell0 p5
      replace t0 := kn.cell0 t0
      replace t1 := kn.cell0 t1
      replace t2 := kn.cell0 t2
      replace t3 := kn.cell0 t3
      replace t4 := kn.cell0 t4
      replace t5 := kn.cell0 t5
      replace Bd := kn.cell0 Bd
      replace Be := kn.cell0 Be
      replace Bf := kn.cell0 Bf
      replace K := hide ((unhide K).trans kn)
      have z7 := kn.size
      clear kn
      have szX_ : w4.heap.size < (w4.alloc (.cells #[.slice none 0 0, .bool false, .int .i64 0] 75)).heap.size := by simp
      have Ba : (w4.alloc (.cells #[.slice none 0 0, .bool false, .int .i64 0] 75)).cell? ⟨w4.heap.size, 0, none⟩ = some (.slice none 0 0) := new_cell2 _ _ _ _ _ _ rfl rfl
      have Bg : (w4.alloc (.cells #[.slice none 0 0, .bool false, .int .i64 0] 75)).frozen? ⟨w4.heap.size, 0, none⟩ = false := new_loose2 _ _ _ _ _ rfl
      have Bb : (w4.alloc (.cells #[.slice none 0 0, .bool false, .int .i64 0] 75)).cell? ⟨w4.heap.size, 1, none⟩ = some (.bool false) := new_cell2 _ _ _ _ _ _ rfl rfl
      have Bh : (w4.alloc (.cells #[.slice none 0 0, .bool false, .int .i64 0] 75)).frozen? ⟨w4.heap.size, 1, none⟩ = false := new_loose2 _ _ _ _ _ rfl
      have Bc : (w4.alloc (.cells #[.slice none 0 0, .bool false, .int .i64 0] 75)).cell? ⟨w4.heap.size, 2, none⟩ = some (.int .i64 0) := new_cell2 _ _ _ _ _ _ rfl rfl
      have Bi : (w4.alloc (.cells #[.slice none 0 0, .bool false, .int .i64 0] 75)).frozen? ⟨w4.heap.size, 2, none⟩ = false := new_loose2 _ _ _ _ _ rfl
      clear hH
      refine hK.out _ _ ?_ (fun hH => ?_)
      ·exact ⟨p0, p1, p2, p3, p4, p5, t0, t1, t2, t3, t4, t5⟩
      clear hK KK
      try simp only [Act.put, zq1, zq2, zq3, zq4, zq5, zq6]
      generalize w4.alloc (.cells #[.slice none 0 0, .bool false, .int .i64 0] 75) = w6 at *
      refine wR 3 (by kernel_rfl) rfl (fun KK hK => ?_)
      ·simp only [zq1, zq2, zq3]
       rw [if_pos (by rfl)]
       refine wps1 37 (.tmp 9) _ rfl in_product_q (.agg #[.bool s3, .slice a3 l3.length c3, .int .i64 x3, .bool s4, .slice a4 l4.length c4, .int .i64 x4]) rfl (product_impl s3 s4 x3 x4 _ r3 r4 dk3 dk4) ?_
       rintro e w8 ⟨v6, rfl, o4, k8⟩
       refine ⟨_, rfl, ?_⟩
       revert r1 r2 r3 r4; refine k8.n4 ?_; intro r1 r2 r3 r4
       replace kw := kw.trans k8
       replace o3 := own_kept o3 k8
       replace Bj := k8.loose0 (zbl Bd) Bj
       replace Bk := k8.loose0 (zbl Be) Bk
       replace Bl := k8.loose0 (zbl Bf) Bl
       replace Bg := k8.loose0 (zbl Ba) Bg
       replace Bh := k8.loose0 (zbl Bb) Bh
       replace Bi := k8.loose0 (zbl Bc) Bi
       revert p0 p1 p2 p3 p4 p5 t0 t1 t2 t3 t4 t5; refine k8.m12 ?_; intro p0 p1 p2 p3 p4 p5 t0 t1 t2 t3 t4 t5
       revert Bd Be Bf Ba Bb Bc; refine k8.m6 ?_; intro Bd Be Bf Ba Bb Bc
       replace K := hide ((unhide K).trans k8)
       have z9 := k8.size
       clear k8
       have l4' := o4.lt
       obtain ⟨a6, c6, hv⟩ := own_slice o4
       subst hv
       clear hH
       refine hK.out _ _ ?_ (fun hH => ?_)
       ·exact ⟨p0, p1, p2, p3, p4, p5, t0, t1, t2, t3, t4, t5⟩
       clear hK KK
       try simp only [Act.put, zq1, zq2, zq3, zq4, zq5, zq6]
       refine wR 6 (by kernel_rfl) rfl (fun KK hK => ?_)
       simp only [zq1, zq2, zq3]
       rw [if_pos (by rfl)]
       go_simp
       clear hH
       refine hK.out _ _ ?_ (fun hH => ?_)
       ·have sq := unhide S0; exact ⟨(cw3 (by dsimp only; omega) p0), (cw3 (by dsimp only; omega) p1), (cw3 (by dsimp only; omega) p2), (cw3 (by dsimp only; omega) p3), (cw3 (by dsimp only; omega) p4), (cw3 (by dsimp only; omega) p5), (cw3 (by dsimp only; omega) t0), (cw3 (by dsimp only; omega) t1), (cw3 (by dsimp only; omega) t2), (cw3 (by dsimp only; omega) t3), (cw3 (by dsimp only; omega) t4), (cw3 (by dsimp only; omega) t5)⟩
       clear hK KK
       try simp only [Act.put, zq1, zq2, zq3, zq4, zq5, zq6]
       refine wR 7 (by kernel_rfl) rfl (fun KK hK => ?_)
       simp only [zq1, zq2, zq3]
       rw [if_pos (by rfl)]
       go_simp
       clear hH
       refine hK.out _ _ ?_ (fun hH => ?_)
       ·have sq := unhide S0; exact ⟨(cw6 (by dsimp only; omega) p0), (cw6 (by dsimp only; omega) p1), (cw6 (by dsimp only; omega) p2), (cw6 (by dsimp only; omega) p3), (cw6 (by dsimp only; omega) p4), (cw6 (by dsimp only; omega) p5), (cw6 (by dsimp only; omega) t0), (cw6 (by dsimp only; omega) t1), (cw6 (by dsimp only; omega) t2), (cw6 (by dsimp only; omega) t3), (cw6 (by dsimp only; omega) t4), (cw6 (by dsimp only; omega) t5)⟩
       clear hK KK
       try simp only [Act.put, zq1, zq2, zq3, zq4, zq5, zq6]
       refine wpAnyH_done (by kernel_rfl) ?_ _
       clear hH
       go_wp2_with fail
       go_meet
       exact ⟨_, _, rfl, rfl, dya_pair (!(s1 == s2)) (!(s3 == s4)) (x1 + x2) (x3 + x4) kw o3 o4 Ba Bb Bc Bg Bh Bi Bd Be Bf Bj Bk Bl (by omega) (by omega) (by omega) (by omega) (by omega) (fun e => by have := l3' _ e; omega) (fun e => by have := l3' _ e; omega) (fun e => by have := l4' _ e; omega) (fun e => by have := l4' _ e; omega) (fun k e1 e2 => by have := l3' _ e1; have := l4' _ e2; omega)⟩
   ·simp only [zq1, zq2, zq3]
    rw [if_pos (by rfl)]
    go_simp
    have kn := (Kept.refl 0 0 wd).alloc (.cells #[.slice none 0 0, .bool false, .int .i64 0] 75)
    replace r1 := r1.kp kn
    replace r2 := r2.kp kn
    replace r3 := r3.kp kn
    replace r4 := r4.kp kn
    replace kw := kw.trans kn
    replace p0 := kn.cell0 p0
    replace p1 := kn.cell0 p1
    replace p2 := kn.cell0 p2
    replace p3 := kn.cell0 p3
    replace p4 := kn.cell0 p4
    replace p5 := kn.cell0 p5
    replace t0 := kn.cell0 t0
    replace t1 := kn.cell0 t1
    replace t2 := kn.cell0 t2
    replace t3 := kn.cell0 t3
    replace t4 := kn.cell0 t4
    replace t5 := kn.cell0 t5
    replace K := hide ((unhide K).trans kn)
    have z3 := kn.size
    clear kn
    have szX_ : wd.heap.size < (wd.alloc (.cells #[.slice none 0 0, .bool false, .int .i64 0] 75)).heap.size := by simp
    have Ba : (wd.alloc (.cells #[.slice none 0 0, .bool false, .int .i64 0] 75)).cell? ⟨wd.heap.size, 0, none⟩ = some (.slice none 0 0) := new_cell2 _ _ _ _ _ _ rfl rfl
    have Bg : (wd.alloc (.cells #[.slice none 0 0, .bool false, .int .i64 0] 75)).frozen? ⟨wd.heap.size, 0, none⟩ = false := new_loose2 _ _ _ _ _ rfl
    have Bb : (wd.alloc (.cells #[.slice none 0 0, .bool false, .int .i64 0] 75)).cell? ⟨wd.heap.size, 1, none⟩ = some (.bool false) := new_cell2 _ _ _ _ _ _ rfl rfl
    have Bh : (wd.alloc (.cells #[.slice none 0 0, .bool false, .int .i64 0] 75)).frozen? ⟨wd.heap.size, 1, none⟩ = false := new_loose2 _ _ _ _ _ rfl
    have Bc : (wd.alloc (.cells #[.slice none 0 0, .bool false, .int .i64 0] 75)).cell? ⟨wd.heap.size, 2, none⟩ = some (.int .i64 0) := new_cell2 _ _ _ _ _ _ rfl rfl
    have Bi : (wd.alloc (.cells #[.slice none 0 0, .bool false, .int .i64 0] 75)).frozen? ⟨wd.heap.size, 2, none⟩ = false := new_loose2 _ _ _ _ _ rfl
    clear hH
    refine hK.out _ _ ?_ (fun hH => ?_)
    ·exact ⟨p0, p1, p2, p3, p4, p5, t0, t1, t2, t3, t4, t5⟩
    clear hK KK
    try simp only [Act.put, zq1, zq2, zq3, zq4, zq5, zq6]
    generalize wd.alloc (.cells #[.slice none 0 0, .bool false, .int .i64 0] 75) = w2 at *
    refine wpAnyH_ready (rs := [1, 5]) (by kernel_rfl) (by simp) ?_
    refine AllReadyH.cons rfl (fun KK hK => ?_) (AllReadyH.cons rfl (fun KK hK => ?_) AllReadyH.nil)
    ·simp only [zq1, zq2, zq3]
     rw [if_pos (by rfl)]
     refine wps1 37 (.tmp 7) _ rfl in_product_q (.agg #[.bool s1, .slice a1 l1.length c1, .int .i64 x1, .bool s2, .slice a2 l2.length c2, .int .i64 x2]) rfl (product_impl s1 s2 x1 x2 _ r1 r2 dk1 dk2) ?_
     rintro e w4 ⟨v5, rfl, o3, k4⟩
     refine ⟨_, rfl, ?_⟩
     revert r1 r2 r3 r4; refine k4.n4 ?_; intro r1 r2 r3 r4
     replace kw := kw.trans k4
     replace Bg := k4.loose0 (zbl Ba) Bg
     replace Bh := k4.loose0 (zbl Bb) Bh
     replace Bi := k4.loose0 (zbl Bc) Bi
     revert p0 p1 p2 p3 p4 p5 t0 t1 t2 t3 t4 t5; refine k4.m12 ?_; intro p0 p1 p2 p3 p4 p5 t0 t1 t2 t3 t4 t5
     revert Ba Bb Bc; refine k4.m3 ?_; intro Ba Bb Bc
     replace K := hide ((unhide K).trans k4)
     have z5 := k4.size
     clear k4
     have l3' := o3.lt
     obtain ⟨a5, c5, hv⟩ := own_slice o3
     subst hv
     clear hH
     refine hK.out _ _ ?_ (fun hH => ?_)
     ·exact ⟨p0, p1, p2, p3, p4, p5, t0, t1, t2, t3, t4, t5⟩
     clear hK KK
     try simp only [Act.put, zq1, zq2, zq3, zq4, zq5, zq6]
     refine wpAnyH_ready (rs := [3, 5]) (by kernel_rfl) (by simp) ?_
     refine AllReadyH.cons rfl (fun KK hK => ?_) (AllReadyH.cons rfl (fun KK hK => ?_) AllReadyH.nil)
     ·simp only [zq1, zq2, zq3]
      rw [if_pos (by rfl)]
      refine wps1 37 (.tmp 9) _ rfl in_product_q (.agg #[.bool s3, .slice a3 l3.length c3, .int .i64 x3, .bool s4, .slice a4 l4.length c4, .int .i64 x4]) rfl (product_impl s3 s4 x3 x4 _ r3 r4 dk3 dk4) ?_
      rintro e w6 ⟨v6, rfl, o4, k6⟩
      refine ⟨_, rfl, ?_⟩
      revert r1 r2 r3 r4; refine k6.n4 ?_; intro r1 r2 r3 r4
      replace kw := kw.trans k6
      replace o3 := own_kept o3 k6
      replace Bg := k6.loose0 (zbl Ba) Bg
      replace Bh := k6.loose0 (zbl Bb) Bh
      replace Bi := k6.loose0 (zbl Bc) Bi
      revert p0 p1 p2 p3 p4 p5 t0 t1 t2 t3 t4 t5; refine k6.m12 ?_; intro p0 p1 p2 p3 p4 p5 t0 t1 t2 t3 t4 t5
      revert Ba Bb Bc; refine k6.m3 ?_; intro Ba Bb Bc
      replace K := hide ((unhide K).trans k6)
      have z7 := k6.size
      clear k6
      have l4' := o4.lt
      obtain ⟨a6, c6, hv⟩ := own_slice o4
      subst hv
      clear hH
      refine hK.out _ _ ?_ (fun hH => ?_)
      ·exact ⟨p0, p1, p2, p3, p4, p5, t0, t1, t2, t3, t4, t5⟩
      clear hK KK
      try simp only [Act.put, zq1, zq2, zq3, zq4, zq5, zq6]
      refine wR 5 (by kernel_rfl) rfl (fun KK hK => ?_)
      ·simp only [zq1, zq2, zq3]
       rw [if_pos (by rfl)]
       go_simp
       have kn := (Kept.refl 0 0 w6).alloc (.cells #[.slice none 0 0, .bool false, .int .i64 0] 75)
       revert r1 r2 r3 r4; refine kn.n4 ?_; intro r1 r2 r3 r4
       replace kw := kw.trans kn
       replace o3 := own_kept o3 kn
       replace o4 := own_kept o4 kn
       replace Bg := kn.loose0 (zbl Ba) Bg
       replace Bh := kn.loose0 (zbl Bb) Bh
       replace Bi := kn.loose0 (zbl Bc) Bi
       revert p0 p1 p2 p3 p4 p5 t0 t1 t2 t3 t4 t5; refine kn.m12 ?_; intro p0 p1 p2 p3 p4 p5 t0 t1 t2 t3 t4 t5
       revert Ba Bb Bc; refine kn.m3 ?_; intro Ba Bb Bc
       replace K := hide ((unhide K).trans kn)
       have z9 := kn.size
       clear kn
       have szY_ : w6.heap.size < (w6.alloc (.cells #[.slice none 0 0, .bool false, .int .i64 0] 75)).heap.size := by simp
       have Bd : (w6.alloc (.cells #[.slice none 0 0, .bool false, .int .i64 0] 75)).cell? ⟨w6.heap.size, 0, none⟩ = some (.slice none 0 0) := new_cell2 _ _ _ _ _ _ rfl rfl
       have Bj : (w6.alloc (.cells #[.slice none 0 0, .bool false, .int .i64 0] 75)).frozen? ⟨w6.heap.size, 0, none⟩ = false := new_loose2 _ _ _ _ _ rfl
       have Be : (w6.alloc (.cells #[.slice none 0 0, .bool false, .int .i64 0] 75)).cell? ⟨w6.heap.size, 1, none⟩ = some (.bool false) := new_cell2 _ _ _ _ _ _ rfl rfl
       have Bk : (w6.alloc (.cells #[.slice none 0 0, .bool false, .int .i64 0] 75)).frozen? ⟨w6.heap.size, 1, none⟩ = false := new_loose2 _ _ _ _ _ rfl
       have Bf : (w6.alloc (.cells #[.slice none 0 0, .bool false, .int .i64 0] 75)).cell? ⟨w6.heap.size, 2, none⟩ = some (.int .i64 0) := new_cell2 _ _ _ _ _ _ rfl rfl
       have Bl : (w6.alloc (.cells #[.slice none 0 0, .bool false, .int .i64 0] 75)).frozen? ⟨w6.heap.size, 2, none⟩ = false := new_loose2 _ _ _ _ _ rfl
       clear hH
       refine hK.out _ _ ?_ (fun hH => ?_)
       ·exact ⟨p0, p1, p2, p3, p4, p5, t0, t1, t2, t3, t4, t5⟩
       clear hK KK
       try simp only [Act.put, zq1, zq2, zq3, zq4, zq5, zq6]
       generalize w6.alloc (.cells #[.slice none 0 0, .bool false, .int .i64 0] 75) = w8 at *
       refine wR 6 (by kernel_rfl) rfl (fun KK hK => ?_)
       simp only [zq1, zq2, zq3]
       rw [if_pos (by rfl)]
       go_simp
       clear hH
       refine hK.out _ _ ?_ (fun hH => ?_)
       ·have sq := unhide S0; exact ⟨(cw3 (by dsimp only; omega) p0), (cw3 (by dsimp only; omega) p1), (cw3 (by dsimp only; omega) p2), (cw3 (by dsimp only; omega) p3), (cw3 (by dsimp only; omega) p4), (cw3 (by dsimp only; omega) p5), (cw3 (by dsimp only; omega) t0), (cw3 (by dsimp only; omega) t1), (cw3 (by dsimp only; omega) t2), (cw3 (by dsimp only; omega) t3), (cw3 (by dsimp only; omega) t4), (cw3 (by dsimp only; omega) t5)⟩
       clear hK KK
       try simp only [Act.put, zq1, zq2, zq3, zq4, zq5, zq6]
       refine wR 7 (by kernel_rfl) rfl (fun KK hK => ?_)
       simp only [zq1, zq2, zq3]
       rw [if_pos (by rfl)]
       go_simp
       clear hH
       refine hK.out _ _ ?_ (fun hH => ?_)
       ·have sq := unhide S0; exact ⟨(cw6 (by dsimp only; omega) p0), (cw6 (by dsimp only; omega) p1), (cw6 (by dsimp only; omega) p2), (cw6 (by dsimp only; omega) p3), (cw6 (by dsimp only; omega) p4), (cw6 (by dsimp only; omega) p5), (cw6 (by dsimp only; omega) t0), (cw6 (by dsimp only; omega) t1), (cw6 (by dsimp only; omega) t2), (cw6 (by dsimp only; omega) t3), (cw6 (by dsimp only; omega) t4), (cw6 (by dsimp only; omega) t5)⟩
       clear hK KK
       try simp only [Act.put, zq1, zq2, zq3, zq4, zq5, zq6]
       refine wpAnyH_done (by kernel_rfl) ?_ _
       clear hH
       go_wp2_with fail
       go_meet
       exact ⟨_, _, rfl, rfl, dya_pair (!(s1 == s2)) (!(s3 == s4)) (x1 + x2) (x3 + x4) kw o3 o4 Ba Bb Bc Bg Bh Bi Bd Be Bf Bj Bk Bl (by omega) (by omega) (by omega) (by omega) (by omega) (fun e => by have := l3' _ e; omega) (fun e => by have := l3' _ e; omega) (fun e => by have := l4' _ e; omega) (fun e => by have := l4' _ e; omega) (fun k e1 e2 => by have := l3' _ e1; have := l4' _ e2; omega)⟩
     ·simp only [zq1, zq2, zq3]
      rw [if_pos (by rfl)]
      go_simp
      have kn := (Kept.refl 0 0 w4).alloc (.cells #[.slice none 0 0, .bool false, .int .i64 0] 75)
      replace r1 := r1.kp kn
      replace r2 := r2.kp kn
      replace r3 := r3.kp kn
      replace r4 := r4.kp kn
      replace kw := kw.trans kn
      replace o3 := own_kept o3 kn
      replace Bg := kn.loose0 (zbl Ba) Bg
      replace Bh := kn.loose0 (zbl Bb) Bh
      replace Bi := kn.loose0 (zbl Bc) Bi
      replace p0 := kn.cell0 p0
      replace p1 := kn.cell0 p1
      replace p2 := kn.cell0 p2
      replace p3 := kn.cell0 p3
      replace p4 := kn.cell0 p4
      replace p5 := kn.cell0 p5
      replace t0 := kn.cell0 t0
      replace t1 := kn.cell0 t1
      replace t2 := kn.cell0 t2
      replace t3 := kn.cell0 t3
      replace t4 := kn.cell0 t4
      replace t5 := kn.cell0 t5
      replace Ba := kn.cell0 Ba
      replace Bb := kn.cell0 Bb
      replace Bc := kn.cell0 Bc
      replace K := hide ((unhide K).trans kn)
      have z7 := kn.size
      clear kn
      have szY_ : w4.heap.size < (w4.alloc (.cells #[.slice none 0 0, .bool false, .int .i64 0] 75)).heap.size := by simp
      have Bd : (w4.alloc (.cells #[.slice none 0 0, .bool false, .int .i64 0] 75)).cell? ⟨w4.heap.size, 0, none⟩ = some (.slice none 0 0) := new_cell2 _ _ _ _ _ _ rfl rfl
      have Bj : (w4.alloc (.cells #[.slice none 0 0, .bool false, .int .i64 0] 75)).frozen? ⟨w4.heap.size, 0, none⟩ = false := new_loose2 _ _ _ _ _ rfl
      have Be : (w4.alloc (.cells #[.slice none 0 0, .bool false, .int .i64 0] 75)).cell? ⟨w4.heap.size, 1, none⟩ = some (.bool false) := new_cell2 _ _ _ _ _ _ rfl rfl
      have Bk : (w4.alloc (.cells #[.slice none 0 0, .bool false, .int .i64 0] 75)).frozen? ⟨w4.heap.size, 1, none⟩ = false := new_loose2 _ _ _ _ _ rfl
      have Bf : (w4.alloc (.cells #[.slice none 0 0, .bool false, .int .i64 0] 75)).cell? ⟨w4.heap.size, 2, none⟩ = some (.int .i64 0) := new_cell2 _ _ _ _ _ _ rfl rfl
      have Bl : (w4.alloc (.cells #[.slice none 0 0, .bool false, .int .i64 0] 75)).frozen? ⟨w4.heap.size, 2, none⟩ = false := new_loose2 _ _ _ _ _ rfl
      clear hH
      refine hK.out _ _ ?_ (fun hH => ?_)
      ·exact ⟨p0, p1, p2, p3, p4, p5, t0, t1, t2, t3, t4, t5⟩
      clear hK KK
      try simp only [Act.put, zq1, zq2, zq3, zq4, zq5, zq6]
      generalize w4.alloc (.cells #[.slice none 0 0, .bool false, .int .i64 0] 75) = w6 at *
      refine wR 3 (by kernel_rfl) rfl (fun KK hK => ?_)
      ·simp only [zq1, zq2, zq3]
       rw [if_pos (by rfl)]
       refine wps1 37 (.tmp 9) _ rfl in_product_q (.agg #[.bool s3, .slice a3 l3.length c3, .int .i64 x3, .bool s4, .slice a4 l4.length c4, .int .i64 x4]) rfl (product_impl s3 s4 x3 x4 _ r3 r4 dk3 dk4) ?_
       rintro e w8 ⟨v6, rfl, o4, k8⟩
       refine ⟨_, rfl, ?_⟩
       revert r1 r2 r3 r4; refine k8.n4 ?_; intro r1 r2 r3 r4
       replace kw := kw.trans k8
       replace o3 := own_kept o3 k8
       replace Bg := k8.loose0 (zbl Ba) Bg
       replace Bh := k8.loose0 (zbl Bb) Bh
       replace Bi := k8.loose0 (zbl Bc) Bi
       replace Bj := k8.loose0 (zbl Bd) Bj
       replace Bk := k8.loose0 (zbl Be) Bk
       replace Bl := k8.loose0 (zbl Bf) Bl
       revert p0 p1 p2 p3 p4 p5 t0 t1 t2 t3 t4 t5; refine k8.m12 ?_; intro p0 p1 p2 p3 p4 p5 t0 t1 t2 t3 t4 t5
       revert Ba Bb Bc Bd Be Bf; refine k8.m6 ?_; intro Ba Bb Bc Bd Be Bf
       replace K := hide ((unhide K).trans k8)
       have z9 := k8.size
       clear k8
       have l4' := o4.lt
       obtain ⟨a6, c6, hv⟩ := own_slice o4
       subst hv
       clear hH
       refine hK.out _ _ ?_ (fun hH => ?_)
       ·exact ⟨p0, p1, p2, p3, p4, p5, t0, t1, t2, t3, t4, t5⟩
       clear hK KK
       try simp only [Act.put, zq1, zq2, zq3, zq4, zq5, zq6]
       refine wR 6 (by kernel_rfl) rfl (fun KK hK => ?_)
       simp only [zq1, zq2, zq3]
       rw [if_pos (by rfl)]
       go_simp
       clear hH
       refine hK.out _ _ ?_ (fun hH => ?_)
       ·have sq := unhide S0; exact ⟨(cw3 (by dsimp only; omega) p0), (cw3 (by dsimp only; omega) p1), (cw3 (by dsimp only; omega) p2), (cw3 (by dsimp only; omega) p3), (cw3 (by dsimp only; omega) p4), (cw3 (by dsimp only; omega) p5), (cw3 (by dsimp only; omega) t0), (cw3 (by dsimp only; omega) t1), (cw3 (by dsimp only; omega) t2), (cw3 (by dsimp only; omega) t3), (cw3 (by dsimp only; omega) t4), (cw3 (by dsimp only; omega) t5)⟩
       clear hK KK
       try simp only [Act.put, zq1, zq2, zq3, zq4, zq5, zq6]
       refine wR 7 (by kernel_rfl) rfl (fun KK hK => ?_)
       simp only [zq1, zq2, zq3]
       rw [if_pos (by rfl)]
       go_simp
       clear hH
       refine hK.out _ _ ?_ (fun hH => ?_)
       ·have sq := unhide S0; exact ⟨(cw6 (by dsimp only; omega) p0), (cw6 (by dsimp only; omega) p1), (cw6 (by dsimp only; omega) p2), (cw6 (by dsimp only; omega) p3), (cw6 (by dsimp only; omega) p4), (cw6 (by dsimp only; omega) p5), (cw6 (by dsimp only; omega) t0), (cw6 (by dsimp only; omega) t1), (cw6 (by dsimp only; omega) t2), (cw6 (by dsimp only; omega) t3), (cw6 (by dsimp only; omega) t4), (cw6 (by dsimp only; omega) t5)⟩
       clear hK KK
       try simp only [Act.put, zq1, zq2, zq3, zq4, zq5, zq6]
       refine wpAnyH_done (by kernel_rfl) ?_ _
       clear hH
       go_wp2_with fail
       go_meet
       exact ⟨_, _, rfl, rfl, dya_pair (!(s1 == s2)) (!(s3 == s4)) (x1 + x2) (x3 + x4) kw o3 o4 Ba Bb Bc Bg Bh Bi Bd Be Bf Bj Bk Bl (by omega) (by omega) (by omega) (by omega) (by omega) (fun e => by have := l3' _ e; omega) (fun e => by have := l3' _ e; omega) (fun e => by have := l4' _ e; omega) (fun e => by have := l4' _ e; omega) (fun k e1 e2 => by have := l3' _ e1; have := l4' _ e2; omega)⟩
    ·simp only [zq1, zq2, zq3]
     rw [if_pos (by rfl)]
     go_simp
     have kn := (Kept.refl 0 0 w2).alloc (.cells #[.slice none 0 0, .bool false, .int .i64 0] 75)
     replace r1 := r1.kp kn
     replace r2 := r2.kp kn
     replace r3 := r3.kp kn
     replace r4 := r4.kp kn
     replace kw := kw.trans kn
     replace Bg := kn.loose0 (zbl Ba) Bg
     replace Bh := kn.loose0 (zbl Bb) Bh
     replace Bi := kn.loose0 (zbl Bc) Bi
     replace p0 := kn.cell0 p0
     replace p1 := kn.cell0 p1
     replace p2 := kn.cell0 p2
     replace p3 := kn.cell0 p3
     replace p4 := kn.cell0 p4
     replace p5 := kn.cell0 p5
     replace t0 := kn.cell0 t0
     replace t1 := kn.cell0 t1
     replace t2 := kn.cell0 t2
     replace t3 := kn.cell0 t3
     replace t4 := kn.cell0 t4
     replace t5 := kn.cell0 t5
     replace Ba := kn.cell0 Ba
     replace Bb := kn.cell0 Bb
     replace Bc := kn.cell0 Bc
     replace K := hide ((unhide K).trans kn)
     have z5 := kn.size
     clear kn
     have szY_ : w2.heap.size < (w2.alloc (.cells #[.slice none 0 0, .bool false, .int .i64 0] 75)).heap.size := by simp
     have Bd : (w2.alloc (.cells #[.slice none 0 0, .bool false, .int .i64 0] 75)).cell? ⟨w2.heap.size, 0, none⟩ = some (.slice none 0 0) := new_cell2 _ _ _ _ _ _ rfl rfl
     have Bj : (w2.alloc (.cells #[.slice none 0 0, .bool false, .int .i64 0] 75)).frozen? ⟨w2.heap.size, 0, none⟩ = false := new_loose2 _ _ _ _ _ rfl
     have Be : (w2.alloc (.cells #[.slice none 0 0, .bool false, .int .i64 0] 75)).cell? ⟨w2.heap.size, 1, none⟩ = some (.bool false) := new_cell2 _ _ _ _ _ _ rfl rfl
     have Bk : (w2.alloc (.cells #[.slice none 0 0, .bool false, .int .i64 0] 75)).frozen? ⟨w2.heap.size, 1, none⟩ = false := new_loose2 _ _ _ _ _ rfl
     have Bf : (w2.alloc (.cells #[.slice none 0 0, .bool false, .int .i64 0] 75)).cell? ⟨w2.heap.size, 2, none⟩ = some (.int .i64 0) := new_cell2 _ _ _ _ _ _ rfl rfl
     have Bl : (w2.alloc (.cells #[.slice none 0 0, .bool false, .int .i64 0] 75)).frozen? ⟨w2.heap.size, 2, none⟩ = false := new_loose2 _ _ _ _ _ rfl
     clear hH
     refine hK.out _ _ ?_ (fun hH => ?_)
     ·exact ⟨p0, p1, p2, p3, p4, p5, t0, t1, t2, t3, t4, t5⟩
     clear hK KK
     try simp only [Act.put, zq1, zq2, zq3, zq4, zq5, zq6]
     generalize w2.alloc (.cells #[.slice none 0 0, .bool false, .int .i64 0] 75) = w4 at *
     refine wR 1 (by kernel_rfl) rfl (fun KK hK => ?_)
     ·simp only [zq1, zq2, zq3]
      rw [if_pos (by rfl)]
      refine wps1 37 (.tmp 7) _ rfl in_product_q (.agg #[.bool s1, .slice a1 l1.length c1, .int .i64 x1, .bool s2, .slice a2 l2.length c2, .int .i64 x2]) rfl (product_impl s1 s2 x1 x2 _ r1 r2 dk1 dk2) ?_
      rintro e w6 ⟨v5, rfl, o3, k6⟩
      refine ⟨_, rfl, ?_⟩
      revert r1 r2 r3 r4; refine k6.n4 ?_; intro r1 r2 r3 r4
      replace kw := kw.trans k6
      replace Bg := k6.loose0 (zbl Ba) Bg
      replace Bh := k6.loose0 (zbl Bb) Bh
      replace Bi := k6.loose0 (zbl Bc) Bi
      replace Bj := k6.loose0 (zbl Bd) Bj
      replace Bk := k6.loose0 (zbl Be) Bk
      replace Bl := k6.loose0 (zbl Bf) Bl
      revert p0 p1 p2 p3 p4 p5 t0 t1 t2 t3 t4 t5; refine k6.m12 ?_; intro p0 p1 p2 p3 p4 p5 t0 t1 t2 t3 t4 t5
      revert Ba Bb Bc Bd Be Bf; refine k6.m6 ?_; intro Ba Bb Bc Bd Be Bf
      replace K := hide ((unhide K).trans k6)
      have z7 := k6.size
      clear k6
      have l3' := o3.lt
      obtain ⟨a5, c5, hv⟩ := own_slice o3
      subst hv
      clear hH
      refine hK.out _ _ ?_ (fun hH => ?_)
      ·exact ⟨p0, p1, p2, p3, p4, p5, t0, t1, t2, t3, t4, t5⟩
      clear hK KK
      try simp only [Act.put, zq1, zq2, zq3, zq4, zq5, zq6]
      refine wR 3 (by kernel_rfl) rfl (fun KK hK => ?_)
      ·simp only [zq1, zq2, zq3]
       rw [if_pos (by rfl)]
       refine wps1 37 (.tmp 9) _ rfl in_product_q (.agg #[.bool s3, .slice a3 l3.length c3, .int .i64 x3, .bool s4, .slice a4 l4.length c4, .int .i64 x4]) rfl (product_impl s3 s4 x3 x4 _ r3 r4 dk3 dk4) ?_
       rintro e w8 ⟨v6, rfl, o4, k8⟩
       refine ⟨_, rfl, ?_⟩
       revert r1 r2 r3 r4; refine k8.n4 ?_; intro r1 r2 r3 r4
       replace kw := kw.trans k8
       replace o3 := own_kept o3 k8
       replace Bg := k8.loose0 (zbl Ba) Bg
       replace Bh := k8.loose0 (zbl Bb) Bh
       replace Bi := k8.loose0 (zbl Bc) Bi
       replace Bj := k8.loose0 (zbl Bd) Bj
       replace Bk := k8.loose0 (zbl Be) Bk
       replace Bl := k8.loose0 (zbl Bf) Bl
       revert p0 p1 p2 p3 p4 p5 t0 t1 t2 t3 t4 t5; refine k8.m12 ?_; intro p0 p1 p2 p3 p4 p5 t0 t1 t2 t3 t4 t5
       revert Ba Bb Bc Bd Be Bf; refine k8.m6 ?_; intro Ba Bb Bc Bd Be Bf
       replace K := hide ((unhide K).trans k8)
       have z9 := k8.size
       clear k8
       have l4' := o4.lt
       obtain ⟨a6, c6, hv⟩ := own_slice o4
       subst hv
       clear hH
       refine hK.out _ _ ?_ (fun hH => ?_)
       ·exact ⟨p0, p1, p2, p3, p4, p5, t0, t1, t2, t3, t4, t5⟩
       clear hK KK
       try simp only [Act.put, zq1, zq2, zq3, zq4, zq5, zq6]
       refine wR 6 (by kernel_rfl) rfl (fun KK hK => ?_)
       simp only [zq1, zq2, zq3]
       rw [if_pos (by rfl)]
       go_simp
       clear hH
       refine hK.out _ _ ?_ (fun hH => ?_)
       ·have sq := unhide S0; exact ⟨(cw3 (by dsimp only; omega) p0), (cw3 (by dsimp only; omega) p1), (cw3 (by dsimp only; omega) p2), (cw3 (by dsimp only; omega) p3), (cw3 (by dsimp only; omega) p4), (cw3 (by dsimp only; omega) p5), (cw3 (by dsimp only; omega) t0), (cw3 (by dsimp only; omega) t1), (cw3 (by dsimp only; omega) t2), (cw3 (by dsimp only; omega) t3), (cw3 (by dsimp only; omega) t4), (cw3 (by dsimp only; omega) t5)⟩
       clear hK KK
       try simp only [Act.put, zq1, zq2, zq3, zq4, zq5, zq6]
       refine wR 7 (by kernel_rfl) rfl (fun KK hK => ?_)
       simp only [zq1, zq2, zq3]
       rw [if_pos (by rfl)]
       go_simp
       clear hH
       refine hK.out _ _ ?_ (fun hH => ?_)
       ·have sq := unhide S0; exact ⟨(cw6 (by dsimp only; omega) p0), (cw6 (by dsimp only; omega) p1), (cw6 (by dsimp only; omega) p2), (cw6 (by dsimp only; omega) p3), (cw6 (by dsimp only; omega) p4), (cw6 (by dsimp only; omega) p5), (cw6 (by dsimp only; omega) t0), (cw6 (by dsimp only; omega) t1), (cw6 (by dsimp only; omega) t2), (cw6 (by dsimp only; omega) t3), (cw6 (by dsimp only; omega) t4), (cw6 (by dsimp only; omega) t5)⟩
       clear hK KK
       try simp only [Act.put, zq1, zq2, zq3, zq4, zq5, zq6]
       refine wpAnyH_done (by kernel_rfl) ?_ _
       clear hH
       go_wp2_with fail
       go_meet
       exact ⟨_, _, rfl, rfl, dya_pair (!(s1 == s2)) (!(s3 == s4)) (x1 + x2) (x3 + x4) kw o3 o4 Ba Bb Bc Bg Bh Bi Bd Be Bf Bj Bk Bl (by omega) (by omega) (by omega) (by omega) (by omega) (fun e => by have := l3' _ e; omega) (fun e => by have := l3' _ e; omega) (fun e => by have := l4' _ e; omega) (fun e => by have := l4' _ e; omega) (fun k e1 e2 => by have := l3' _ e1; have := l4' _ e2; omega)⟩
   ·simp only [zq1, zq2, zq3]
    rw [if_pos (by rfl)]
    go_simp
    have kn := (Kept.refl 0 0 wd).alloc (.cells #[.slice none 0 0, .bool false, .int .i64 0] 75)
    replace r1 := r1.kp kn
    replace r2 := r2.kp kn
    replace r3 := r3.kp kn
    replace r4 := r4.kp kn
    replace kw := kw.trans kn
    replace p0 := kn.cell0 p0
    replace p1 := kn.cell0 p1
    replace p2 := kn.cell0 p2
    replace p3 := kn.cell0 p3
    replace p4 := kn.cell0 p4
    replace p5 := kn.cell0 p5
    replace t0 := kn.cell0 t0
    replace t1 := kn.cell0 t1
    replace t2 := kn.cell0 t2
    replace t3 := kn.cell0 t3
    replace t4 := kn.cell0 t4
    replace t5 := kn.cell0 t5
    replace K := hide ((unhide K).trans kn)
    have z3 := kn.size
    clear kn
    have szY_ : wd.heap.size < (wd.alloc (.cells #[.slice none 0 0, .bool false, .int .i64 0] 75)).heap.size := by simp
    have Bd : (wd.alloc (.cells #[.slice none 0 0, .bool false, .int .i64 0] 75)).cell? ⟨wd.heap.size, 0, none⟩ = some (.slice none 0 0) := new_cell2 _ _ _ _ _ _ rfl rfl
    have Bj : (wd.alloc (.cells #[.slice none 0 0, .bool false, .int .i64 0] 75)).frozen? ⟨wd.heap.size, 0, none⟩ = false := new_loose2 _ _ _ _ _ rfl
    have Be : (wd.alloc (.cells #[.slice none 0 0, .bool false, .int .i64 0] 75)).cell? ⟨wd.heap.size, 1, none⟩ = some (.bool false) := new_cell2 _ _ _ _ _ _ rfl rfl
    have Bk : (wd.alloc (.cells #[.slice none 0 0, .bool false, .int .i64 0] 75)).frozen? ⟨wd.heap.size, 1, none⟩ = false := new_loose2 _ _ _ _ _ rfl
    have Bf : (wd.alloc (.cells #[.slice none 0 0, .bool false, .int .i64 0] 75)).cell? ⟨wd.heap.size, 2, none⟩ = some (.int .i64 0) := new_cell2 _ _ _ _ _ _ rfl rfl
    have Bl : (wd.alloc (.cells #[.slice none 0 0, .bool false, .int .i64 0] 75)).frozen? ⟨wd.heap.size, 2, none⟩ = false := new_loose2 _ _ _ _ _ rfl
    clear hH
    refine hK.out _ _ ?_ (fun hH => ?_)
    ·exact ⟨p0, p1, p2, p3, p4, p5, t0, t1, t2, t3, t4, t5⟩
    clear hK KK
    try simp only [Act.put, zq1, zq2, zq3, zq4, zq5, zq6]
    generalize wd.alloc (.cells #[.slice none 0 0, .bool false, .int .i64 0] 75) = w2 at *
    refine wpAnyH_ready (rs := [1, 4]) (by kernel_rfl) (by simp) ?_
    refine AllReadyH.cons rfl (fun KK hK => ?_) (AllReadyH.cons rfl (fun KK hK => ?_) AllReadyH.nil)
    ·simp only [zq1, zq2, zq3]
     rw [if_pos (by rfl)]
     refine wps1 37 (.tmp 7) _ rfl in_product_q (.agg #[.bool s1, .slice a1 l1.length c1, .int .i64 x1, .bool s2, .slice a2 l2.length c2, .int .i64 x2]) rfl (product_impl s1 s2 x1 x2 _ r1 r2 dk1 dk2) ?_
     rintro e w4 ⟨v5, rfl, o3, k4⟩
     refine ⟨_, rfl, ?_⟩
     revert r1 r2 r3 r4; refine k4.n4 ?_; intro r1 r2 r3 r4
     replace kw := kw.trans k4
     replace Bj := k4.loose0 (zbl Bd) Bj
     replace Bk := k4.loose0 (zbl Be) Bk
     replace Bl := k4.loose0 (zbl Bf) Bl
     revert p0 p1 p2 p3 p4 p5 t0 t1 t2 t3 t4 t5; refine k4.m12 ?_; intro p0 p1 p2 p3 p4 p5 t0 t1 t2 t3 t4 t5
     revert Bd Be Bf; refine k4.m3 ?_; intro Bd Be Bf
     replace K := hide ((unhide K).trans k4)
     have z5 := k4.size
     clear k4
     have l3' := o3.lt
     obtain ⟨a5, c5, hv⟩ := own_slice o3
     subst hv
     clear hH
     refine hK.out _ _ ?_ (fun hH => ?_)
     ·exact ⟨p0, p1, p2, p3, p4, p5, t0, t1, t2, t3, t4, t5⟩
     clear hK KK
     try simp only [Act.put, zq1, zq2, zq3, zq4, zq5, zq6]
     refine wpAnyH_ready (rs := [3, 4]) (by kernel_rfl) (by simp) ?_
     refine AllReadyH.cons rfl (fun KK hK => ?_) (AllReadyH.cons rfl (fun KK hK => ?_) AllReadyH.nil)
     ·simp only [zq1, zq2, zq3]
      rw [if_pos (by rfl)]
      refine wps1 37 (.tmp 9) _ rfl in_product_q (.agg #[.bool s3, .slice a3 l3.length c3, .int .i64 x3, .bool s4, .slice a4 l4.length c4, .int .i64 x4]) rfl (product_impl s3 s4 x3 x4 _ r3 r4 dk3 dk4) ?_
      rintro e w6 ⟨v6, rfl, o4, k6⟩
      refine ⟨_, rfl, ?_⟩
      revert r1 r2 r3 r4; refine k6.n4 ?_; intro r1 r2 r3 r4
      replace kw := kw.trans k6
      replace o3 := own_kept o3 k6
      replace Bj := k6.loose0 (zbl Bd) Bj
      replace Bk := k6.loose0 (zbl Be) Bk
      replace Bl := k6.loose0 (zbl Bf) Bl
      revert p0 p1 p2 p3 p4 p5 t0 t1 t2 t3 t4 t5; refine k6.m12 ?_; intro p0 p1 p2 p3 p4 p5 t0 t1 t2 t3 t4 t5
      revert Bd Be Bf; refine k6.m3 ?_; intro Bd Be Bf
      replace K := hide ((unhide K).trans k6)
      have z7 := k6.size
      clear k6
      have l4' := o4.lt
      obtain ⟨a6, c6, hv⟩ := own_slice o4
      subst hv
      clear hH
      refine hK.out _ _ ?_ (fun hH => ?_)
      ·exact ⟨p0, p1, p2, p3, p4, p5, t0, t1, t2, t3, t4, t5⟩
      clear hK KK
      try simp only [Act.put, zq1, zq2, zq3, zq4, zq5, zq6]
      refine wR 4 (by kernel_rfl) rfl (fun KK hK => ?_)
      ·simp only [zq1, zq2, zq3]
       rw [if_pos (by rfl)]
       go_simp
       have kn := (Kept.refl 0 0 w6).alloc (.cells #[.slice none 0 0, .bool false, .int .i64 0] 75)
       revert r1 r2 r3 r4; refine kn.n4 ?_; intro r1 r2 r3 r4
       replace kw := kw.trans kn
       replace o3 := own_kept o3 kn
       replace o4 := own_kept o4 kn
       replace Bj := kn.loose0 (zbl Bd) Bj
       replace Bk := kn.loose0 (zbl Be) Bk
       replace Bl := kn.loose0 (zbl Bf) Bl
       revert p0 p1 p2 p3 p4 p5 t0 t1 t2 t3 t4 t5; refine kn.m12 ?_; intro p0 p1 p2 p3 p4 p5 t0 t1 t2 t3 t4 t5
       revert Bd Be Bf; refine kn.m3 ?_; intro Bd Be Bf
       replace K := hide ((unhide K).trans kn)
       have z9 := kn.size
       clear kn
       have szX_ : w6.heap.size < (w6.alloc (.cells #[.slice none 0 0, .bool false, .int .i64 0] 75)).heap.size := by simp
       have Ba : (w6.alloc (.cells #[.slice none 0 0, .bool false, .int .i64 0] 75)).cell? ⟨w6.heap.size, 0, none⟩ = some (.slice none 0 0) := new_cell2 _ _ _ _ _ _ rfl rfl
       have Bg : (w6.alloc (.cells #[.slice none 0 0, .bool false, .int .i64 0] 75)).frozen? ⟨w6.heap.size, 0, none⟩ = false := new_loose2 _ _ _ _ _ rfl
       have Bb : (w6.alloc (.cells #[.slice none 0 0, .bool false, .int .i64 0] 75)).cell? ⟨w6.heap.size, 1, none⟩ = some (.bool false) := new_cell2 _ _ _ _ _ _ rfl rfl
       have Bh : (w6.alloc (.cells #[.slice none 0 0, .bool false, .int .i64 0] 75)).frozen? ⟨w6.heap.size, 1, none⟩ = false := new_loose2 _ _ _ _ _ rfl
       have Bc : (w6.alloc (.cells #[.slice none 0 0, .bool false, .int .i64 0] 75)).cell? ⟨w6.heap.size, 2, none⟩ = some (.int .i64 0) := new_cell2 _ _ _ _ _ _ rfl rfl
       have Bi : (w6.alloc (.cells #[.slice none 0 0, .bool false, .int .i64 0] 75)).frozen? ⟨w6.heap.size, 2, none⟩ = false := new_loose2 _ _ _ _ _ rfl
       clear hH
       refine hK.out _ _ ?_ (fun hH => ?_)
       ·exact ⟨p0, p1, p2, p3, p4, p5, t0, t1, t2, t3, t4, t5⟩
       clear hK KK
       try simp only [Act.put, zq1, zq2, zq3, zq4, zq5, zq6]
       generalize w6.alloc (.cells #[.slice none 0 0, .bool false, .int .i64 0] 75) = w8 at *
       refine wR 6 (by kernel_rfl) rfl (fun KK hK => ?_)
       simp only [zq1, zq2, zq3]
       rw [if_pos (by rfl)]
       go_simp
       clear hH
       refine hK.out _ _ ?_ (fun hH => ?_)
       ·have sq := unhide S0; exact ⟨(cw3 (by dsimp only; omega) p0), (cw3 (by dsimp only; omega) p1), (cw3 (by dsimp only; omega) p2), (cw3 (by dsimp only; omega) p3), (cw3 (by dsimp only; omega) p4), (cw3 (by dsimp only; omega) p5), (cw3 (by dsimp only; omega) t0), (cw3 (by dsimp only; omega) t1), (cw3 (by dsimp only; omega) t2), (cw3 (by dsimp only; omega) t3), (cw3 (by dsimp only; omega) t4), (cw3 (by dsimp only; omega) t5)⟩
       clear hK KK
       try simp only [Act.put, zq1, zq2, zq3, zq4, zq5, zq6]
       refine wR 7 (by kernel_rfl) rfl (fun KK hK => ?_)
       simp only [zq1, zq2, zq3]
       rw [if_pos (by rfl)]
       go_simp
       clear hH
       refine hK.out _ _ ?_ (fun hH => ?_)
       ·have sq := unhide S0; exact ⟨(cw6 (by dsimp only; omega) p0), (cw6 (by dsimp only; omega) p1), (cw6 (by dsimp only; omega) p2), (cw6 (by dsimp only; omega) p3), (cw6 (by dsimp only; omega) p4), (cw6 (by dsimp only; omega) p5), (cw6 (by dsimp only; omega) t0), (cw6 (by dsimp only; omega) t1), (cw6 (by dsimp only; omega) t2), (cw6 (by dsimp only; omega) t3), (cw6 (by dsimp only; omega) t4), (cw6 (by dsimp only; omega) t5)⟩
       clear hK KK
       try simp only [Act.put, zq1, zq2, zq3, zq4, zq5, zq6]
       refine wpAnyH_done (by kernel_rfl) ?_ _
       clear hH
       go_wp2_with fail
       go_meet
       exact ⟨_, _, rfl, rfl, dya_pair (!(s1 == s2)) (!(s3 == s4)) (x1 + x2) (x3 + x4) kw o3 o4 Ba Bb Bc Bg Bh Bi Bd Be Bf Bj Bk Bl (by omega) (by omega) (by omega) (by omega) (by omega) (fun e => by have := l3' _ e; omega) (fun e => by have := l3' _ e; omega) (fun e => by have := l4' _ e; omega) (fun e => by have := l4' _ e; omega) (fun k e1 e2 => by have := l3' _ e1; have := l4' _ e2; omega)⟩
     ·simp only [zq1, zq2, zq3]
      rw [if_pos (by rfl)]
      go_simp
      have kn := (Kept.refl 0 0 w4).alloc (.cells #[.slice none 0 0, .bool false, .int .i64 0] 75)
      replace r1 := r1.kp kn
      replace r2 := r2.kp kn
      replace r3 := r3.kp kn
      replace r4 := r4.kp kn
      replace kw := kw.trans kn
      replace o3 := own_kept o3 kn
      replace Bj := kn.loose0 (zbl Bd) Bj
      replace Bk := kn.loose0 (zbl Be) Bk
      replace Bl := kn.loose0 (zbl Bf) Bl
      replace p0 := kn.cell0 p0
      replace p1 := kn.cell0 p1
      replace p2 := kn.cell0 p2
      replace p3 := kn.cell0 p3
      replace p4 := kn.cell0 p4
      replace p5 := kn.cell0 p5
      replace t0 := kn.cell0 t0
      replace t1 := kn.cell0 t1
      replace t2 := kn.cell0 t2
      replace t3 := kn.cell0 t3
      replace t4 := kn.cell0 t4
      replace t5 := kn.cell0 t5
      replace Bd := kn.cell0 Bd
      replace Be := kn.cell0 Be
      replace Bf := kn.cell0 Bf
      replace K := hide ((unhide K).trans kn)
      have z7 := kn.size
      clear kn
      have szX_ : w4.heap.size < (w4.alloc (.cells #[.slice none 0 0, .bool false, .int .i64 0] 75)).heap.size := by simp
      have Ba : (w4.alloc (.cells #[.slice none 0 0, .bool false, .int .i64 0] 75)).cell? ⟨w4.heap.size, 0, none⟩ = some (.slice none 0 0) := new_cell2 _ _ _ _ _ _ rfl rfl
      have Bg : (w4.alloc (.cells #[.slice none 0 0, .bool false, .int .i64 0] 75)).frozen? ⟨w4.heap.size, 0, none⟩ = false := new_loose2 _ _ _ _ _ rfl
      have Bb : (w4.alloc (.cells #[.slice none 0 0, .bool false, .int .i64 0] 75)).cell? ⟨w4.heap.size, 1, none⟩ = some (.bool false) := new_cell2 _ _ _ _ _ _ rfl rfl
      have Bh : (w4.alloc (.cells #[.slice none 0 0, .bool false, .int .i64 0] 75)).frozen? ⟨w4.heap.size, 1, none⟩ = false := new_loose2 _ _ _ _ _ rfl
      have Bc : (w4.alloc (.cells #[.slice none 0 0, .bool false, .int .i64 0] 75)).cell? ⟨w4.heap.size, 2, none⟩ = some (.int .i64 0) := new_cell2 _ _ _ _ _ _ rfl rfl
      have Bi : (w4.alloc (.cells #[.slice none 0 0, .bool false, .int .i64 0] 75)).frozen? ⟨w4.heap.size, 2, none⟩ = false := new_loose2 _ _ _ _ _ rfl
      clear hH
      refine hK.out _ _ ?_ (fun hH => ?_)
      ·exact ⟨p0, p1, p2, p3, p4, p5, t0, t1, t2, t3, t4, t5⟩
      clear hK KK
      try simp only [Act.put, zq1, zq2, zq3, zq4, zq5, zq6]
      generalize w4.alloc (.cells #[.slice none 0 0, .bool false, .int .i64 0] 75) = w6 at *
      refine wR 3 (by kernel_rfl) rfl (fun KK hK => ?_)
      ·simp only [zq1, zq2, zq3]
       rw [if_pos (by rfl)]
       refine wps1 37 (.tmp 9) _ rfl in_product_q (.agg #[.bool s3, .slice a3 l3.length c3, .int .i64 x3, .bool s4, .slice a4 l4.length c4, .int .i64 x4]) rfl (product_impl s3 s4 x3 x4 _ r3 r4 dk3 dk4) ?_
       rintro e w8 ⟨v6, rfl, o4, k8⟩
       refine ⟨_, rfl, ?_⟩
       revert r1 r2 r3 r4; refine k8.n4 ?_; intro r1 r2 r3 r4
       replace kw := kw.trans k8
       replace o3 := own_kept o3 k8
       replace Bj := k8.loose0 (zbl Bd) Bj
       replace Bk := k8.loose0 (zbl Be) Bk
       replace Bl := k8.loose0 (zbl Bf) Bl
       replace Bg := k8.loose0 (zbl Ba) Bg
       replace Bh := k8.loose0 (zbl Bb) Bh
       replace Bi := k8.loose0 (zbl Bc) Bi
       revert p0 p1 p2 p3 p4 p5 t0 t1 t2 t3 t4 t5; refine k8.m12 ?_; intro p0 p1 p2 p3 p4 p5 t0 t1 t2 t3 t4 t5
       revert Bd Be Bf Ba Bb Bc; refine k8.m6 ?_; intro Bd Be Bf Ba Bb Bc
       replace K := hide ((unhide K).trans k8)
       have z9 := k8.size
       clear k8
       have l4' := o4.lt
       obtain ⟨a6, c6, hv⟩ := own_slice o4
       subst hv
       clear hH
       refine hK.out _ _ ?_ (fun hH => ?_)
       ·exact ⟨p0, p1, p2, p3, p4, p5, t0, t1, t2, t3, t4, t5⟩
       clear hK KK
       try simp only [Act.put, zq1, zq2, zq3, zq4, zq5, zq6]
       refine wR 6 (by kernel_rfl) rfl (fun KK hK => ?_)
       simp only [zq1, zq2, zq3]
       rw [if_pos (by rfl)]
       go_simp
       clear hH
       refine hK.out _ _ ?_ (fun hH => ?_)
       ·have sq := unhide S0; exact ⟨(cw3 (by dsimp only; omega) p0), (cw3 (by dsimp only; omega) p1), (cw3 (by dsimp only; omega) p2), (cw3 (by dsimp only; omega) p3), (cw3 (by dsimp only; omega) p4), (cw3 (by dsimp only; omega) p5), (cw3 (by dsimp only; omega) t0), (cw3 (by dsimp only; omega) t1), (cw3 (by dsimp only; omega) t2), (cw3 (by dsimp only; omega) t3), (cw3 (by dsimp only; omega) t4), (cw3 (by dsimp only; omega) t5)⟩
       clear hK KK
       try simp only [Act.put, zq1, zq2, zq3, zq4, zq5, zq6]
       refine wR 7 (by kernel_rfl) rfl (fun KK hK => ?_)
       simp only [zq1, zq2, zq3]
       rw [if_pos (by rfl)]
       go_simp
       clear hH
       refine hK.out _ _ ?_ (fun hH => ?_)
       ·have sq := unhide S0; exact ⟨(cw6 (by dsimp only; omega) p0), (cw6 (by dsimp only; omega) p1), (cw6 (by dsimp only; omega) p2), (cw6 (by dsimp only; omega) p3), (cw6 (by dsimp only; omega) p4), (cw6 (by dsimp only; omega) p5), (cw6 (by dsimp only; omega) t0), (cw6 (by dsimp only; omega) t1), (cw6 (by dsimp only; omega) t2), (cw6 (by dsimp only; omega) t3), (cw6 (by dsimp only; omega) t4), (cw6 (by dsimp only; omega) t5)⟩
       clear hK KK
       try simp only [Act.put, zq1, zq2, zq3, zq4, zq5, zq6]
       refine wpAnyH_done (by kernel_rfl) ?_ _
       clear hH
       go_wp2_with fail
       go_meet
       exact ⟨_, _, rfl, rfl, dya_pair (!(s1 == s2)) (!(s3 == s4)) (x1 + x2) (x3 + x4) kw o3 o4 Ba Bb Bc Bg Bh Bi Bd Be Bf Bj Bk Bl (by omega) (by omega) (by omega) (by omega) (by omega) (fun e => by have := l3' _ e; omega) (fun e => by have := l3' _ e; omega) (fun e => by have := l4' _ e; omega) (fun e => by have := l4' _ e; omega) (fun k e1 e2 => by have := l3' _ e1; have := l4' _ e2; omega)⟩
    ·simp only [zq1, zq2, zq3]
     rw [if_pos (by rfl)]
     go_simp
     have kn := (Kept.refl 0 0 w2).alloc (.cells #[.slice none 0 0, .bool false, .int .i64 0] 75)
     replace r1 := r1.kp kn
     replace r2 := r2.kp kn
     replace r3 := r3.kp kn
     replace r4 := r4.kp kn
     replace kw := kw.trans kn
     replace Bj := kn.loose0 (zbl Bd) Bj
     replace Bk := kn.loose0 (zbl Be) Bk
     replace Bl := kn.loose0 (zbl Bf) Bl
     replace p0 := kn.cell0 p0
     replace p1 := kn.cell0 p1
     replace p2 := kn.cell0 p2
     replace p3 := kn.cell0 p3
     replace p4 := kn.cell0 p4
     replace p5 := kn.cell0 p5
     replace t0 := kn.cell0 t0
     replace t1 := kn.cell0 t1
     replace t2 := kn.cell0 t2
     replace t3 := kn.cell0 t3
     replace t4 := kn.cell0 t4
     replace t5 := kn.cell0 t5
     replace Bd := kn.cell0 Bd
     replace Be := kn.cell0 Be
     replace Bf := kn.cell0 Bf
     replace K := hide ((unhide K).trans kn)
     have z5 := kn.size
     clear kn
     have szX_ : w2.heap.size < (w2.alloc (.cells #[.slice none 0 0, .bool false, .int .i64 0] 75)).heap.size := by simp
     have Ba : (w2.alloc (.cells #[.slice none 0 0, .bool false, .int .i64 0] 75)).cell? ⟨w2.heap.size, 0, none⟩ = some (.slice none 0 0) := new_cell2 _ _ _ _ _ _ rfl rfl
     have Bg : (w2.alloc (.cells #[.slice none 0 0, .bool false, .int .i64 0] 75)).frozen? ⟨w2.heap.size, 0, none⟩ = false := new_loose2 _ _ _ _ _ rfl
     have Bb : (w2.alloc (.cells #[.slice none 0 0, .bool false, .int .i64 0] 75)).cell? ⟨w2.heap.size, 1, none⟩ = some (.bool false) := new_cell2 _ _ _ _ _ _ rfl rfl
     have Bh : (w2.alloc (.cells #[.slice none 0 0, .bool false, .int .i64 0] 75)).frozen? ⟨w2.heap.size, 1, none⟩ = false := new_loose2 _ _ _ _ _ rfl
     have Bc : (w2.alloc (.cells #[.slice none 0 0, .bool false, .int .i64 0] 75)).cell? ⟨w2.heap.size, 2, none⟩ = some (.int .i64 0) := new_cell2 _ _ _ _ _ _ rfl rfl
     have Bi : (w2.alloc (.cells #[.slice none 0 0, .bool false, .int .i64 0] 75)).frozen? ⟨w2.heap.size, 2, none⟩ = false := new_loose2 _ _ _ _ _ rfl
     clear hH
     refine hK.out _ _ ?_ (fun hH => ?_)
     ·exact ⟨p0, p1, p2, p3, p4, p5, t0, t1, t2, t3, t4, t5⟩
     clear hK KK
     try simp only [Act.put, zq1, zq2, zq3, zq4, zq5, zq6]
     generalize w2.alloc (.cells #[.slice none 0 0, .bool false, .int .i64 0] 75) = w4 at *
     refine wR 1 (by kernel_rfl) rfl (fun KK hK => ?_)
     ·simp only [zq1, zq2, zq3]
      rw [if_pos (by rfl)]
      refine wps1 37 (.tmp 7) _ rfl in_product_q (.agg #[.bool s1, .slice a1 l1.length c1, .int .i64 x1, .bool s2, .slice a2 l2.length c2, .int .i64 x2]) rfl (product_impl s1 s2 x1 x2 _ r1 r2 dk1 dk2) ?_
      rintro e w6 ⟨v5, rfl, o3, k6⟩
      refine ⟨_, rfl, ?_⟩
      revert r1 r2 r3 r4; refine k6.n4 ?_; intro r1 r2 r3 r4
      replace kw := kw.trans k6
      replace Bj := k6.loose0 (zbl Bd) Bj
      replace Bk := k6.loose0 (zbl Be) Bk
      replace Bl := k6.loose0 (zbl Bf) Bl
      replace Bg := k6.loose0 (zbl Ba) Bg
      replace Bh := k6.loose0 (zbl Bb) Bh
      replace Bi := k6.loose0 (zbl Bc) Bi
      revert p0 p1 p2 p3 p4 p5 t0 t1 t2 t3 t4 t5; refine k6.m12 ?_; intro p0 p1 p2 p3 p4 p5 t0 t1 t2 t3 t4 t5
      revert Bd Be Bf Ba Bb Bc; refine k6.m6 ?_; intro Bd Be Bf Ba Bb Bc
      replace K := hide ((unhide K).trans k6)
      have z7 := k6.size
      clear k6
      have l3' := o3.lt
      obtain ⟨a5, c5, hv⟩ := own_slice o3
      subst hv
      clear hH
      refine hK.out _ _ ?_ (fun hH => ?_)
      ·exact ⟨p0, p1, p2, p3, p4, p5, t0, t1, t2, t3, t4, t5⟩
      clear hK KK
      try simp only [Act.put, zq1, zq2, zq3, zq4, zq5, zq6]
      refine wR 3 (by kernel_rfl) rfl (fun KK hK => ?_)
      ·simp only [zq1, zq2, zq3]
       rw [if_pos (by rfl)]
       refine wps1 37 (.tmp 9) _ rfl in_product_q (.agg #[.bool s3, .slice a3 l3.length c3, .int .i64 x3, .bool s4, .slice a4 l4.length c4, .int .i64 x4]) rfl (product_impl s3 s4 x3 x4 _ r3 r4 dk3 dk4) ?_
       rintro e w8 ⟨v6, rfl, o4, k8⟩
       refine ⟨_, rfl, ?_⟩
       revert r1 r2 r3 r4; refine k8.n4 ?_; intro r1 r2 r3 r4
       replace kw := kw.trans k8
       replace o3 := own_kept o3 k8
       replace Bj := k8.loose0 (zbl Bd) Bj
       replace Bk := k8.loose0 (zbl Be) Bk
       replace Bl := k8.loose0 (zbl Bf) Bl
       replace Bg := k8.loose0 (zbl Ba) Bg
       replace Bh := k8.loose0 (zbl Bb) Bh
       replace Bi := k8.loose0 (zbl Bc) Bi
       revert p0 p1 p2 p3 p4 p5 t0 t1 t2 t3 t4 t5; refine k8.m12 ?_; intro p0 p1 p2 p3 p4 p5 t0 t1 t2 t3 t4 t5
       revert Bd Be Bf Ba Bb Bc; refine k8.m6 ?_; intro Bd Be Bf Ba Bb Bc
       replace K := hide ((unhide K).trans k8)
       have z9 := k8.size
       clear k8
       have l4' := o4.lt
       obtain ⟨a6, c6, hv⟩ := own_slice o4
       subst hv
       clear hH
       refine hK.out _ _ ?_ (fun hH => ?_)
       ·exact ⟨p0, p1, p2, p3, p4, p5, t0, t1, t2, t3, t4, t5⟩
       clear hK KK
       try simp only [Act.put, zq1, zq2, zq3, zq4, zq5, zq6]
       refine wR 6 (by kernel_rfl) rfl (fun KK hK => ?_)
       simp only [zq1, zq2, zq3]
       rw [if_pos (by rfl)]
       go_simp
       clear hH
       refine hK.out _ _ ?_ (fun hH => ?_)
       ·have sq := unhide S0; exact ⟨(cw3 (by dsimp only; omega) p0), (cw3 (by dsimp only; omega) p1), (cw3 (by dsimp only; omega) p2), (cw3 (by dsimp only; omega) p3), (cw3 (by dsimp only; omega) p4), (cw3 (by dsimp only; omega) p5), (cw3 (by dsimp only; omega) t0), (cw3 (by dsimp only; omega) t1), (cw3 (by dsimp only; omega) t2), (cw3 (by dsimp only; omega) t3), (cw3 (by dsimp only; omega) t4), (cw3 (by dsimp only; omega) t5)⟩
       clear hK KK
       try simp only [Act.put, zq1, zq2, zq3, zq4, zq5, zq6]
       refine wR 7 (by kernel_rfl) rfl (fun KK hK => ?_)
       simp only [zq1, zq2, zq3]
       rw [if_pos (by rfl)]
       go_simp
       clear hH
       refine hK.out _ _ ?_ (fun hH => ?_)
       ·have sq := unhide S0; exact ⟨(cw6 (by dsimp only; omega) p0), (cw6 (by dsimp only; omega) p1), (cw6 (by dsimp only; omega) p2), (cw6 (by dsimp only; omega) p3), (cw6 (by dsimp only; omega) p4), (cw6 (by dsimp only; omega) p5), (cw6 (by dsimp only; omega) t0), (cw6 (by dsimp only; omega) t1), (cw6 (by dsimp only; omega) t2), (cw6 (by dsimp only; omega) t3), (cw6 (by dsimp only; omega) t4), (cw6 (by dsimp only; omega) t5)⟩
       clear hK KK
       try simp only [Act.put, zq1, zq2, zq3, zq4, zq5, zq6]
       refine wpAnyH_done (by kernel_rfl) ?_ _
       clear hH
       go_wp2_with fail
       go_meet
       exact ⟨_, _, rfl, rfl, dya_pair (!(s1 == s2)) (!(s3 == s4)) (x1 + x2) (x3 + x4) kw o3 o4 Ba Bb Bc Bg Bh Bi Bd Be Bf Bj Bk Bl (by omega) (by omega) (by omega) (by omega) (by omega) (fun e => by have := l3' _ e; omega) (fun e => by have := l3' _ e; omega) (fun e => by have := l4' _ e; omega) (fun e => by have := l4' _ e; omega) (fun k e1 e2 => by have := l3' _ e1; have := l4' _ e2; omega)⟩
  case rest =>
   obtain ⟨X, Y, rfl, rfl, sg⟩ := hcut
   have mk := compareDyadic_wide sg (limbs_nrm _) (limbs_nrm _) (by have := mul_len2 hx1.1 hx2.1 lx1 lx2; omega) (by have := mul_len2 hx3.1 hx4.1 lx3 lx4; omega) (by omega) (by omega) (by omega) (by omega)
   rw [mul_sgn s1 s2 hx1.1 hx2.1, mul_sgn s3 s4 hx3.1 hx4.1] at mk
   obtain ⟨C, hC⟩ : ∃ C, cmpDI (wval s1 l1 * wval s2 l2) (x1 + x2) (wval s3 l3 * wval s4 l4) (x3 + x4) = C := ⟨_, rfl⟩
   rw [hC] at mk
   have HC := hide hC
   clear hC sg r1 r2 r3 r4
   go_wp2_with fail
   refine mk.mono ?_
   rintro e w7 ⟨rfl, k7⟩
   have K9 := hide ((unhide K).trans k7)
   clear mk k7 K
   go_wp2_with fail
   go_ret
   exact ⟨by rw [unhide HC]; rfl, unhide K9⟩

end Go.Proofs.YtpognolidbgkkaaDoor

