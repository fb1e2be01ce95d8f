/-
  The walk of the law FnExactNatMul: it returns true at every argument.
-/
import Derived.Test.YtolciidbkhkfgaaINat18
import Derived.Test.YtolciidbkhkfgaaLaw2
import Derived.Deep.RegionHeld3
namespace Go.Proofs.Ytolciidbkhkfgaa
open Go.RowKit
set_option linter.unusedVariables false
set_option maxRecDepth 8000
set_option linter.unusedSimpArgs false

theorem wf_NatMul {n : Int} (h : (Lit.int .i64 n).wf = true) : n ≤ 9223372036854775807 ∧ -9223372036854775808 ≤ n := by
  have e : (Lit.int .i64 n).wf = (decide (IntKind.i64.min ≤ n) && decide (n ≤ IntKind.i64.max)) := rfl
  rw [e, show IntKind.i64.min = -9223372036854775808 by decide, show IntKind.i64.max = 9223372036854775807 by decide] at h
  simp at h
  omega

set_option maxHeartbeats 16000000 in
theorem law_NatMul {u0 : Value} {z0 : List Int} {u1 : Value} {z1 : List Int} {w : World} (r0 : Row .i64 false 0 w.heap.size w u0 z0) (b0 : ∀ z ∈ z0, (Lit.int .i64 z).wf = true) (r1 : Row .i64 false 0 w.heap.size w u1 z1) (b1 : ∀ z ∈ z1, (Lit.int .i64 z).wf = true) :
    Calls Try.prog 16 #[.agg #[u0], .agg #[u1]] w fun e w' => e = .returned (.bool true) ∧ Below w.heap.size w w' := by
  clear b0
  clear b1
  have hl0 : (ansL (okB z0 && okB z1) (val z0 * val z1).toNat).length ≤ 1099511627776 := by have := ansL_len (okB z0 && okB z1) (val z0 * val z1).toNat; omega
  have hl0' := ansL_len (okB z0 && okB z1) (val z0 * val z1).toNat
  obtain ⟨a0, c0, hv0⟩ := Row.form' r0
  subst hv0
  have hm0 := r0.len
  unfold maxLen at hm0
  obtain ⟨a1, c1, hv1⟩ := Row.form' r1
  subst hv1
  have hm1 := r1.len
  unfold maxLen at hm1
  have k0 : Kept 0 0 w ((w.alloc (.cells #[.slice a0 z0.length c0] 53)).alloc (.cells #[.slice a1 z1.length c1] 53)) := (((Kept.refl 0 0 w).alloc (.cells #[.slice a0 z0.length c0] 53)).alloc (.cells #[.slice a1 z1.length c1] 53))
  have cA0 : ((w.alloc (.cells #[.slice a0 z0.length c0] 53)).alloc (.cells #[.slice a1 z1.length c1] 53)).cell? ⟨w.heap.size, 0, none⟩ = some (.slice a0 z0.length c0) := (old_cell _ (new_cell_at _ _ _ _ (by simp)))
  have cA1 : ((w.alloc (.cells #[.slice a0 z0.length c0] 53)).alloc (.cells #[.slice a1 z1.length c1] 53)).cell? ⟨w.heap.size + 1, 0, none⟩ = some (.slice a1 z1.length c1) := new_cell_at _ _ _ _ (by simp)
  replace r0 := r0.kept k0 (by omega)
  replace r1 := r1.kept k0 (by omega)
  have B := hide k0.toBelow
  have s0 : w.heap.size + 2 ≤ ((w.alloc (.cells #[.slice a0 z0.length c0] 53)).alloc (.cells #[.slice a1 z1.length c1] 53)).heap.size := by simp
  clear k0
  go_enter Try.func16, Try.ntmps16
  go_wp2_with fail
  generalize ((w.alloc (.cells #[.slice a0 z0.length c0] 53)).alloc (.cells #[.slice a1 z1.length c1] 53)) = W at *
  refine (szNat_any _ (1048576) (by omega) (by omega) r0).mono ?_
  rintro e w1 ⟨rfl, k1⟩
  replace r0 := r0.kept k1 (by omega)
  replace r1 := r1.kept k1 (by omega)
  replace cA0 := k1.cell0 cA0
  replace cA1 := k1.cell0 cA1
  have s1 := k1.size
  replace B := hide (below_step (unhide B) k1 (Nat.le_refl _) (by omega))
  clear k1
  by_cases big0 : (z0.length : Int) ≤ 1048576
  rotate_left
  · rw [if_neg big0]
    go_wp2_with fail
    go_ret
    exact ⟨rfl, unhide B⟩
  rw [if_pos big0]
  have nb0 : ¬ (1048576 - (z0.length : Int)) < 0 := by omega
  go_wp2_with fail
  refine (szNat_any _ ((1048576 - (z0.length : Int))) (by omega) (by omega) r1).mono ?_
  rintro e w2 ⟨rfl, k2⟩
  replace r0 := r0.kept k2 (by omega)
  replace r1 := r1.kept k2 (by omega)
  replace cA0 := k2.cell0 cA0
  replace cA1 := k2.cell0 cA1
  have s2 := k2.size
  replace B := hide (below_step (unhide B) k2 (Nat.le_refl _) (by omega))
  clear k2
  by_cases big1 : (z1.length : Int) ≤ (1048576 - (z0.length : Int))
  rotate_left
  · rw [if_neg big1]
    go_wp2_with fail
    go_ret
    exact ⟨rfl, unhide B⟩
  rw [if_pos big1]
  have nb1 : ¬ ((1048576 - (z0.length : Int)) - (z1.length : Int)) < 0 := by omega
  have hn0 : z0.length ≤ 1099511627776 := by omega
  have hn1 : z1.length ≤ 1099511627776 := by omega
  go_upto_region 8 with fail
  go_cut [6, 7] (fun p0 p1 wx => ∃ X0 v0, p1 = .bool (ansB (okB z0 && okB z1) (val z0 * val z1).toNat) ∧ p0 = .pointer (some ⟨X0, 0, none⟩) ∧ wx.cell? ⟨X0, 0, none⟩ = some v0 ∧ Row .i64 true w2.heap.size wx.heap.size wx v0 (ansL (okB z0 && okB z1) (val z0 * val z1).toNat) ∧ w2.heap.size ≤ X0 ∧ X0 < wx.heap.size ∧ Kept 0 0 w2 wx)
  case first =>
    have bA0 := World.block_lt_of_cell? _ _ cA0
    have bA1 := World.block_lt_of_cell? _ _ cA1
    dsimp only at bA0 bA1
    go_region_held3 (fun w' => w'.cell? ⟨w.heap.size, 0, none⟩ = some (.slice a0 z0.length c0) ∧ w'.cell? ⟨w.heap.size + 1, 0, none⟩ = some (.slice a1 z1.length c1) ∧ Kept 0 0 w2 w')
      (repeat (first | exact h9 | exact h8 | exact h7 | exact ⟨cA0, cA1, Kept.refl 0 0 _⟩ | exact ⟨cA0, cA1, (Kept.refl 0 0 _).drew⟩ | refine hold_alloc _ ?_ | refine hold_drew ?_ | refine hold_set _ ?_ bA0 bA1 (by simp <;> omega)))
      ((first
        | (go_at_call_of 56 (Value.agg #[Value.slice a0 z0.length c0])
           refine (toNat_kept hn0 r0 ?_).mono ?_
           · exact And.right (And.right (by assumption))
           rintro e w3 ⟨v7, rfl, r7, k3⟩
           have s7 := hold_size (by assumption) k3
           have h7 := hold_kept (by assumption) k3
           try
             have xa7 := k3.cell0 (drew_cell (new_cell_at _ _ _ _ rfl))
             have fxa7 := k3.loose0 (by simp <;> omega) (drew_loose (new_loose _ _ _ _ rfl))
             have lxa7 := World.block_lt_of_cell? _ _ xa7
             try simp only [World.size_alloc, heap_drew] at xa7 fxa7 lxa7
             have lxa7n := Nat.ne_of_lt lxa7
             have lxa7m := Nat.ne_of_gt lxa7
           try
             have xb7 := k3.cell0 (new_cell_at _ _ _ _ rfl)
             have fxb7 := k3.loose0 (by simp <;> omega) (new_loose _ _ _ _ rfl)
             have lxb7 := World.block_lt_of_cell? _ _ xb7
             try simp only [World.size_alloc, heap_drew] at xb7 fxb7 lxb7
             have lxb7n := Nat.ne_of_lt lxb7
             have lxb7m := Nat.ne_of_gt lxb7)
        | (go_at_call_of 56 (Value.agg #[Value.slice a1 z1.length c1])
           refine (toNat_kept hn1 r1 ?_).mono ?_
           · exact And.right (And.right (by assumption))
           rintro e w4 ⟨v8, rfl, r8, k4⟩
           have s8 := hold_size (by assumption) k4
           have h8 := hold_kept (by assumption) k4
           try
             have xc8 := k4.cell0 xa7
             have fxc8 := k4.loose0 (by simp <;> omega) fxa7
             have lxc8 := World.block_lt_of_cell? _ _ xc8
             try simp only [World.size_alloc, heap_drew] at xc8 fxc8 lxc8
             have lxc8n := Nat.ne_of_lt lxc8
             have lxc8m := Nat.ne_of_gt lxc8
           try
             have xd8 := k4.cell0 xb7
             have fxd8 := k4.loose0 (by simp <;> omega) fxb7
             have lxd8 := World.block_lt_of_cell? _ _ xd8
             try simp only [World.size_alloc, heap_drew] at xd8 fxd8 lxd8
             have lxd8n := Nat.ne_of_lt lxd8
             have lxd8m := Nat.ne_of_gt lxd8
           try
             have xe8 := k4.cell0 (new_cell_at _ _ _ _ rfl)
             have fxe8 := k4.loose0 (by simp <;> omega) (new_loose _ _ _ _ rfl)
             have lxe8 := World.block_lt_of_cell? _ _ xe8
             try simp only [World.size_alloc, heap_drew] at xe8 fxe8 lxe8
             have lxe8n := Nat.ne_of_lt lxe8
             have lxe8m := Nat.ne_of_gt lxe8)
        | (go_at_call 65
           refine (natMul_spec _ (r7.kept (l := 0) (h := 0) ?_ (Or.inr (Or.inr (Nat.le_refl _)))) (r8.kept (l := 0) (h := 0) ?_ (Or.inr (Or.inr (Nat.le_refl _))))).mono ?_
           · first | exact k4 | exact k4.alloc _ | exact ((Kept.refl 0 0 _).alloc _).trans k4
           · first | exact Kept.refl 0 0 _ | exact (Kept.refl 0 0 _).alloc _
           rintro e w5 ⟨v9_0, rfl, r9_0, k5⟩
           have s9 := hold_size (by assumption) k5
           have h9 := hold_kept (by assumption) k5
           try
             have xf9 := k5.cell0 xc8
             have fxf9 := k5.loose0 (by simp <;> omega) fxc8
             have lxf9 := World.block_lt_of_cell? _ _ xf9
             try simp only [World.size_alloc, heap_drew] at xf9 fxf9 lxf9
             have lxf9n := Nat.ne_of_lt lxf9
             have lxf9m := Nat.ne_of_gt lxf9
           try
             have xg9 := k5.cell0 xd8
             have fxg9 := k5.loose0 (by simp <;> omega) fxd8
             have lxg9 := World.block_lt_of_cell? _ _ xg9
             try simp only [World.size_alloc, heap_drew] at xg9 fxg9 lxg9
             have lxg9n := Nat.ne_of_lt lxg9
             have lxg9m := Nat.ne_of_gt lxg9
           try
             have xi9 := k5.cell0 xe8
             have fxi9 := k5.loose0 (by simp <;> omega) fxe8
             have lxi9 := World.block_lt_of_cell? _ _ xi9
             try simp only [World.size_alloc, heap_drew] at xi9 fxi9 lxi9
             have lxi9n := Nat.ne_of_lt lxi9
             have lxi9m := Nat.ne_of_gt lxi9
           try
             have xj9 := k5.cell0 (new_cell_at _ _ _ _ rfl)
             have fxj9 := k5.loose0 (by simp <;> omega) (new_loose _ _ _ _ rfl)
             have lxj9 := World.block_lt_of_cell? _ _ xj9
             try simp only [World.size_alloc, heap_drew] at xj9 fxj9 lxj9
             have lxj9n := Nat.ne_of_lt lxj9
             have lxj9m := Nat.ne_of_gt lxj9
           obtain ⟨a9_0, d9_0, hv9⟩ := Row.form' r9_0
           subst hv9)))
    all_goals
      have hk9 := h9.2.2
      try simp only [World.size_alloc, heap_drew] at s9
      clear h7 h8 h9 k3 k4 k5 r7 r8
      go_wp2_with fail
      go_meet
      first
        | exact ⟨_, _, rfl, rfl, law_new _ hk9 r9_0 (by (try simp) <;> omega)⟩
        | exact ⟨_, _, rfl, rfl, law_set hk9 (by assumption) r9_0 (by omega) (by (try simp) <;> omega)⟩
  case rest =>
    obtain ⟨Xw0, vw0, rfl, rfl, cw0, rw0, hXw0, hYw0, kk⟩ := hcut
    replace r0 := r0.kept kk (by omega)
    replace r1 := r1.kept kk (by omega)
    replace cA0 := kk.cell0 cA0
    replace cA1 := kk.cell0 cA1
    have s5 := kk.size
    replace B := hide (below_step (unhide B) kk (Nat.le_refl _) (by omega))
    clear kk
    obtain ⟨aw0, dw0, hv⟩ := Row.form' rw0
    subst hv
    generalize hwc : wc = w5 at *
    clear hwc
    go_wp2_with fail
    refine (toNat_any _ hn0 r0).mono ?_
    rintro e w6 ⟨vx0, rfl, rx0, k6⟩
    replace r0 := r0.kept k6 (by omega)
    replace r1 := r1.kept k6 (by omega)
    replace rw0 := rw0.kept k6 (by omega)
    replace cA0 := k6.cell0 cA0
    replace cA1 := k6.cell0 cA1
    replace cw0 := k6.cell0 cw0
    have s6 := k6.size
    replace B := hide (below_step (unhide B) k6 (Nat.le_refl _) (by omega))
    clear k6
    have sx0 := rx0
    clear sx0
    obtain ⟨ax0, dx0, hv⟩ := Row.form' rx0
    subst hv
    have k7 := (Kept.refl 0 0 w6).alloc (.cells #[.slice ax0 z0.length dx0] 26)
    have cx0 : (w6.alloc (.cells #[.slice ax0 z0.length dx0] 26)).cell? ⟨w6.heap.size, 0, none⟩ = some (.slice ax0 z0.length dx0) := new_cell_at _ _ _ _ rfl
    have t7 : w6.heap.size + 1 ≤ (w6.alloc (.cells #[.slice ax0 z0.length dx0] 26)).heap.size := by simp
    replace r0 := r0.kept k7 (by omega)
    replace r1 := r1.kept k7 (by omega)
    replace rw0 := rw0.kept k7 (by omega)
    replace rx0 := rx0.kept k7 (by omega)
    replace cA0 := k7.cell0 cA0
    replace cA1 := k7.cell0 cA1
    replace cw0 := k7.cell0 cw0
    have s7 := k7.size
    replace B := hide (below_step (unhide B) k7 (Nat.le_refl _) (by omega))
    clear k7
    go_wp2_with fail
    generalize w6.alloc (.cells #[.slice ax0 z0.length dx0] 26) = w7 at *
    refine (toNat_any _ hn1 r1).mono ?_
    rintro e w8 ⟨vx1, rfl, rx1, k8⟩
    replace r0 := r0.kept k8 (by omega)
    replace r1 := r1.kept k8 (by omega)
    replace rw0 := rw0.kept k8 (by omega)
    replace rx0 := rx0.kept k8 (by omega)
    replace cA0 := k8.cell0 cA0
    replace cA1 := k8.cell0 cA1
    replace cw0 := k8.cell0 cw0
    replace cx0 := k8.cell0 cx0
    have s8 := k8.size
    replace B := hide (below_step (unhide B) k8 (Nat.le_refl _) (by omega))
    clear k8
    have sx1 := rx1
    clear sx1
    obtain ⟨ax1, dx1, hv⟩ := Row.form' rx1
    subst hv
    have k9 := (Kept.refl 0 0 w8).alloc (.cells #[.slice ax1 z1.length dx1] 26)
    have cx1 : (w8.alloc (.cells #[.slice ax1 z1.length dx1] 26)).cell? ⟨w8.heap.size, 0, none⟩ = some (.slice ax1 z1.length dx1) := new_cell_at _ _ _ _ rfl
    have t9 : w8.heap.size + 1 ≤ (w8.alloc (.cells #[.slice ax1 z1.length dx1] 26)).heap.size := by simp
    replace r0 := r0.kept k9 (by omega)
    replace r1 := r1.kept k9 (by omega)
    replace rw0 := rw0.kept k9 (by omega)
    replace rx0 := rx0.kept k9 (by omega)
    replace rx1 := rx1.kept k9 (by omega)
    replace cA0 := k9.cell0 cA0
    replace cA1 := k9.cell0 cA1
    replace cw0 := k9.cell0 cw0
    replace cx0 := k9.cell0 cx0
    have s9 := k9.size
    replace B := hide (below_step (unhide B) k9 (Nat.le_refl _) (by omega))
    clear k9
    go_wp2_with fail
    generalize w8.alloc (.cells #[.slice ax1 z1.length dx1] 26) = w9 at *
    refine (natMul_impl _ rx0 rx1).mono ?_
    rintro e w10 ⟨vg0, rfl, rg0, k10⟩
    replace r0 := r0.kept k10 (by omega)
    replace r1 := r1.kept k10 (by omega)
    replace rw0 := rw0.kept k10 (by omega)
    replace rx0 := rx0.kept k10 (by omega)
    replace rx1 := rx1.kept k10 (by omega)
    replace cA0 := k10.cell0 cA0
    replace cA1 := k10.cell0 cA1
    replace cw0 := k10.cell0 cw0
    replace cx0 := k10.cell0 cx0
    replace cx1 := k10.cell0 cx1
    have s10 := k10.size
    replace B := hide (below_step (unhide B) k10 (Nat.le_refl _) (by omega))
    clear k10
    obtain ⟨ag0, dg0, hv⟩ := Row.form' rg0
    subst hv
    have k11 := (Kept.refl 0 0 w10).alloc (.cells #[.slice ag0 (ansL (okB z0 && okB z1) (val z0 * val z1).toNat).length dg0] 26)
    have cg0 : (w10.alloc (.cells #[.slice ag0 (ansL (okB z0 && okB z1) (val z0 * val z1).toNat).length dg0] 26)).cell? ⟨w10.heap.size, 0, none⟩ = some (.slice ag0 (ansL (okB z0 && okB z1) (val z0 * val z1).toNat).length dg0) := new_cell_at _ _ _ _ rfl
    have t11 : w10.heap.size + 1 ≤ (w10.alloc (.cells #[.slice ag0 (ansL (okB z0 && okB z1) (val z0 * val z1).toNat).length dg0] 26)).heap.size := by simp
    replace r0 := r0.kept k11 (by omega)
    replace r1 := r1.kept k11 (by omega)
    replace rw0 := rw0.kept k11 (by omega)
    replace rx0 := rx0.kept k11 (by omega)
    replace rx1 := rx1.kept k11 (by omega)
    replace rg0 := rg0.kept k11 (by omega)
    replace cA0 := k11.cell0 cA0
    replace cA1 := k11.cell0 cA1
    replace cw0 := k11.cell0 cw0
    replace cx0 := k11.cell0 cx0
    replace cx1 := k11.cell0 cx1
    have s11 := k11.size
    replace B := hide (below_step (unhide B) k11 (Nat.le_refl _) (by omega))
    clear k11
    go_wp2_with fail
    generalize w10.alloc (.cells #[.slice ag0 (ansL (okB z0 && okB z1) (val z0 * val z1).toNat).length dg0] 26) = w11 at *
    refine (eqNat_same _ rg0 rw0).mono ?_
    rintro e w12 ⟨rfl, k12⟩
    replace r0 := r0.kept k12 (by omega)
    replace r1 := r1.kept k12 (by omega)
    replace rw0 := rw0.kept k12 (by omega)
    replace rx0 := rx0.kept k12 (by omega)
    replace rx1 := rx1.kept k12 (by omega)
    replace rg0 := rg0.kept k12 (by omega)
    replace cA0 := k12.cell0 cA0
    replace cA1 := k12.cell0 cA1
    replace cw0 := k12.cell0 cw0
    replace cx0 := k12.cell0 cx0
    replace cx1 := k12.cell0 cx1
    replace cg0 := k12.cell0 cg0
    have s12 := k12.size
    replace B := hide (below_step (unhide B) k12 (Nat.le_refl _) (by omega))
    clear k12
    go_wp2_with fail
    have ra7 := r0.kept ((Kept.refl 0 0 w12).drew) (by omega)
    go_region_held3 (fun w' => w'.cell? ⟨w.heap.size, 0, none⟩ = some (.slice a0 z0.length c0) ∧ w'.cell? ⟨w6.heap.size, 0, none⟩ = some (.slice ax0 z0.length dx0)) (first | exact ⟨cA0, cx0⟩ | exact ⟨k13.cell0 cA0, k13.cell0 cx0⟩ | exact ⟨k14.cell0 (k13.cell0 cA0), k14.cell0 (k13.cell0 cx0)⟩)
      ((first
        | (go_at_call 56
           refine (toNat_any _ hn0 ra7).mono ?_
           rintro e w13 ⟨v7, rfl, r7, k13⟩)
        | (go_at_call 57
           refine (eqNat_same _ (rx0.kept ((Kept.refl 0 0 _).drew.trans k13) (Or.inr (Or.inr (Nat.le_refl _)))) r7).mono ?_
           rintro e w14 ⟨rfl, k14⟩)))
    have kk := (Kept.refl 0 0 w12).drew.trans (k13.trans k14)
    clear k13 k14 ra7 r7
    replace r0 := r0.kept kk (by omega)
    replace r1 := r1.kept kk (by omega)
    replace rw0 := rw0.kept kk (by omega)
    replace rx0 := rx0.kept kk (by omega)
    replace rx1 := rx1.kept kk (by omega)
    replace rg0 := rg0.kept kk (by omega)
    replace cA0 := kk.cell0 cA0
    replace cA1 := kk.cell0 cA1
    replace cw0 := kk.cell0 cw0
    replace cx0 := kk.cell0 cx0
    replace cx1 := kk.cell0 cx1
    replace cg0 := kk.cell0 cg0
    have s14 := kk.size
    replace B := hide (below_step (unhide B) kk (Nat.le_refl _) (by omega))
    clear kk
    go_wp2_with fail
    have ra7 := r1.kept ((Kept.refl 0 0 w14).drew) (by omega)
    go_region_held3 (fun w' => w'.cell? ⟨w.heap.size + 1, 0, none⟩ = some (.slice a1 z1.length c1) ∧ w'.cell? ⟨w8.heap.size, 0, none⟩ = some (.slice ax1 z1.length dx1)) (first | exact ⟨cA1, cx1⟩ | exact ⟨k15.cell0 cA1, k15.cell0 cx1⟩ | exact ⟨k16.cell0 (k15.cell0 cA1), k16.cell0 (k15.cell0 cx1)⟩)
      ((first
        | (go_at_call 56
           refine (toNat_any _ hn1 ra7).mono ?_
           rintro e w15 ⟨v7, rfl, r7, k15⟩)
        | (go_at_call 57
           refine (eqNat_same _ (rx1.kept ((Kept.refl 0 0 _).drew.trans k15) (Or.inr (Or.inr (Nat.le_refl _)))) r7).mono ?_
           rintro e w16 ⟨rfl, k16⟩)))
    have kk := (Kept.refl 0 0 w14).drew.trans (k15.trans k16)
    clear k15 k16 ra7 r7
    replace r0 := r0.kept kk (by omega)
    replace r1 := r1.kept kk (by omega)
    replace rw0 := rw0.kept kk (by omega)
    replace rx0 := rx0.kept kk (by omega)
    replace rx1 := rx1.kept kk (by omega)
    replace rg0 := rg0.kept kk (by omega)
    replace cA0 := kk.cell0 cA0
    replace cA1 := kk.cell0 cA1
    replace cw0 := kk.cell0 cw0
    replace cx0 := kk.cell0 cx0
    replace cx1 := kk.cell0 cx1
    replace cg0 := kk.cell0 cg0
    have s16 := kk.size
    replace B := hide (below_step (unhide B) kk (Nat.le_refl _) (by omega))
    clear kk
    go_wp2_with fail
    refine (markNat_wide _ (1) (by omega) (by omega) hn0 rx0).mono ?_
    rintro e w17 ⟨rfl, -, k17⟩
    replace r0 := r0.kept k17 (by omega)
    replace r1 := r1.kept k17 (by omega)
    replace rw0 := rw0.kept k17 (by omega)
    replace rx1 := rx1.kept k17 (by omega)
    replace rg0 := rg0.kept k17 (by omega)
    replace cA0 := k17.cellOut (by simp <;> omega) cA0
    replace cA1 := k17.cellOut (by simp <;> omega) cA1
    replace cw0 := k17.cellOut (by simp <;> omega) cw0
    replace cx0 := k17.cellOut (by simp <;> omega) cx0
    replace cx1 := k17.cellOut (by simp <;> omega) cx1
    replace cg0 := k17.cellOut (by simp <;> omega) cg0
    have s17 := k17.size
    replace B := hide (below_step (unhide B) k17 (Nat.le_refl _) (by omega))
    clear k17
    clear rx0
    go_wp2_with fail
    refine (markNat_wide _ ((1 + (z0.length : Int))) (by omega) (by omega) hn1 rx1).mono ?_
    rintro e w18 ⟨rfl, -, k18⟩
    replace r0 := r0.kept k18 (by omega)
    replace r1 := r1.kept k18 (by omega)
    replace rw0 := rw0.kept k18 (by omega)
    replace rg0 := rg0.kept k18 (by omega)
    replace cA0 := k18.cellOut (by simp <;> omega) cA0
    replace cA1 := k18.cellOut (by simp <;> omega) cA1
    replace cw0 := k18.cellOut (by simp <;> omega) cw0
    replace cx0 := k18.cellOut (by simp <;> omega) cx0
    replace cx1 := k18.cellOut (by simp <;> omega) cx1
    replace cg0 := k18.cellOut (by simp <;> omega) cg0
    have s18 := k18.size
    replace B := hide (below_step (unhide B) k18 (Nat.le_refl _) (by omega))
    clear k18
    clear rx1
    go_wp2_with fail
    refine (eqNat_same _ rg0 rw0).mono ?_
    rintro e w19 ⟨rfl, k19⟩
    replace r0 := r0.kept k19 (by omega)
    replace r1 := r1.kept k19 (by omega)
    replace rw0 := rw0.kept k19 (by omega)
    replace rg0 := rg0.kept k19 (by omega)
    replace cA0 := k19.cell0 cA0
    replace cA1 := k19.cell0 cA1
    replace cw0 := k19.cell0 cw0
    replace cx0 := k19.cell0 cx0
    replace cx1 := k19.cell0 cx1
    replace cg0 := k19.cell0 cg0
    have s19 := k19.size
    replace B := hide (below_step (unhide B) k19 (Nat.le_refl _) (by omega))
    clear k19
    have nk : ¬ ((1 + (z0.length : Int)) + (z1.length : Int)) < 0 := by omega
    go_wp2_with fail
    refine (markNat_wide _ (1) (by omega) (by omega) hl0 rg0).mono ?_
    rintro e w20 ⟨rfl, rm0, k20⟩
    replace r0 := r0.kept k20 (by omega)
    replace r1 := r1.kept k20 (by omega)
    replace rw0 := rw0.kept k20 (by omega)
    replace cA0 := k20.cellOut (by simp <;> omega) cA0
    replace cA1 := k20.cellOut (by simp <;> omega) cA1
    replace cw0 := k20.cellOut (by simp <;> omega) cw0
    replace cx0 := k20.cellOut (by simp <;> omega) cx0
    replace cx1 := k20.cellOut (by simp <;> omega) cx1
    replace cg0 := k20.cellOut (by simp <;> omega) cg0
    have s20 := k20.size
    replace B := hide (below_step (unhide B) k20 (Nat.le_refl _) (by omega))
    clear k20
    clear rg0
    go_wp2_with fail
    refine (heldNat_any _ (1) (by omega) (by omega) hl0 rm0).mono ?_
    rintro e w21 ⟨rfl, k21⟩
    replace r0 := r0.kept k21 (by omega)
    replace r1 := r1.kept k21 (by omega)
    replace rw0 := rw0.kept k21 (by omega)
    replace rm0 := rm0.kept k21 (by omega)
    replace cA0 := k21.cell0 cA0
    replace cA1 := k21.cell0 cA1
    replace cw0 := k21.cell0 cw0
    replace cx0 := k21.cell0 cx0
    replace cx1 := k21.cell0 cx1
    replace cg0 := k21.cell0 cg0
    have s21 := k21.size
    replace B := hide (below_step (unhide B) k21 (Nat.le_refl _) (by omega))
    clear k21
    have nq : ¬ (1 + ((ansL (okB z0 && okB z1) (val z0 * val z1).toNat).length : Int)) < 0 := by omega
    go_upto_region 31 with fail
    go_cut [15, 16] (fun p0 p1 wx => ∃ X0 v0, p1 = .bool (ansB (okB z0 && okB z1) (val z0 * val z1).toNat) ∧ p0 = .pointer (some ⟨X0, 0, none⟩) ∧ wx.cell? ⟨X0, 0, none⟩ = some v0 ∧ Row .i64 true w21.heap.size wx.heap.size wx v0 (ansL (okB z0 && okB z1) (val z0 * val z1).toNat) ∧ w21.heap.size ≤ X0 ∧ X0 < wx.heap.size ∧ Kept 0 0 w21 wx)
    case first =>
      have bA0 := World.block_lt_of_cell? _ _ cA0
      have bA1 := World.block_lt_of_cell? _ _ cA1
      dsimp only at bA0 bA1
      go_region_held3 (fun w' => w'.cell? ⟨w.heap.size, 0, none⟩ = some (.slice a0 z0.length c0) ∧ w'.cell? ⟨w.heap.size + 1, 0, none⟩ = some (.slice a1 z1.length c1) ∧ Kept 0 0 w21 w')
        (repeat (first | exact h9 | exact h8 | exact h7 | exact ⟨cA0, cA1, Kept.refl 0 0 _⟩ | exact ⟨cA0, cA1, (Kept.refl 0 0 _).drew⟩ | refine hold_alloc _ ?_ | refine hold_drew ?_ | refine hold_set _ ?_ bA0 bA1 (by simp <;> omega)))
        ((first
          | (go_at_call_of 56 (Value.agg #[Value.slice a0 z0.length c0])
             refine (toNat_kept hn0 r0 ?_).mono ?_
             · exact And.right (And.right (by assumption))
             rintro e w22 ⟨v7, rfl, r7, k22⟩
             have s7 := hold_size (by assumption) k22
             have h7 := hold_kept (by assumption) k22
             try
               have xa7 := k22.cell0 (drew_cell (new_cell_at _ _ _ _ rfl))
               have fxa7 := k22.loose0 (by simp <;> omega) (drew_loose (new_loose _ _ _ _ rfl))
               have lxa7 := World.block_lt_of_cell? _ _ xa7
               try simp only [World.size_alloc, heap_drew] at xa7 fxa7 lxa7
               have lxa7n := Nat.ne_of_lt lxa7
               have lxa7m := Nat.ne_of_gt lxa7
             try
               have xb7 := k22.cell0 (new_cell_at _ _ _ _ rfl)
               have fxb7 := k22.loose0 (by simp <;> omega) (new_loose _ _ _ _ rfl)
               have lxb7 := World.block_lt_of_cell? _ _ xb7
               try simp only [World.size_alloc, heap_drew] at xb7 fxb7 lxb7
               have lxb7n := Nat.ne_of_lt lxb7
               have lxb7m := Nat.ne_of_gt lxb7)
          | (go_at_call_of 56 (Value.agg #[Value.slice a1 z1.length c1])
             refine (toNat_kept hn1 r1 ?_).mono ?_
             · exact And.right (And.right (by assumption))
             rintro e w23 ⟨v8, rfl, r8, k23⟩
             have s8 := hold_size (by assumption) k23
             have h8 := hold_kept (by assumption) k23
             try
               have xc8 := k23.cell0 xa7
               have fxc8 := k23.loose0 (by simp <;> omega) fxa7
               have lxc8 := World.block_lt_of_cell? _ _ xc8
               try simp only [World.size_alloc, heap_drew] at xc8 fxc8 lxc8
               have lxc8n := Nat.ne_of_lt lxc8
               have lxc8m := Nat.ne_of_gt lxc8
             try
               have xd8 := k23.cell0 xb7
               have fxd8 := k23.loose0 (by simp <;> omega) fxb7
               have lxd8 := World.block_lt_of_cell? _ _ xd8
               try simp only [World.size_alloc, heap_drew] at xd8 fxd8 lxd8
               have lxd8n := Nat.ne_of_lt lxd8
               have lxd8m := Nat.ne_of_gt lxd8
             try
               have xe8 := k23.cell0 (new_cell_at _ _ _ _ rfl)
               have fxe8 := k23.loose0 (by simp <;> omega) (new_loose _ _ _ _ rfl)
               have lxe8 := World.block_lt_of_cell? _ _ xe8
               try simp only [World.size_alloc, heap_drew] at xe8 fxe8 lxe8
               have lxe8n := Nat.ne_of_lt lxe8
               have lxe8m := Nat.ne_of_gt lxe8)
          | (go_at_call 31
             refine (natMul_impl _ (r7.kept (l := 0) (h := 0) ?_ (Or.inr (Or.inr (Nat.le_refl _)))) (r8.kept (l := 0) (h := 0) ?_ (Or.inr (Or.inr (Nat.le_refl _))))).mono ?_
             · first | exact k23 | exact k23.alloc _ | exact ((Kept.refl 0 0 _).alloc _).trans k23
             · first | exact Kept.refl 0 0 _ | exact (Kept.refl 0 0 _).alloc _
             rintro e w24 ⟨v9_0, rfl, r9_0, k24⟩
             have s9 := hold_size (by assumption) k24
             have h9 := hold_kept (by assumption) k24
             try
               have xf9 := k24.cell0 xc8
               have fxf9 := k24.loose0 (by simp <;> omega) fxc8
               have lxf9 := World.block_lt_of_cell? _ _ xf9
               try simp only [World.size_alloc, heap_drew] at xf9 fxf9 lxf9
               have lxf9n := Nat.ne_of_lt lxf9
               have lxf9m := Nat.ne_of_gt lxf9
             try
               have xg9 := k24.cell0 xd8
               have fxg9 := k24.loose0 (by simp <;> omega) fxd8
               have lxg9 := World.block_lt_of_cell? _ _ xg9
               try simp only [World.size_alloc, heap_drew] at xg9 fxg9 lxg9
               have lxg9n := Nat.ne_of_lt lxg9
               have lxg9m := Nat.ne_of_gt lxg9
             try
               have xi9 := k24.cell0 xe8
               have fxi9 := k24.loose0 (by simp <;> omega) fxe8
               have lxi9 := World.block_lt_of_cell? _ _ xi9
               try simp only [World.size_alloc, heap_drew] at xi9 fxi9 lxi9
               have lxi9n := Nat.ne_of_lt lxi9
               have lxi9m := Nat.ne_of_gt lxi9
             try
               have xj9 := k24.cell0 (new_cell_at _ _ _ _ rfl)
               have fxj9 := k24.loose0 (by simp <;> omega) (new_loose _ _ _ _ rfl)
               have lxj9 := World.block_lt_of_cell? _ _ xj9
               try simp only [World.size_alloc, heap_drew] at xj9 fxj9 lxj9
               have lxj9n := Nat.ne_of_lt lxj9
               have lxj9m := Nat.ne_of_gt lxj9
             obtain ⟨a9_0, d9_0, hv9⟩ := Row.form' r9_0
             subst hv9)))
      all_goals
        have hk9 := h9.2.2
        try simp only [World.size_alloc, heap_drew] at s9
        clear h7 h8 h9 k22 k23 k24 r7 r8
        go_wp2_with fail
        go_meet
        first
          | exact ⟨_, _, rfl, rfl, law_new _ hk9 r9_0 (by (try simp) <;> omega)⟩
          | exact ⟨_, _, rfl, rfl, law_set hk9 (by assumption) r9_0 (by omega) (by (try simp) <;> omega)⟩
    case rest =>
      obtain ⟨Xh0, vh0, rfl, rfl, ch0, rh0, hXh0, hYh0, kk⟩ := hcut
      replace r0 := r0.kept kk (by omega)
      replace r1 := r1.kept kk (by omega)
      replace rw0 := rw0.kept kk (by omega)
      replace rm0 := rm0.kept kk (by omega)
      replace cA0 := kk.cell0 cA0
      replace cA1 := kk.cell0 cA1
      replace cw0 := kk.cell0 cw0
      replace cx0 := kk.cell0 cx0
      replace cx1 := kk.cell0 cx1
      replace cg0 := kk.cell0 cg0
      have s24 := kk.size
      replace B := hide (below_step (unhide B) kk (Nat.le_refl _) (by omega))
      clear kk
      obtain ⟨ah0, dh0, hv⟩ := Row.form' rh0
      subst hv
      generalize hwc : wc = w24 at *
      clear hwc
      go_wp2_with fail
      refine (eqNat_same _ rh0 rw0).mono ?_
      rintro e w25 ⟨rfl, k25⟩
      replace r0 := r0.kept k25 (by omega)
      replace r1 := r1.kept k25 (by omega)
      replace rw0 := rw0.kept k25 (by omega)
      replace rm0 := rm0.kept k25 (by omega)
      replace rh0 := rh0.kept k25 (by omega)
      replace cA0 := k25.cell0 cA0
      replace cA1 := k25.cell0 cA1
      replace cw0 := k25.cell0 cw0
      replace cx0 := k25.cell0 cx0
      replace cx1 := k25.cell0 cx1
      replace cg0 := k25.cell0 cg0
      replace ch0 := k25.cell0 ch0
      have s25 := k25.size
      replace B := hide (below_step (unhide B) k25 (Nat.le_refl _) (by omega))
      clear k25
      go_wp2_with fail
      refine (heldNat_any _ (1) (by omega) (by omega) hl0 rm0).mono ?_
      rintro e w26 ⟨rfl, k26⟩
      replace r0 := r0.kept k26 (by omega)
      replace r1 := r1.kept k26 (by omega)
      replace rw0 := rw0.kept k26 (by omega)
      replace rm0 := rm0.kept k26 (by omega)
      replace rh0 := rh0.kept k26 (by omega)
      replace cA0 := k26.cell0 cA0
      replace cA1 := k26.cell0 cA1
      replace cw0 := k26.cell0 cw0
      replace cx0 := k26.cell0 cx0
      replace cx1 := k26.cell0 cx1
      replace cg0 := k26.cell0 cg0
      replace ch0 := k26.cell0 ch0
      have s26 := k26.size
      replace B := hide (below_step (unhide B) k26 (Nat.le_refl _) (by omega))
      clear k26
      go_wp2_with fail
      go_ret
      exact ⟨rfl, unhide B⟩

end Go.Proofs.Ytolciidbkhkfgaa
