/-
  The walk of the law FnExactNatPow: it returns true at every argument.
-/
import Derived.Test.YtolciidbkhkfgaaINat29
import Derived.Test.YtolciidbkhkfgaaLaw2
import Derived.Deep.RegionHeld3
namespace Go.Proofs.Ytolciidbkhkfgaa
open Go.RowKit
set_option linter.unusedVariables false
set_option maxRecDepth 8000
set_option linter.unusedSimpArgs false

theorem wf_NatPow {n : Int} (h : (Lit.int .i64 n).wf = true) : n ≤ 9223372036854775807 ∧ -9223372036854775808 ≤ n := by
  have e : (Lit.int .i64 n).wf = (decide (IntKind.i64.min ≤ n) && decide (n ≤ IntKind.i64.max)) := rfl
  rw [e, show IntKind.i64.min = -9223372036854775808 by decide, show IntKind.i64.max = 9223372036854775807 by decide] at h
  simp at h
  omega

set_option maxHeartbeats 16000000 in
theorem law_NatPow {u0 : Value} {z0 : List Int} {w : World} (r0 : Row .i64 false 0 w.heap.size w u0 z0) (b0 : ∀ z ∈ z0, (Lit.int .i64 z).wf = true) (p1 : Int) (f1 : (Lit.int .i64 p1).wf = true) :
    Calls Try.prog 24 #[.agg #[u0], .int .i64 p1] w fun e w' => e = .returned (.bool true) ∧ Below w.heap.size w w' := by
  clear b0
  have g1 : p1 ≤ 9223372036854775807 ∧ -9223372036854775808 ≤ p1 := wf_NatPow f1
  clear f1
  have hl0 : (ansL (powOk z0 p1) ((val z0).toNat ^ p1.toNat)).length ≤ 1099511627776 := by have := ansL_len (powOk z0 p1) ((val z0).toNat ^ p1.toNat); omega
  have hl0' := ansL_len (powOk z0 p1) ((val z0).toNat ^ p1.toNat)
  obtain ⟨a0, c0, hv0⟩ := Row.form' r0
  subst hv0
  have hm0 := r0.len
  unfold maxLen at hm0
  have k0 : Kept 0 0 w (w.alloc (.cells #[.slice a0 z0.length c0] 53)) := ((Kept.refl 0 0 w).alloc (.cells #[.slice a0 z0.length c0] 53))
  have cA0 : (w.alloc (.cells #[.slice a0 z0.length c0] 53)).cell? ⟨w.heap.size, 0, none⟩ = some (.slice a0 z0.length c0) := new_cell_at _ _ _ _ (by simp)
  replace r0 := r0.kept k0 (by omega)
  have B := hide k0.toBelow
  have s0 : w.heap.size + 1 ≤ (w.alloc (.cells #[.slice a0 z0.length c0] 53)).heap.size := by simp
  clear k0
  go_enter Try.func24, Try.ntmps24
  go_wp2_with fail
  generalize (w.alloc (.cells #[.slice a0 z0.length c0] 53)) = W at *
  refine (szNat_any _ (1048576) (by omega) (by omega) r0).mono ?_
  rintro e w1 ⟨rfl, k1⟩
  replace r0 := r0.kept k1 (by omega)
  replace cA0 := k1.cell0 cA0
  have s1 := k1.size
  replace B := hide (below_step (unhide B) k1 (Nat.le_refl _) (by omega))
  clear k1
  by_cases big0 : (z0.length : Int) ≤ 1048576
  rotate_left
  · rw [if_neg big0]
    go_wp2_with fail
    go_ret
    exact ⟨rfl, unhide B⟩
  rw [if_pos big0]
  have nb0 : ¬ (1048576 - (z0.length : Int)) < 0 := by omega
  have hn0 : z0.length ≤ 1099511627776 := by omega
  go_wp2_with fail
  refine (toNat_any _ hn0 r0).mono ?_
  rintro e w2 ⟨yv0, rfl, yr0, k2⟩
  replace r0 := r0.kept k2 (by omega)
  replace cA0 := k2.cell0 cA0
  have s2 := k2.size
  replace B := hide (below_step (unhide B) k2 (Nat.le_refl _) (by omega))
  clear k2
  go_wp2_with fail
  refine (natPow_spec _ yr0 p1 g1.1 g1.2).mono ?_
  rintro e w3 ⟨vw0, rfl, rw0, k3⟩
  replace r0 := r0.kept k3 (by omega)
  replace yr0 := yr0.kept k3 (by omega)
  replace cA0 := k3.cell0 cA0
  have s3 := k3.size
  replace B := hide (below_step (unhide B) k3 (Nat.le_refl _) (by omega))
  clear k3
  clear yr0
  obtain ⟨aw0, dw0, hv⟩ := Row.form' rw0
  subst hv
  have k4 := (Kept.refl 0 0 w3).alloc (.cells #[.slice aw0 (ansL (powOk z0 p1) ((val z0).toNat ^ p1.toNat)).length dw0] 26)
  have cw0 : (w3.alloc (.cells #[.slice aw0 (ansL (powOk z0 p1) ((val z0).toNat ^ p1.toNat)).length dw0] 26)).cell? ⟨w3.heap.size, 0, none⟩ = some (.slice aw0 (ansL (powOk z0 p1) ((val z0).toNat ^ p1.toNat)).length dw0) := new_cell_at _ _ _ _ rfl
  have t4 : w3.heap.size + 1 ≤ (w3.alloc (.cells #[.slice aw0 (ansL (powOk z0 p1) ((val z0).toNat ^ p1.toNat)).length dw0] 26)).heap.size := by simp
  replace r0 := r0.kept k4 (by omega)
  replace rw0 := rw0.kept k4 (by omega)
  replace cA0 := k4.cell0 cA0
  have s4 := k4.size
  replace B := hide (below_step (unhide B) k4 (Nat.le_refl _) (by omega))
  clear k4
  go_wp2_with fail
  generalize w3.alloc (.cells #[.slice aw0 (ansL (powOk z0 p1) ((val z0).toNat ^ p1.toNat)).length dw0] 26) = w4 at *
  refine (toNat_any _ hn0 r0).mono ?_
  rintro e w5 ⟨vx0, rfl, rx0, k5⟩
  replace r0 := r0.kept k5 (by omega)
  replace rw0 := rw0.kept k5 (by omega)
  replace cA0 := k5.cell0 cA0
  replace cw0 := k5.cell0 cw0
  have s5 := k5.size
  replace B := hide (below_step (unhide B) k5 (Nat.le_refl _) (by omega))
  clear k5
  have sx0 := rx0
  clear sx0
  obtain ⟨ax0, dx0, hv⟩ := Row.form' rx0
  subst hv
  have k6 := (Kept.refl 0 0 w5).alloc (.cells #[.slice ax0 z0.length dx0] 26)
  have cx0 : (w5.alloc (.cells #[.slice ax0 z0.length dx0] 26)).cell? ⟨w5.heap.size, 0, none⟩ = some (.slice ax0 z0.length dx0) := new_cell_at _ _ _ _ rfl
  have t6 : w5.heap.size + 1 ≤ (w5.alloc (.cells #[.slice ax0 z0.length dx0] 26)).heap.size := by simp
  replace r0 := r0.kept k6 (by omega)
  replace rw0 := rw0.kept k6 (by omega)
  replace rx0 := rx0.kept k6 (by omega)
  replace cA0 := k6.cell0 cA0
  replace cw0 := k6.cell0 cw0
  have s6 := k6.size
  replace B := hide (below_step (unhide B) k6 (Nat.le_refl _) (by omega))
  clear k6
  go_wp2_with fail
  generalize w5.alloc (.cells #[.slice ax0 z0.length dx0] 26) = w6 at *
  refine (natPow_impl _ rx0 p1 g1.1 g1.2).mono ?_
  rintro e w7 ⟨vg0, rfl, rg0, k7⟩
  replace r0 := r0.kept k7 (by omega)
  replace rw0 := rw0.kept k7 (by omega)
  replace rx0 := rx0.kept k7 (by omega)
  replace cA0 := k7.cell0 cA0
  replace cw0 := k7.cell0 cw0
  replace cx0 := k7.cell0 cx0
  have s7 := k7.size
  replace B := hide (below_step (unhide B) k7 (Nat.le_refl _) (by omega))
  clear k7
  obtain ⟨ag0, dg0, hv⟩ := Row.form' rg0
  subst hv
  have k8 := (Kept.refl 0 0 w7).alloc (.cells #[.slice ag0 (ansL (powOk z0 p1) ((val z0).toNat ^ p1.toNat)).length dg0] 26)
  have cg0 : (w7.alloc (.cells #[.slice ag0 (ansL (powOk z0 p1) ((val z0).toNat ^ p1.toNat)).length dg0] 26)).cell? ⟨w7.heap.size, 0, none⟩ = some (.slice ag0 (ansL (powOk z0 p1) ((val z0).toNat ^ p1.toNat)).length dg0) := new_cell_at _ _ _ _ rfl
  have t8 : w7.heap.size + 1 ≤ (w7.alloc (.cells #[.slice ag0 (ansL (powOk z0 p1) ((val z0).toNat ^ p1.toNat)).length dg0] 26)).heap.size := by simp
  replace r0 := r0.kept k8 (by omega)
  replace rw0 := rw0.kept k8 (by omega)
  replace rx0 := rx0.kept k8 (by omega)
  replace rg0 := rg0.kept k8 (by omega)
  replace cA0 := k8.cell0 cA0
  replace cw0 := k8.cell0 cw0
  replace cx0 := k8.cell0 cx0
  have s8 := k8.size
  replace B := hide (below_step (unhide B) k8 (Nat.le_refl _) (by omega))
  clear k8
  go_wp2_with fail
  generalize w7.alloc (.cells #[.slice ag0 (ansL (powOk z0 p1) ((val z0).toNat ^ p1.toNat)).length dg0] 26) = w8 at *
  refine (eqNat_same _ rg0 rw0).mono ?_
  rintro e w9 ⟨rfl, k9⟩
  replace r0 := r0.kept k9 (by omega)
  replace rw0 := rw0.kept k9 (by omega)
  replace rx0 := rx0.kept k9 (by omega)
  replace rg0 := rg0.kept k9 (by omega)
  replace cA0 := k9.cell0 cA0
  replace cw0 := k9.cell0 cw0
  replace cx0 := k9.cell0 cx0
  replace cg0 := k9.cell0 cg0
  have s9 := k9.size
  replace B := hide (below_step (unhide B) k9 (Nat.le_refl _) (by omega))
  clear k9
  go_wp2_with fail
  have ra7 := r0.kept ((Kept.refl 0 0 w9).drew) (by omega)
  go_region_held3 (fun w' => w'.cell? ⟨w.heap.size, 0, none⟩ = some (.slice a0 z0.length c0) ∧ w'.cell? ⟨w5.heap.size, 0, none⟩ = some (.slice ax0 z0.length dx0)) (first | exact ⟨cA0, cx0⟩ | exact ⟨k10.cell0 cA0, k10.cell0 cx0⟩ | exact ⟨k11.cell0 (k10.cell0 cA0), k11.cell0 (k10.cell0 cx0)⟩)
    ((first
      | (go_at_call 56
         refine (toNat_any _ hn0 ra7).mono ?_
         rintro e w10 ⟨v7, rfl, r7, k10⟩)
      | (go_at_call 57
         refine (eqNat_same _ (rx0.kept ((Kept.refl 0 0 _).drew.trans k10) (Or.inr (Or.inr (Nat.le_refl _)))) r7).mono ?_
         rintro e w11 ⟨rfl, k11⟩)))
  have kk := (Kept.refl 0 0 w9).drew.trans (k10.trans k11)
  clear k10 k11 ra7 r7
  replace r0 := r0.kept kk (by omega)
  replace rw0 := rw0.kept kk (by omega)
  replace rx0 := rx0.kept kk (by omega)
  replace rg0 := rg0.kept kk (by omega)
  replace cA0 := kk.cell0 cA0
  replace cw0 := kk.cell0 cw0
  replace cx0 := kk.cell0 cx0
  replace cg0 := kk.cell0 cg0
  have s11 := kk.size
  replace B := hide (below_step (unhide B) kk (Nat.le_refl _) (by omega))
  clear kk
  go_wp2_with fail
  refine (markNat_wide _ (1) (by omega) (by omega) hn0 rx0).mono ?_
  rintro e w12 ⟨rfl, -, k12⟩
  replace r0 := r0.kept k12 (by omega)
  replace rw0 := rw0.kept k12 (by omega)
  replace rg0 := rg0.kept k12 (by omega)
  replace cA0 := k12.cellOut (by simp <;> omega) cA0
  replace cw0 := k12.cellOut (by simp <;> omega) cw0
  replace cx0 := k12.cellOut (by simp <;> omega) cx0
  replace cg0 := k12.cellOut (by simp <;> omega) cg0
  have s12 := k12.size
  replace B := hide (below_step (unhide B) k12 (Nat.le_refl _) (by omega))
  clear k12
  clear rx0
  go_wp2_with fail
  refine (eqNat_same _ rg0 rw0).mono ?_
  rintro e w13 ⟨rfl, k13⟩
  replace r0 := r0.kept k13 (by omega)
  replace rw0 := rw0.kept k13 (by omega)
  replace rg0 := rg0.kept k13 (by omega)
  replace cA0 := k13.cell0 cA0
  replace cw0 := k13.cell0 cw0
  replace cx0 := k13.cell0 cx0
  replace cg0 := k13.cell0 cg0
  have s13 := k13.size
  replace B := hide (below_step (unhide B) k13 (Nat.le_refl _) (by omega))
  clear k13
  have nk : ¬ (1 + (z0.length : Int)) < 0 := by omega
  go_wp2_with fail
  refine (markNat_wide _ (1) (by omega) (by omega) hl0 rg0).mono ?_
  rintro e w14 ⟨rfl, rm0, k14⟩
  replace r0 := r0.kept k14 (by omega)
  replace rw0 := rw0.kept k14 (by omega)
  replace cA0 := k14.cellOut (by simp <;> omega) cA0
  replace cw0 := k14.cellOut (by simp <;> omega) cw0
  replace cx0 := k14.cellOut (by simp <;> omega) cx0
  replace cg0 := k14.cellOut (by simp <;> omega) cg0
  have s14 := k14.size
  replace B := hide (below_step (unhide B) k14 (Nat.le_refl _) (by omega))
  clear k14
  clear rg0
  go_wp2_with fail
  refine (heldNat_any _ (1) (by omega) (by omega) hl0 rm0).mono ?_
  rintro e w15 ⟨rfl, k15⟩
  replace r0 := r0.kept k15 (by omega)
  replace rw0 := rw0.kept k15 (by omega)
  replace rm0 := rm0.kept k15 (by omega)
  replace cA0 := k15.cell0 cA0
  replace cw0 := k15.cell0 cw0
  replace cx0 := k15.cell0 cx0
  replace cg0 := k15.cell0 cg0
  have s15 := k15.size
  replace B := hide (below_step (unhide B) k15 (Nat.le_refl _) (by omega))
  clear k15
  have nq : ¬ (1 + ((ansL (powOk z0 p1) ((val z0).toNat ^ p1.toNat)).length : Int)) < 0 := by omega
  go_wp2_with fail
  refine (toNat_any _ hn0 r0).mono ?_
  rintro e w16 ⟨qv0, rfl, qr0, k16⟩
  replace r0 := r0.kept k16 (by omega)
  replace rw0 := rw0.kept k16 (by omega)
  replace rm0 := rm0.kept k16 (by omega)
  replace cA0 := k16.cell0 cA0
  replace cw0 := k16.cell0 cw0
  replace cx0 := k16.cell0 cx0
  replace cg0 := k16.cell0 cg0
  have s16 := k16.size
  replace B := hide (below_step (unhide B) k16 (Nat.le_refl _) (by omega))
  clear k16
  go_wp2_with fail
  refine (natPow_impl _ qr0 p1 g1.1 g1.2).mono ?_
  rintro e w17 ⟨vh0, rfl, rh0, k17⟩
  replace r0 := r0.kept k17 (by omega)
  replace rw0 := rw0.kept k17 (by omega)
  replace rm0 := rm0.kept k17 (by omega)
  replace qr0 := qr0.kept k17 (by omega)
  replace cA0 := k17.cell0 cA0
  replace cw0 := k17.cell0 cw0
  replace cx0 := k17.cell0 cx0
  replace cg0 := k17.cell0 cg0
  have s17 := k17.size
  replace B := hide (below_step (unhide B) k17 (Nat.le_refl _) (by omega))
  clear k17
  clear qr0
  obtain ⟨ah0, dh0, hv⟩ := Row.form' rh0
  subst hv
  have k18 := (Kept.refl 0 0 w17).alloc (.cells #[.slice ah0 (ansL (powOk z0 p1) ((val z0).toNat ^ p1.toNat)).length dh0] 26)
  have ch0 : (w17.alloc (.cells #[.slice ah0 (ansL (powOk z0 p1) ((val z0).toNat ^ p1.toNat)).length dh0] 26)).cell? ⟨w17.heap.size, 0, none⟩ = some (.slice ah0 (ansL (powOk z0 p1) ((val z0).toNat ^ p1.toNat)).length dh0) := new_cell_at _ _ _ _ rfl
  have t18 : w17.heap.size + 1 ≤ (w17.alloc (.cells #[.slice ah0 (ansL (powOk z0 p1) ((val z0).toNat ^ p1.toNat)).length dh0] 26)).heap.size := by simp
  replace r0 := r0.kept k18 (by omega)
  replace rw0 := rw0.kept k18 (by omega)
  replace rm0 := rm0.kept k18 (by omega)
  replace rh0 := rh0.kept k18 (by omega)
  replace cA0 := k18.cell0 cA0
  replace cw0 := k18.cell0 cw0
  replace cx0 := k18.cell0 cx0
  replace cg0 := k18.cell0 cg0
  have s18 := k18.size
  replace B := hide (below_step (unhide B) k18 (Nat.le_refl _) (by omega))
  clear k18
  go_wp2_with fail
  generalize w17.alloc (.cells #[.slice ah0 (ansL (powOk z0 p1) ((val z0).toNat ^ p1.toNat)).length dh0] 26) = w18 at *
  refine (eqNat_same _ rh0 rw0).mono ?_
  rintro e w19 ⟨rfl, k19⟩
  replace r0 := r0.kept k19 (by omega)
  replace rw0 := rw0.kept k19 (by omega)
  replace rm0 := rm0.kept k19 (by omega)
  replace rh0 := rh0.kept k19 (by omega)
  replace cA0 := k19.cell0 cA0
  replace cw0 := k19.cell0 cw0
  replace cx0 := k19.cell0 cx0
  replace cg0 := k19.cell0 cg0
  replace ch0 := k19.cell0 ch0
  have s19 := k19.size
  replace B := hide (below_step (unhide B) k19 (Nat.le_refl _) (by omega))
  clear k19
  go_wp2_with fail
  refine (heldNat_any _ (1) (by omega) (by omega) hl0 rm0).mono ?_
  rintro e w20 ⟨rfl, k20⟩
  replace r0 := r0.kept k20 (by omega)
  replace rw0 := rw0.kept k20 (by omega)
  replace rm0 := rm0.kept k20 (by omega)
  replace rh0 := rh0.kept k20 (by omega)
  replace cA0 := k20.cell0 cA0
  replace cw0 := k20.cell0 cw0
  replace cx0 := k20.cell0 cx0
  replace cg0 := k20.cell0 cg0
  replace ch0 := k20.cell0 ch0
  have s20 := k20.size
  replace B := hide (below_step (unhide B) k20 (Nat.le_refl _) (by omega))
  clear k20
  go_wp2_with fail
  go_ret
  exact ⟨rfl, unhide B⟩

end Go.Proofs.Ytolciidbkhkfgaa
