/-
  The walk of the law FnExactNatInt: it returns true at every argument.
-/
import Derived.Test.YtdlpkppkmfjdiaaINat8
import Derived.Deep.RegionHeld3
namespace Go.Proofs.Ytdlpkppkmfjdiaa
open Go.RowKit
set_option linter.unusedVariables false
set_option maxRecDepth 8000

theorem wf_NatInt {n : Int} (h : (Lit.int .i64 n).wf = true) : n ≤ 9223372036854775807 ∧ -9223372036854775808 ≤ n := by
  have e : (Lit.int .i64 n).wf = (decide (IntKind.i64.min ≤ n) && decide (n ≤ IntKind.i64.max)) := rfl
  rw [e, show IntKind.i64.min = -9223372036854775808 by decide, show IntKind.i64.max = 9223372036854775807 by decide] at h
  simp at h
  omega

set_option maxHeartbeats 4000000 in
theorem law_NatInt {u0 : Value} {z0 : List Int} {w : World} (r0 : Row .i64 false 0 w.heap.size w u0 z0) (b0 : ∀ z ∈ z0, (Lit.int .i64 z).wf = true) :
    Calls Try.prog 7 #[.agg #[u0]] w fun e w' => e = .returned (.bool true) ∧ Below w.heap.size w w' := by
  clear b0
  obtain ⟨a0, c0, hv0⟩ := Row.form' r0
  subst hv0
  have hm0 := r0.len
  unfold maxLen at hm0
  have k0 : Kept 0 0 w (w.alloc (.cells #[.slice a0 z0.length c0] 54)) := ((Kept.refl 0 0 w).alloc (.cells #[.slice a0 z0.length c0] 54))
  have cA0 : (w.alloc (.cells #[.slice a0 z0.length c0] 54)).cell? ⟨w.heap.size, 0, none⟩ = some (.slice a0 z0.length c0) := new_cell_at _ _ _ _ (by simp)
  replace r0 := r0.kept k0 (by omega)
  have B := hide k0.toBelow
  have s0 : w.heap.size + 1 ≤ (w.alloc (.cells #[.slice a0 z0.length c0] 54)).heap.size := by simp
  clear k0
  go_enter Try.func7, Try.ntmps7
  go_wp2_with fail
  generalize (w.alloc (.cells #[.slice a0 z0.length c0] 54)) = W at *
  refine (szNat_any _ (1048576) (by omega) (by omega) r0).mono ?_
  rintro e w1 ⟨rfl, k1⟩
  replace r0 := r0.kept k1 (by omega)
  replace cA0 := k1.cell0 cA0
  have s1 := k1.size
  replace B := hide (below_step (unhide B) k1 (Nat.le_refl _) (by omega))
  clear k1
  by_cases big0 : (z0.length : Int) ≤ 1048576
  rotate_left
  · rw [if_neg big0]
    go_wp2_with fail
    go_ret
    exact ⟨rfl, unhide B⟩
  rw [if_pos big0]
  have nb0 : ¬ (1048576 - (z0.length : Int)) < 0 := by omega
  have hn0 : z0.length ≤ 1099511627776 := by omega
  go_wp2_with fail
  refine (toNat_any _ hn0 r0).mono ?_
  rintro e w2 ⟨yv0, rfl, yr0, k2⟩
  replace r0 := r0.kept k2 (by omega)
  replace cA0 := k2.cell0 cA0
  have s2 := k2.size
  replace B := hide (below_step (unhide B) k2 (Nat.le_refl _) (by omega))
  clear k2
  go_wp2_with fail
  refine (natInt_spec _ yr0).mono ?_
  rintro e w3 ⟨rfl, k3⟩
  replace r0 := r0.kept k3 (by omega)
  replace yr0 := yr0.kept k3 (by omega)
  replace cA0 := k3.cell0 cA0
  have s3 := k3.size
  replace B := hide (below_step (unhide B) k3 (Nat.le_refl _) (by omega))
  clear k3
  clear yr0
  go_wp2_with fail
  refine (toNat_any _ hn0 r0).mono ?_
  rintro e w4 ⟨vx0, rfl, rx0, k4⟩
  replace r0 := r0.kept k4 (by omega)
  replace cA0 := k4.cell0 cA0
  have s4 := k4.size
  replace B := hide (below_step (unhide B) k4 (Nat.le_refl _) (by omega))
  clear k4
  have sx0 := rx0
  clear sx0
  obtain ⟨ax0, dx0, hv⟩ := Row.form' rx0
  subst hv
  have k5 := (Kept.refl 0 0 w4).alloc (.cells #[.slice ax0 z0.length dx0] 26)
  have cx0 : (w4.alloc (.cells #[.slice ax0 z0.length dx0] 26)).cell? ⟨w4.heap.size, 0, none⟩ = some (.slice ax0 z0.length dx0) := new_cell_at _ _ _ _ rfl
  have t5 : w4.heap.size + 1 ≤ (w4.alloc (.cells #[.slice ax0 z0.length dx0] 26)).heap.size := by simp
  replace r0 := r0.kept k5 (by omega)
  replace rx0 := rx0.kept k5 (by omega)
  replace cA0 := k5.cell0 cA0
  have s5 := k5.size
  replace B := hide (below_step (unhide B) k5 (Nat.le_refl _) (by omega))
  clear k5
  go_wp2_with fail
  generalize w4.alloc (.cells #[.slice ax0 z0.length dx0] 26) = w5 at *
  refine (natInt_impl _ rx0).mono ?_
  rintro e w6 ⟨rfl, k6⟩
  replace r0 := r0.kept k6 (by omega)
  replace rx0 := rx0.kept k6 (by omega)
  replace cA0 := k6.cell0 cA0
  replace cx0 := k6.cell0 cx0
  have s6 := k6.size
  replace B := hide (below_step (unhide B) k6 (Nat.le_refl _) (by omega))
  clear k6
  go_wp2_with fail
  have ra7 := r0.kept ((Kept.refl 0 0 w6).drew) (by omega)
  go_region_held3 (fun w' => w'.cell? ⟨w.heap.size, 0, none⟩ = some (.slice a0 z0.length c0) ∧ w'.cell? ⟨w4.heap.size, 0, none⟩ = some (.slice ax0 z0.length dx0)) (first | exact ⟨cA0, cx0⟩ | exact ⟨k7.cell0 cA0, k7.cell0 cx0⟩ | exact ⟨k8.cell0 (k7.cell0 cA0), k8.cell0 (k7.cell0 cx0)⟩)
    ((first
      | (go_at_call 39
         refine (toNat_any _ hn0 ra7).mono ?_
         rintro e w7 ⟨v7, rfl, r7, k7⟩)
      | (go_at_call 40
         refine (eqNat_same _ (rx0.kept ((Kept.refl 0 0 _).drew.trans k7) (Or.inr (Or.inr (Nat.le_refl _)))) r7).mono ?_
         rintro e w8 ⟨rfl, k8⟩)))
  have kk := (Kept.refl 0 0 w6).drew.trans (k7.trans k8)
  clear k7 k8 ra7 r7
  replace r0 := r0.kept kk (by omega)
  replace rx0 := rx0.kept kk (by omega)
  replace cA0 := kk.cell0 cA0
  replace cx0 := kk.cell0 cx0
  have s8 := kk.size
  replace B := hide (below_step (unhide B) kk (Nat.le_refl _) (by omega))
  clear kk
  go_wp2_with fail
  go_ret
  exact ⟨rfl, unhide B⟩

end Go.Proofs.Ytdlpkppkmfjdiaa
