/-
  The walk of the law FnExactNatRead: it returns true at every argument.
-/
import Derived.Test.YtdhponfpikclhaaINat25
import Derived.Test.YtdhponfpikclhaaLaw2
import Derived.Deep.RegionHeld3
namespace Go.Proofs.Ytdhponfpikclhaa
open Go.RowKit
set_option linter.unusedVariables false
set_option maxRecDepth 8000
set_option linter.unusedSimpArgs false

set_option maxHeartbeats 16000000 in
theorem law_NatRead {v : Value} {zs : List Int} {w : World} (r : Row .u8 false 0 w.heap.size w v zs) (hb0 : ∀ z ∈ zs, (Lit.int .u8 z).wf = true) :
    Calls Try.prog 14 #[v] w fun e w' => e = .returned (.bool true) ∧ Below w.heap.size w w' := by
  clear hb0
  obtain ⟨a, c, hv⟩ := Row.form' r
  subst hv
  have hm := r.len
  unfold maxLen at hm
  have hl0' := ansL_len (readOk zs) (digN zs)
  have hl0 : (ansL (readOk zs) (digN zs)).length ≤ 1099511627776 := by omega
  by_cases hbig : 1048576 < (zs.length : Int)
  · clear r
    go_enter Try.func14, Try.ntmps14
    go_wp2
    go_ret
    exact ⟨rfl, Below.refl _ _⟩
  have hn : zs.length ≤ 1048576 := by omega
  have hn1 : zs.length ≤ 140737488355328 := by omega
  have hn2 : zs.length ≤ 1099511627776 := by omega
  have B := hide (Below.refl w.heap.size w)
  have s0 : w.heap.size ≤ w.heap.size := Nat.le_refl _
  go_enter Try.func14, Try.ntmps14
  go_wp2_with fail
  refine (toByteS_any _ hn1 r).mono ?_
  rintro e w1 ⟨vy, rfl, ry, k1⟩
  replace r := r.kept k1 (by omega)
  have s1 := k1.size
  replace B := hide (below_step (unhide B) k1 (Nat.le_refl _) (by omega))
  clear k1
  go_wp2_with fail
  refine (natRead_spec _ ry).mono ?_
  rintro e w2 ⟨vw, rfl, rw0, k2⟩
  replace r := r.kept k2 (by omega)
  replace ry := ry.kept k2 (by omega)
  have s2 := k2.size
  replace B := hide (below_step (unhide B) k2 (Nat.le_refl _) (by omega))
  clear k2
  clear ry
  have rW := rw0
  clear rw0
  obtain ⟨aW, dW, hv⟩ := Row.form' rW
  subst hv
  have k3 := (Kept.refl 0 0 w2).alloc (.cells #[.slice aW (ansL (readOk zs) (digN zs)).length dW] 26)
  have cW : (w2.alloc (.cells #[.slice aW (ansL (readOk zs) (digN zs)).length dW] 26)).cell? ⟨w2.heap.size, 0, none⟩ = some (.slice aW (ansL (readOk zs) (digN zs)).length dW) := new_cell_at _ _ _ _ rfl
  have t3 : w2.heap.size + 1 ≤ (w2.alloc (.cells #[.slice aW (ansL (readOk zs) (digN zs)).length dW] 26)).heap.size := by simp
  replace r := r.kept k3 (by omega)
  replace rW := rW.kept k3 (by omega)
  have s3 := k3.size
  replace B := hide (below_step (unhide B) k3 (Nat.le_refl _) (by omega))
  clear k3
  go_wp2_with fail
  generalize w2.alloc (.cells #[.slice aW (ansL (readOk zs) (digN zs)).length dW] 26) = w3 at *
  refine (toByteS_any _ hn1 r).mono ?_
  rintro e w4 ⟨vX, rfl, rX, k4⟩
  replace r := r.kept k4 (by omega)
  replace rW := rW.kept k4 (by omega)
  replace cW := k4.cell0 cW
  have s4 := k4.size
  replace B := hide (below_step (unhide B) k4 (Nat.le_refl _) (by omega))
  clear k4
  go_wp2_with fail
  refine (natRead_impl _ rX).mono ?_
  rintro e w5 ⟨vG, rfl, rG, k5⟩
  replace r := r.kept k5 (by omega)
  replace rW := rW.kept k5 (by omega)
  replace rX := rX.kept k5 (by omega)
  replace cW := k5.cell0 cW
  have s5 := k5.size
  replace B := hide (below_step (unhide B) k5 (Nat.le_refl _) (by omega))
  clear k5
  obtain ⟨aG, dG, hv⟩ := Row.form' rG
  subst hv
  have k6 := (Kept.refl 0 0 w5).alloc (.cells #[.slice aG (ansL (readOk zs) (digN zs)).length dG] 26)
  have cG : (w5.alloc (.cells #[.slice aG (ansL (readOk zs) (digN zs)).length dG] 26)).cell? ⟨w5.heap.size, 0, none⟩ = some (.slice aG (ansL (readOk zs) (digN zs)).length dG) := new_cell_at _ _ _ _ rfl
  have t6 : w5.heap.size + 1 ≤ (w5.alloc (.cells #[.slice aG (ansL (readOk zs) (digN zs)).length dG] 26)).heap.size := by simp
  replace r := r.kept k6 (by omega)
  replace rW := rW.kept k6 (by omega)
  replace rX := rX.kept k6 (by omega)
  replace rG := rG.kept k6 (by omega)
  replace cW := k6.cell0 cW
  have s6 := k6.size
  replace B := hide (below_step (unhide B) k6 (Nat.le_refl _) (by omega))
  clear k6
  go_wp2_with fail
  generalize w5.alloc (.cells #[.slice aG (ansL (readOk zs) (digN zs)).length dG] 26) = w6 at *
  refine (eqNat_same _ rG rW).mono ?_
  rintro e w7 ⟨rfl, k7⟩
  replace r := r.kept k7 (by omega)
  replace rW := rW.kept k7 (by omega)
  replace rX := rX.kept k7 (by omega)
  replace rG := rG.kept k7 (by omega)
  replace cW := k7.cell0 cW
  replace cG := k7.cell0 cG
  have s7 := k7.size
  replace B := hide (below_step (unhide B) k7 (Nat.le_refl _) (by omega))
  clear k7
  go_wp2_with fail
  refine (toByteS_any _ hn1 r).mono ?_
  rintro e w8 ⟨vz, rfl, rz, k8⟩
  replace r := r.kept k8 (by omega)
  replace rW := rW.kept k8 (by omega)
  replace rX := rX.kept k8 (by omega)
  replace rG := rG.kept k8 (by omega)
  replace cW := k8.cell0 cW
  replace cG := k8.cell0 cG
  have s8 := k8.size
  replace B := hide (below_step (unhide B) k8 (Nat.le_refl _) (by omega))
  clear k8
  go_wp2_with fail
  refine (eqByteS_same _ rX rz).mono ?_
  rintro e w9 ⟨rfl, m9, hw9⟩
  have k9 : Kept 0 0 w8 w9 := by rw [hw9]; exact (Kept.refl 0 0 _).drewN _
  replace r := r.kept k9 (by omega)
  replace rW := rW.kept k9 (by omega)
  replace rX := rX.kept k9 (by omega)
  replace rG := rG.kept k9 (by omega)
  replace rz := rz.kept k9 (by omega)
  replace cW := k9.cell0 cW
  replace cG := k9.cell0 cG
  have s9 := k9.size
  replace B := hide (below_step (unhide B) k9 (Nat.le_refl _) (by omega))
  clear k9 hw9
  clear rz
  go_wp2_with fail
  refine (markByteS_any _ 1 (by omega) (by omega) hn2 rX).mono ?_
  rintro e w10 ⟨rfl, -, k10, -⟩
  replace r := r.kept k10 (by omega)
  replace rW := rW.kept k10 (by omega)
  replace rG := rG.kept k10 (by omega)
  replace cW := k10.cellOut (by simp <;> omega) cW
  replace cG := k10.cellOut (by simp <;> omega) cG
  have s10 := k10.size
  replace B := hide (below_step (unhide B) k10 (Nat.le_refl _) (by omega))
  clear k10
  clear rX
  have nk : ¬ 1 + (zs.length : Int) < 0 := by omega
  go_wp2_with fail
  refine (eqNat_same _ rG rW).mono ?_
  rintro e w11 ⟨rfl, k11⟩
  replace r := r.kept k11 (by omega)
  replace rW := rW.kept k11 (by omega)
  replace rG := rG.kept k11 (by omega)
  replace cW := k11.cell0 cW
  replace cG := k11.cell0 cG
  have s11 := k11.size
  replace B := hide (below_step (unhide B) k11 (Nat.le_refl _) (by omega))
  clear k11
  go_wp2_with fail
  refine (markNat_wide _ 1 (by omega) (by omega) hl0 rG).mono ?_
  rintro e w12 ⟨rfl, rM, k12⟩
  replace r := r.kept k12 (by omega)
  replace rW := rW.kept k12 (by omega)
  replace cW := k12.cellOut (by simp <;> omega) cW
  replace cG := k12.cellOut (by simp <;> omega) cG
  have s12 := k12.size
  replace B := hide (below_step (unhide B) k12 (Nat.le_refl _) (by omega))
  clear k12
  clear rG
  go_wp2_with fail
  refine (heldNat_any _ 1 (by omega) (by omega) hl0 rM).mono ?_
  rintro e w13 ⟨rfl, k13⟩
  replace r := r.kept k13 (by omega)
  replace rW := rW.kept k13 (by omega)
  replace rM := rM.kept k13 (by omega)
  replace cW := k13.cell0 cW
  replace cG := k13.cell0 cG
  have s13 := k13.size
  replace B := hide (below_step (unhide B) k13 (Nat.le_refl _) (by omega))
  clear k13
  have nq : ¬ 1 + ((ansL (readOk zs) (digN zs)).length : Int) < 0 := by omega
  go_wp2_with fail
  refine (toByteS_any _ hn1 r).mono ?_
  rintro e w14 ⟨vq, rfl, rq, k14⟩
  replace r := r.kept k14 (by omega)
  replace rW := rW.kept k14 (by omega)
  replace rM := rM.kept k14 (by omega)
  replace cW := k14.cell0 cW
  replace cG := k14.cell0 cG
  have s14 := k14.size
  replace B := hide (below_step (unhide B) k14 (Nat.le_refl _) (by omega))
  clear k14
  go_wp2_with fail
  refine (natRead_impl _ rq).mono ?_
  rintro e w15 ⟨vH, rfl, rH, k15⟩
  replace r := r.kept k15 (by omega)
  replace rW := rW.kept k15 (by omega)
  replace rM := rM.kept k15 (by omega)
  replace rq := rq.kept k15 (by omega)
  replace cW := k15.cell0 cW
  replace cG := k15.cell0 cG
  have s15 := k15.size
  replace B := hide (below_step (unhide B) k15 (Nat.le_refl _) (by omega))
  clear k15
  clear rq
  obtain ⟨aH, dH, hv⟩ := Row.form' rH
  subst hv
  have k16 := (Kept.refl 0 0 w15).alloc (.cells #[.slice aH (ansL (readOk zs) (digN zs)).length dH] 26)
  have cH : (w15.alloc (.cells #[.slice aH (ansL (readOk zs) (digN zs)).length dH] 26)).cell? ⟨w15.heap.size, 0, none⟩ = some (.slice aH (ansL (readOk zs) (digN zs)).length dH) := new_cell_at _ _ _ _ rfl
  have t16 : w15.heap.size + 1 ≤ (w15.alloc (.cells #[.slice aH (ansL (readOk zs) (digN zs)).length dH] 26)).heap.size := by simp
  replace r := r.kept k16 (by omega)
  replace rW := rW.kept k16 (by omega)
  replace rM := rM.kept k16 (by omega)
  replace rH := rH.kept k16 (by omega)
  replace cW := k16.cell0 cW
  replace cG := k16.cell0 cG
  have s16 := k16.size
  replace B := hide (below_step (unhide B) k16 (Nat.le_refl _) (by omega))
  clear k16
  go_wp2_with fail
  generalize w15.alloc (.cells #[.slice aH (ansL (readOk zs) (digN zs)).length dH] 26) = w16 at *
  refine (eqNat_same _ rH rW).mono ?_
  rintro e w17 ⟨rfl, k17⟩
  replace r := r.kept k17 (by omega)
  replace rW := rW.kept k17 (by omega)
  replace rM := rM.kept k17 (by omega)
  replace rH := rH.kept k17 (by omega)
  replace cW := k17.cell0 cW
  replace cG := k17.cell0 cG
  replace cH := k17.cell0 cH
  have s17 := k17.size
  replace B := hide (below_step (unhide B) k17 (Nat.le_refl _) (by omega))
  clear k17
  go_wp2_with fail
  refine (heldNat_any _ 1 (by omega) (by omega) hl0 rM).mono ?_
  rintro e w18 ⟨rfl, k18⟩
  replace r := r.kept k18 (by omega)
  replace rW := rW.kept k18 (by omega)
  replace rM := rM.kept k18 (by omega)
  replace rH := rH.kept k18 (by omega)
  replace cW := k18.cell0 cW
  replace cG := k18.cell0 cG
  replace cH := k18.cell0 cH
  have s18 := k18.size
  replace B := hide (below_step (unhide B) k18 (Nat.le_refl _) (by omega))
  clear k18
  go_wp2_with fail
  go_ret
  exact ⟨rfl, unhide B⟩

end Go.Proofs.Ytdhponfpikclhaa
