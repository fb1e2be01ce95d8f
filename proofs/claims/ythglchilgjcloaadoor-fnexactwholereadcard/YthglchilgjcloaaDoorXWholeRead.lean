/-
  The walk of the law FnExactWholeRead: it returns true at every argument.
-/
import Derived.Test.YthglchilgjcloaaDoorWr2
import Derived.Test.YthglchilgjcloaaDoorBC
import Derived.Deep.RegionHeld3
namespace Go.Proofs.YthglchilgjcloaaDoor
open Go.RowKit
set_option linter.unusedVariables false
set_option maxRecDepth 8000
set_option linter.unusedSimpArgs false

set_option maxHeartbeats 16000000 in
theorem law_WholeRead {v : Value} {zs : List Int} {w : World} (r : Row .u8 false 0 w.heap.size w v zs) (hb0 : ∀ z ∈ zs, (Lit.int .u8 z).wf = true) (T : Tab w) :
    Calls Tryd.prog 3 #[v] w fun e w' => e = .returned (.bool true) ∧ Below w.heap.size w w' := by
  have HB := hide (bytes_of_wf hb0)
  clear hb0
  have h0 : 0 < w.heap.size := by obtain ⟨_, _, h⟩ := T; exact (Array.getElem?_eq_some_iff.1 h).1
  obtain ⟨a, c, hv⟩ := Row.form' r
  subst hv
  have hm := r.len
  unfold maxLen at hm
  have hl0' := ansWL_len (wrC zs) (wrX zs)
  obtain ⟨AB, hAB⟩ : ∃ y, ansWB (wrC zs) (wrX zs) = y := ⟨_, rfl⟩
  obtain ⟨AS, hAS⟩ : ∃ y, ansWS (wrC zs) (wrX zs) = y := ⟨_, rfl⟩
  obtain ⟨AL, hAL⟩ : ∃ y, ansWL (wrC zs) (wrX zs) = y := ⟨_, rfl⟩
  rw [hAL] at hl0'
  have HA := hide (And.intro hAB (And.intro hAS hAL))
  clear hAB hAS hAL
  have hl0 : (AL).length ≤ 1099511627776 := by omega
  by_cases hbig : 1048576 < (zs.length : Int)
  · clear r
    go_enter Tryd.func3, Tryd.ntmps3
    go_wp2
    go_ret
    exact ⟨rfl, Below.refl _ _⟩
  have hn : zs.length ≤ 1048576 := by omega
  have hn1 : zs.length ≤ 140737488355328 := by omega
  have hn2 : zs.length ≤ 1099511627776 := by omega
  have B := hide (Below.refl w.heap.size w)
  have s0 : w.heap.size ≤ w.heap.size := Nat.le_refl _
  go_enter Tryd.func3, Tryd.ntmps3
  have fAB : (!(AB == AB)) = false := by cases AB <;> rfl
  have gAB : (AB != AB) = false := by cases AB <;> rfl
  go_wp2_with fail
  refine (toByteS_any _ hn1 r).mono ?_
  rintro e w1 ⟨vy, rfl, ry, k1⟩
  replace r := r.kept k1 (by omega)
  have s1 := k1.size
  replace T := T.kept k1 (by omega)
  replace B := hide (below_step (unhide B) k1 (Nat.le_refl _) (by omega))
  clear k1
  go_wp2_with fail
  have mk := wRead_spec w1 ry (unhide HB)
  rw [(unhide HA).1, (unhide HA).2.1, (unhide HA).2.2] at mk
  refine (mk).mono ?_
  rintro e w2 ⟨vw, rfl, rw0, k2⟩
  replace r := r.kept k2 (by omega)
  replace ry := ry.kept k2 (by omega)
  have s2 := k2.size
  replace T := T.kept k2 (by omega)
  replace B := hide (below_step (unhide B) k2 (Nat.le_refl _) (by omega))
  clear k2
  clear ry
  have rW := rw0
  clear rw0
  obtain ⟨aW, dW, hv⟩ := Row.form' rW
  subst hv
  have k3 := (Kept.refl 0 0 w2).alloc (.cells #[.bool AS, .slice aW (AL).length dW] 27)
  have cW : (w2.alloc (.cells #[.bool AS, .slice aW (AL).length dW] 27)).cell? ⟨w2.heap.size, 1, none⟩ = some (.slice aW (AL).length dW) := new_cell2 _ _ _ _ _ _ rfl rfl
  have eW : (w2.alloc (.cells #[.bool AS, .slice aW (AL).length dW] 27)).cell? ⟨w2.heap.size, 0, none⟩ = some (.bool AS) := new_cell2 _ _ _ _ _ _ rfl rfl
  have t3 : w2.heap.size + 1 ≤ (w2.alloc (.cells #[.bool AS, .slice aW (AL).length dW] 27)).heap.size := by simp
  replace r := r.kept k3 (by omega)
  replace rW := rW.kept k3 (by omega)
  have s3 := k3.size
  replace T := T.kept k3 (by omega)
  replace B := hide (below_step (unhide B) k3 (Nat.le_refl _) (by omega))
  clear k3
  go_wp2_with fail
  generalize w2.alloc (.cells #[.bool AS, .slice aW (AL).length dW] 27) = w3 at *
  refine (toByteS_any _ hn1 r).mono ?_
  rintro e w4 ⟨vX, rfl, rX, k4⟩
  replace r := r.kept k4 (by omega)
  replace rW := rW.kept k4 (by omega)
  replace cW := k4.cell0 cW
  replace eW := k4.cell0 eW
  have s4 := k4.size
  replace T := T.kept k4 (by omega)
  replace B := hide (below_step (unhide B) k4 (Nat.le_refl _) (by omega))
  clear k4
  clear mk
  go_wp2_with fail
  have mk := wRead_impl w4 rX (unhide HB) T
  rw [(unhide HA).1, (unhide HA).2.1, (unhide HA).2.2] at mk
  refine (mk).mono ?_
  rintro e w5 ⟨vG, rfl, rG, k5⟩
  replace r := r.kept k5 (by omega)
  replace rW := rW.kept k5 (by omega)
  replace rX := rX.kept k5 (by omega)
  replace cW := k5.cell0 cW
  replace eW := k5.cell0 eW
  have s5 := k5.size
  replace T := T.kept k5 (by omega)
  replace B := hide (below_step (unhide B) k5 (Nat.le_refl _) (by omega))
  clear k5
  obtain ⟨aG, dG, hv⟩ := Row.form' rG
  subst hv
  have k6 := (Kept.refl 0 0 w5).alloc (.cells #[.bool AS, .slice aG (AL).length dG] 27)
  have cG : (w5.alloc (.cells #[.bool AS, .slice aG (AL).length dG] 27)).cell? ⟨w5.heap.size, 1, none⟩ = some (.slice aG (AL).length dG) := new_cell2 _ _ _ _ _ _ rfl rfl
  have eG : (w5.alloc (.cells #[.bool AS, .slice aG (AL).length dG] 27)).cell? ⟨w5.heap.size, 0, none⟩ = some (.bool AS) := new_cell2 _ _ _ _ _ _ rfl rfl
  have t6 : w5.heap.size + 1 ≤ (w5.alloc (.cells #[.bool AS, .slice aG (AL).length dG] 27)).heap.size := by simp
  replace r := r.kept k6 (by omega)
  replace rW := rW.kept k6 (by omega)
  replace rX := rX.kept k6 (by omega)
  replace rG := rG.kept k6 (by omega)
  replace cW := k6.cell0 cW
  replace eW := k6.cell0 eW
  have s6 := k6.size
  replace T := T.kept k6 (by omega)
  replace B := hide (below_step (unhide B) k6 (Nat.le_refl _) (by omega))
  clear k6
  go_wp2_with fail
  generalize w5.alloc (.cells #[.bool AS, .slice aG (AL).length dG] 27) = w6 at *
  refine (eqWhole_same AS _ rG rW).mono ?_
  rintro e w7 ⟨rfl, k7⟩
  replace r := r.kept k7 (by omega)
  replace rW := rW.kept k7 (by omega)
  replace rX := rX.kept k7 (by omega)
  replace rG := rG.kept k7 (by omega)
  replace cW := k7.cell0 cW
  replace eW := k7.cell0 eW
  replace cG := k7.cell0 cG
  replace eG := k7.cell0 eG
  have s7 := k7.size
  replace T := T.kept k7 (by omega)
  replace B := hide (below_step (unhide B) k7 (Nat.le_refl _) (by omega))
  clear k7
  go_wp2_with fail
  refine (toByteS_any _ hn1 r).mono ?_
  rintro e w8 ⟨vz, rfl, rz, k8⟩
  replace r := r.kept k8 (by omega)
  replace rW := rW.kept k8 (by omega)
  replace rX := rX.kept k8 (by omega)
  replace rG := rG.kept k8 (by omega)
  replace cW := k8.cell0 cW
  replace eW := k8.cell0 eW
  replace cG := k8.cell0 cG
  replace eG := k8.cell0 eG
  have s8 := k8.size
  replace T := T.kept k8 (by omega)
  replace B := hide (below_step (unhide B) k8 (Nat.le_refl _) (by omega))
  clear k8
  go_wp2_with fail
  refine (eqByteS_same _ rX rz).mono ?_
  rintro e w9 ⟨rfl, m9, hw9⟩
  have k9 : Kept 0 0 w8 w9 := by rw [hw9]; exact (Kept.refl 0 0 _).drewN _
  replace r := r.kept k9 (by omega)
  replace rW := rW.kept k9 (by omega)
  replace rX := rX.kept k9 (by omega)
  replace rG := rG.kept k9 (by omega)
  replace rz := rz.kept k9 (by omega)
  replace cW := k9.cell0 cW
  replace eW := k9.cell0 eW
  replace cG := k9.cell0 cG
  replace eG := k9.cell0 eG
  have s9 := k9.size
  replace T := T.kept k9 (by omega)
  replace B := hide (below_step (unhide B) k9 (Nat.le_refl _) (by omega))
  clear k9 hw9
  clear rz
  go_wp2_with fail
  refine (markByteS_any _ 1 (by omega) (by omega) hn2 rX).mono ?_
  rintro e w10 ⟨rfl, -, k10, -⟩
  replace r := r.kept k10 (by omega)
  replace rW := rW.kept k10 (by omega)
  replace rG := rG.kept k10 (by omega)
  replace cW := k10.cellOut (by simp <;> omega) cW
  replace eW := k10.cellOut (by simp <;> omega) eW
  replace cG := k10.cellOut (by simp <;> omega) cG
  replace eG := k10.cellOut (by simp <;> omega) eG
  have s10 := k10.size
  replace T := T.kept k10 (by omega)
  replace B := hide (below_step (unhide B) k10 (Nat.le_refl _) (by omega))
  clear k10
  clear rX
  have eAB : (AB == AB) = true := by cases AB <;> rfl
  have fAB : (!(AB == AB)) = false := by cases AB <;> rfl
  have nk : ¬ 1 + (zs.length : Int) < 0 := by omega
  go_wp2_with fail
  refine (eqWhole_same AS _ rG rW).mono ?_
  rintro e w11 ⟨rfl, k11⟩
  replace r := r.kept k11 (by omega)
  replace rW := rW.kept k11 (by omega)
  replace rG := rG.kept k11 (by omega)
  replace cW := k11.cell0 cW
  replace eW := k11.cell0 eW
  replace cG := k11.cell0 cG
  replace eG := k11.cell0 eG
  have s11 := k11.size
  replace T := T.kept k11 (by omega)
  replace B := hide (below_step (unhide B) k11 (Nat.le_refl _) (by omega))
  clear k11
  go_wp2_with fail
  refine (markWhole_wide AS _ 1 (by omega) (by omega) hl0 rG).mono ?_
  rintro e w12 ⟨rfl, rM, k12⟩
  replace r := r.kept k12 (by omega)
  replace rW := rW.kept k12 (by omega)
  replace cW := k12.cellOut (by simp <;> omega) cW
  replace eW := k12.cellOut (by simp <;> omega) eW
  replace cG := k12.cellOut (by simp <;> omega) cG
  replace eG := k12.cellOut (by simp <;> omega) eG
  have s12 := k12.size
  replace T := T.kept k12 (by omega)
  replace B := hide (below_step (unhide B) k12 (Nat.le_refl _) (by omega))
  clear k12
  clear rG
  go_wp2_with fail
  refine (heldWhole_any AS _ 1 (by omega) (by omega) hl0 rM).mono ?_
  rintro e w13 ⟨rfl, k13⟩
  replace r := r.kept k13 (by omega)
  replace rW := rW.kept k13 (by omega)
  replace rM := rM.kept k13 (by omega)
  replace cW := k13.cell0 cW
  replace eW := k13.cell0 eW
  replace cG := k13.cell0 cG
  replace eG := k13.cell0 eG
  have s13 := k13.size
  replace T := T.kept k13 (by omega)
  replace B := hide (below_step (unhide B) k13 (Nat.le_refl _) (by omega))
  clear k13
  have nq : ¬ 1 + ((AL).length : Int) < 0 := by omega
  go_wp2_with fail
  refine (toByteS_any _ hn1 r).mono ?_
  rintro e w14 ⟨vq, rfl, rq, k14⟩
  replace r := r.kept k14 (by omega)
  replace rW := rW.kept k14 (by omega)
  replace rM := rM.kept k14 (by omega)
  replace cW := k14.cell0 cW
  replace eW := k14.cell0 eW
  replace cG := k14.cell0 cG
  replace eG := k14.cell0 eG
  have s14 := k14.size
  replace T := T.kept k14 (by omega)
  replace B := hide (below_step (unhide B) k14 (Nat.le_refl _) (by omega))
  clear k14
  clear mk
  go_wp2_with fail
  have mk := wRead_impl w14 rq (unhide HB) T
  rw [(unhide HA).1, (unhide HA).2.1, (unhide HA).2.2] at mk
  refine (mk).mono ?_
  rintro e w15 ⟨vH, rfl, rH, k15⟩
  replace r := r.kept k15 (by omega)
  replace rW := rW.kept k15 (by omega)
  replace rM := rM.kept k15 (by omega)
  replace rq := rq.kept k15 (by omega)
  replace cW := k15.cell0 cW
  replace eW := k15.cell0 eW
  replace cG := k15.cell0 cG
  replace eG := k15.cell0 eG
  have s15 := k15.size
  replace T := T.kept k15 (by omega)
  replace B := hide (below_step (unhide B) k15 (Nat.le_refl _) (by omega))
  clear k15
  clear rq
  obtain ⟨aH, dH, hv⟩ := Row.form' rH
  subst hv
  have k16 := (Kept.refl 0 0 w15).alloc (.cells #[.bool AS, .slice aH (AL).length dH] 27)
  have cH : (w15.alloc (.cells #[.bool AS, .slice aH (AL).length dH] 27)).cell? ⟨w15.heap.size, 1, none⟩ = some (.slice aH (AL).length dH) := new_cell2 _ _ _ _ _ _ rfl rfl
  have eH : (w15.alloc (.cells #[.bool AS, .slice aH (AL).length dH] 27)).cell? ⟨w15.heap.size, 0, none⟩ = some (.bool AS) := new_cell2 _ _ _ _ _ _ rfl rfl
  have t16 : w15.heap.size + 1 ≤ (w15.alloc (.cells #[.bool AS, .slice aH (AL).length dH] 27)).heap.size := by simp
  replace r := r.kept k16 (by omega)
  replace rW := rW.kept k16 (by omega)
  replace rM := rM.kept k16 (by omega)
  replace rH := rH.kept k16 (by omega)
  replace cW := k16.cell0 cW
  replace eW := k16.cell0 eW
  replace cG := k16.cell0 cG
  replace eG := k16.cell0 eG
  have s16 := k16.size
  replace T := T.kept k16 (by omega)
  replace B := hide (below_step (unhide B) k16 (Nat.le_refl _) (by omega))
  clear k16
  go_wp2_with fail
  generalize w15.alloc (.cells #[.bool AS, .slice aH (AL).length dH] 27) = w16 at *
  refine (eqWhole_same AS _ rH rW).mono ?_
  rintro e w17 ⟨rfl, k17⟩
  replace r := r.kept k17 (by omega)
  replace rW := rW.kept k17 (by omega)
  replace rM := rM.kept k17 (by omega)
  replace rH := rH.kept k17 (by omega)
  replace cW := k17.cell0 cW
  replace eW := k17.cell0 eW
  replace cG := k17.cell0 cG
  replace eG := k17.cell0 eG
  replace cH := k17.cell0 cH
  replace eH := k17.cell0 eH
  have s17 := k17.size
  replace T := T.kept k17 (by omega)
  replace B := hide (below_step (unhide B) k17 (Nat.le_refl _) (by omega))
  clear k17
  go_wp2_with fail
  refine (heldWhole_any AS _ 1 (by omega) (by omega) hl0 rM).mono ?_
  rintro e w18 ⟨rfl, k18⟩
  replace r := r.kept k18 (by omega)
  replace rW := rW.kept k18 (by omega)
  replace rM := rM.kept k18 (by omega)
  replace rH := rH.kept k18 (by omega)
  replace cW := k18.cell0 cW
  replace eW := k18.cell0 eW
  replace cG := k18.cell0 cG
  replace eG := k18.cell0 eG
  replace cH := k18.cell0 cH
  replace eH := k18.cell0 eH
  have s18 := k18.size
  replace T := T.kept k18 (by omega)
  replace B := hide (below_step (unhide B) k18 (Nat.le_refl _) (by omega))
  clear k18
  go_wp2_with fail
  go_ret
  exact ⟨rfl, unhide B⟩

end Go.Proofs.YthglchilgjcloaaDoor
