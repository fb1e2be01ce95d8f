/-
  The walk of the law FnExactNatOk: it returns true at every number, well made or not.
-/
import Derived.Test.YtolciidbkhkfgaaHelpN
import Derived.Test.YtolciidbkhkfgaaINat1
import Derived.Deep.RegionHeld3
namespace Go.Proofs.Ytolciidbkhkfgaa
open Go.RowKit
set_option linter.unusedVariables false
set_option maxRecDepth 8000

theorem Row.form {k : IntKind} {bw : Bool} {lo hi : Nat} {w : World} {v : Value} {zs : List Int} (r : Row k bw lo hi w v zs) : ∃ a c, v = .slice a zs.length c := by
  obtain ⟨a, c, h, -⟩ := r
  exact ⟨a, c, h⟩

set_option maxHeartbeats 1000000 in
theorem law_NatOk {v : Value} {zs : List Int} {w : World} (r : Row .i64 false 0 w.heap.size w v zs) (hb0 : ∀ z ∈ zs, (Lit.int .i64 z).wf = true) :
    Calls Try.prog 10 #[.agg #[v]] w fun e w' => e = .returned (.bool true) ∧ Below w.heap.size w w' := by
  clear hb0
  have ra := r
  have k0 := (Kept.refl 0 0 w).alloc (.cells #[v] 53)
  have cb : (w.alloc (.cells #[v] 53)).cell? ⟨w.heap.size, 0, none⟩ = some v := new_cell_at _ _ _ _ rfl
  replace ra := ra.kept k0 (by omega)
  have B := hide k0.toBelow
  obtain ⟨a, c, rfl, q1, m1, q3⟩ := r
  unfold maxLen at m1
  clear q3
  go_enter Try.func10, Try.ntmps10
  go_wp2_with fail
  generalize hW : w.alloc (.cells #[.slice a zs.length c] 53) = W at *
  have hWs : w.heap.size < W.heap.size := by rw [← hW]; simp
  clear hW k0
  refine (szNat_any _ 1048576 (by omega) (by omega) ra).mono ?_
  rintro e w1 ⟨rfl, k1⟩
  by_cases hbig : (zs.length : Int) ≤ 1048576
  · rw [if_pos hbig]
    have hn : zs.length ≤ 1048576 := by omega
    have h0 : ¬ (1048576 - (zs.length : Int)) < 0 := by omega
    replace ra := ra.kept k1 (by omega)
    replace cb := k1.cell0 cb
    replace B := hide (below_step (unhide B) k1 (Nat.le_refl _) (by omega))
    go_wp2_with fail
    refine (toNat_any _ (by omega) ra).mono ?_
    rintro e w2 ⟨v2, rfl, r2, k2⟩
    replace ra := ra.kept k2 (by omega)
    replace cb := k2.cell0 cb
    replace B := hide (below_step (unhide B) k2 (Nat.le_refl _) (by omega))
    go_wp2_with fail
    refine (ok_spec _ r2).mono ?_
    rintro e w3 ⟨rfl, k3⟩
    replace ra := ra.kept k3 (by omega)
    replace cb := k3.cell0 cb
    replace B := hide (below_step (unhide B) k3 (Nat.le_refl _) (by omega))
    clear r2
    go_wp2_with fail
    refine (toNat_any _ (by omega) ra).mono ?_
    rintro e w4 ⟨v4, rfl, r4, k4⟩
    replace ra := ra.kept k4 (by omega)
    replace cb := k4.cell0 cb
    replace B := hide (below_step (unhide B) k4 (Nat.le_refl _) (by omega))
    obtain ⟨a4, c4, rfl⟩ := r4.form
    go_wp2_with fail
    have k5 := (Kept.refl 0 0 w4).alloc (.cells #[.slice a4 zs.length c4] 26)
    have cx : (w4.alloc (.cells #[.slice a4 zs.length c4] 26)).cell? ⟨w4.heap.size, 0, none⟩ = some (.slice a4 zs.length c4) := new_cell_at _ _ _ _ rfl
    replace ra := ra.kept k5 (by omega)
    replace r4 := r4.kept k5 (by omega)
    replace cb := k5.cell0 cb
    replace B := hide (below_step (unhide B) k5 (Nat.le_refl _) (by omega))
    generalize w4.alloc (.cells #[.slice a4 zs.length c4] 26) = w5 at *
    clear k5
    refine (ok_impl _ r4).mono ?_
    rintro e w6 ⟨rfl, k6⟩
    replace ra := ra.kept k6 (by omega)
    replace r4 := r4.kept k6 (by omega)
    replace cb := k6.cell0 cb
    replace cx := k6.cell0 cx
    replace B := hide (below_step (unhide B) k6 (Nat.le_refl _) (by omega))
    clear k1 k2 k3 k4 k6
    go_wp2_with fail
    have ra7 := ra.kept ((Kept.refl 0 0 w6).drew) (by omega)
    have hn7 : zs.length ≤ 1099511627776 := by omega
    go_region_held3 (fun w' => w'.cell? ⟨w.heap.size, 0, none⟩ = some (.slice a zs.length c) ∧ w'.cell? ⟨w4.heap.size, 0, none⟩ = some (.slice a4 zs.length c4)) (first | exact ⟨cb, cx⟩ | exact ⟨k7.cell0 cb, k7.cell0 cx⟩ | exact ⟨k8.cell0 (k7.cell0 cb), k8.cell0 (k7.cell0 cx)⟩)
      ((first
        | (go_at_call 56
           refine (toNat_any _ hn7 ra7).mono ?_
           rintro e w7 ⟨v7, rfl, r7, k7⟩)
        | (go_at_call 57
           refine (eqNat_same _ (r4.kept ((Kept.refl 0 0 _).drew.trans k7) (Or.inr (Or.inr (Nat.le_refl _)))) r7).mono ?_
           rintro e w8 ⟨rfl, k8⟩)))
    have B8 := hide (below_step (unhide B) ((Kept.refl 0 0 w6).drew.trans (k7.trans k8)) (Nat.le_refl _) (by omega))
    clear B ra r4 ra7 r7 k7 k8
    go_wp2_with fail
    go_ret
    exact ⟨rfl, unhide B8⟩
  · rw [if_neg hbig]
    replace B := hide (below_step (unhide B) k1 (Nat.le_refl _) (by omega))
    go_wp2_with fail
    go_ret
    exact ⟨rfl, unhide B⟩
end Go.Proofs.Ytolciidbkhkfgaa
