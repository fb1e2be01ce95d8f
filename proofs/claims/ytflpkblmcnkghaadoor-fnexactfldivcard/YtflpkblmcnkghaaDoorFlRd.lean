/-
  Floats of numbers: FlRound and FlOfInt, the model's and the program's.
-/
import Derived.Test.YtflpkblmcnkghaaDoorBU
import Derived.Test.YtflpkblmcnkghaaDoorFlt3
namespace Go.Proofs.YtflpkblmcnkghaaDoor
open Go.RowKit
set_option linter.unusedVariables false
set_option maxRecDepth 8000
set_option linter.unusedSimpArgs false

theorem odd_dlm (m : Int) : dlm m ≠ [] → val (dlm m) % 2 = 1 := fun h => by
  by_cases h0 : m = 0
  · subst h0; exact absurd dlm_zero h
  · exact (dlm_pos h0).2
theorem dex_nil (m x : Int) : dlm m = [] → dex m x = 0 := fun h => by
  have : m = 0 := dlm_nil_iff.1 (by rw [h]; rfl)
  subst this
  rfl
theorem wn_dlm (m : Int) : WN (wsg m) (dlm m) := ⟨limbs_nrm _, fun h => by
  by_cases h0 : m = 0
  · subst h0; cases h
  · exact (dlm_pos h0).1⟩

set_option maxHeartbeats 400000 in
theorem bad_impl (w : World) :
    Calls Tryd.prog 20 #[] w fun e w' => e = .returned (.tuple #[flv 3 false 0 0, .int .i64 16]) ∧ Kept 0 0 w w' := by
  go_enter Tryd.func20, Tryd.ntmps20
  go_wp2_with fail
  exact bodyPost_ret (v := .tuple #[flv 3 false 0 0, .int .i64 16]) (by simp [results, Tryd.results20, go_sem]) rfl ⟨rfl, (Kept.refl 0 0 w).alloc _⟩

set_option maxHeartbeats 400000 in
theorem bad_spec (w : World) :
    Calls Tryd.prog 12 #[] w fun e w' => e = .returned (.tuple #[flv 3 false 0 0, .int .i64 16]) ∧ Kept 0 0 w w' := by
  have k0 := (Kept.refl 0 0 w).alloc (flc 0 false 0 0 24)
  have q0 : (w.alloc (flc 0 false 0 0 24)).cell? ⟨w.heap.size, 0, none⟩ = some (.int .i64 0) := new_cell2 _ _ _ _ _ _ rfl rfl
  have q1 : (w.alloc (flc 0 false 0 0 24)).cell? ⟨w.heap.size, 1, none⟩ = some (.bool false) := new_cell2 _ _ _ _ _ _ rfl rfl
  have q2 : (w.alloc (flc 0 false 0 0 24)).cell? ⟨w.heap.size, 2, none⟩ = some (.int .i64 0) := new_cell2 _ _ _ _ _ _ rfl rfl
  have q3 : (w.alloc (flc 0 false 0 0 24)).cell? ⟨w.heap.size, 3, none⟩ = some (.int .i64 0) := new_cell2 _ _ _ _ _ _ rfl rfl
  have f0 : (w.alloc (flc 0 false 0 0 24)).frozen? ⟨w.heap.size, 0, none⟩ = false := new_loose2 _ _ _ _ _ rfl
  have f1 : (w.alloc (flc 0 false 0 0 24)).frozen? ⟨w.heap.size, 1, none⟩ = false := new_loose2 _ _ _ _ _ rfl
  have f2 : (w.alloc (flc 0 false 0 0 24)).frozen? ⟨w.heap.size, 2, none⟩ = false := new_loose2 _ _ _ _ _ rfl
  have f3 : (w.alloc (flc 0 false 0 0 24)).frozen? ⟨w.heap.size, 3, none⟩ = false := new_loose2 _ _ _ _ _ rfl
  go_enter Tryd.func12, Tryd.ntmps12
  go_wp2_with fail
  refine (l5nan_any _).mono ?_
  rintro e w1 ⟨rfl, rfl⟩
  have k1 := (Kept.refl 0 0 (w.alloc (flc 0 false 0 0 24))).alloc (flc 3 false 0 0 24)
  replace f0 := k1.loose0 (World.block_lt_of_cell? _ _ q0) f0
  replace f1 := k1.loose0 (World.block_lt_of_cell? _ _ q1) f1
  replace f2 := k1.loose0 (World.block_lt_of_cell? _ _ q2) f2
  replace f3 := k1.loose0 (World.block_lt_of_cell? _ _ q3) f3
  replace q0 := k1.cell0 q0
  replace q1 := k1.cell0 q1
  replace q2 := k1.cell0 q2
  replace q3 := k1.cell0 q3
  have KF := hide (((((k0.trans k1).setNew (p := ⟨w.heap.size, 0, none⟩) (by simp) (.int .i64 3)).setNew (p := ⟨w.heap.size, 1, none⟩) (by simp) (.bool false)).setNew (p := ⟨w.heap.size, 2, none⟩) (by simp) (.int .i64 0)).setNew (p := ⟨w.heap.size, 3, none⟩) (by simp) (.int .i64 0))
  clear k0 k1
  generalize (w.alloc (flc 0 false 0 0 24)).alloc (flc 3 false 0 0 24) = W at *
  go_wp2_with fail
  exact bodyPost_ret (v := .tuple #[flv 3 false 0 0, .int .i64 16]) (by simp [results, Tryd.results12, go_sem, q0, q1, q2, q3]) rfl ⟨rfl, unhide KF⟩

end Go.Proofs.YtflpkblmcnkghaaDoor

