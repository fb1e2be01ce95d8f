/-
  Roots of floats: the program's rootOfFloat.
-/
import Derived.Test.YtflpkblmcnkghaaDoorBY
import Derived.Test.YtflpkblmcnkghaaDoorFsq1
import Derived.Test.YtflpkblmcnkghaaDoorRt3
import Derived.Test.YtflpkblmcnkghaaDoorSin
import Derived.Deep.RegionHeld3
import Derived.Deep.DeepCutAuto
namespace Go.Proofs.YtflpkblmcnkghaaDoor
open Go.RowKit
set_option linter.unusedVariables false
set_option maxRecDepth 8000
set_option linter.unusedSimpArgs false

set_option maxHeartbeats 400000 in
theorem badF_impl (w : World) :
    Calls Tryd.prog 20 #[] w fun e w' => e = .returned (.tuple #[flv 3 false 0 0, .int .i64 16]) ∧ Kept 0 0 w w' := by
  go_enter Tryd.func20, Tryd.ntmps20
  go_wp2_with fail
  exact bodyPost_ret (v := .tuple #[flv 3 false 0 0, .int .i64 16]) (by simp [results, Tryd.results20, go_sem]) rfl ⟨rfl, (Kept.refl 0 0 w).alloc _⟩

theorem inv_inf_t (n : Bool) (w : World) : (method 250 82 (.agg #[.bool n]) "loop.example/g00382/impl.told").run Tryd.prog w = .ok (118, .agg #[.bool n]) w := by kernel_rfl

set_option maxHeartbeats 400000 in
theorem told_inf_t (n : Bool) (w : World) :
    Calls Tryd.prog 118 #[.agg #[.bool n]] w fun r w' => r = .returned (flv 2 n 0 0) ∧ Kept 0 0 w w' := by
  go_enter Tryd.func118, Tryd.ntmps118
  go_wp2
  exact bodyPost_ret (v := flv 2 n 0 0) (by simp [results, Tryd.results118, go_sem]) rfl ⟨rfl, by repeat first | exact Kept.refl 0 0 _ | apply Kept.alloc⟩

theorem inv_nan_t (w : World) : (method 250 83 (.agg #[.bool false]) "loop.example/g00382/impl.told").run Tryd.prog w = .ok (119, .agg #[.bool false]) w := by kernel_rfl

set_option maxHeartbeats 400000 in
theorem told_nan_t (w : World) :
    Calls Tryd.prog 119 #[.agg #[.bool false]] w fun r w' => r = .returned (flv 3 false 0 0) ∧ Kept 0 0 w w' := by
  go_enter Tryd.func119, Tryd.ntmps119
  go_wp2
  exact bodyPost_ret (v := flv 3 false 0 0) (by simp [results, Tryd.results119, go_sem]) rfl ⟨rfl, by repeat first | exact Kept.refl 0 0 _ | apply Kept.alloc⟩

theorem inv_nought_t (n : Bool) (w : World) : (method 250 79 (.agg #[.bool n]) "loop.example/g00382/impl.told").run Tryd.prog w = .ok (114, .agg #[.bool n]) w := by kernel_rfl

set_option maxHeartbeats 400000 in
theorem told_nought_t (n : Bool) (w : World) :
    Calls Tryd.prog 114 #[.agg #[.bool n]] w fun r w' => r = .returned (flv 0 n 0 0) ∧ Kept 0 0 w w' := by
  go_enter Tryd.func114, Tryd.ntmps114
  go_wp2
  exact bodyPost_ret (v := flv 0 n 0 0) (by simp [results, Tryd.results114, go_sem]) rfl ⟨rfl, by repeat first | exact Kept.refl 0 0 _ | apply Kept.alloc⟩

theorem new_halfN {w : World} {b : Nat} {u : Value} {xs : List Int} (s : Bool) (low : Int) (mo : Bool) (t : TypeId) (O : w.ownsRow b 3 1 u xs.length (xs.map (Value.int .i64))) :
    Num b (w.alloc (.cells #[u, .bool s, .int .i64 low, .bool mo] t)) w.heap.size u xs ∧ Sd (w.alloc (.cells #[u, .bool s, .int .i64 low, .bool mo] t)) w.heap.size s ∧ Ex (w.alloc (.cells #[u, .bool s, .int .i64 low, .bool mo] t)) w.heap.size low ∧ Mo (w.alloc (.cells #[u, .bool s, .int .i64 low, .bool mo] t)) w.heap.size mo :=
  ⟨⟨new_cell2 _ _ _ _ _ _ rfl rfl, new_loose2 _ _ _ _ _ rfl, own_kept O ((Kept.refl 0 0 w).alloc _), fun e => by have := (O.lt _ e).2; omega⟩, ⟨new_cell2 _ _ _ _ _ _ rfl rfl, new_loose2 _ _ _ _ _ rfl⟩, ⟨new_cell2 _ _ _ _ _ _ rfl rfl, new_loose2 _ _ _ _ _ rfl⟩, ⟨new_cell2 _ _ _ _ _ _ rfl rfl, new_loose2 _ _ _ _ _ rfl⟩⟩
theorem sq_top_range {m e : Int} (h1 : -1074 ≤ e) (h2 : e ≤ 971) (h3 : 1 ≤ m) (h4 : m ≤ 9007199254740991) : -1074 ≤ topI (limbs m.toNat) e ∧ topI (limbs m.toNat) e ≤ 1024 ∧ e ≤ topI (limbs m.toNat) e ∧ topI (limbs m.toNat) e ≤ e + 53 := by
  have hV : m.toNat ≠ 0 := by omega
  rw [topI_limbs hV]
  have h5 : bitsN m.toNat ≤ 53 := (bitsN_le _ _).2 (by omega)
  omega

set_option maxHeartbeats 4000000 in
theorem sqI_nan (mode : Int) (hm0 : 0 ≤ mode) (hm4 : mode ≤ 4) (w : World) :
    Calls Tryd.prog 26 #[.iface 83 (.agg #[.bool false]), .int .i64 mode] w fun e' w' => e' = .returned (.tuple #[flq (sqQ 3 false 0 0 mode).1, .int .i64 (sqQ 3 false 0 0 mode).2]) ∧ Kept 0 0 w w' := by
  obtain ⟨Q, hQ⟩ : ∃ q, sqQ 3 false 0 0 mode = q := ⟨_, rfl⟩
  rw [hQ]
  have HQ := hide hQ
  clear hQ
  have FQ : Hid (Q = ((3, false, 0, 0), 0)) := by show _ = _; rw [← unhide HQ]; unfold sqQ; simp
  have i1 := fun w => inv_nan_t w
  obtain ⟨Wn, hn0⟩ : ∃ wz, wz = (w.alloc (.cells #[.int .i64 0, .bool false, .int .i64 0, .int .i64 0] 24)) := ⟨_, rfl⟩
  have k0 : Kept 0 0 w Wn := by rw [hn0]; exact ((Kept.refl 0 0 w).alloc _)
  have q0 : Wn.cell? ⟨w.heap.size, 0, none⟩ = some (.int .i64 0) := by rw [hn0]; exact new_cell2 _ _ _ _ _ _ (by simp) rfl
  have qf0 : Wn.frozen? ⟨w.heap.size, 0, none⟩ = false := by rw [hn0]; exact new_loose2 _ _ _ _ _ (by simp)
  have q1 : Wn.cell? ⟨w.heap.size, 1, none⟩ = some (.bool false) := by rw [hn0]; exact new_cell2 _ _ _ _ _ _ (by simp) rfl
  have qf1 : Wn.frozen? ⟨w.heap.size, 1, none⟩ = false := by rw [hn0]; exact new_loose2 _ _ _ _ _ (by simp)
  have q2 : Wn.cell? ⟨w.heap.size, 2, none⟩ = some (.int .i64 0) := by rw [hn0]; exact new_cell2 _ _ _ _ _ _ (by simp) rfl
  have qf2 : Wn.frozen? ⟨w.heap.size, 2, none⟩ = false := by rw [hn0]; exact new_loose2 _ _ _ _ _ (by simp)
  have q3 : Wn.cell? ⟨w.heap.size, 3, none⟩ = some (.int .i64 0) := by rw [hn0]; exact new_cell2 _ _ _ _ _ _ (by simp) rfl
  have qf3 : Wn.frozen? ⟨w.heap.size, 3, none⟩ = false := by rw [hn0]; exact new_loose2 _ _ _ _ _ (by simp)
  have s0 : Wn.heap.size = w.heap.size + 1 := by rw [hn0]; exact by simp
  subst hn0
  have K := hide (k0)
  clear k0
  have S0 := hide s0
  clear s0
  go_enter Tryd.func26, Tryd.ntmps26
  go_wp2_with fail
  generalize (w.alloc (.cells #[.int .i64 0, .bool false, .int .i64 0, .int .i64 0] 24)) = W at *
  refine (is_nan_nan _).mono ?_
  rintro e w1 ⟨rfl, k1⟩
  replace qf0 := k1.loose0 (zbl q0) qf0
  replace qf1 := k1.loose0 (zbl q1) qf1
  replace qf2 := k1.loose0 (zbl q2) qf2
  replace qf3 := k1.loose0 (zbl q3) qf3
  replace q0 := k1.cell0 q0
  replace q1 := k1.cell0 q1
  replace q2 := k1.cell0 q2
  replace q3 := k1.cell0 q3
  replace K := hide ((unhide K).trans k1)
  have z2 := k1.size
  clear k1
  go_wp2_with fail
  refine (told_nan_t _).mono ?_
  rintro e w3 ⟨rfl, k3⟩
  replace qf0 := k3.loose0 (zbl q0) qf0
  replace qf1 := k3.loose0 (zbl q1) qf1
  replace qf2 := k3.loose0 (zbl q2) qf2
  replace qf3 := k3.loose0 (zbl q3) qf3
  replace q0 := k3.cell0 q0
  replace q1 := k3.cell0 q1
  replace q2 := k3.cell0 q2
  replace q3 := k3.cell0 q3
  replace K := hide ((unhide K).trans k3)
  have z4 := k3.size
  clear k3
  have KF := hide (((((unhide K).setNew (p := ⟨w.heap.size, 0, none⟩) (by simp) (.int .i64 3)).setNew (p := ⟨w.heap.size, 1, none⟩) (by simp) (.bool false)).setNew (p := ⟨w.heap.size, 2, none⟩) (by simp) (.int .i64 0)).setNew (p := ⟨w.heap.size, 3, none⟩) (by simp) (.int .i64 0))
  clear K
  try go_wp2_with fail
  exact bodyPost_ret (v := .tuple #[.agg #[.int .i64 3, .bool false, .int .i64 0, .int .i64 0], .int .i64 0]) (by simp [results, Tryd.results26, go_sem, q0, q1, q2, q3]) rfl ⟨by rw [unhide FQ], unhide KF⟩

set_option maxHeartbeats 4000000 in
theorem sqI_nought (n : Bool) (mode : Int) (hm0 : 0 ≤ mode) (hm4 : mode ≤ 4) (w : World) :
    Calls Tryd.prog 26 #[.iface 79 (.agg #[.bool n]), .int .i64 mode] w fun e' w' => e' = .returned (.tuple #[flq (sqQ 0 n 0 0 mode).1, .int .i64 (sqQ 0 n 0 0 mode).2]) ∧ Kept 0 0 w w' := by
  obtain ⟨Q, hQ⟩ : ∃ q, sqQ 0 n 0 0 mode = q := ⟨_, rfl⟩
  rw [hQ]
  have HQ := hide hQ
  clear hQ
  have FQ : Hid (Q = ((0, n, 0, 0), 0)) := by show _ = _; rw [← unhide HQ]; unfold sqQ; simp
  have i1 := fun w => inv_nought_t n w
  obtain ⟨Wn, hn0⟩ : ∃ wz, wz = (w.alloc (.cells #[.int .i64 0, .bool false, .int .i64 0, .int .i64 0] 24)) := ⟨_, rfl⟩
  have k0 : Kept 0 0 w Wn := by rw [hn0]; exact ((Kept.refl 0 0 w).alloc _)
  have q0 : Wn.cell? ⟨w.heap.size, 0, none⟩ = some (.int .i64 0) := by rw [hn0]; exact new_cell2 _ _ _ _ _ _ (by simp) rfl
  have qf0 : Wn.frozen? ⟨w.heap.size, 0, none⟩ = false := by rw [hn0]; exact new_loose2 _ _ _ _ _ (by simp)
  have q1 : Wn.cell? ⟨w.heap.size, 1, none⟩ = some (.bool false) := by rw [hn0]; exact new_cell2 _ _ _ _ _ _ (by simp) rfl
  have qf1 : Wn.frozen? ⟨w.heap.size, 1, none⟩ = false := by rw [hn0]; exact new_loose2 _ _ _ _ _ (by simp)
  have q2 : Wn.cell? ⟨w.heap.size, 2, none⟩ = some (.int .i64 0) := by rw [hn0]; exact new_cell2 _ _ _ _ _ _ (by simp) rfl
  have qf2 : Wn.frozen? ⟨w.heap.size, 2, none⟩ = false := by rw [hn0]; exact new_loose2 _ _ _ _ _ (by simp)
  have q3 : Wn.cell? ⟨w.heap.size, 3, none⟩ = some (.int .i64 0) := by rw [hn0]; exact new_cell2 _ _ _ _ _ _ (by simp) rfl
  have qf3 : Wn.frozen? ⟨w.heap.size, 3, none⟩ = false := by rw [hn0]; exact new_loose2 _ _ _ _ _ (by simp)
  have s0 : Wn.heap.size = w.heap.size + 1 := by rw [hn0]; exact by simp
  subst hn0
  have K := hide (k0)
  clear k0
  have S0 := hide s0
  clear s0
  go_enter Tryd.func26, Tryd.ntmps26
  go_wp2_with fail
  generalize (w.alloc (.cells #[.int .i64 0, .bool false, .int .i64 0, .int .i64 0] 24)) = W at *
  refine (is_nan_nought n _).mono ?_
  rintro e w1 ⟨rfl, k1⟩
  replace qf0 := k1.loose0 (zbl q0) qf0
  replace qf1 := k1.loose0 (zbl q1) qf1
  replace qf2 := k1.loose0 (zbl q2) qf2
  replace qf3 := k1.loose0 (zbl q3) qf3
  replace q0 := k1.cell0 q0
  replace q1 := k1.cell0 q1
  replace q2 := k1.cell0 q2
  replace q3 := k1.cell0 q3
  replace K := hide ((unhide K).trans k1)
  have z2 := k1.size
  clear k1
  go_wp2_with fail
  refine (is_nought_nought n _).mono ?_
  rintro e w3 ⟨rfl, k3⟩
  replace qf0 := k3.loose0 (zbl q0) qf0
  replace qf1 := k3.loose0 (zbl q1) qf1
  replace qf2 := k3.loose0 (zbl q2) qf2
  replace qf3 := k3.loose0 (zbl q3) qf3
  replace q0 := k3.cell0 q0
  replace q1 := k3.cell0 q1
  replace q2 := k3.cell0 q2
  replace q3 := k3.cell0 q3
  replace K := hide ((unhide K).trans k3)
  have z4 := k3.size
  clear k3
  go_wp2_with fail
  refine (told_nought_t n _).mono ?_
  rintro e w5 ⟨rfl, k5⟩
  replace qf0 := k5.loose0 (zbl q0) qf0
  replace qf1 := k5.loose0 (zbl q1) qf1
  replace qf2 := k5.loose0 (zbl q2) qf2
  replace qf3 := k5.loose0 (zbl q3) qf3
  replace q0 := k5.cell0 q0
  replace q1 := k5.cell0 q1
  replace q2 := k5.cell0 q2
  replace q3 := k5.cell0 q3
  replace K := hide ((unhide K).trans k5)
  have z6 := k5.size
  clear k5
  have KF := hide (((((unhide K).setNew (p := ⟨w.heap.size, 0, none⟩) (by simp) (.int .i64 0)).setNew (p := ⟨w.heap.size, 1, none⟩) (by simp) (.bool n)).setNew (p := ⟨w.heap.size, 2, none⟩) (by simp) (.int .i64 0)).setNew (p := ⟨w.heap.size, 3, none⟩) (by simp) (.int .i64 0))
  clear K
  try go_wp2_with fail
  exact bodyPost_ret (v := .tuple #[.agg #[.int .i64 0, .bool n, .int .i64 0, .int .i64 0], .int .i64 0]) (by simp [results, Tryd.results26, go_sem, q0, q1, q2, q3]) rfl ⟨by rw [unhide FQ], unhide KF⟩

set_option maxHeartbeats 4000000 in
theorem sqI_inf_true (mode : Int) (hm0 : 0 ≤ mode) (hm4 : mode ≤ 4) (w : World) :
    Calls Tryd.prog 26 #[.iface 82 (.agg #[.bool true]), .int .i64 mode] w fun e' w' => e' = .returned (.tuple #[flq (sqQ 2 true 0 0 mode).1, .int .i64 (sqQ 2 true 0 0 mode).2]) ∧ Kept 0 0 w w' := by
  obtain ⟨Q, hQ⟩ : ∃ q, sqQ 2 true 0 0 mode = q := ⟨_, rfl⟩
  rw [hQ]
  have HQ := hide hQ
  clear hQ
  have FQ : Hid (Q = ((3, false, 0, 0), 16)) := by show _ = _; rw [← unhide HQ]; unfold sqQ; simp
  have g1 := fun w => hs_inf true w
  obtain ⟨Wn, hn0⟩ : ∃ wz, wz = (w.alloc (.cells #[.int .i64 0, .bool false, .int .i64 0, .int .i64 0] 24)) := ⟨_, rfl⟩
  have k0 : Kept 0 0 w Wn := by rw [hn0]; exact ((Kept.refl 0 0 w).alloc _)
  have q0 : Wn.cell? ⟨w.heap.size, 0, none⟩ = some (.int .i64 0) := by rw [hn0]; exact new_cell2 _ _ _ _ _ _ (by simp) rfl
  have qf0 : Wn.frozen? ⟨w.heap.size, 0, none⟩ = false := by rw [hn0]; exact new_loose2 _ _ _ _ _ (by simp)
  have q1 : Wn.cell? ⟨w.heap.size, 1, none⟩ = some (.bool false) := by rw [hn0]; exact new_cell2 _ _ _ _ _ _ (by simp) rfl
  have qf1 : Wn.frozen? ⟨w.heap.size, 1, none⟩ = false := by rw [hn0]; exact new_loose2 _ _ _ _ _ (by simp)
  have q2 : Wn.cell? ⟨w.heap.size, 2, none⟩ = some (.int .i64 0) := by rw [hn0]; exact new_cell2 _ _ _ _ _ _ (by simp) rfl
  have qf2 : Wn.frozen? ⟨w.heap.size, 2, none⟩ = false := by rw [hn0]; exact new_loose2 _ _ _ _ _ (by simp)
  have q3 : Wn.cell? ⟨w.heap.size, 3, none⟩ = some (.int .i64 0) := by rw [hn0]; exact new_cell2 _ _ _ _ _ _ (by simp) rfl
  have qf3 : Wn.frozen? ⟨w.heap.size, 3, none⟩ = false := by rw [hn0]; exact new_loose2 _ _ _ _ _ (by simp)
  have s0 : Wn.heap.size = w.heap.size + 1 := by rw [hn0]; exact by simp
  subst hn0
  have K := hide (k0)
  clear k0
  have S0 := hide s0
  clear s0
  go_enter Tryd.func26, Tryd.ntmps26
  go_wp2_with fail
  generalize (w.alloc (.cells #[.int .i64 0, .bool false, .int .i64 0, .int .i64 0] 24)) = W at *
  refine (is_nan_inf true _).mono ?_
  rintro e w1 ⟨rfl, k1⟩
  replace qf0 := k1.loose0 (zbl q0) qf0
  replace qf1 := k1.loose0 (zbl q1) qf1
  replace qf2 := k1.loose0 (zbl q2) qf2
  replace qf3 := k1.loose0 (zbl q3) qf3
  replace q0 := k1.cell0 q0
  replace q1 := k1.cell0 q1
  replace q2 := k1.cell0 q2
  replace q3 := k1.cell0 q3
  replace K := hide ((unhide K).trans k1)
  have z2 := k1.size
  clear k1
  go_wp2_with fail
  refine (is_nought_inf true _).mono ?_
  rintro e w3 ⟨rfl, k3⟩
  replace qf0 := k3.loose0 (zbl q0) qf0
  replace qf1 := k3.loose0 (zbl q1) qf1
  replace qf2 := k3.loose0 (zbl q2) qf2
  replace qf3 := k3.loose0 (zbl q3) qf3
  replace q0 := k3.cell0 q0
  replace q1 := k3.cell0 q1
  replace q2 := k3.cell0 q2
  replace q3 := k3.cell0 q3
  replace K := hide ((unhide K).trans k3)
  have z4 := k3.size
  clear k3
  go_wp2_with fail
  refine (hasSign_any true _).mono ?_
  rintro e w5 ⟨rfl, k5⟩
  replace qf0 := k5.loose0 (zbl q0) qf0
  replace qf1 := k5.loose0 (zbl q1) qf1
  replace qf2 := k5.loose0 (zbl q2) qf2
  replace qf3 := k5.loose0 (zbl q3) qf3
  replace q0 := k5.cell0 q0
  replace q1 := k5.cell0 q1
  replace q2 := k5.cell0 q2
  replace q3 := k5.cell0 q3
  replace K := hide ((unhide K).trans k5)
  have z6 := k5.size
  clear k5
  go_wp2_with fail
  refine (badF_impl _).mono ?_
  rintro e w7 ⟨rfl, k7⟩
  replace qf0 := k7.loose0 (zbl q0) qf0
  replace qf1 := k7.loose0 (zbl q1) qf1
  replace qf2 := k7.loose0 (zbl q2) qf2
  replace qf3 := k7.loose0 (zbl q3) qf3
  replace q0 := k7.cell0 q0
  replace q1 := k7.cell0 q1
  replace q2 := k7.cell0 q2
  replace q3 := k7.cell0 q3
  replace K := hide ((unhide K).trans k7)
  have z8 := k7.size
  clear k7
  have KF := hide (((((unhide K).setNew (p := ⟨w.heap.size, 0, none⟩) (by simp) (.int .i64 3)).setNew (p := ⟨w.heap.size, 1, none⟩) (by simp) (.bool false)).setNew (p := ⟨w.heap.size, 2, none⟩) (by simp) (.int .i64 0)).setNew (p := ⟨w.heap.size, 3, none⟩) (by simp) (.int .i64 0))
  clear K
  try go_wp2_with fail
  exact bodyPost_ret (v := .tuple #[.agg #[.int .i64 3, .bool false, .int .i64 0, .int .i64 0], .int .i64 16]) (by simp [results, Tryd.results26, go_sem, q0, q1, q2, q3]) rfl ⟨by rw [unhide FQ], unhide KF⟩

set_option maxHeartbeats 4000000 in
theorem sqI_inf_false (mode : Int) (hm0 : 0 ≤ mode) (hm4 : mode ≤ 4) (w : World) :
    Calls Tryd.prog 26 #[.iface 82 (.agg #[.bool false]), .int .i64 mode] w fun e' w' => e' = .returned (.tuple #[flq (sqQ 2 false 0 0 mode).1, .int .i64 (sqQ 2 false 0 0 mode).2]) ∧ Kept 0 0 w w' := by
  obtain ⟨Q, hQ⟩ : ∃ q, sqQ 2 false 0 0 mode = q := ⟨_, rfl⟩
  rw [hQ]
  have HQ := hide hQ
  clear hQ
  have FQ : Hid (Q = ((2, false, 0, 0), 0)) := by show _ = _; rw [← unhide HQ]; unfold sqQ; simp
  have i1 := fun w => inv_inf_t false w
  have g1 := fun w => hs_inf false w
  obtain ⟨Wn, hn0⟩ : ∃ wz, wz = (w.alloc (.cells #[.int .i64 0, .bool false, .int .i64 0, .int .i64 0] 24)) := ⟨_, rfl⟩
  have k0 : Kept 0 0 w Wn := by rw [hn0]; exact ((Kept.refl 0 0 w).alloc _)
  have q0 : Wn.cell? ⟨w.heap.size, 0, none⟩ = some (.int .i64 0) := by rw [hn0]; exact new_cell2 _ _ _ _ _ _ (by simp) rfl
  have qf0 : Wn.frozen? ⟨w.heap.size, 0, none⟩ = false := by rw [hn0]; exact new_loose2 _ _ _ _ _ (by simp)
  have q1 : Wn.cell? ⟨w.heap.size, 1, none⟩ = some (.bool false) := by rw [hn0]; exact new_cell2 _ _ _ _ _ _ (by simp) rfl
  have qf1 : Wn.frozen? ⟨w.heap.size, 1, none⟩ = false := by rw [hn0]; exact new_loose2 _ _ _ _ _ (by simp)
  have q2 : Wn.cell? ⟨w.heap.size, 2, none⟩ = some (.int .i64 0) := by rw [hn0]; exact new_cell2 _ _ _ _ _ _ (by simp) rfl
  have qf2 : Wn.frozen? ⟨w.heap.size, 2, none⟩ = false := by rw [hn0]; exact new_loose2 _ _ _ _ _ (by simp)
  have q3 : Wn.cell? ⟨w.heap.size, 3, none⟩ = some (.int .i64 0) := by rw [hn0]; exact new_cell2 _ _ _ _ _ _ (by simp) rfl
  have qf3 : Wn.frozen? ⟨w.heap.size, 3, none⟩ = false := by rw [hn0]; exact new_loose2 _ _ _ _ _ (by simp)
  have s0 : Wn.heap.size = w.heap.size + 1 := by rw [hn0]; exact by simp
  subst hn0
  have K := hide (k0)
  clear k0
  have S0 := hide s0
  clear s0
  go_enter Tryd.func26, Tryd.ntmps26
  go_wp2_with fail
  generalize (w.alloc (.cells #[.int .i64 0, .bool false, .int .i64 0, .int .i64 0] 24)) = W at *
  refine (is_nan_inf false _).mono ?_
  rintro e w1 ⟨rfl, k1⟩
  replace qf0 := k1.loose0 (zbl q0) qf0
  replace qf1 := k1.loose0 (zbl q1) qf1
  replace qf2 := k1.loose0 (zbl q2) qf2
  replace qf3 := k1.loose0 (zbl q3) qf3
  replace q0 := k1.cell0 q0
  replace q1 := k1.cell0 q1
  replace q2 := k1.cell0 q2
  replace q3 := k1.cell0 q3
  replace K := hide ((unhide K).trans k1)
  have z2 := k1.size
  clear k1
  go_wp2_with fail
  refine (is_nought_inf false _).mono ?_
  rintro e w3 ⟨rfl, k3⟩
  replace qf0 := k3.loose0 (zbl q0) qf0
  replace qf1 := k3.loose0 (zbl q1) qf1
  replace qf2 := k3.loose0 (zbl q2) qf2
  replace qf3 := k3.loose0 (zbl q3) qf3
  replace q0 := k3.cell0 q0
  replace q1 := k3.cell0 q1
  replace q2 := k3.cell0 q2
  replace q3 := k3.cell0 q3
  replace K := hide ((unhide K).trans k3)
  have z4 := k3.size
  clear k3
  go_wp2_with fail
  refine (hasSign_any false _).mono ?_
  rintro e w5 ⟨rfl, k5⟩
  replace qf0 := k5.loose0 (zbl q0) qf0
  replace qf1 := k5.loose0 (zbl q1) qf1
  replace qf2 := k5.loose0 (zbl q2) qf2
  replace qf3 := k5.loose0 (zbl q3) qf3
  replace q0 := k5.cell0 q0
  replace q1 := k5.cell0 q1
  replace q2 := k5.cell0 q2
  replace q3 := k5.cell0 q3
  replace K := hide ((unhide K).trans k5)
  have z6 := k5.size
  clear k5
  go_wp2_with fail
  refine (is_inf_inf false _).mono ?_
  rintro e w7 ⟨rfl, k7⟩
  replace qf0 := k7.loose0 (zbl q0) qf0
  replace qf1 := k7.loose0 (zbl q1) qf1
  replace qf2 := k7.loose0 (zbl q2) qf2
  replace qf3 := k7.loose0 (zbl q3) qf3
  replace q0 := k7.cell0 q0
  replace q1 := k7.cell0 q1
  replace q2 := k7.cell0 q2
  replace q3 := k7.cell0 q3
  replace K := hide ((unhide K).trans k7)
  have z8 := k7.size
  clear k7
  go_wp2_with fail
  refine (told_inf_t false _).mono ?_
  rintro e w9 ⟨rfl, k9⟩
  replace qf0 := k9.loose0 (zbl q0) qf0
  replace qf1 := k9.loose0 (zbl q1) qf1
  replace qf2 := k9.loose0 (zbl q2) qf2
  replace qf3 := k9.loose0 (zbl q3) qf3
  replace q0 := k9.cell0 q0
  replace q1 := k9.cell0 q1
  replace q2 := k9.cell0 q2
  replace q3 := k9.cell0 q3
  replace K := hide ((unhide K).trans k9)
  have z10 := k9.size
  clear k9
  have KF := hide (((((unhide K).setNew (p := ⟨w.heap.size, 0, none⟩) (by simp) (.int .i64 2)).setNew (p := ⟨w.heap.size, 1, none⟩) (by simp) (.bool false)).setNew (p := ⟨w.heap.size, 2, none⟩) (by simp) (.int .i64 0)).setNew (p := ⟨w.heap.size, 3, none⟩) (by simp) (.int .i64 0))
  clear K
  try go_wp2_with fail
  exact bodyPost_ret (v := .tuple #[.agg #[.int .i64 2, .bool false, .int .i64 0, .int .i64 0], .int .i64 0]) (by simp [results, Tryd.results26, go_sem, q0, q1, q2, q3]) rfl ⟨by rw [unhide FQ], unhide KF⟩

set_option maxHeartbeats 4000000 in
theorem sqI_num_true (m e : Int) (a1 : -1074 ≤ e) (a2 : e ≤ 971) (a3 : 1 ≤ m) (a4 : m ≤ 9007199254740991) (mode : Int) (hm0 : 0 ≤ mode) (hm4 : mode ≤ 4) (w : World) :
    Calls Tryd.prog 26 #[.iface 81 (.agg #[.bool true, .int .i64 m, .int .i64 e]), .int .i64 mode] w fun e' w' => e' = .returned (.tuple #[flq (sqQ 1 true m e mode).1, .int .i64 (sqQ 1 true m e mode).2]) ∧ Kept 0 0 w w' := by
  obtain ⟨Q, hQ⟩ : ∃ q, sqQ 1 true m e mode = q := ⟨_, rfl⟩
  rw [hQ]
  have HQ := hide hQ
  clear hQ
  have FQ : Hid (Q = ((3, false, 0, 0), 16)) := by show _ = _; rw [← unhide HQ]; unfold sqQ; simp
  have g1 := fun w => hs_num true m e w
  obtain ⟨Wn, hn0⟩ : ∃ wz, wz = (w.alloc (.cells #[.int .i64 0, .bool false, .int .i64 0, .int .i64 0] 24)) := ⟨_, rfl⟩
  have k0 : Kept 0 0 w Wn := by rw [hn0]; exact ((Kept.refl 0 0 w).alloc _)
  have q0 : Wn.cell? ⟨w.heap.size, 0, none⟩ = some (.int .i64 0) := by rw [hn0]; exact new_cell2 _ _ _ _ _ _ (by simp) rfl
  have qf0 : Wn.frozen? ⟨w.heap.size, 0, none⟩ = false := by rw [hn0]; exact new_loose2 _ _ _ _ _ (by simp)
  have q1 : Wn.cell? ⟨w.heap.size, 1, none⟩ = some (.bool false) := by rw [hn0]; exact new_cell2 _ _ _ _ _ _ (by simp) rfl
  have qf1 : Wn.frozen? ⟨w.heap.size, 1, none⟩ = false := by rw [hn0]; exact new_loose2 _ _ _ _ _ (by simp)
  have q2 : Wn.cell? ⟨w.heap.size, 2, none⟩ = some (.int .i64 0) := by rw [hn0]; exact new_cell2 _ _ _ _ _ _ (by simp) rfl
  have qf2 : Wn.frozen? ⟨w.heap.size, 2, none⟩ = false := by rw [hn0]; exact new_loose2 _ _ _ _ _ (by simp)
  have q3 : Wn.cell? ⟨w.heap.size, 3, none⟩ = some (.int .i64 0) := by rw [hn0]; exact new_cell2 _ _ _ _ _ _ (by simp) rfl
  have qf3 : Wn.frozen? ⟨w.heap.size, 3, none⟩ = false := by rw [hn0]; exact new_loose2 _ _ _ _ _ (by simp)
  have s0 : Wn.heap.size = w.heap.size + 1 := by rw [hn0]; exact by simp
  subst hn0
  have K := hide (k0)
  clear k0
  have S0 := hide s0
  clear s0
  go_enter Tryd.func26, Tryd.ntmps26
  go_wp2_with fail
  generalize (w.alloc (.cells #[.int .i64 0, .bool false, .int .i64 0, .int .i64 0] 24)) = W at *
  refine (is_nan_num true m e _).mono ?_
  rintro e w1 ⟨rfl, k1⟩
  replace qf0 := k1.loose0 (zbl q0) qf0
  replace qf1 := k1.loose0 (zbl q1) qf1
  replace qf2 := k1.loose0 (zbl q2) qf2
  replace qf3 := k1.loose0 (zbl q3) qf3
  replace q0 := k1.cell0 q0
  replace q1 := k1.cell0 q1
  replace q2 := k1.cell0 q2
  replace q3 := k1.cell0 q3
  replace K := hide ((unhide K).trans k1)
  have z2 := k1.size
  clear k1
  go_wp2_with fail
  refine (is_nought_num true m e _).mono ?_
  rintro e w3 ⟨rfl, k3⟩
  replace qf0 := k3.loose0 (zbl q0) qf0
  replace qf1 := k3.loose0 (zbl q1) qf1
  replace qf2 := k3.loose0 (zbl q2) qf2
  replace qf3 := k3.loose0 (zbl q3) qf3
  replace q0 := k3.cell0 q0
  replace q1 := k3.cell0 q1
  replace q2 := k3.cell0 q2
  replace q3 := k3.cell0 q3
  replace K := hide ((unhide K).trans k3)
  have z4 := k3.size
  clear k3
  go_wp2_with fail
  refine (hasSign_any true _).mono ?_
  rintro e w5 ⟨rfl, k5⟩
  replace qf0 := k5.loose0 (zbl q0) qf0
  replace qf1 := k5.loose0 (zbl q1) qf1
  replace qf2 := k5.loose0 (zbl q2) qf2
  replace qf3 := k5.loose0 (zbl q3) qf3
  replace q0 := k5.cell0 q0
  replace q1 := k5.cell0 q1
  replace q2 := k5.cell0 q2
  replace q3 := k5.cell0 q3
  replace K := hide ((unhide K).trans k5)
  have z6 := k5.size
  clear k5
  go_wp2_with fail
  refine (badF_impl _).mono ?_
  rintro e w7 ⟨rfl, k7⟩
  replace qf0 := k7.loose0 (zbl q0) qf0
  replace qf1 := k7.loose0 (zbl q1) qf1
  replace qf2 := k7.loose0 (zbl q2) qf2
  replace qf3 := k7.loose0 (zbl q3) qf3
  replace q0 := k7.cell0 q0
  replace q1 := k7.cell0 q1
  replace q2 := k7.cell0 q2
  replace q3 := k7.cell0 q3
  replace K := hide ((unhide K).trans k7)
  have z8 := k7.size
  clear k7
  have KF := hide (((((unhide K).setNew (p := ⟨w.heap.size, 0, none⟩) (by simp) (.int .i64 3)).setNew (p := ⟨w.heap.size, 1, none⟩) (by simp) (.bool false)).setNew (p := ⟨w.heap.size, 2, none⟩) (by simp) (.int .i64 0)).setNew (p := ⟨w.heap.size, 3, none⟩) (by simp) (.int .i64 0))
  clear K
  try go_wp2_with fail
  exact bodyPost_ret (v := .tuple #[.agg #[.int .i64 3, .bool false, .int .i64 0, .int .i64 0], .int .i64 16]) (by simp [results, Tryd.results26, go_sem, q0, q1, q2, q3]) rfl ⟨by rw [unhide FQ], unhide KF⟩

set_option maxHeartbeats 4000000 in
theorem sqI_num_false (m e : Int) (a1 : -1074 ≤ e) (a2 : e ≤ 971) (a3 : 1 ≤ m) (a4 : m ≤ 9007199254740991) (mode : Int) (hm0 : 0 ≤ mode) (hm4 : mode ≤ 4) (w : World) (T : TabB w) :
    Calls Tryd.prog 26 #[.iface 81 (.agg #[.bool false, .int .i64 m, .int .i64 e]), .int .i64 mode] w fun e' w' => e' = .returned (.tuple #[flq (sqQ 1 false m e mode).1, .int .i64 (sqQ 1 false m e mode).2]) ∧ Kept 0 0 w w' := by
  obtain ⟨Q, hQ⟩ : ∃ q, sqQ 1 false m e mode = q := ⟨_, rfl⟩
  rw [hQ]
  have HQ := hide hQ
  clear hQ
  have g1 := fun w => hs_num false m e w
  obtain ⟨Wn, hn0⟩ : ∃ wz, wz = (w.alloc (.cells #[.int .i64 0, .bool false, .int .i64 0, .int .i64 0] 24)) := ⟨_, rfl⟩
  have k0 : Kept 0 0 w Wn := by rw [hn0]; exact ((Kept.refl 0 0 w).alloc _)
  have q0 : Wn.cell? ⟨w.heap.size, 0, none⟩ = some (.int .i64 0) := by rw [hn0]; exact new_cell2 _ _ _ _ _ _ (by simp) rfl
  have qf0 : Wn.frozen? ⟨w.heap.size, 0, none⟩ = false := by rw [hn0]; exact new_loose2 _ _ _ _ _ (by simp)
  have q1 : Wn.cell? ⟨w.heap.size, 1, none⟩ = some (.bool false) := by rw [hn0]; exact new_cell2 _ _ _ _ _ _ (by simp) rfl
  have qf1 : Wn.frozen? ⟨w.heap.size, 1, none⟩ = false := by rw [hn0]; exact new_loose2 _ _ _ _ _ (by simp)
  have q2 : Wn.cell? ⟨w.heap.size, 2, none⟩ = some (.int .i64 0) := by rw [hn0]; exact new_cell2 _ _ _ _ _ _ (by simp) rfl
  have qf2 : Wn.frozen? ⟨w.heap.size, 2, none⟩ = false := by rw [hn0]; exact new_loose2 _ _ _ _ _ (by simp)
  have q3 : Wn.cell? ⟨w.heap.size, 3, none⟩ = some (.int .i64 0) := by rw [hn0]; exact new_cell2 _ _ _ _ _ _ (by simp) rfl
  have qf3 : Wn.frozen? ⟨w.heap.size, 3, none⟩ = false := by rw [hn0]; exact new_loose2 _ _ _ _ _ (by simp)
  have s0 : Wn.heap.size = w.heap.size + 1 := by rw [hn0]; exact by simp
  subst hn0
  have K := hide (k0)
  clear k0
  have S0 := hide s0
  clear s0
  go_enter Tryd.func26, Tryd.ntmps26
  go_wp2_with fail
  generalize (w.alloc (.cells #[.int .i64 0, .bool false, .int .i64 0, .int .i64 0] 24)) = W at *
  refine (is_nan_num false m e _).mono ?_
  rintro e w1 ⟨rfl, k1⟩
  replace qf0 := k1.loose0 (zbl q0) qf0
  replace qf1 := k1.loose0 (zbl q1) qf1
  replace qf2 := k1.loose0 (zbl q2) qf2
  replace qf3 := k1.loose0 (zbl q3) qf3
  replace q0 := k1.cell0 q0
  replace q1 := k1.cell0 q1
  replace q2 := k1.cell0 q2
  replace q3 := k1.cell0 q3
  replace K := hide ((unhide K).trans k1)
  have z2 := k1.size
  clear k1
  go_wp2_with fail
  refine (is_nought_num false m e _).mono ?_
  rintro e w3 ⟨rfl, k3⟩
  replace qf0 := k3.loose0 (zbl q0) qf0
  replace qf1 := k3.loose0 (zbl q1) qf1
  replace qf2 := k3.loose0 (zbl q2) qf2
  replace qf3 := k3.loose0 (zbl q3) qf3
  replace q0 := k3.cell0 q0
  replace q1 := k3.cell0 q1
  replace q2 := k3.cell0 q2
  replace q3 := k3.cell0 q3
  replace K := hide ((unhide K).trans k3)
  have z4 := k3.size
  clear k3
  go_wp2_with fail
  refine (hasSign_any false _).mono ?_
  rintro e w5 ⟨rfl, k5⟩
  replace qf0 := k5.loose0 (zbl q0) qf0
  replace qf1 := k5.loose0 (zbl q1) qf1
  replace qf2 := k5.loose0 (zbl q2) qf2
  replace qf3 := k5.loose0 (zbl q3) qf3
  replace q0 := k5.cell0 q0
  replace q1 := k5.cell0 q1
  replace q2 := k5.cell0 q2
  replace q3 := k5.cell0 q3
  replace K := hide ((unhide K).trans k5)
  have z6 := k5.size
  clear k5
  go_wp2_with fail
  refine (is_inf_num false m e _).mono ?_
  rintro e w7 ⟨rfl, k7⟩
  replace qf0 := k7.loose0 (zbl q0) qf0
  replace qf1 := k7.loose0 (zbl q1) qf1
  replace qf2 := k7.loose0 (zbl q2) qf2
  replace qf3 := k7.loose0 (zbl q3) qf3
  replace q0 := k7.cell0 q0
  replace q1 := k7.cell0 q1
  replace q2 := k7.cell0 q2
  replace q3 := k7.cell0 q3
  replace K := hide ((unhide K).trans k7)
  have z8 := k7.size
  clear k7
  go_wp2_with fail
  obtain ⟨xs, hxs⟩ : ∃ L : List Int, limbs m.toNat = L := ⟨_, rfl⟩
  have hn1 : Nrm xs := by rw [← hxs]; exact limbs_nrm _
  have hv1 : (val xs).toNat = m.toNat := by rw [← hxs, limbs_val, Int.toNat_natCast]
  have hl1 : xs.length ≤ 4 := by
   rw [← hxs]
   refine (limbs_length_le _ _).2 ?_
   rw [show (65536 : Int) ^ 4 = 18446744073709551616 by decide]
   omega
  obtain ⟨TT, hTT⟩ : ∃ y, topI xs e = y := ⟨_, rfl⟩
  have rT := sq_top_range a1 a2 a3 a4
  rw [hxs, hTT] at rT
  obtain ⟨TH, hTH⟩ : ∃ y, TT.tdiv 2 = y := ⟨_, rfl⟩
  have hh := half_of TT
  rw [hTH] at hh
  have hP : sqP m e = TH - 56 := by unfold sqP; rw [hxs, hTT, hTH]
  have hw1 : IntKind.i64.wrap TH = TH := w64 _ (by omega) (by omega)
  obtain ⟨LW, hLW⟩ : ∃ y, TH - 55 = y := ⟨_, rfl⟩
  have hw2 : IntKind.i64.wrap (TH - 55) = LW := by rw [w64 _ (by omega) (by omega), hLW]
  have hkk : e - 2 * (LW - 1) = e - 2 * sqP m e := by omega
  obtain ⟨H, hH⟩ : ∃ y, rtN m.toNat (e - 2 * sqP m e) = y := ⟨_, rfl⟩
  obtain ⟨L, hL⟩ : ∃ y, rtL m.toNat (e - 2 * sqP m e) = y := ⟨_, rfl⟩
  have hV : sqV m e = 2 * H + (if L = true then 1 else 0) := by unfold sqV rtQ; rw [hH, hL]
  have nH : H ≠ 0 := by rw [← hH]; exact sq_ne a3 e
  have lH : (limbs H).length ≤ 2000 := by
   have h1 := limbs_len_le (rootN_le (scN (val xs).toNat (e - 2 * sqP m e)))
   have h2 := scN_len hn1.1 (e - 2 * sqP m e) 600 (by omega)
   rw [hv1] at h1 h2
   rw [← hH]
   unfold rtN
   omega
  have Q0 := q0
  have QF0 := qf0
  have Q1 := q1
  have QF1 := qf1
  have Q2 := q2
  have QF2 := qf2
  have Q3 := q3
  have QF3 := qf3
  have KW := K
  have bS := unhide S0
  have bq := zbl q0
  have mk := valueOf_num false m e a3 a4 w7
  rw [hxs] at mk
  refine (mk).mono ?_
  rintro e w9 ⟨v1, rfl, o1, k9⟩
  replace qf0 := k9.loose0 (zbl q0) qf0
  replace qf1 := k9.loose0 (zbl q1) qf1
  replace qf2 := k9.loose0 (zbl q2) qf2
  replace qf3 := k9.loose0 (zbl q3) qf3
  replace q0 := k9.cell0 q0
  replace q1 := k9.cell0 q1
  replace q2 := k9.cell0 q2
  replace q3 := k9.cell0 q3
  replace K := hide ((unhide K).trans k9)
  have z10 := k9.size
  have KV := k9
  clear mk hxs
  have l1 := o1.lt
  obtain ⟨p1, c1, hv⟩ := own_slice o1
  subst hv
  obtain ⟨nd, dd, ee⟩ := new_dya false e 72 o1
  have kn := (Kept.refl 0 0 w9).alloc (.cells #[.slice p1 xs.length c1, .bool false, .int .i64 e] 72)
  have zN : (w9.alloc (.cells #[.slice p1 xs.length c1, .bool false, .int .i64 e] 72)).heap.size = w9.heap.size + 1 := by simp
  have zV := KV.size
  replace KV := KV.trans kn
  clear kn o1
  go_wp2_with fail
  generalize w9.alloc (.cells #[.slice p1 xs.length c1, .bool false, .int .i64 e] 72) = W5 at *
  have mk := top_impl W5 nd ee hn1 (by omega) (by omega) (by omega)
  rw [hTT] at mk
  refine mk.mono ?_
  rintro e' wq6 ⟨rfl, k6⟩
  clear mk hTT
  replace nd := nd.kept k6
  replace dd := dd.kept k6
  replace ee := ee.kept k6
  replace KV := KV.trans k6
  have z6 := k6.size
  clear k6
  go_wp2_with fail
  have mk := cutRoot_own wq6 nd ee hn1 (by omega) (by omega) LW (by omega) (by omega) (by omega) (by omega) (by omega) (T.kept ((unhide KW).trans KV))
  rw [hv1, hkk, hH, hL] at mk
  clear hH hL
  refine mk.mono ?_
  rintro e' wq7 ⟨u7, rfl, o7, m7⟩
  clear mk
  replace KV := KV.mod m7 (fun i e => e.elim (fun e => by omega) (fun e => by have := (l1 _ e).1; omega))
  have z7 := m7.size
  clear m7 nd dd ee
  have l7 := o7.lt
  obtain ⟨p7, c7, hv⟩ := own_slice o7
  subst hv
  obtain ⟨nh, dh, eh, mh⟩ := new_halfN false LW L 87 o7
  have kn := (Kept.refl 0 0 wq7).alloc (.cells #[.slice p7 (limbs H).length c7, .bool false, .int .i64 LW, .bool L] 87)
  have z8 : (wq7.alloc (.cells #[.slice p7 (limbs H).length c7, .bool false, .int .i64 LW, .bool L] 87)).heap.size = wq7.heap.size + 1 := by simp
  replace KV := KV.trans kn
  clear kn o7
  go_wp2_with fail
  generalize wq7.alloc (.cells #[.slice p7 (limbs H).length c7, .bool false, .int .i64 LW, .bool L] 87) = W8 at *
  have mk := standIn_impl W8 nh nH lH dh eh mh KV (by omega) (by omega) (by omega)
  rw [← hV] at mk
  refine mk.mono ?_
  rintro e' wq9 ⟨u9, rfl, o9, k9, z89⟩
  clear mk nh dh eh mh KV
  obtain ⟨zs, hzs⟩ : ∃ y, limbs (sqV m e) = y := ⟨_, rfl⟩
  rw [hzs] at o9
  have hnz : Nrm zs := by rw [← hzs]; exact limbs_nrm _
  have hvz : (val zs).toNat = sqV m e := by rw [← hzs, limbs_val, Int.toNat_natCast]
  have lz : zs.length ≤ 10000 := by
   rw [← hzs, hV]
   have h1 : 2 * H + (if L = true then 1 else 0) ≤ H * 2 + 1 := by split <;> omega
   have h2 := limbs_len_le h1
   have h3 := limbs_succ_len (limbs (H * 2)) (limbs_nrm _)
   rw [limbs_val, Int.toNat_natCast] at h3
   have h4 := shl1_len H lH
   omega
  clear hzs
  have l9 := o9.lt
  obtain ⟨p9, c9, hv⟩ := own_slice o9
  subst hv
  obtain ⟨nd, dd, ee⟩ := new_dya false (LW - 2) 72 o9
  have kn := (Kept.refl 0 0 wq9).alloc (.cells #[.slice p9 zs.length c9, .bool false, .int .i64 (LW - 2)] 72)
  have z9 : (wq9.alloc (.cells #[.slice p9 zs.length c9, .bool false, .int .i64 (LW - 2)] 72)).heap.size = wq9.heap.size + 1 := by simp
  have zk := k9.size
  replace k9 := k9.trans kn
  clear kn o9
  go_wp2_with fail
  generalize wq9.alloc (.cells #[.slice p9 zs.length c9, .bool false, .int .i64 (LW - 2)] 72) = WA at *
  obtain ⟨A, hA⟩ : ∃ y, flA mode false (sqV m e) (sqP m e - 1) = y := ⟨_, rfl⟩
  obtain ⟨GG, hG⟩ : ∃ y, flG mode false (sqV m e) (sqP m e - 1) = y := ⟨_, rfl⟩
  have FQ : Hid (Q = ((A.1, false, A.2.1, A.2.2), GG)) := by show _ = _; rw [← unhide HQ, ← hA, ← hG]; unfold sqQ; simp
  have mk := toFloat_impl WA nd dd ee hnz lz (by omega) (by omega) (by omega) mode hm0 hm4 (T.kept ((unhide KW).trans k9))
  rw [hvz, show LW - 2 = sqP m e - 1 by omega, hA, hG] at mk
  refine mk.mono ?_
  rintro e' wB ⟨rfl, mB⟩
  clear mk hA hG
  replace k9 := k9.mod mB (fun i e => by have := (l9 _ e).1; omega)
  replace qf0 : wB.frozen? ⟨w.heap.size, 0, none⟩ = false := k9.loose0 (zbl Q0) QF0
  replace qf1 : wB.frozen? ⟨w.heap.size, 1, none⟩ = false := k9.loose0 (zbl Q1) QF1
  replace qf2 : wB.frozen? ⟨w.heap.size, 2, none⟩ = false := k9.loose0 (zbl Q2) QF2
  replace qf3 : wB.frozen? ⟨w.heap.size, 3, none⟩ = false := k9.loose0 (zbl Q3) QF3
  replace q0 : wB.cell? ⟨w.heap.size, 0, none⟩ = _ := k9.cell0 Q0
  replace q1 : wB.cell? ⟨w.heap.size, 1, none⟩ = _ := k9.cell0 Q1
  replace q2 : wB.cell? ⟨w.heap.size, 2, none⟩ = _ := k9.cell0 Q2
  replace q3 : wB.cell? ⟨w.heap.size, 3, none⟩ = _ := k9.cell0 Q3
  replace K := hide ((unhide KW).trans k9)
  clear mB nd dd ee k9 KW Q0 Q1 Q2 Q3 QF0 QF1 QF2 QF3
  have KF := hide (((((unhide K).setNew (p := ⟨w.heap.size, 0, none⟩) (by simp) (.int .i64 A.1)).setNew (p := ⟨w.heap.size, 1, none⟩) (by simp) (.bool false)).setNew (p := ⟨w.heap.size, 2, none⟩) (by simp) (.int .i64 A.2.1)).setNew (p := ⟨w.heap.size, 3, none⟩) (by simp) (.int .i64 A.2.2))
  clear K
  try go_wp2_with fail
  exact bodyPost_ret (v := .tuple #[.agg #[.int .i64 A.1, .bool false, .int .i64 A.2.1, .int .i64 A.2.2], .int .i64 GG]) (by simp [results, Tryd.results26, go_sem, q0, q1, q2, q3]) rfl ⟨by rw [unhide FQ], unhide KF⟩

end Go.Proofs.YtflpkblmcnkghaaDoor

