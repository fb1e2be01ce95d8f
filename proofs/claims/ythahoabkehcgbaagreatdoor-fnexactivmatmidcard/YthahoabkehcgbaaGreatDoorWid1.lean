/-
  IvMatWide of the program.
-/
import Derived.Test.YthahoabkehcgbaaGreatDoorNr3
import Derived.Test.YthahoabkehcgbaaGreatDoorIvM1D
import Derived.Test.YthahoabkehcgbaaGreatDoorFit8
namespace Go.Proofs.YthahoabkehcgbaaGreatDoor
open Go.RowKit
set_option linter.unusedVariables false
set_option maxRecDepth 8000
set_option linter.unusedSimpArgs false

/-- How wide the intervals are, in units of 2 to the power -3000. -/
def widF (ds : List DE) (p : Nat) : Int := dv (-3000) (ds.getD (2 * p + 1) de0) - dv (-3000) (ds.getD (2 * p) de0)
def widM (k : Nat) (ds : List DE) : Int := mxV (colV k (widF ds)) k
def widV (n : Int) (ds : List DE) : Int := widM n.toNat ds
theorem widM_eq (k : Nat) (ds : List DE) : mxV (colV k (widF ds)) k = widM k ds := rfl
theorem two_lt {x y : Int} {A : Nat} (hx : x.natAbs < 2 ^ A) (hy : y.natAbs < 2 ^ A) : (x - y).natAbs < 2 ^ (A + 1) := by
  rw [Nat.pow_succ]; omega
theorem widF_lt {ds : List DE} {p : Nat} (h0 : dOkE (ds.getD (2 * p) de0) = true) (h1 : dOkE (ds.getD (2 * p + 1) de0) = true) {A : Nat} (hA : A = 7601) : (widF ds p).natAbs < 2 ^ A := by
  obtain ⟨B, hB⟩ : ∃ B : Nat, B = 7600 := ⟨_, rfl⟩
  have := two_lt (dv_lt h1 hB) (dv_lt h0 hB)
  rw [show A = B + 1 by omega]
  exact this
theorem widF_up {ds : List DE} {p : Nat} (h0 : dOkE (ds.getD (2 * p) de0) = true) (h1 : dOkE (ds.getD (2 * p + 1) de0) = true) : (widF ds p).natAbs < 2 ^ AA := by
  obtain ⟨A, hA⟩ : ∃ A : Nat, A = 7601 := ⟨_, rfl⟩
  exact lt_up (widF_lt h0 h1 hA) (by unfold AA; omega)
theorem widS_lt {k j m : Nat} {ds : List DE} (h4 : k ≤ 4) (hj : j < k) (hm : m ≤ k) (U : ∀ q, q < 2 * (k * k) → dOkE (ds.getD q de0) = true) : (psum (fun i => ((widF ds (i * k + j)).natAbs : Int)) m).natAbs < 2 ^ AA := by
  obtain ⟨A, hA⟩ : ∃ A : Nat, A = 7601 := ⟨_, rfl⟩
  exact lt_up (psum_lt m (fun q hq => by have hp := place_lt (show q < k by omega) hj; have := widF_lt (ds := ds) (p := q * k + j) (U _ (by omega)) (U _ (by omega)) hA; rw [Int.natAbs_natCast]; exact this)) (by unfold AA; omega)
theorem iok_both {s0 s1 : Bool} {z0 z1 : List Int} {y0 y1 : Int} (h : iokB s0 z0 y0 s1 z1 y1 = true) : dokB s0 z0 y0 = true ∧ dokB s1 z1 y1 = true := by
  unfold iokB at h
  simp only [Bool.and_eq_true] at h
  first | exact ⟨h.1.1, h.1.2⟩ | exact ⟨h.1, h.2.1⟩
theorem imok_parts {n : Int} {ds : List DE} {m : Nat} (h : imokB n ds m = true) : 1 ≤ n ∧ n ≤ 4 ∧ (m : Int) = n * n ∧ ∀ q, q < 2 * m → dOkE (ds.getD q de0) = true := by
  unfold imokB at h
  simp only [Bool.and_eq_true, decide_eq_true_eq] at h
  refine ⟨h.1.1, h.1.2, h.2.1, fun q hq => ?_⟩
  have h2 := h.2.2
  unfold ivAll at h2
  rw [List.all_eq_true] at h2
  have h3 := iok_both (show iokB _ _ _ _ _ _ = true from h2 (q / 2) (List.mem_range.2 (by omega)))
  by_cases e : q % 2 = 0
  · have : q = 2 * (q / 2) := by omega
    rw [this]; exact h3.1
  · have : q = 2 * (q / 2) + 1 := by omega
    rw [this]; exact h3.2

theorem in_wide1 : ∀ (w : World) (args : Array Value), (callFunc 81 args).run Tryz.prog w = .ok (.enter 81 args) w := enters Tryz.func81 (by decide) (fun h => by cases h)

set_option maxHeartbeats 8000000 in
theorem width_impl {lo0 hi0 lo1 hi1 : Nat} {u0 u1 : Value} {z0 z1 : List Int} (s0 s1 : Bool) (y0 y1 : Int) (w : World) (r0 : Row .i64 false lo0 hi0 w u0 z0) (r1 : Row .i64 false lo1 hi1 w u1 z1) (h0 : dOkE (s0, z0, y0) = true) (h1 : dOkE (s1, z1, y1) = true) :
    Calls Tryz.prog 81 #[.agg #[.bool s0, u0, .int .i64 y0, .bool s1, u1, .int .i64 y1]] w fun e w' => ∃ g d, e = .returned (.pointer (some ⟨g, 0, none⟩)) ∧ DyP (fun x => x < w.heap.size) w' g d ∧ NV (-3000) (dv (-3000) (s1, z1, y1) - dv (-3000) (s0, z0, y0)) d ∧ Kept 0 0 w w' := by
  obtain ⟨a0, c0, hv⟩ := Row.form' r0
  subst hv
  obtain ⟨a1, c1, hv⟩ := Row.form' r1
  subst hv
  have kA : Kept 0 0 w (w.alloc (.cells #[.bool s0, .slice a0 z0.length c0, .int .i64 y0, .bool s1, .slice a1 z1.length c1, .int .i64 y1] 102)) := (Kept.refl 0 0 w).alloc _
  have e0 : (w.alloc (.cells #[.bool s0, .slice a0 z0.length c0, .int .i64 y0, .bool s1, .slice a1 z1.length c1, .int .i64 y1] 102)).cell? ⟨w.heap.size, 0, none⟩ = some (.bool s0) := new_cell2 _ _ _ _ _ _ rfl rfl
  have e1 : (w.alloc (.cells #[.bool s0, .slice a0 z0.length c0, .int .i64 y0, .bool s1, .slice a1 z1.length c1, .int .i64 y1] 102)).cell? ⟨w.heap.size, 1, none⟩ = some (.slice a0 z0.length c0) := new_cell2 _ _ _ _ _ _ rfl rfl
  have e2 : (w.alloc (.cells #[.bool s0, .slice a0 z0.length c0, .int .i64 y0, .bool s1, .slice a1 z1.length c1, .int .i64 y1] 102)).cell? ⟨w.heap.size, 2, none⟩ = some (.int .i64 y0) := new_cell2 _ _ _ _ _ _ rfl rfl
  have e3 : (w.alloc (.cells #[.bool s0, .slice a0 z0.length c0, .int .i64 y0, .bool s1, .slice a1 z1.length c1, .int .i64 y1] 102)).cell? ⟨w.heap.size, 3, none⟩ = some (.bool s1) := new_cell2 _ _ _ _ _ _ rfl rfl
  have e4 : (w.alloc (.cells #[.bool s0, .slice a0 z0.length c0, .int .i64 y0, .bool s1, .slice a1 z1.length c1, .int .i64 y1] 102)).cell? ⟨w.heap.size, 4, none⟩ = some (.slice a1 z1.length c1) := new_cell2 _ _ _ _ _ _ rfl rfl
  have e5 : (w.alloc (.cells #[.bool s0, .slice a0 z0.length c0, .int .i64 y0, .bool s1, .slice a1 z1.length c1, .int .i64 y1] 102)).cell? ⟨w.heap.size, 5, none⟩ = some (.int .i64 y1) := new_cell2 _ _ _ _ _ _ rfl rfl
  have sA : (w.alloc (.cells #[.bool s0, .slice a0 z0.length c0, .int .i64 y0, .bool s1, .slice a1 z1.length c1, .int .i64 y1] 102)).heap.size = w.heap.size + 1 := by simp
  replace r0 := r0.kept kA (.inr (.inr (Nat.le_refl 0)))
  replace r1 := r1.kept kA (.inr (.inr (Nat.le_refl 0)))
  have hl0 := (dok_len (show dokB s0 z0 y0 = true from h0)).1
  have hl1 := (dok_len (show dokB s1 z1 y1 = true from h1)).1
  have nv0 := dok_nv h0 (Int.le_refl (-3000))
  have nv1 := dok_nv h1 (Int.le_refl (-3000))
  obtain ⟨B, hB⟩ : ∃ B : Nat, B = 7600 := ⟨_, rfl⟩
  have hs : (dv (-3000) (s1, z1, y1) + -dv (-3000) (s0, z0, y0)).natAbs < 2 ^ AA := lt_up (two_lt (dv_lt h1 hB) (dv_lt h0 hB)) (by unfold AA; omega)
  generalize dv (-3000) (s1, z1, y1) = V1 at *
  generalize dv (-3000) (s0, z0, y0) = V0 at *
  have R0 := hide r0
  have R1 := hide r1
  have N0 := hide nv0
  have N1 := hide nv1
  have HS := hide hs
  have KA := hide kA
  have SA := hide sA
  clear r0 r1 nv0 nv1 hs kA sA hB h0 h1
  go_enter Tryz.func81, Tryz.ntmps81
  go_wp2_with fail
  generalize (w.alloc (.cells #[.bool s0, .slice a0 z0.length c0, .int .i64 y0, .bool s1, .slice a1 z1.length c1, .int .i64 y1] 102)) = W at *
  have kd := (Kept.refl 0 0 W).drew
  have hdr : W.drew.heap.size = W.heap.size := rfl
  replace e0 := kd.cell0 e0
  replace e1 := kd.cell0 e1
  replace e2 := kd.cell0 e2
  replace e3 := kd.cell0 e3
  replace e4 := kd.cell0 e4
  replace e5 := kd.cell0 e5
  replace R0 := hide ((unhide R0).kept kd (.inr (.inr (Nat.le_refl 0))))
  replace R1 := hide ((unhide R1).kept kd (.inr (.inr (Nat.le_refl 0))))
  have KD := hide ((unhide KA).trans kd)
  clear kd KA
  refine wp_region_held_drew (S := (fun w' => w'.cell? ⟨w.heap.size, 0, none⟩ = some (.bool s0) ∧ w'.cell? ⟨w.heap.size, 1, none⟩ = some (.slice a0 z0.length c0) ∧ w'.cell? ⟨w.heap.size, 2, none⟩ = some (.int .i64 y0) ∧ w'.cell? ⟨w.heap.size, 3, none⟩ = some (.bool s1) ∧ w'.cell? ⟨w.heap.size, 4, none⟩ = some (.slice a1 z1.length c1) ∧ w'.cell? ⟨w.heap.size, 5, none⟩ = some (.int .i64 y1))) (by kernel_rfl) ?_ (fun hHeld => ?_)
  · exact ⟨e0, e1, e2, e3, e4, e5⟩
  refine wpAnyH_take (i := 0) (oi := _) (v := .pointer (some ⟨w.heap.size, 3, none⟩)) rfl (by kernel_rfl) (by kernel_rfl) (by kernel_rfl) (fun _ _ _ h => h) (Or.inl ⟨by rfl, ?_⟩) hHeld ?_
  · intro wq hSw
    try dsimp only at hSw
    go_simp
  try simp only [Act.put, List.getElem_toArray, List.getElem_cons_succ, List.getElem_cons_zero, List.setIfInBounds_toArray, List.set_cons_zero, List.set_cons_succ]
  refine wpAnyH_take (i := 1) (oi := _) (v := .agg #[.bool s1, .slice a1 z1.length c1, .int .i64 y1]) rfl (by kernel_rfl) (by kernel_rfl) (by kernel_rfl) (fun _ _ _ h => h) (Or.inl ⟨by rfl, ?_⟩) hHeld ?_
  · intro wq hSw
    try dsimp only at hSw
    go_simp
  try simp only [Act.put, List.getElem_toArray, List.getElem_cons_succ, List.getElem_cons_zero, List.setIfInBounds_toArray, List.set_cons_zero, List.set_cons_succ]
  refine wpAnyH_take (i := 3) (oi := _) (v := .pointer (some ⟨w.heap.size, 0, none⟩)) rfl (by kernel_rfl) (by kernel_rfl) (by kernel_rfl) (fun _ _ _ h => h) (Or.inl ⟨by rfl, ?_⟩) hHeld ?_
  · intro wq hSw
    try dsimp only at hSw
    go_simp
  try simp only [Act.put, List.getElem_toArray, List.getElem_cons_succ, List.getElem_cons_zero, List.setIfInBounds_toArray, List.set_cons_zero, List.set_cons_succ]
  refine wpAnyH_take (i := 4) (oi := _) (v := .agg #[.bool s0, .slice a0 z0.length c0, .int .i64 y0]) rfl (by kernel_rfl) (by kernel_rfl) (by kernel_rfl) (fun _ _ _ h => h) (Or.inl ⟨by rfl, ?_⟩) hHeld ?_
  · intro wq hSw
    try dsimp only at hSw
    go_simp
  try simp only [Act.put, List.getElem_toArray, List.getElem_cons_succ, List.getElem_cons_zero, List.setIfInBounds_toArray, List.set_cons_zero, List.set_cons_succ]
  refine wpAnyH_ready (rs := [2]) (by kernel_rfl) (by simp) ?_
  refine AllReadyH.cons rfl (fun KK hK => ?_) AllReadyH.nil
  simp only [List.getElem_toArray, List.getElem_cons_succ, List.getElem_cons_zero]
  rw [if_pos (by rfl)]
  refine wps1 65 (.tmp 4) _ rfl in_newDyadic (.agg #[.bool s1, .slice a1 z1.length c1, .int .i64 y1]) rfl (newDyadic_impl s1 y1 _ (unhide R1) (by omega)) ?_
  rintro e w1 ⟨g1, rfl, D1, k1⟩
  refine ⟨_, rfl, ?_⟩
  have P1 := hide D1
  have K1 := hide ((unhide KD).trans k1)
  replace R0 := hide ((unhide R0).kept k1 (.inr (.inr (Nat.le_refl 0))))
  have Z1 := k1.size
  replace e0 := k1.cell0 e0
  replace e1 := k1.cell0 e1
  replace e2 := k1.cell0 e2
  replace e3 := k1.cell0 e3
  replace e4 := k1.cell0 e4
  replace e5 := k1.cell0 e5
  clear D1 k1 KD R1
  clear hHeld
  refine hK.out _ _ ?_ (fun hHeld => ?_)
  · exact ⟨e0, e1, e2, e3, e4, e5⟩
  clear hK KK
  try simp only [Act.put, List.getElem_toArray, List.getElem_cons_succ, List.getElem_cons_zero, List.setIfInBounds_toArray, List.set_cons_zero, List.set_cons_succ]
  refine wpAnyH_ready (rs := [5]) (by kernel_rfl) (by simp) ?_
  refine AllReadyH.cons rfl (fun KK hK => ?_) AllReadyH.nil
  simp only [List.getElem_toArray, List.getElem_cons_succ, List.getElem_cons_zero]
  rw [if_pos (by rfl)]
  refine wps1 65 (.tmp 7) _ rfl in_newDyadic (.agg #[.bool s0, .slice a0 z0.length c0, .int .i64 y0]) rfl (newDyadic_impl s0 y0 _ (unhide R0) (by omega)) ?_
  rintro e w2 ⟨g2, rfl, D2, k2⟩
  refine ⟨_, rfl, ?_⟩
  have P2 := hide D2
  replace P1 := hide ((unhide P1).kept k2)
  have K2 := hide ((unhide K1).trans k2)
  have Z2 := k2.size
  replace e0 := k2.cell0 e0
  replace e1 := k2.cell0 e1
  replace e2 := k2.cell0 e2
  replace e3 := k2.cell0 e3
  replace e4 := k2.cell0 e4
  replace e5 := k2.cell0 e5
  clear D2 k2 K1 R0
  clear hHeld
  refine hK.out _ _ ?_ (fun hHeld => ?_)
  · exact ⟨e0, e1, e2, e3, e4, e5⟩
  clear hK KK
  try simp only [Act.put, List.getElem_toArray, List.getElem_cons_succ, List.getElem_cons_zero, List.setIfInBounds_toArray, List.set_cons_zero, List.set_cons_succ]
  refine wpAnyH_ready (rs := [6]) (by kernel_rfl) (by simp) ?_
  refine AllReadyH.cons rfl (fun KK hK => ?_) AllReadyH.nil
  simp only [List.getElem_toArray, List.getElem_cons_succ, List.getElem_cons_zero]
  rw [if_pos (by rfl)]
  obtain ⟨q2, n2, d2, x2⟩ := (unhide P2).parts
  refine wps1 83 (.tmp 8) _ rfl in_oppD (.pointer (some ⟨g2, 0, none⟩)) rfl (oppD_impl _ n2 d2 x2 (unhide N0)) ?_
  rintro e w3 ⟨g3, d3, rfl, D3, nv3, k3⟩
  refine ⟨_, rfl, ?_⟩
  have P3 := hide D3
  have N3 := hide nv3
  replace P1 := hide ((unhide P1).kept k3)
  have K3 := hide ((unhide K2).trans k3)
  have Z3 := k3.size
  replace e0 := k3.cell0 e0
  replace e1 := k3.cell0 e1
  replace e2 := k3.cell0 e2
  replace e3 := k3.cell0 e3
  replace e4 := k3.cell0 e4
  replace e5 := k3.cell0 e5
  clear n2 d2 x2 D3 nv3 k3 K2 P2 N0
  clear hHeld
  refine hK.out _ _ ?_ (fun hHeld => ?_)
  · exact ⟨e0, e1, e2, e3, e4, e5⟩
  clear hK KK
  try simp only [Act.put, List.getElem_toArray, List.getElem_cons_succ, List.getElem_cons_zero, List.setIfInBounds_toArray, List.set_cons_zero, List.set_cons_succ]
  refine wpAnyH_ready (rs := [7]) (by kernel_rfl) (by simp) ?_
  refine AllReadyH.cons rfl (fun KK hK => ?_) AllReadyH.nil
  simp only [List.getElem_toArray, List.getElem_cons_succ, List.getElem_cons_zero]
  rw [if_pos (by rfl)]
  obtain ⟨q1, n1, d1, x1⟩ := (unhide P1).parts
  obtain ⟨q3, n3, m3, x3⟩ := (unhide P3).parts
  refine wps2 82 (.tmp 5) (.tmp 9) _ rfl in_plusD (.pointer (some ⟨g1, 0, none⟩)) (.pointer (some ⟨g3, 0, none⟩)) rfl rfl (plusD_impl _ (by decide) n1 d1 x1 n3 m3 x3 (unhide N1) (unhide N3) (unhide HS)) ?_
  rintro e w4 ⟨g4, d4, rfl, D4, nv4, k4⟩
  refine ⟨_, rfl, ?_⟩
  have sA := unhide SA
  have P4 : Hid (DyP (fun x => x < w.heap.size) w4 g4 d4) := D4.less (fun x hx _ => by omega)
  have N4 : Hid (NV (-3000) (V1 - V0) d4) := nv4
  have K4 := hide ((unhide K3).trans k4)
  replace e0 := k4.cell0 e0
  replace e1 := k4.cell0 e1
  replace e2 := k4.cell0 e2
  replace e3 := k4.cell0 e3
  replace e4 := k4.cell0 e4
  replace e5 := k4.cell0 e5
  clear n1 d1 x1 n3 m3 x3 D4 nv4 k4 K3 P1 P3 N1 N3 HS sA
  clear hHeld
  refine hK.out _ _ ?_ (fun hHeld => ?_)
  · exact ⟨e0, e1, e2, e3, e4, e5⟩
  clear hK KK
  try simp only [Act.put, List.getElem_toArray, List.getElem_cons_succ, List.getElem_cons_zero, List.setIfInBounds_toArray, List.set_cons_zero, List.set_cons_succ]
  refine wpAnyH_take (i := 8) (oi := _) (v := .pointer (some ⟨g4, 0, none⟩)) rfl (by kernel_rfl) (by kernel_rfl) (by kernel_rfl) (fun _ _ _ h => h) (Or.inl ⟨by rfl, ?_⟩) hHeld ?_
  · intro wq hSw
    try dsimp only at hSw
    go_simp
  try simp only [Act.put, List.getElem_toArray, List.getElem_cons_succ, List.getElem_cons_zero, List.setIfInBounds_toArray, List.set_cons_zero, List.set_cons_succ]
  refine wpAnyH_done (by kernel_rfl) ?_ _
  clear hHeld
  go_wp2
  go_ret
  exact ⟨g4, d4, rfl, unhide P4, unhide N4, unhide K4⟩

theorem in_squareFromV1 : ∀ (w : World) (args : Array Value), (callFunc 141 args).run Tryz.prog w = .ok (.enter 141 args) w := enters Tryz.func141 (by decide) (fun h => by cases h)

set_option maxHeartbeats 8000000 in
theorem squareFromV1_impl {lo hi B n m i j : Nat} {v : Value} {ds : List DE} (w : World) (hn : n ≤ 1000) (hi' : i < n) (hj : j < n) (hl : m = n * n) (U : ∀ q, q < 2 * m → dOkE (ds.getD q de0) = true)
    (c0 : w.cell? ⟨B, 0, none⟩ = some (.int .i64 (n : Int))) (c1 : w.cell? ⟨B + 1, 0, none⟩ = some v) (c2 : w.cell? ⟨B + 2, 0, none⟩ = some (.func (.func 81) #[] #[])) (r : Ivs lo hi w v ds m) :
    Calls Tryz.prog 141 #[.int .i64 (i : Int), .int .i64 (j : Int), .pointer (some ⟨B + 2, 0, none⟩), .pointer (some ⟨B + 1, 0, none⟩), .pointer (some ⟨B, 0, none⟩)] w fun e w' => ∃ g d, e = .returned (.pointer (some ⟨g, 0, none⟩)) ∧ DyP (fun x => x < w.heap.size) w' g d ∧ NV (-3000) (widF ds (i * n + j)) d ∧ Kept 0 0 w w' := by
  have hp := place_lt hi' hj
  have hnn : n * n ≤ 1000000 := Nat.mul_le_mul hn hn
  have hin : i * n ≤ n * n := by omega
  obtain ⟨p, hpp⟩ : ∃ p, p = i * n + j := ⟨_, rfl⟩
  have hpl : p < m := by omega
  obtain ⟨a, c, rfl, -, -⟩ := r.form
  obtain ⟨g, off, l0, l1, rfl, -, -, -, b, kk, b', kk', e0, e1, e2, e3, e4, e5, hln0, hln1, rr0, rr1⟩ := r.at (i := p) hpl
  have hk0 := U (2 * p) (by omega)
  have hk1 := U (2 * p + 1) (by omega)
  rw [← hpp]
  have hWF : widF ds p = dv (-3000) (ds.getD (2 * p + 1) de0) - dv (-3000) (ds.getD (2 * p) de0) := rfl
  obtain ⟨⟨s0, z0, y0⟩, hE0⟩ : ∃ q, q = ds.getD (2 * p) de0 := ⟨_, rfl⟩
  obtain ⟨⟨s1, z1, y1⟩, hE1⟩ : ∃ q, q = ds.getD (2 * p + 1) de0 := ⟨_, rfl⟩
  rw [hWF]
  rw [← hE0] at e0 e2 hln0 rr0 hk0 ⊢
  rw [← hE1] at e3 e5 hln1 rr1 hk1 ⊢
  dsimp only at e0 e2 hln0 rr0 e3 e5 hln1 rr1
  have kd := (Kept.refl 0 0 w).drew
  have hd := width_impl s0 s1 y0 y1 w.drew (rr0.kept kd (by omega)) (rr1.kept kd (by omega)) hk0 hk1
  have hw1 : IntKind.i64.wrap ((i : Int) * (n : Int)) = (((i * n : Nat)) : Int) := by rw [IntKind.wrap_i64, ← Int.natCast_mul]; omega
  have hw2 : IntKind.i64.wrap ((((i * n : Nat)) : Int) + (j : Int)) = (p : Int) := by rw [IntKind.wrap_i64, hpp]; omega
  obtain ⟨im, him⟩ : ∃ im : Nat, i * n = im := ⟨_, rfl⟩
  rw [him] at hw1 hw2
  generalize dv (-3000) (s1, z1, y1) - dv (-3000) (s0, z0, y0) = VV at *
  clear him hE0 hE1 hWF hk0 hk1 hln0 hln1 rr0 rr1 hpp hp hnn hin hl r U
  replace c0 := kd.cell0 c0
  replace c1 := kd.cell0 c1
  replace c2 := kd.cell0 c2
  replace e0 := kd.cell0 e0
  replace e1 := kd.cell0 e1
  replace e2 := kd.cell0 e2
  replace e3 := kd.cell0 e3
  replace e4 := kd.cell0 e4
  replace e5 := kd.cell0 e5
  go_enter Tryz.func141, Tryz.ntmps141
  go_wp2_with fail
  refine wp_region_held_drew (S := (fun w' => w'.cell? ⟨B + 2, 0, none⟩ = some (.func (.func 81) #[] #[]) ∧ w'.cell? ⟨B + 1, 0, none⟩ = some (.slice (some ⟨g, off, none⟩) m c) ∧ w'.cell? ⟨B, 0, none⟩ = some (.int .i64 (n : Int)) ∧ w'.cell? ⟨g, off + p * 6, none⟩ = some (.bool s0) ∧ w'.cell? ⟨g, off + p * 6 + 1, none⟩ = some (.slice b l0 kk) ∧ w'.cell? ⟨g, off + p * 6 + 2, none⟩ = some (.int .i64 y0) ∧ w'.cell? ⟨g, off + p * 6 + 3, none⟩ = some (.bool s1) ∧ w'.cell? ⟨g, off + p * 6 + 4, none⟩ = some (.slice b' l1 kk') ∧ w'.cell? ⟨g, off + p * 6 + 5, none⟩ = some (.int .i64 y1))) (by kernel_rfl) ?_ (fun hHeld => ?_)
  · exact ⟨c2, c1, c0, e0, e1, e2, e3, e4, e5⟩
  refine wpAnyH_take (i := 0) (oi := _) (v := .func (.func 81) #[] #[]) rfl (by kernel_rfl) (by kernel_rfl) (by kernel_rfl) (fun _ _ _ h => h) (Or.inl ⟨by rfl, ?_⟩) hHeld ?_
  · intro wq hSw
    try dsimp only at hSw
    go_simp
  try simp only [Act.put, List.getElem_toArray, List.getElem_cons_succ, List.getElem_cons_zero, List.setIfInBounds_toArray, List.set_cons_zero, List.set_cons_succ]
  refine wpAnyH_take (i := 1) (oi := _) (v := .slice (some ⟨g, off, none⟩) m c) rfl (by kernel_rfl) (by kernel_rfl) (by kernel_rfl) (fun _ _ _ h => h) (Or.inl ⟨by rfl, ?_⟩) hHeld ?_
  · intro wq hSw
    try dsimp only at hSw
    go_simp
  try simp only [Act.put, List.getElem_toArray, List.getElem_cons_succ, List.getElem_cons_zero, List.setIfInBounds_toArray, List.set_cons_zero, List.set_cons_succ]
  refine wpAnyH_take (i := 2) (oi := _) (v := .int .i64 (i : Int)) rfl (by kernel_rfl) (by kernel_rfl) (by kernel_rfl) (fun _ _ _ h => h) (Or.inl ⟨by rfl, ?_⟩) hHeld ?_
  · intro wq hSw
    try dsimp only at hSw
    go_simp
  try simp only [Act.put, List.getElem_toArray, List.getElem_cons_succ, List.getElem_cons_zero, List.setIfInBounds_toArray, List.set_cons_zero, List.set_cons_succ]
  refine wpAnyH_take (i := 3) (oi := _) (v := .int .i64 (n : Int)) rfl (by kernel_rfl) (by kernel_rfl) (by kernel_rfl) (fun _ _ _ h => h) (Or.inl ⟨by rfl, ?_⟩) hHeld ?_
  · intro wq hSw
    try dsimp only at hSw
    go_simp
  try simp only [Act.put, List.getElem_toArray, List.getElem_cons_succ, List.getElem_cons_zero, List.setIfInBounds_toArray, List.set_cons_zero, List.set_cons_succ]
  refine wpAnyH_take (i := 4) (oi := _) (v := .int .i64 (im : Int)) rfl (by kernel_rfl) (by kernel_rfl) (by kernel_rfl) (fun _ _ _ h => h) (Or.inl ⟨by rfl, ?_⟩) hHeld ?_
  · intro wq hSw
    try dsimp only at hSw
    go_simp
  try simp only [Act.put, List.getElem_toArray, List.getElem_cons_succ, List.getElem_cons_zero, List.setIfInBounds_toArray, List.set_cons_zero, List.set_cons_succ]
  refine wpAnyH_take (i := 5) (oi := _) (v := .int .i64 (j : Int)) rfl (by kernel_rfl) (by kernel_rfl) (by kernel_rfl) (fun _ _ _ h => h) (Or.inl ⟨by rfl, ?_⟩) hHeld ?_
  · intro wq hSw
    try dsimp only at hSw
    go_simp
  try simp only [Act.put, List.getElem_toArray, List.getElem_cons_succ, List.getElem_cons_zero, List.setIfInBounds_toArray, List.set_cons_zero, List.set_cons_succ]
  refine wpAnyH_take (i := 6) (oi := _) (v := .int .i64 (p : Int)) rfl (by kernel_rfl) (by kernel_rfl) (by kernel_rfl) (fun _ _ _ h => h) (Or.inl ⟨by rfl, ?_⟩) hHeld ?_
  · intro wq hSw
    try dsimp only at hSw
    go_simp
  try simp only [Act.put, List.getElem_toArray, List.getElem_cons_succ, List.getElem_cons_zero, List.setIfInBounds_toArray, List.set_cons_zero, List.set_cons_succ]
  refine wpAnyH_take (i := 7) (oi := _) (v := .pointer (some ⟨g, off + p * 6, none⟩)) rfl (by kernel_rfl) (by kernel_rfl) (by kernel_rfl) (fun _ _ _ h => h) (Or.inl ⟨by rfl, ?_⟩) hHeld ?_
  · intro wq hSw
    try dsimp only at hSw
    go_simp
  try simp only [Act.put, List.getElem_toArray, List.getElem_cons_succ, List.getElem_cons_zero, List.setIfInBounds_toArray, List.set_cons_zero, List.set_cons_succ]
  refine wpAnyH_take (i := 8) (oi := _) (v := .agg #[.bool s0, .slice b l0 kk, .int .i64 y0, .bool s1, .slice b' l1 kk', .int .i64 y1]) rfl (by kernel_rfl) (by kernel_rfl) (by kernel_rfl) (fun _ _ _ h => h) (Or.inl ⟨by rfl, ?_⟩) hHeld ?_
  · intro wq hSw
    try dsimp only at hSw
    go_simp
  try simp only [Act.put, List.getElem_toArray, List.getElem_cons_succ, List.getElem_cons_zero, List.setIfInBounds_toArray, List.set_cons_zero, List.set_cons_succ]
  refine wpAnyH_ready (rs := [9]) (by kernel_rfl) (by simp) ?_
  refine AllReadyH.cons rfl (fun KK hK => ?_) AllReadyH.nil
  simp only [List.getElem_toArray, List.getElem_cons_succ, List.getElem_cons_zero]
  rw [if_pos (by rfl)]
  refine wpv1 81 (.tmp 8) (.tmp 16) _ rfl rfl in_wide1 (.agg #[.bool s0, .slice b l0 kk, .int .i64 y0, .bool s1, .slice b' l1 kk', .int .i64 y1]) rfl hd ?_
  rintro e w1 ⟨g1, d1, rfl, D1, nv1, k1⟩
  refine ⟨_, rfl, ?_⟩
  have D := hide D1
  have NN := hide nv1
  have K1 := hide (kd.trans k1)
  replace c0 := k1.cell0 c0
  replace c1 := k1.cell0 c1
  replace c2 := k1.cell0 c2
  replace e0 := k1.cell0 e0
  replace e1 := k1.cell0 e1
  replace e2 := k1.cell0 e2
  replace e3 := k1.cell0 e3
  replace e4 := k1.cell0 e4
  replace e5 := k1.cell0 e5
  clear hd D1 nv1 k1 kd
  clear hHeld
  refine hK.out _ _ ?_ (fun hHeld => ?_)
  · exact ⟨c2, c1, c0, e0, e1, e2, e3, e4, e5⟩
  clear hK KK
  try simp only [Act.put, List.getElem_toArray, List.getElem_cons_succ, List.getElem_cons_zero, List.setIfInBounds_toArray, List.set_cons_zero, List.set_cons_succ]
  refine wpAnyH_take (i := 10) (oi := _) (v := .pointer (some ⟨g1, 0, none⟩)) rfl (by kernel_rfl) (by kernel_rfl) (by kernel_rfl) (fun _ _ _ h => h) (Or.inl ⟨by rfl, ?_⟩) hHeld ?_
  · intro wq hSw
    try dsimp only at hSw
    go_simp
  try simp only [Act.put, List.getElem_toArray, List.getElem_cons_succ, List.getElem_cons_zero, List.setIfInBounds_toArray, List.set_cons_zero, List.set_cons_succ]
  refine wpAnyH_done (by kernel_rfl) ?_ _
  clear hHeld
  go_wp2
  go_ret
  exact ⟨_, d1, rfl, unhide D, unhide NN, unhide K1⟩

set_option maxHeartbeats 4000000 in
theorem squareFromV_impl {lo hi n m : Nat} {v : Value} {ds : List DE} (w : World) (hn : n ≤ 1000) (hl : m = n * n) (U : ∀ q, q < 2 * m → dOkE (ds.getD q de0) = true) (r : Ivs lo hi w v ds m) :
    Calls Tryz.prog 80 #[.int .i64 (n : Int), v, .func (.func 81) #[] #[]] w fun e w' => ∃ R G S F, e = .returned (.agg #[.slice (some ⟨R, 0, none⟩) n n]) ∧ SqG S w' R n n G ∧ Nums w.heap.size S w' (n * n) G F ∧ (∀ p, p < n * n → NV (-3000) (widF ds p) (F p)) ∧ (∀ x, S x → w.heap.size ≤ x ∧ x < w'.heap.size) ∧ w.heap.size ≤ R ∧ Kept 0 0 w w' := by
  obtain ⟨W, hW⟩ : ∃ W, W = (((w.alloc (.cells #[.int .i64 (n : Int)] 3)).alloc (.cells #[v] 26)).alloc (.cells #[.func (.func 81) #[] #[]] 116)).alloc (.cells #[.slice none 0 0] 113) := ⟨_, rfl⟩
  have k0 : Kept 0 0 w W := by rw [hW]; exact ((((Kept.refl 0 0 w).alloc _).alloc _).alloc _).alloc _
  have c0 : W.cell? ⟨w.heap.size, 0, none⟩ = some (.int .i64 (n : Int)) := by rw [hW]; exact old_cell _ (old_cell _ (old_cell _ (new_cell_at _ _ _ _ rfl)))
  have c1 : W.cell? ⟨w.heap.size + 1, 0, none⟩ = some v := by rw [hW]; exact old_cell _ (old_cell _ (new_cell_at _ _ _ _ (by simp)))
  have c2 : W.cell? ⟨w.heap.size + 2, 0, none⟩ = some (.func (.func 81) #[] #[]) := by rw [hW]; exact old_cell _ (new_cell_at _ _ _ _ (by simp))
  have q0 : W.cell? ⟨w.heap.size + 3, 0, none⟩ = some (.slice none 0 0) := by rw [hW]; exact new_cell2 _ _ _ _ _ _ (by simp) rfl
  have qf : W.frozen? ⟨w.heap.size + 3, 0, none⟩ = false := by rw [hW]; exact new_loose2 _ _ _ _ _ (by simp)
  have sW : W.heap.size = w.heap.size + 4 := by rw [hW]; simp
  have r0 := r.kept k0 (by omega)
  have hm := makeSquare_newQ (n := n) hn 141 in_squareFromV1 #[.pointer (some ⟨w.heap.size + 2, 0, none⟩), .pointer (some ⟨w.heap.size + 1, 0, none⟩), .pointer (some ⟨w.heap.size, 0, none⟩)] (fun p d => NV (-3000) (widF ds p) d) W (fun i j w' hi hj k => squareFromV1_impl (B := w.heap.size) w' hn hi hj hl U (k.cell0 c0) (k.cell0 c1) (k.cell0 c2) (r0.kept k (by omega)))
  obtain ⟨a, c, rfl, -, -⟩ := r.form
  rw [hW] at hm c0
  have SW := hide sW
  clear r r0 U sW hl c1 c2
  go_enter Tryz.func80, Tryz.ntmps80
  go_wp2_with fail
  refine hm.mono ?_
  rw [← hW]
  rintro e w1 ⟨R, G, S, F, rfl, sq, nm, hQ, hS, hR, k1⟩
  have q1 := k1.cell0 q0
  have qf1 := k1.loose0 (World.block_lt_of_cell? _ _ q0) qf
  have sW := unhide SW
  have E1 := cell_on w1 (w.heap.size + 3) 0 (.slice (some ⟨R, 0, none⟩) n n) _ q1
  have ks : Kept (w.heap.size + 3) (w.heap.size + 3 + 1) w1 (w1.setCell ⟨w.heap.size + 3, 0, none⟩ (.slice (some ⟨R, 0, none⟩) n n)) := (Kept.refl _ _ _).setCell (p := ⟨w.heap.size + 3, 0, none⟩) (Nat.le_refl _) (Nat.lt_succ_self _) _
  have S2 : Hid (SqG S (w1.setCell ⟨w.heap.size + 3, 0, none⟩ (.slice (some ⟨R, 0, none⟩) n n)) R n n G ∧ Nums w.heap.size S (w1.setCell ⟨w.heap.size + 3, 0, none⟩ (.slice (some ⟨R, 0, none⟩) n n)) (n * n) G F ∧ (∀ x, S x → w.heap.size ≤ x ∧ x < (w1.setCell ⟨w.heap.size + 3, 0, none⟩ (.slice (some ⟨R, 0, none⟩) n n)).heap.size)) :=
    ⟨sq.keptY ks (by omega), (nm.win ks (by omega)).less (by omega), fun x hx => by (have := hS x hx; rw [size_set]; omega)⟩
  have K2 := hide ((k0.trans k1).wide ks (by omega))
  have hRR : w.heap.size ≤ R := by omega
  have NQ := hide hQ
  clear hm sq nm hQ hS hR k1 ks sW q0 qf c0
  go_wp2
  exact bodyPost_ret (v := .agg #[.slice (some ⟨R, 0, none⟩) n n]) (by simp [results, Tryz.results80, go_sem, E1]) rfl ⟨R, G, S, F, rfl, (unhide S2).1, (unhide S2).2.1, unhide NQ, (unhide S2).2.2, by have := hRR; omega, unhide K2⟩

set_option maxHeartbeats 16000000 in
theorem ivMatWide_impl {lo hi m : Nat} {v : Value} {ds : List DE} (n : Int) (w : World) (hw : WfD ds) (r : Ivs lo hi w v ds m) (T : TabB w) :
    Calls Tryz.prog 35 #[.agg #[.int .i64 n, v]] w fun e w' => ∃ v', e = .returned (.tuple #[.agg #[.bool (ansDS (imokB n ds m) (widV n ds) (-3000)), v', .int .i64 (ansDE (imokB n ds m) (widV n ds) (-3000))], .bool (ansDB (imokB n ds m) (widV n ds) (-3000))]) ∧ Row .i64 true w.heap.size w'.heap.size w' v' (ansDL (imokB n ds m) (widV n ds) (-3000)) ∧ Kept 0 0 w w' := by
  obtain ⟨W, hW⟩ : ∃ W, W = (w.alloc (.cells #[.int .i64 n, v] 28)).alloc (.cells #[.bool false, .slice none 0 0, .int .i64 0] 52) := ⟨_, rfl⟩
  have k0 : Kept 0 0 w W := by rw [hW]; exact ((Kept.refl 0 0 w).alloc _).alloc _
  have c0 : W.cell? ⟨w.heap.size, 0, none⟩ = some (.int .i64 n) := by rw [hW]; exact old_cell _ (new_cell2 _ _ _ _ _ _ (by simp) rfl)
  have c1 : W.cell? ⟨w.heap.size, 1, none⟩ = some v := by rw [hW]; exact old_cell _ (new_cell2 _ _ _ _ _ _ (by simp) rfl)
  have q0 : W.cell? ⟨w.heap.size + 1, 0, none⟩ = some (.bool false) := by rw [hW]; exact new_cell2 _ _ _ _ _ _ (by simp) rfl
  have f0 : W.frozen? ⟨w.heap.size + 1, 0, none⟩ = false := by rw [hW]; exact new_loose2 _ _ _ _ _ (by simp)
  have q1 : W.cell? ⟨w.heap.size + 1, 1, none⟩ = some (.slice none 0 0) := by rw [hW]; exact new_cell2 _ _ _ _ _ _ (by simp) rfl
  have f1 : W.frozen? ⟨w.heap.size + 1, 1, none⟩ = false := by rw [hW]; exact new_loose2 _ _ _ _ _ (by simp)
  have q2 : W.cell? ⟨w.heap.size + 1, 2, none⟩ = some (.int .i64 0) := by rw [hW]; exact new_cell2 _ _ _ _ _ _ (by simp) rfl
  have f2 : W.frozen? ⟨w.heap.size + 1, 2, none⟩ = false := by rw [hW]; exact new_loose2 _ _ _ _ _ (by simp)
  have sW : W.heap.size = w.heap.size + 2 := by rw [hW]; simp
  have r0 := r.kept k0 (by omega)
  have ho := ivMatOk_impl n W hw r0
  obtain ⟨a, c, rfl, -, -⟩ := r.form
  rw [hW] at ho
  have TT := hide T
  have HT := hide (World.block_lt_of_cell? _ _ (T 0 (by decide)))
  clear r T
  go_enter Tryz.func35, Tryz.ntmps35
  go_wp2_with fail
  rw [← hW] at ho ⊢
  clear hW
  refine ho.mono ?_
  rintro e w1 ⟨rfl, k1⟩
  replace f0 := k1.loose0 (World.block_lt_of_cell? _ _ q0) f0
  replace f1 := k1.loose0 (World.block_lt_of_cell? _ _ q1) f1
  replace f2 := k1.loose0 (World.block_lt_of_cell? _ _ q2) f2
  replace c0 := k1.cell0 c0
  replace c1 := k1.cell0 c1
  replace q0 := k1.cell0 q0
  replace q1 := k1.cell0 q1
  replace q2 := k1.cell0 q2
  replace r0 := r0.kept k1 (by omega)
  have K1 := hide (k0.trans k1)
  have z1 := k1.size
  clear ho k0 k1
  cases hk : imokB n ds m
  · have K7 := hide ((((unhide K1).setNew (p := ⟨w.heap.size + 1, 0, none⟩) (by simp) (.bool false)).setNew (p := ⟨w.heap.size + 1, 1, none⟩) (by simp) (.slice none 0 0)).setNew (p := ⟨w.heap.size + 1, 2, none⟩) (by simp) (.int .i64 0))
    have HB := hide hk
    clear r0 K1 hk
    go_wp2
    exact bodyPost_ret (v := .tuple #[.agg #[.bool false, .slice none 0 0, .int .i64 0], .bool false]) (by simp [results, Tryz.results35, go_sem, q0, q1, q2]) rfl ⟨.slice none 0 0, by rw [unhide HB]; rfl, by rw [unhide HB]; exact Row.nil _ _ _ _ _, unhide K7⟩
  obtain ⟨u1, u2, u3, U⟩ := imok_parts hk
  obtain ⟨k, rfl⟩ := Int.eq_ofNat_of_zero_le (show 0 ≤ n by omega)
  have hlen : m = k * k := by rw [← Int.natCast_mul] at u3; omega
  have hsc := squareFromV_impl w1 (show k ≤ 1000 by omega) hlen U r0
  have HB := hide hk
  have HU : Hid (∀ q, q < 2 * (k * k) → dOkE (ds.getD q de0) = true) := fun p hp => U p (by omega)
  have hk1 : 0 < k := by omega
  have hk4 : k ≤ 4 := by omega
  clear u1 u2 u3 U hlen hk r0 hw
  go_wp2_with fail
  refine hsc.mono ?_
  rintro e w3' ⟨R3, G3, S3, F3, rfl, sq3, nm3, nv3, hS3, hR3, k3'⟩
  obtain ⟨w3, hw3⟩ : ∃ w3, w3 = w3'.alloc (.cells #[.slice (some ⟨R3, 0, none⟩) k k] 113) := ⟨_, rfl⟩
  have kal := (Kept.refl 0 0 w3').alloc (.cells #[.slice (some ⟨R3, 0, none⟩) k k] 113)
  rw [← hw3] at kal
  have t0 : w3.cell? ⟨w3'.heap.size, 0, none⟩ = some (.slice (some ⟨R3, 0, none⟩) k k) := by rw [hw3]; exact new_cell2 _ _ _ _ _ _ rfl rfl
  have k3 := k3'.trans kal
  replace sq3 := sq3.kept kal
  replace nm3 := nm3.mod (kal.toMod (S := S3))
  replace f0 := k3.loose0 (World.block_lt_of_cell? _ _ q0) f0
  replace f1 := k3.loose0 (World.block_lt_of_cell? _ _ q1) f1
  replace f2 := k3.loose0 (World.block_lt_of_cell? _ _ q2) f2
  replace q0 := k3.cell0 q0
  replace q1 := k3.cell0 q1
  replace q2 := k3.cell0 q2
  have KR := hide ((unhide K1).trans k3)
  have K1s := hide (unhide K1).size
  have z3 := k3.size
  have HZr := hide z3
  have ht := normOf_impl (L := -3000) (V := widF ds) w3 (by decide) hk1 (by omega) sq3 nm3 nv3 (fun j m hj hm => widS_lt hk4 hj hm (unhide HU))
  rw [widM_eq] at ht
  have K1s' := unhide K1s
  have HW3 := hide hw3
  clear hsc k3 k3' kal K1 c0 c1 sq3 nm3 nv3 hS3 hR3 HU hw3
  go_wp2_with fail
  rw [← unhide HW3]
  clear HW3 t0
  refine ht.mono ?_
  rintro e w5 ⟨g5, d5, rfl, dp, nv, k5⟩
  obtain ⟨u5, n5, s5, e5, y1, y2⟩ := dp
  have htd := toldDyadic_impl (wval d5.1 d5.2.1) rfl w5 n5 s5 e5 nv.1.2.1 (by have := nv.2.1; omega) (by have := nv.2.2; omega) (by have := nv.1.1; omega) (fun q hq => ((unhide KR).trans k5).cell0 (unhide TT q hq))
  obtain ⟨t1, t2, t3, t4⟩ := ans_V true nv.1
  rw [t1, t2, t3, t4] at htd
  obtain ⟨GB, hGB⟩ : ∃ y, ansDB true (widM k ds) (-3000) = y := ⟨_, rfl⟩
  obtain ⟨GS, hGS⟩ : ∃ y, ansDS true (widM k ds) (-3000) = y := ⟨_, rfl⟩
  obtain ⟨GL, hGL⟩ : ∃ y, ansDL true (widM k ds) (-3000) = y := ⟨_, rfl⟩
  obtain ⟨GE, hGE⟩ : ∃ y, ansDE true (widM k ds) (-3000) = y := ⟨_, rfl⟩
  rw [hGB, hGS, hGL, hGE] at htd
  have HG := hide (show ansDB true (widV (k : Int) ds) (-3000) = GB ∧ ansDS true (widV (k : Int) ds) (-3000) = GS ∧ ansDL true (widV (k : Int) ds) (-3000) = GL ∧ ansDE true (widV (k : Int) ds) (-3000) = GE from ⟨hGB, hGS, hGL, hGE⟩)
  have OW : Hid (∀ q, Own1 g5 u5 q → w3.heap.size ≤ q) := fun q hq => by
    rcases hq with h | h
    · subst h; omega
    · have := y2 q h; omega
  replace f0 := k5.loose0 (World.block_lt_of_cell? _ _ q0) f0
  replace f1 := k5.loose0 (World.block_lt_of_cell? _ _ q1) f1
  replace f2 := k5.loose0 (World.block_lt_of_cell? _ _ q2) f2
  replace q0 := k5.cell0 q0
  replace q1 := k5.cell0 q1
  replace q2 := k5.cell0 q2
  have K5 := hide ((unhide KR).trans k5)
  have hz5 := Nat.le_trans (unhide HZr) k5.size
  clear ht n5 s5 e5 y1 y2 nv k5 t1 t2 t3 t4 hGB hGS hGL hGE KR
  go_wp2_with fail
  refine htd.mono ?_
  rintro e w6 ⟨v6, rfl, r6, m6⟩
  obtain ⟨a6, d6, hv6⟩ := Row.form' r6
  subst hv6
  have hne : ¬ Own1 g5 u5 (w.heap.size + 1) := fun h => by have := unhide OW _ h; omega
  replace f0 := m6.loose (a := ⟨w.heap.size + 1, 0, none⟩) hne (World.block_lt_of_cell? _ _ q0) f0
  replace f1 := m6.loose (a := ⟨w.heap.size + 1, 1, none⟩) hne (World.block_lt_of_cell? _ _ q1) f1
  replace f2 := m6.loose (a := ⟨w.heap.size + 1, 2, none⟩) hne (World.block_lt_of_cell? _ _ q2) f2
  replace q0 := m6.cell (a := ⟨w.heap.size + 1, 0, none⟩) hne q0
  replace q1 := m6.cell (a := ⟨w.heap.size + 1, 1, none⟩) hne q1
  replace q2 := m6.cell (a := ⟨w.heap.size + 1, 2, none⟩) hne q2
  have K6 := (unhide K5).mod m6 (fun q hq => Nat.le_trans (Nat.le_trans K1s' (unhide HZr)) (unhide OW q hq))
  have hsz5 := (unhide K5).size
  have z6 := m6.size
  have hbig : w.heap.size + 2 ≤ w5.heap.size := by omega
  have R7 := hide ((((r6.set_other (p := ⟨w.heap.size + 1, 0, none⟩) (.inl (by dsimp only; omega)) (.bool GS)).set_other (p := ⟨w.heap.size + 1, 1, none⟩) (.inl (by dsimp only; omega)) (.slice a6 GL.length d6)).set_other (p := ⟨w.heap.size + 1, 2, none⟩) (.inl (by dsimp only; omega)) (.int .i64 GE)).tight.wider (lo' := w.heap.size) (by omega) (Nat.le_refl _))
  have K7 := hide (((K6.setNew (p := ⟨w.heap.size + 1, 0, none⟩) (by simp) (.bool GS)).setNew (p := ⟨w.heap.size + 1, 1, none⟩) (by simp) (.slice a6 GL.length d6)).setNew (p := ⟨w.heap.size + 1, 2, none⟩) (by simp) (.int .i64 GE))
  clear htd r6 m6 K5 K6 hne hsz5 hbig
  go_wp2
  exact bodyPost_ret (v := .tuple #[.agg #[.bool GS, .slice a6 GL.length d6, .int .i64 GE], .bool GB]) (by simp [results, Tryz.results35, go_sem, q0, q1, q2]) rfl ⟨_, by rw [unhide HB, (unhide HG).1, (unhide HG).2.1, (unhide HG).2.2.2], by rw [unhide HB, (unhide HG).2.2.1]; exact unhide R7, unhide K7⟩

end Go.Proofs.YthahoabkehcgbaaGreatDoor
