/-
  IvMatMid of the program.
-/
import Derived.Test.YthahoabkehcgbaaGreatDoorqmWid1
import Derived.Test.YthahoabkehcgbaaGreatDoorqmMs1
import Derived.Test.YthahoabkehcgbaaGreatDoorqmMtr1
namespace Go.Proofs.YthahoabkehcgbaaGreatDoor
open Go.RowKit
set_option linter.unusedVariables false
set_option maxRecDepth 8000
set_option linter.unusedSimpArgs false

set_option maxHeartbeats 4000000 in
theorem halfD_impl {L V : Int} {g1 : Nat} {u1 : Value} {a : DE} (w : World) (hL : -40000 ≤ L) (n1 : Num 0 w g1 u1 a.2.1) (d1 : Sd w g1 a.1) (e1 : Ex w g1 a.2.2) (i1 : NV L V a) :
    Calls Tryz.prog 136 #[.pointer (some ⟨g1, 0, none⟩)] w fun e w' => ∃ g d, e = .returned (.pointer (some ⟨g, 0, none⟩)) ∧ DyP (fun y => y < w.heap.size) w' g d ∧ NV (L - 1) V d ∧ Kept 0 0 w w' := by
  have IS : Hid (NV (L - 1) V (a.1, a.2.1, a.2.2 - 1)) := by
    obtain ⟨⟨h1, h2, h3⟩, h4, h5⟩ := i1
    exact ⟨⟨by show L - 1 ≤ a.2.2 - 1; omega, h2, by show _ * 2 ^ (a.2.2 - 1 - (L - 1)).toNat = V; rw [show a.2.2 - 1 - (L - 1) = a.2.2 - L by omega]; exact h3⟩, h4, by show a.2.2 - 1 ≤ 40000; omega⟩
  have la := i1.2.1
  have hx1 := i1.2.2
  have hx0 := i1.1.1
  clear i1
  obtain ⟨s1, xs, x1⟩ := a
  dsimp only at *
  have hwx : IntKind.i64.wrap (x1 - 1) = x1 - 1 := w64 _ (by omega) (by omega)
  have h1 := again_impl w n1 d1 e1 (by omega)
  clear n1 d1 e1
  go_enter Tryz.func136, Tryz.ntmps136
  go_wp2_with fail
  refine h1.mono ?_
  rintro e w1 ⟨v1, rfl, o1, k1⟩
  obtain ⟨a1, c1, hv1⟩ := own_slice o1
  subst hv1
  obtain ⟨n2, d2, e2⟩ := new_dya s1 (x1 - 1) 150 o1
  have B0 := hide k1.size
  have K3 := hide (k1.alloc (.cells #[.slice a1 xs.length c1, .bool s1, .int .i64 (x1 - 1)] 150))
  have DP : Hid (DyP (fun y => y < w.heap.size) (w1.alloc (.cells #[.slice a1 xs.length c1, .bool s1, .int .i64 (x1 - 1)] 150)) w1.heap.size (s1, xs, x1 - 1)) := ⟨_, n2.less (Nat.zero_le _), d2, e2, by have := unhide B0; omega, fun i hi => by have := (o1.lt i hi).1; omega⟩
  clear h1 n2 d2 e2 o1 k1
  go_wp2
  go_ret
  exact ⟨_, _, rfl, unhide DP, unhide IS, unhide K3⟩

set_option maxHeartbeats 4000000 in
theorem middle_impl {L V1 V2 : Int} {g1 g2 : Nat} {u1 u2 : Value} {a b : DE} (w : World) (hL : -40000 ≤ L) (n1 : Num 0 w g1 u1 a.2.1) (d1 : Sd w g1 a.1) (e1 : Ex w g1 a.2.2) (n2 : Num 0 w g2 u2 b.2.1) (d2 : Sd w g2 b.1) (e2 : Ex w g2 b.2.2) (i1 : NV L V1 a) (i2 : NV L V2 b) (hs : (V1 + V2).natAbs < 2 ^ AA) :
    Calls Tryz.prog 73 #[.agg #[.pointer (some ⟨g1, 0, none⟩), .pointer (some ⟨g2, 0, none⟩)]] w fun e w' => ∃ g d, e = .returned (.pointer (some ⟨g, 0, none⟩)) ∧ DyP (fun y => y < w.heap.size) w' g d ∧ NV (L - 1) (V1 + V2) d ∧ Kept 0 0 w w' := by
  have kA : Kept 0 0 w (w.alloc (.cells #[.pointer (some ⟨g1, 0, none⟩), .pointer (some ⟨g2, 0, none⟩)] 79)) := (Kept.refl 0 0 w).alloc _
  have p0 : (w.alloc (.cells #[.pointer (some ⟨g1, 0, none⟩), .pointer (some ⟨g2, 0, none⟩)] 79)).cell? ⟨w.heap.size, 0, none⟩ = some (.pointer (some ⟨g1, 0, none⟩)) := new_cell2 _ _ _ _ _ _ rfl rfl
  have p1 : (w.alloc (.cells #[.pointer (some ⟨g1, 0, none⟩), .pointer (some ⟨g2, 0, none⟩)] 79)).cell? ⟨w.heap.size, 1, none⟩ = some (.pointer (some ⟨g2, 0, none⟩)) := new_cell2 _ _ _ _ _ _ rfl rfl
  have sA : (w.alloc (.cells #[.pointer (some ⟨g1, 0, none⟩), .pointer (some ⟨g2, 0, none⟩)] 79)).heap.size = w.heap.size + 1 := by simp
  have hp := plusD_impl _ hL (n1.kept kA) (d1.kept kA) (e1.kept kA) (n2.kept kA) (d2.kept kA) (e2.kept kA) i1 i2 hs
  have KA := hide kA
  have SA := hide sA
  clear n1 d1 e1 n2 d2 e2 i1 i2 hs kA sA
  go_enter Tryz.func73, Tryz.ntmps73
  go_wp2_with fail
  refine hp.mono ?_
  rintro e w1 ⟨g3, d3, rfl, dp, nv, k1⟩
  obtain ⟨u3, n3, s3, e3⟩ := dp.parts
  have hh := halfD_impl w1 hL n3 s3 e3 nv
  have K1 := hide ((unhide KA).trans k1)
  have Z1 : Hid (w.heap.size ≤ w1.heap.size) := by show _ ≤ _; have := k1.size; have := unhide SA; omega
  clear hp dp nv k1 n3 s3 e3 p0 p1 KA SA
  go_wp2_with fail
  refine hh.mono ?_
  rintro e w2 ⟨g4, d4, rfl, dp4, nv4, k2⟩
  have DP := hide (dp4.less (Y := fun y => y < w.heap.size) (fun x hx _ => by have := unhide Z1; omega))
  have NN := hide nv4
  have K2 := hide ((unhide K1).trans k2)
  clear hh dp4 nv4 k2 K1
  go_wp2
  go_ret
  exact ⟨_, _, rfl, unhide DP, unhide NN, unhide K2⟩

theorem Dw.kept {lo hi : Nat} {w w' : World} {g : Nat} {d : DE} (h : Dw lo hi w g d) (k : Kept 0 0 w w') : Dw lo hi w' g d := h.mod (k.toMod (S := fun _ => False)) (fun _ _ _ h => h)
theorem Kept.toModW {l h : Nat} {a b : World} (k : Kept l h a b) : Mod (fun x => l ≤ x ∧ x < h) a b := ⟨k.os, k.tape, k.output, k.size, fun i h1 h2 => k.block i h1 (by omega)⟩
theorem Dw.wider {lo hi lo' hi' : Nat} {w : World} {g : Nat} {d : DE} (h : Dw lo hi w g d) (h1 : lo' ≤ lo) (h2 : hi ≤ hi') : Dw lo' hi' w g d := by
  obtain ⟨u, n, s, e, x1, x2, x3⟩ := h
  exact ⟨u, n, s, e, by omega, by omega, fun i hi => by have := x3 i hi; omega⟩
theorem Dw.parts {lo hi : Nat} {w : World} {g : Nat} {d : DE} (h : Dw lo hi w g d) : ∃ u, Num 0 w g u d.2.1 ∧ Sd w g d.1 ∧ Ex w g d.2.2 := by
  obtain ⟨u, n, s, e, -⟩ := h
  exact ⟨u, n, s, e⟩

set_option maxHeartbeats 8000000 in
theorem heldOf_impl {lo0 hi0 lo1 hi1 : Nat} {u0 u1 : Value} {z0 z1 : List Int} (s0 s1 : Bool) (y0 y1 : Int) (w : World) (r0 : Row .i64 false lo0 hi0 w u0 z0) (r1 : Row .i64 false lo1 hi1 w u1 z1) (hl0 : z0.length ≤ 1000000) (hl1 : z1.length ≤ 1000000) :
    Calls Tryz.prog 72 #[.agg #[.bool s0, u0, .int .i64 y0, .bool s1, u1, .int .i64 y1]] w fun e w' => ∃ g1 g2 mid, e = .returned (.agg #[.pointer (some ⟨g1, 0, none⟩), .pointer (some ⟨g2, 0, none⟩)]) ∧ Dw w.heap.size mid w' g1 (s0, z0, y0) ∧ Dw mid w'.heap.size w' g2 (s1, z1, y1) ∧ w.heap.size ≤ mid ∧ mid ≤ w'.heap.size ∧ Kept 0 0 w w' := by
  obtain ⟨a0, c0, hv⟩ := Row.form' r0
  subst hv
  obtain ⟨a1, c1, hv⟩ := Row.form' r1
  subst hv
  have kA : Kept 0 0 w ((w.alloc (.cells #[.bool s0, .slice a0 z0.length c0, .int .i64 y0, .bool s1, .slice a1 z1.length c1, .int .i64 y1] 102)).alloc (.cells #[.pointer none, .pointer none] 79)) := ((Kept.refl 0 0 w).alloc _).alloc _
  have e0 : ((w.alloc (.cells #[.bool s0, .slice a0 z0.length c0, .int .i64 y0, .bool s1, .slice a1 z1.length c1, .int .i64 y1] 102)).alloc (.cells #[.pointer none, .pointer none] 79)).cell? ⟨w.heap.size, 0, none⟩ = some (.bool s0) := old_cell _ (new_cell2 _ _ _ _ _ _ rfl rfl)
  have e1 : ((w.alloc (.cells #[.bool s0, .slice a0 z0.length c0, .int .i64 y0, .bool s1, .slice a1 z1.length c1, .int .i64 y1] 102)).alloc (.cells #[.pointer none, .pointer none] 79)).cell? ⟨w.heap.size, 1, none⟩ = some (.slice a0 z0.length c0) := old_cell _ (new_cell2 _ _ _ _ _ _ rfl rfl)
  have e2 : ((w.alloc (.cells #[.bool s0, .slice a0 z0.length c0, .int .i64 y0, .bool s1, .slice a1 z1.length c1, .int .i64 y1] 102)).alloc (.cells #[.pointer none, .pointer none] 79)).cell? ⟨w.heap.size, 2, none⟩ = some (.int .i64 y0) := old_cell _ (new_cell2 _ _ _ _ _ _ rfl rfl)
  have e3 : ((w.alloc (.cells #[.bool s0, .slice a0 z0.length c0, .int .i64 y0, .bool s1, .slice a1 z1.length c1, .int .i64 y1] 102)).alloc (.cells #[.pointer none, .pointer none] 79)).cell? ⟨w.heap.size, 3, none⟩ = some (.bool s1) := old_cell _ (new_cell2 _ _ _ _ _ _ rfl rfl)
  have e4 : ((w.alloc (.cells #[.bool s0, .slice a0 z0.length c0, .int .i64 y0, .bool s1, .slice a1 z1.length c1, .int .i64 y1] 102)).alloc (.cells #[.pointer none, .pointer none] 79)).cell? ⟨w.heap.size, 4, none⟩ = some (.slice a1 z1.length c1) := old_cell _ (new_cell2 _ _ _ _ _ _ rfl rfl)
  have e5 : ((w.alloc (.cells #[.bool s0, .slice a0 z0.length c0, .int .i64 y0, .bool s1, .slice a1 z1.length c1, .int .i64 y1] 102)).alloc (.cells #[.pointer none, .pointer none] 79)).cell? ⟨w.heap.size, 5, none⟩ = some (.int .i64 y1) := old_cell _ (new_cell2 _ _ _ _ _ _ rfl rfl)
  have q0 : ((w.alloc (.cells #[.bool s0, .slice a0 z0.length c0, .int .i64 y0, .bool s1, .slice a1 z1.length c1, .int .i64 y1] 102)).alloc (.cells #[.pointer none, .pointer none] 79)).cell? ⟨w.heap.size + 1, 0, none⟩ = some (.pointer none) := new_cell2 _ _ _ _ _ _ (by simp) rfl
  have q1 : ((w.alloc (.cells #[.bool s0, .slice a0 z0.length c0, .int .i64 y0, .bool s1, .slice a1 z1.length c1, .int .i64 y1] 102)).alloc (.cells #[.pointer none, .pointer none] 79)).cell? ⟨w.heap.size + 1, 1, none⟩ = some (.pointer none) := new_cell2 _ _ _ _ _ _ (by simp) rfl
  have f0 : ((w.alloc (.cells #[.bool s0, .slice a0 z0.length c0, .int .i64 y0, .bool s1, .slice a1 z1.length c1, .int .i64 y1] 102)).alloc (.cells #[.pointer none, .pointer none] 79)).frozen? ⟨w.heap.size + 1, 0, none⟩ = false := new_loose2 _ _ _ _ _ (by simp)
  have f1 : ((w.alloc (.cells #[.bool s0, .slice a0 z0.length c0, .int .i64 y0, .bool s1, .slice a1 z1.length c1, .int .i64 y1] 102)).alloc (.cells #[.pointer none, .pointer none] 79)).frozen? ⟨w.heap.size + 1, 1, none⟩ = false := new_loose2 _ _ _ _ _ (by simp)
  have sA : ((w.alloc (.cells #[.bool s0, .slice a0 z0.length c0, .int .i64 y0, .bool s1, .slice a1 z1.length c1, .int .i64 y1] 102)).alloc (.cells #[.pointer none, .pointer none] 79)).heap.size = w.heap.size + 2 := by simp
  replace r0 := r0.kept kA (.inr (.inr (Nat.le_refl 0)))
  replace r1 := r1.kept kA (.inr (.inr (Nat.le_refl 0)))
  have R0 := hide r0
  have R1 := hide r1
  have KA := hide kA
  have SA := hide sA
  clear r0 r1 kA sA
  go_enter Tryz.func72, Tryz.ntmps72
  go_wp2_with fail
  generalize ((w.alloc (.cells #[.bool s0, .slice a0 z0.length c0, .int .i64 y0, .bool s1, .slice a1 z1.length c1, .int .i64 y1] 102)).alloc (.cells #[.pointer none, .pointer none] 79)) = W at *
  have kd := (Kept.refl 0 0 W).drew
  have hdr : W.drew.heap.size = W.heap.size := rfl
  replace e0 := kd.cell0 e0
  replace e1 := kd.cell0 e1
  replace e2 := kd.cell0 e2
  replace e3 := kd.cell0 e3
  replace e4 := kd.cell0 e4
  replace e5 := kd.cell0 e5
  replace f0 := kd.loose0 (World.block_lt_of_cell? _ _ q0) f0
  replace f1 := kd.loose0 (World.block_lt_of_cell? _ _ q1) f1
  replace q0 := kd.cell0 q0
  replace q1 := kd.cell0 q1
  replace R0 := hide ((unhide R0).kept kd (.inr (.inr (Nat.le_refl 0))))
  replace R1 := hide ((unhide R1).kept kd (.inr (.inr (Nat.le_refl 0))))
  have KD := hide ((unhide KA).trans kd)
  clear kd KA
  refine wp_region_held_drew (S := (fun w' => w'.cell? ⟨w.heap.size, 0, none⟩ = some (.bool s0) ∧ w'.cell? ⟨w.heap.size, 1, none⟩ = some (.slice a0 z0.length c0) ∧ w'.cell? ⟨w.heap.size, 2, none⟩ = some (.int .i64 y0) ∧ w'.cell? ⟨w.heap.size, 3, none⟩ = some (.bool s1) ∧ w'.cell? ⟨w.heap.size, 4, none⟩ = some (.slice a1 z1.length c1) ∧ w'.cell? ⟨w.heap.size, 5, none⟩ = some (.int .i64 y1))) (by kernel_rfl) ?_ (fun hHeld => ?_)
  · exact ⟨e0, e1, e2, e3, e4, e5⟩
  refine wpAnyH_take (i := 0) (oi := _) (v := .pointer (some ⟨w.heap.size, 0, none⟩)) rfl (by kernel_rfl) (by kernel_rfl) (by kernel_rfl) (fun _ _ _ h => h) (Or.inl ⟨by rfl, ?_⟩) hHeld ?_
  · intro wq hSw
    try dsimp only at hSw
    go_simp
  try simp only [Act.put, List.getElem_toArray, List.getElem_cons_succ, List.getElem_cons_zero, List.setIfInBounds_toArray, List.set_cons_zero, List.set_cons_succ]
  refine wpAnyH_take (i := 1) (oi := _) (v := .agg #[.bool s0, .slice a0 z0.length c0, .int .i64 y0]) rfl (by kernel_rfl) (by kernel_rfl) (by kernel_rfl) (fun _ _ _ h => h) (Or.inl ⟨by rfl, ?_⟩) hHeld ?_
  · intro wq hSw
    try dsimp only at hSw
    go_simp
  try simp only [Act.put, List.getElem_toArray, List.getElem_cons_succ, List.getElem_cons_zero, List.setIfInBounds_toArray, List.set_cons_zero, List.set_cons_succ]
  refine wpAnyH_take (i := 3) (oi := _) (v := .pointer (some ⟨w.heap.size, 3, none⟩)) rfl (by kernel_rfl) (by kernel_rfl) (by kernel_rfl) (fun _ _ _ h => h) (Or.inl ⟨by rfl, ?_⟩) hHeld ?_
  · intro wq hSw
    try dsimp only at hSw
    go_simp
  try simp only [Act.put, List.getElem_toArray, List.getElem_cons_succ, List.getElem_cons_zero, List.setIfInBounds_toArray, List.set_cons_zero, List.set_cons_succ]
  refine wpAnyH_take (i := 4) (oi := _) (v := .agg #[.bool s1, .slice a1 z1.length c1, .int .i64 y1]) rfl (by kernel_rfl) (by kernel_rfl) (by kernel_rfl) (fun _ _ _ h => h) (Or.inl ⟨by rfl, ?_⟩) hHeld ?_
  · intro wq hSw
    try dsimp only at hSw
    go_simp
  try simp only [Act.put, List.getElem_toArray, List.getElem_cons_succ, List.getElem_cons_zero, List.setIfInBounds_toArray, List.set_cons_zero, List.set_cons_succ]
  refine wpAnyH_ready (rs := [2]) (by kernel_rfl) (by simp) ?_
  refine AllReadyH.cons rfl (fun KK hK => ?_) AllReadyH.nil
  simp only [List.getElem_toArray, List.getElem_cons_succ, List.getElem_cons_zero]
  rw [if_pos (by rfl)]
  refine wps1 65 (.tmp 4) _ rfl in_newDyadic (.agg #[.bool s0, .slice a0 z0.length c0, .int .i64 y0]) rfl (newDyadic_impl s0 y0 _ (unhide R0) hl0) ?_
  rintro e w1 ⟨g1, rfl, D1, k1⟩
  refine ⟨_, rfl, ?_⟩
  have P1 := hide D1.dw
  have K1 := hide ((unhide KD).trans k1)
  replace R1 := hide ((unhide R1).kept k1 (.inr (.inr (Nat.le_refl 0))))
  have Z1 := k1.size
  replace f0 := k1.loose0 (World.block_lt_of_cell? _ _ q0) f0
  replace f1 := k1.loose0 (World.block_lt_of_cell? _ _ q1) f1
  replace e0 := k1.cell0 e0
  replace e1 := k1.cell0 e1
  replace e2 := k1.cell0 e2
  replace e3 := k1.cell0 e3
  replace e4 := k1.cell0 e4
  replace e5 := k1.cell0 e5
  replace q0 := k1.cell0 q0
  replace q1 := k1.cell0 q1
  clear D1 k1 KD R0
  clear hHeld
  refine hK.out _ _ ?_ (fun hHeld => ?_)
  · exact ⟨e0, e1, e2, e3, e4, e5⟩
  clear hK KK
  try simp only [Act.put, List.getElem_toArray, List.getElem_cons_succ, List.getElem_cons_zero, List.setIfInBounds_toArray, List.set_cons_zero, List.set_cons_succ]
  refine wpAnyH_ready (rs := [5]) (by kernel_rfl) (by simp) ?_
  refine AllReadyH.cons rfl (fun KK hK => ?_) AllReadyH.nil
  simp only [List.getElem_toArray, List.getElem_cons_succ, List.getElem_cons_zero]
  rw [if_pos (by rfl)]
  refine wps1 65 (.tmp 7) _ rfl in_newDyadic (.agg #[.bool s1, .slice a1 z1.length c1, .int .i64 y1]) rfl (newDyadic_impl s1 y1 _ (unhide R1) hl1) ?_
  rintro e w2 ⟨g2, rfl, D2, k2⟩
  refine ⟨_, rfl, ?_⟩
  have P2 := hide D2.dw
  replace P1 := hide ((unhide P1).kept k2)
  have K2 := hide ((unhide K1).trans k2)
  have Z2 := k2.size
  replace f0 := k2.loose0 (World.block_lt_of_cell? _ _ q0) f0
  replace f1 := k2.loose0 (World.block_lt_of_cell? _ _ q1) f1
  replace e0 := k2.cell0 e0
  replace e1 := k2.cell0 e1
  replace e2 := k2.cell0 e2
  replace e3 := k2.cell0 e3
  replace e4 := k2.cell0 e4
  replace e5 := k2.cell0 e5
  replace q0 := k2.cell0 q0
  replace q1 := k2.cell0 q1
  clear D2 k2 K1 R1
  clear hHeld
  refine hK.out _ _ ?_ (fun hHeld => ?_)
  · exact ⟨e0, e1, e2, e3, e4, e5⟩
  clear hK KK
  try simp only [Act.put, List.getElem_toArray, List.getElem_cons_succ, List.getElem_cons_zero, List.setIfInBounds_toArray, List.set_cons_zero, List.set_cons_succ]
  refine wpAnyH_take (i := 6) (oi := _) (v := .agg #[.pointer (some ⟨g1, 0, none⟩), .pointer (some ⟨g2, 0, none⟩)]) rfl (by kernel_rfl) (by kernel_rfl) (by kernel_rfl) (fun _ _ _ h => h) (Or.inl ⟨by rfl, ?_⟩) hHeld ?_
  · intro wq hSw
    try dsimp only at hSw
    go_simp
  try simp only [Act.put, List.getElem_toArray, List.getElem_cons_succ, List.getElem_cons_zero, List.setIfInBounds_toArray, List.set_cons_zero, List.set_cons_succ]
  refine wpAnyH_ready (rs := [7]) (by kernel_rfl) (by simp) ?_
  refine AllReadyH.cons rfl (fun KK hK => ?_) AllReadyH.nil
  simp only [List.getElem_toArray, List.getElem_cons_succ, List.getElem_cons_zero]
  rw [if_pos (by rfl)]
  go_simp
  clear hHeld
  refine hK.out _ _ ?_ (fun hHeld => ?_)
  · exact ⟨(cell_aside _ (by dsimp only; omega) (cell_aside _ (by dsimp only; omega) e0)), (cell_aside _ (by dsimp only; omega) (cell_aside _ (by dsimp only; omega) e1)), (cell_aside _ (by dsimp only; omega) (cell_aside _ (by dsimp only; omega) e2)), (cell_aside _ (by dsimp only; omega) (cell_aside _ (by dsimp only; omega) e3)), (cell_aside _ (by dsimp only; omega) (cell_aside _ (by dsimp only; omega) e4)), (cell_aside _ (by dsimp only; omega) (cell_aside _ (by dsimp only; omega) e5))⟩
  clear hK KK
  try simp only [Act.put, List.getElem_toArray, List.getElem_cons_succ, List.getElem_cons_zero, List.setIfInBounds_toArray, List.set_cons_zero, List.set_cons_succ]
  refine wpAnyH_done (by kernel_rfl) ?_ _
  clear hHeld
  have sA := unhide SA
  have G0 := cell_off _ _ _ 1 (.pointer (some ⟨g2, 0, none⟩)) _ (cell_on _ _ _ (.pointer (some ⟨g1, 0, none⟩)) _ q0) (show (0 : Nat) ≠ 1 by omega)
  have G1 := cell_on _ _ _ (.pointer (some ⟨g2, 0, none⟩)) _ (cell_off _ _ _ 0 (.pointer (some ⟨g1, 0, none⟩)) _ q1 (show (1 : Nat) ≠ 0 by omega))
  have ks : Kept (w.heap.size + 1) (w.heap.size + 2) w2 ((w2.setCell ⟨w.heap.size + 1, 0, none⟩ (.pointer (some ⟨g1, 0, none⟩))).setCell ⟨w.heap.size + 1, 1, none⟩ (.pointer (some ⟨g2, 0, none⟩))) := ((Kept.refl _ _ _).setCell (p := ⟨w.heap.size + 1, 0, none⟩) (Nat.le_refl _) (Nat.lt_succ_self _) _).setCell (p := ⟨w.heap.size + 1, 1, none⟩) (Nat.le_refl _) (Nat.lt_succ_self _) _
  have hsz : ((w2.setCell ⟨w.heap.size + 1, 0, none⟩ (.pointer (some ⟨g1, 0, none⟩))).setCell ⟨w.heap.size + 1, 1, none⟩ (.pointer (some ⟨g2, 0, none⟩))).heap.size = w2.heap.size := by rw [size_set, size_set]
  have F1 : Hid (Dw w.heap.size w1.heap.size ((w2.setCell ⟨w.heap.size + 1, 0, none⟩ (.pointer (some ⟨g1, 0, none⟩))).setCell ⟨w.heap.size + 1, 1, none⟩ (.pointer (some ⟨g2, 0, none⟩))) g1 (s0, z0, y0)) := ((unhide P1).mod ks.toModW (fun x hx _ h => by omega)).wider (by omega) (Nat.le_refl _)
  have F2 : Hid (Dw w1.heap.size ((w2.setCell ⟨w.heap.size + 1, 0, none⟩ (.pointer (some ⟨g1, 0, none⟩))).setCell ⟨w.heap.size + 1, 1, none⟩ (.pointer (some ⟨g2, 0, none⟩))).heap.size ((w2.setCell ⟨w.heap.size + 1, 0, none⟩ (.pointer (some ⟨g1, 0, none⟩))).setCell ⟨w.heap.size + 1, 1, none⟩ (.pointer (some ⟨g2, 0, none⟩))) g2 (s1, z1, y1)) := ((unhide P2).mod ks.toModW (fun x hx _ h => by omega)).wider (Nat.le_refl _) (by omega)
  have K7 := hide ((unhide K2).wide ks (by omega))
  have hm1 : w.heap.size ≤ w1.heap.size := by omega
  have hm2 : w1.heap.size ≤ ((w2.setCell ⟨w.heap.size + 1, 0, none⟩ (.pointer (some ⟨g1, 0, none⟩))).setCell ⟨w.heap.size + 1, 1, none⟩ (.pointer (some ⟨g2, 0, none⟩))).heap.size := by omega
  have HM := hide (And.intro hm1 hm2)
  clear P1 P2 K2 ks hsz sA hm1 hm2 f0 f1 e0 e1 e2 e3 e4 e5
  go_wp2
  exact bodyPost_ret (v := .agg #[.pointer (some ⟨g1, 0, none⟩), .pointer (some ⟨g2, 0, none⟩)]) (by simp [results, Tryz.results72, go_sem, G0, G1]) rfl ⟨g1, g2, w1.heap.size, rfl, unhide F1, unhide F2, (unhide HM).1, (unhide HM).2, unhide K7⟩

/-- The middles, in units of 2 to the power -3001. -/
def midV (ds : List DE) (p : Nat) : Int := dv (-3000) (ds.getD (2 * p) de0) + dv (-3000) (ds.getD (2 * p + 1) de0)
def midE (ds : List DE) (p : Nat) : DE := (ansDS true (midV ds p) (-3001), ansDL true (midV ds p) (-3001), ansDE true (midV ds p) (-3001))
def midB (ds : List DE) (p : Nat) : Bool := ansDB true (midV ds p) (-3001)
theorem midV_lt {ds : List DE} {p : Nat} (h0 : dOkE (ds.getD (2 * p) de0) = true) (h1 : dOkE (ds.getD (2 * p + 1) de0) = true) : (midV ds p).natAbs < 2 ^ AA := by
  obtain ⟨B, hB⟩ : ∃ B : Nat, B = 7600 := ⟨_, rfl⟩
  exact lt_up (add_lt (dv_lt h0 hB) (dv_lt h1 hB)) (by unfold AA; omega)

set_option maxHeartbeats 8000000 in
theorem mid1_impl {lo0 hi0 lo1 hi1 : Nat} {u0 u1 : Value} {z0 z1 : List Int} (s0 s1 : Bool) (y0 y1 : Int) (w : World) (r0 : Row .i64 false lo0 hi0 w u0 z0) (r1 : Row .i64 false lo1 hi1 w u1 z1) (h0 : dOkE (s0, z0, y0) = true) (h1 : dOkE (s1, z1, y1) = true) (T : TabB w) {V : Int} (hV : V = dv (-3000) (s0, z0, y0) + dv (-3000) (s1, z1, y1)) :
    Calls Tryz.prog 71 #[.agg #[.bool s0, u0, .int .i64 y0, .bool s1, u1, .int .i64 y1]] w fun e w' => ∃ v', e = .returned (.tuple #[.agg #[.bool (ansDS true V (-3001)), v', .int .i64 (ansDE true V (-3001))], .bool (ansDB true V (-3001))]) ∧ Row .i64 true w.heap.size w'.heap.size w' v' (ansDL true V (-3001)) ∧ Kept 0 0 w w' := by
  obtain ⟨a0, c0, hv⟩ := Row.form' r0
  subst hv
  obtain ⟨a1, c1, hv⟩ := Row.form' r1
  subst hv
  obtain ⟨W, hW⟩ : ∃ W, W = (w.alloc (.cells #[.bool s0, .slice a0 z0.length c0, .int .i64 y0, .bool s1, .slice a1 z1.length c1, .int .i64 y1] 102)).alloc (.cells #[.bool false, .slice none 0 0, .int .i64 0] 52) := ⟨_, rfl⟩
  have k0 : Kept 0 0 w W := by rw [hW]; exact ((Kept.refl 0 0 w).alloc _).alloc _
  have e0 : W.cell? ⟨w.heap.size, 0, none⟩ = some (.bool s0) := by rw [hW]; exact old_cell _ (new_cell2 _ _ _ _ _ _ rfl rfl)
  have e1 : W.cell? ⟨w.heap.size, 1, none⟩ = some (.slice a0 z0.length c0) := by rw [hW]; exact old_cell _ (new_cell2 _ _ _ _ _ _ rfl rfl)
  have e2 : W.cell? ⟨w.heap.size, 2, none⟩ = some (.int .i64 y0) := by rw [hW]; exact old_cell _ (new_cell2 _ _ _ _ _ _ rfl rfl)
  have e3 : W.cell? ⟨w.heap.size, 3, none⟩ = some (.bool s1) := by rw [hW]; exact old_cell _ (new_cell2 _ _ _ _ _ _ rfl rfl)
  have e4 : W.cell? ⟨w.heap.size, 4, none⟩ = some (.slice a1 z1.length c1) := by rw [hW]; exact old_cell _ (new_cell2 _ _ _ _ _ _ rfl rfl)
  have e5 : W.cell? ⟨w.heap.size, 5, none⟩ = some (.int .i64 y1) := by rw [hW]; exact old_cell _ (new_cell2 _ _ _ _ _ _ rfl rfl)
  have q0 : W.cell? ⟨w.heap.size + 1, 0, none⟩ = some (.bool false) := by rw [hW]; exact new_cell2 _ _ _ _ _ _ (by simp) rfl
  have q1 : W.cell? ⟨w.heap.size + 1, 1, none⟩ = some (.slice none 0 0) := by rw [hW]; exact new_cell2 _ _ _ _ _ _ (by simp) rfl
  have q2 : W.cell? ⟨w.heap.size + 1, 2, none⟩ = some (.int .i64 0) := by rw [hW]; exact new_cell2 _ _ _ _ _ _ (by simp) rfl
  have f0 : W.frozen? ⟨w.heap.size + 1, 0, none⟩ = false := by rw [hW]; exact new_loose2 _ _ _ _ _ (by simp)
  have f1 : W.frozen? ⟨w.heap.size + 1, 1, none⟩ = false := by rw [hW]; exact new_loose2 _ _ _ _ _ (by simp)
  have f2 : W.frozen? ⟨w.heap.size + 1, 2, none⟩ = false := by rw [hW]; exact new_loose2 _ _ _ _ _ (by simp)
  have sW : W.heap.size = w.heap.size + 2 := by rw [hW]; simp
  have hl0 := (dok_len (show dokB s0 z0 y0 = true from h0)).1
  have hl1 := (dok_len (show dokB s1 z1 y1 = true from h1)).1
  have hh := heldOf_impl s0 s1 y0 y1 W (r0.kept k0 (.inr (.inr (Nat.le_refl 0)))) (r1.kept k0 (.inr (.inr (Nat.le_refl 0)))) (by omega) (by omega)
  have N0 := hide (dok_nv h0 (Int.le_refl (-3000)))
  have N1 := hide (dok_nv h1 (Int.le_refl (-3000)))
  obtain ⟨B, hB⟩ : ∃ B : Nat, B = 7600 := ⟨_, rfl⟩
  have HS : Hid ((dv (-3000) (s0, z0, y0) + dv (-3000) (s1, z1, y1)).natAbs < 2 ^ AA) := lt_up (add_lt (dv_lt h0 hB) (dv_lt h1 hB)) (by unfold AA; omega)
  have HV := hide hV
  have TT := hide (T.kept k0)
  have HT := hide (World.block_lt_of_cell? _ _ (T 0 (by decide)))
  have K0 := hide k0
  obtain ⟨GB, hGB⟩ : ∃ y, ansDB true V (-3001) = y := ⟨_, rfl⟩
  obtain ⟨GS, hGS⟩ : ∃ y, ansDS true V (-3001) = y := ⟨_, rfl⟩
  obtain ⟨GL, hGL⟩ : ∃ y, ansDL true V (-3001) = y := ⟨_, rfl⟩
  obtain ⟨GE, hGE⟩ : ∃ y, ansDE true V (-3001) = y := ⟨_, rfl⟩
  rw [hGB, hGS, hGL, hGE]
  have HGG := hide (And.intro hGB (And.intro hGS (And.intro hGL hGE)))
  clear hGB hGS hGL hGE
  rw [hW] at hh e0 e1 e2 e3 e4 e5
  clear r0 r1 h0 h1 T hV hB k0
  go_enter Tryz.func71, Tryz.ntmps71
  go_wp2_with fail
  rw [← hW] at hh ⊢
  clear hW e0 e1 e2 e3 e4 e5
  refine hh.mono ?_
  rintro e w1 ⟨g1, g2, mid, rfl, D1, D2, hm1, hm2, k1⟩
  obtain ⟨u1, n1, s1', x1⟩ := D1.parts
  obtain ⟨u2, n2, s2', x2⟩ := D2.parts
  have hmi := middle_impl w1 (by decide) n1 s1' x1 n2 s2' x2 (unhide N0) (unhide N1) (unhide HS)
  rw [← unhide HV] at hmi
  replace f0 := k1.loose0 (World.block_lt_of_cell? _ _ q0) f0
  replace f1 := k1.loose0 (World.block_lt_of_cell? _ _ q1) f1
  replace f2 := k1.loose0 (World.block_lt_of_cell? _ _ q2) f2
  replace q0 := k1.cell0 q0
  replace q1 := k1.cell0 q1
  replace q2 := k1.cell0 q2
  have K1 := hide ((unhide K0).trans k1)
  have z1 := k1.size
  clear hh D1 D2 hm1 hm2 n1 s1' x1 n2 s2' x2 N0 N1 HS HV
  go_wp2_with fail
  refine hmi.mono ?_
  rintro e w5 ⟨g5, d5, rfl, dp, nv, k5⟩
  obtain ⟨u5, n5, s5, e5, y1', y2'⟩ := dp
  have htd := toldDyadic_impl (wval d5.1 d5.2.1) rfl w5 n5 s5 e5 nv.1.2.1 (by have := nv.2.1; omega) (by have := nv.2.2; omega) (by have := nv.1.1; omega) ((unhide TT).kept (k1.trans k5))
  obtain ⟨t1, t2, t3, t4⟩ := ans_V true nv.1
  rw [t1, t2, t3, t4] at htd
  obtain ⟨hGB, hGS, hGL, hGE⟩ := unhide HGG
  have e31 : (-3000 : Int) - 1 = -3001 := rfl
  rw [e31, hGB, hGS, hGL, hGE] at htd
  have OW : Hid (∀ q, Own1 g5 u5 q → w1.heap.size ≤ q) := fun q hq => by
    rcases hq with h | h
    · subst h; omega
    · have := y2' q h; omega
  replace f0 := k5.loose0 (World.block_lt_of_cell? _ _ q0) f0
  replace f1 := k5.loose0 (World.block_lt_of_cell? _ _ q1) f1
  replace f2 := k5.loose0 (World.block_lt_of_cell? _ _ q2) f2
  replace q0 := k5.cell0 q0
  replace q1 := k5.cell0 q1
  replace q2 := k5.cell0 q2
  have K5 := hide ((unhide K1).trans k5)
  have hz5 := Nat.le_trans z1 k5.size
  clear hmi n5 s5 e5 y1' y2' nv k1 k5 t1 t2 t3 t4 hGB hGS hGL hGE TT
  go_wp2_with fail
  refine htd.mono ?_
  rintro e w6 ⟨v6, rfl, r6, m6⟩
  obtain ⟨a6, d6, hv6⟩ := Row.form' r6
  subst hv6
  have hne : ¬ Own1 g5 u5 (w.heap.size + 1) := fun h => by have := unhide OW _ h; omega
  replace f0 := m6.loose (a := ⟨w.heap.size + 1, 0, none⟩) hne (World.block_lt_of_cell? _ _ q0) f0
  replace f1 := m6.loose (a := ⟨w.heap.size + 1, 1, none⟩) hne (World.block_lt_of_cell? _ _ q1) f1
  replace f2 := m6.loose (a := ⟨w.heap.size + 1, 2, none⟩) hne (World.block_lt_of_cell? _ _ q2) f2
  replace q0 := m6.cell (a := ⟨w.heap.size + 1, 0, none⟩) hne q0
  replace q1 := m6.cell (a := ⟨w.heap.size + 1, 1, none⟩) hne q1
  replace q2 := m6.cell (a := ⟨w.heap.size + 1, 2, none⟩) hne q2
  have K6 := (unhide K5).mod m6 (fun q hq => by have := unhide OW q hq; omega)
  have z6 := m6.size
  have R7 := hide ((((r6.set_other (p := ⟨w.heap.size + 1, 0, none⟩) (.inl (by dsimp only; omega)) (.bool GS)).set_other (p := ⟨w.heap.size + 1, 1, none⟩) (.inl (by dsimp only; omega)) (.slice a6 GL.length d6)).set_other (p := ⟨w.heap.size + 1, 2, none⟩) (.inl (by dsimp only; omega)) (.int .i64 GE)).tight.wider (lo' := w.heap.size) (by omega) (Nat.le_refl _))
  have K7 := hide (((K6.setNew (p := ⟨w.heap.size + 1, 0, none⟩) (by simp) (.bool GS)).setNew (p := ⟨w.heap.size + 1, 1, none⟩) (by simp) (.slice a6 GL.length d6)).setNew (p := ⟨w.heap.size + 1, 2, none⟩) (by simp) (.int .i64 GE))
  clear htd r6 m6 K5 K6 hne K0 K1
  go_wp2
  exact bodyPost_ret (v := .tuple #[.agg #[.bool GS, .slice a6 GL.length d6, .int .i64 GE], .bool GB]) (by simp [results, Tryz.results71, go_sem, q0, q1, q2]) rfl ⟨_, rfl, unhide R7, unhide K7⟩

set_option maxHeartbeats 16000000 in
theorem toldAllV_impl {lo hi m : Nat} {v : Value} {ds : List DE} (E : Nat → DE) (B : Nat → Bool) (w : World) (hn : m ≤ 100) (r : Ivs lo hi w v ds m)
    (H : ∀ i w' b l c b' l' c', i < m → Kept 0 0 w w' → Row .i64 false lo hi w' (.slice b l c) (ds.getD (2 * i) de0).2.1 → Row .i64 false lo hi w' (.slice b' l' c') (ds.getD (2 * i + 1) de0).2.1 → Calls Tryz.prog 71 #[.agg #[.bool (ds.getD (2 * i) de0).1, .slice b l c, .int .i64 (ds.getD (2 * i) de0).2.2, .bool (ds.getD (2 * i + 1) de0).1, .slice b' l' c', .int .i64 (ds.getD (2 * i + 1) de0).2.2]] w' fun e w'' => ∃ v', e = .returned (.tuple #[.agg #[.bool (E i).1, v', .int .i64 (E i).2.2], .bool (B i)]) ∧ Row .i64 true w'.heap.size w''.heap.size w'' v' (E i).2.1 ∧ Kept 0 0 w' w'') :
    Calls Tryz.prog 135 #[v, .func (.func 71) #[] #[]] w fun e w' => ∃ v', e = .returned (.tuple #[v', .bool (allB B m)]) ∧ DysO w.heap.size w'.heap.size w' v' (telL E B m) ∧ Kept 0 0 w w' := by
  obtain ⟨a, c, rfl, -, -⟩ := r.form
  obtain ⟨n, hnn⟩ : ∃ n, n = m := ⟨_, rfl⟩
  rw [← hnn] at r hn ⊢
  have HN := hide hnn
  have R := hide r
  have HH := hide H
  obtain ⟨i0, hi0, hz0, hz1, hz2⟩ := info_parts Tryz.infoDy
  have hb0 : i0.bytes * n ≤ 281474976710656 := by rw [hz2]; omega
  have hm0 : n ≤ maxLen := by unfold maxLen; omega
  have HM := hide hm0
  clear r hnn H
  go_enter Tryz.func135, Tryz.ntmps135
  go_wp2_with (at_make; refine wpList_make_full _ rfl _ _ 57 rfl w.heap.size 52 i0 (.agg #[.bool false, .slice none 0 0, .int .i64 0]) 3 Tryz.underlying57 hi0 hz0 hz1 .i64 .i64 _ _ n rfl rfl rfl rfl hb0 hm0 (Nat.le_refl _) ?_; intro w1 hown hgrow)
  have F0 := made_fill (w := w) (lo := 0) (ds := (List.range n).map E) hown
  have k1 : Kept 0 0 w w1 := ⟨hgrow.os, hgrow.tape, hgrow.output, hgrow.size, fun i hi _ => hgrow.block i hi (by simp)⟩
  clear hown hgrow hi0 hz0 hz1 hz2 hb0 hm0
  obtain ⟨g, hg⟩ : ∃ g, g = w.heap.size := ⟨_, rfl⟩
  rw [← hg] at F0
  rw [← hg]
  have F1 := hide F0
  have K2 := hide k1
  have HG := hide hg
  clear F0 k1 hg
  go_loopw [16] (fun s16 wr => ∃ j : Nat, s16 = .int .i64 j ∧ j ≤ n ∧ Hid (∀ i, i < j → B i = true) ∧ Hid (Fill 0 g n ((List.range n).map E) j wr) ∧ Hid (Kept 0 0 w wr) ∧ Hid (Kept g (g + 1) w1 wr)) (fun s16 _ => n - (intOf s16).toNat)
  case atStart => exact ⟨0, rfl, Nat.zero_le _, fun i hi => by omega, F1, K2, Kept.refl _ _ _⟩
  case round =>
    clear F1 K2
    obtain ⟨j, rfl, hj, hall, hF, k, kg⟩ := hrel
    have hwj : IntKind.i64.wrap ((j : Int) + 1) = ((j + 1 : Nat) : Int) := by rw [IntKind.wrap_i64]; omega
    have hgg := unhide HG
    have HGG := hide hgg
    clear hgg
    by_cases hlt : j < n
    · have hjl : j < m := by rw [← unhide HN]; exact hlt
      obtain ⟨gA, off, l0, l1, rfl, -, -, -, b, kk, b', kk', c0, c1, c2, c3, c4, c5, hln, hln', rr, rr'⟩ := ((unhide R).kept (unhide k) (by omega)).at (i := j) hlt
      have hcl := fun w' hk hr hr' => unhide HH j w' b l0 kk b' l1 kk' hjl hk hr hr'
      obtain ⟨⟨s0, z0, y0⟩, hE0⟩ : ∃ q, q = ds.getD (2 * j) de0 := ⟨_, rfl⟩
      obtain ⟨⟨t0, x0, p0⟩, hE1⟩ : ∃ q, q = ds.getD (2 * j + 1) de0 := ⟨_, rfl⟩
      rw [← hE0, ← hE1] at hcl
      rw [← hE0] at c0 c2 rr
      rw [← hE1] at c3 c5 rr'
      dsimp only at c0 c2 rr c3 c5 rr' hcl
      obtain ⟨⟨s1, z1, y1⟩, hE⟩ : ∃ q, q = E j := ⟨_, rfl⟩
      rw [← hE] at hcl
      dsimp only at hcl
      have HE : Hid (((List.range n).map E).getD j de0 = (s1, z1, y1)) := by show _ = _; rw [map_at _ _ _ hlt, hE]
      have kA := (Kept.refl 0 0 wr).alloc (.cells #[.bool s0, .slice b l0 kk, .int .i64 y0, .bool t0, .slice b' l1 kk', .int .i64 p0] 102)
      have v0 : (wr.alloc (.cells #[.bool s0, .slice b l0 kk, .int .i64 y0, .bool t0, .slice b' l1 kk', .int .i64 p0] 102)).cell? ⟨wr.heap.size, 0, none⟩ = some (.bool s0) := new_cell2 _ _ _ _ _ _ rfl rfl
      have v1 : (wr.alloc (.cells #[.bool s0, .slice b l0 kk, .int .i64 y0, .bool t0, .slice b' l1 kk', .int .i64 p0] 102)).cell? ⟨wr.heap.size, 1, none⟩ = some (.slice b l0 kk) := new_cell2 _ _ _ _ _ _ rfl rfl
      have v2 : (wr.alloc (.cells #[.bool s0, .slice b l0 kk, .int .i64 y0, .bool t0, .slice b' l1 kk', .int .i64 p0] 102)).cell? ⟨wr.heap.size, 2, none⟩ = some (.int .i64 y0) := new_cell2 _ _ _ _ _ _ rfl rfl
      have v3' : (wr.alloc (.cells #[.bool s0, .slice b l0 kk, .int .i64 y0, .bool t0, .slice b' l1 kk', .int .i64 p0] 102)).cell? ⟨wr.heap.size, 3, none⟩ = some (.bool t0) := new_cell2 _ _ _ _ _ _ rfl rfl
      have v4 : (wr.alloc (.cells #[.bool s0, .slice b l0 kk, .int .i64 y0, .bool t0, .slice b' l1 kk', .int .i64 p0] 102)).cell? ⟨wr.heap.size, 4, none⟩ = some (.slice b' l1 kk') := new_cell2 _ _ _ _ _ _ rfl rfl
      have v5 : (wr.alloc (.cells #[.bool s0, .slice b l0 kk, .int .i64 y0, .bool t0, .slice b' l1 kk', .int .i64 p0] 102)).cell? ⟨wr.heap.size, 5, none⟩ = some (.int .i64 p0) := new_cell2 _ _ _ _ _ _ rfl rfl
      have hc2 := hcl _ ((unhide k).trans kA) (rr.kept kA (by omega)) (rr'.kept kA (by omega))
      have KA := hide kA
      clear hE0 hE1 hE hln hln' hcl rr rr' hjl kA
      go_wp2_with fail
      refine hc2.mono ?_
      rintro e w3 ⟨v3, rfl, r3, k3⟩
      obtain ⟨a3, d3, hv3⟩ := Row.form' r3
      subst hv3
      have kB := (Kept.refl 0 0 w3).alloc (.cells #[.bool s1, .slice a3 z1.length d3, .int .i64 y1] 52)
      have k4 := ((unhide KA).trans k3).trans kB
      have r4 := (r3.kept kB (by omega)).wider (lo' := wr.heap.size) (hi' := (w3.alloc (.cells #[.bool s1, .slice a3 z1.length d3, .int .i64 y1] 52)).heap.size) (by have := (unhide KA).size; omega) (by simp)
      have u0 : (w3.alloc (.cells #[.bool s1, .slice a3 z1.length d3, .int .i64 y1] 52)).cell? ⟨w3.heap.size, 0, none⟩ = some (.bool s1) := new_cell2 _ _ _ _ _ _ rfl rfl
      have u1 : (w3.alloc (.cells #[.bool s1, .slice a3 z1.length d3, .int .i64 y1] 52)).cell? ⟨w3.heap.size, 1, none⟩ = some (.slice a3 z1.length d3) := new_cell2 _ _ _ _ _ _ rfl rfl
      have u2 : (w3.alloc (.cells #[.bool s1, .slice a3 z1.length d3, .int .i64 y1] 52)).cell? ⟨w3.heap.size, 2, none⟩ = some (.int .i64 y1) := new_cell2 _ _ _ _ _ _ rfl rfl
      have F4 := (unhide hF).step hlt k4 r4 (unhide HE)
      have hFl := (unhide hF).lt
      obtain ⟨x0, hx0⟩ := (unhide hF).cell (j * 3) (by omega)
      obtain ⟨x1, hx1⟩ := (unhide hF).cell (j * 3 + 1) (by omega)
      obtain ⟨x2, hx2⟩ := (unhide hF).cell (j * 3 + 2) (by omega)
      have f0 := k4.loose0 (a := ⟨g, j * 3, none⟩) hFl ((unhide hF).loose (j * 3) (by omega))
      have f1 := k4.loose0 (a := ⟨g, j * 3 + 1, none⟩) hFl ((unhide hF).loose (j * 3 + 1) (by omega))
      have f2 := k4.loose0 (a := ⟨g, j * 3 + 2, none⟩) hFl ((unhide hF).loose (j * 3 + 2) (by omega))
      replace hx0 := k4.cell0 hx0
      replace hx1 := k4.cell0 hx1
      replace hx2 := k4.cell0 hx2
      have K4 := hide ((unhide k).trans k4)
      have KG4 := hide ((unhide kg).trans k4.any)
      have HF4 := hide F4
      clear hc2 r3 k3 kB k4 r4 F4 hFl hF k kg v0 v1 v2 v3' v4 v5 c0 c1 c2 c3 c4 c5 KA
      cases hB : B j
      · have HBN := hide (allB_no hlt hB)
        clear hB HF4 KG4 hx0 hx1 hx2 f0 f1 f2
        go_wp2
        exact bodyPost_ret (v := .tuple #[.slice none 0 0, .bool false]) (by simp [results, Tryz.results135, go_sem]) rfl ⟨.slice none 0 0, by rw [unhide HBN], by unfold telL; rw [unhide HBN]; exact DysO.void _ _ _, unhide K4⟩
      · have HALL : Hid (∀ i, i < j + 1 → B i = true) := fun i hi => by
          rcases Nat.lt_succ_iff_lt_or_eq.1 hi with h | h
          · exact unhide hall i h
          · subst h; exact hB
        have hgg := unhide HGG
        have ks : Kept g (g + 1) (w3.alloc (.cells #[.bool s1, .slice a3 z1.length d3, .int .i64 y1] 52)) ((((w3.alloc (.cells #[.bool s1, .slice a3 z1.length d3, .int .i64 y1] 52)).setCell ⟨g, j * 3, none⟩ (.bool s1)).setCell ⟨g, j * 3 + 1, none⟩ (.slice a3 z1.length d3)).setCell ⟨g, j * 3 + 2, none⟩ (.int .i64 y1)) :=
          (((Kept.refl _ _ _).setCell (p := ⟨g, j * 3, none⟩) (Nat.le_refl _) (Nat.lt_succ_self _) _).setCell (p := ⟨g, j * 3 + 1, none⟩) (Nat.le_refl _) (Nat.lt_succ_self _) _).setCell (p := ⟨g, j * 3 + 2, none⟩) (Nat.le_refl _) (Nat.lt_succ_self _) _
        have K5 := hide ((unhide K4).wide ks (by omega))
        have KG5 := hide ((unhide KG4).trans ks)
        clear hB ks K4 KG4 hgg
        go_wp2
        go_roundw
        case rel => exact ⟨j + 1, by simp, hlt, HALL, HF4, K5, KG5⟩
        case measure => simp [intOf]; omega
    · have hjn : j = n := by omega
      subst hjn
      have HA := hide (allB_yes (unhide hall))
      have hgg := unhide HGG
      have D := (unhide hF).done (by simp) (unhide HM)
      have DD := hide (D.wider (lo' := w.heap.size) (hi' := wr.heap.size) (by omega) (by omega))
      have K7 := hide (unhide k)
      clear hF k kg D hgg hall
      go_wp2
      exact bodyPost_ret (v := .tuple #[.slice (some ⟨g, 0, none⟩) j j, .bool true]) (by simp [results, Tryz.results135, go_sem]) rfl ⟨.slice (some ⟨g, 0, none⟩) j j, by rw [unhide HA], by unfold telL; rw [unhide HA]; exact unhide DD, unhide K7⟩

set_option maxHeartbeats 4000000 in
theorem toldMatV_impl {lo hi m : Nat} {v : Value} {ds : List DE} (M : Int) (E : Nat → DE) (B : Nat → Bool) (w : World) (hn : m ≤ 100) (r : Ivs lo hi w v ds m)
    (H : ∀ i w' b l c b' l' c', i < m → Kept 0 0 w w' → Row .i64 false lo hi w' (.slice b l c) (ds.getD (2 * i) de0).2.1 → Row .i64 false lo hi w' (.slice b' l' c') (ds.getD (2 * i + 1) de0).2.1 → Calls Tryz.prog 71 #[.agg #[.bool (ds.getD (2 * i) de0).1, .slice b l c, .int .i64 (ds.getD (2 * i) de0).2.2, .bool (ds.getD (2 * i + 1) de0).1, .slice b' l' c', .int .i64 (ds.getD (2 * i + 1) de0).2.2]] w' fun e w'' => ∃ v', e = .returned (.tuple #[.agg #[.bool (E i).1, v', .int .i64 (E i).2.2], .bool (B i)]) ∧ Row .i64 true w'.heap.size w''.heap.size w'' v' (E i).2.1 ∧ Kept 0 0 w' w'') :
    Calls Tryz.prog 70 #[.int .i64 M, v, .func (.func 71) #[] #[]] w fun e w' => ∃ v', e = .returned (.tuple #[.agg #[.int .i64 (telN B m M), v'], .bool (allB B m)]) ∧ DysO w.heap.size w'.heap.size w' v' (telL E B m) ∧ Kept 0 0 w w' := by
  obtain ⟨W, hW⟩ : ∃ W, W = (w.alloc (.cells #[.int .i64 0, .slice none 0 0] 59)) := ⟨_, rfl⟩
  have k0 : Kept 0 0 w W := by rw [hW]; exact (Kept.refl 0 0 w).alloc _
  have R0 : W.cell? ⟨w.heap.size, 0, none⟩ = some (.int .i64 0) := by rw [hW]; exact new_cell2 _ _ _ _ _ _ rfl rfl
  have R1 : W.cell? ⟨w.heap.size, 1, none⟩ = some (.slice none 0 0) := by rw [hW]; exact new_cell2 _ _ _ _ _ _ rfl rfl
  have Rf0 : W.frozen? ⟨w.heap.size, 0, none⟩ = false := by rw [hW]; exact new_loose2 _ _ _ _ _ rfl
  have Rf1 : W.frozen? ⟨w.heap.size, 1, none⟩ = false := by rw [hW]; exact new_loose2 _ _ _ _ _ rfl
  have sW : W.heap.size = w.heap.size + 1 := by rw [hW]; simp
  have ta := toldAllV_impl E B W hn (r.kept k0 (by omega)) (fun i w2 b l c b' l' c' hi k rr rr' => H i w2 b l c b' l' c' hi (k0.trans k) rr rr')
  obtain ⟨X1, hX1⟩ : ∃ x, x = telN B m M := ⟨_, rfl⟩
  obtain ⟨X2, hX2⟩ : ∃ x, x = allB B m := ⟨_, rfl⟩
  obtain ⟨X3, hX3⟩ : ∃ x, x = telL E B m := ⟨_, rfl⟩
  rw [← hX2, ← hX3] at ta
  rw [← hX1, ← hX2, ← hX3]
  have H1 : Hid (X1 = if X2 = true then M else 0) := by show _ = _; rw [hX1, hX2]; rfl
  have H3 : Hid (X2 = false → X3 = []) := fun h => by rw [hX2] at h; rw [hX3]; unfold telL; rw [h]; rfl
  obtain ⟨a0, c0, rfl, -, -⟩ := r.form
  have SW := hide sW
  have K0 := hide k0
  clear hX1 hX2 hX3 sW k0 r H hn
  go_enter Tryz.func70, Tryz.ntmps70
  go_wp2_with fail
  rw [← hW]
  clear hW
  refine ta.mono ?_
  rintro e w1 ⟨v1, rfl, d1, k1⟩
  obtain ⟨a1, c1, hv1⟩ := d1.form'
  subst hv1
  have sW := unhide SW
  have z1 := k1.size
  have P0 := k1.cellOut (a := ⟨w.heap.size, 0, none⟩) (.inr (Nat.zero_le _)) R0
  have P1 := k1.cellOut (a := ⟨w.heap.size, 1, none⟩) (.inr (Nat.zero_le _)) R1
  have Pf0 := k1.looseOut (a := ⟨w.heap.size, 0, none⟩) (.inr (Nat.zero_le _)) (World.block_lt_of_cell? _ _ R0) Rf0
  have Pf1 := k1.looseOut (a := ⟨w.heap.size, 1, none⟩) (.inr (Nat.zero_le _)) (World.block_lt_of_cell? _ _ R1) Rf1
  have K1 := hide ((unhide K0).trans k1)
  have D1 := hide d1
  clear ta R0 R1 Rf0 Rf1 k1 d1
  cases X2
  · have HB := hide ((unhide H3) rfl)
    have HM := hide (show X1 = 0 from unhide H1)
    have K7 : Hid (Kept 0 0 w ((w1.setCell ⟨w.heap.size, 0, none⟩ (.int .i64 0)).setCell ⟨w.heap.size, 1, none⟩ (.slice none 0 0))) := ((unhide K1).setNew (p := ⟨w.heap.size, 0, none⟩) (Nat.le_refl _) (.int .i64 0)).setNew (p := ⟨w.heap.size, 1, none⟩) (Nat.le_refl _) (.slice none 0 0)
    clear H1 H3 D1 K1 K0
    have G0 := cell_off _ _ _ 1 (.slice none 0 0) _ (cell_on _ _ _ (.int .i64 0) _ P0) (show (0 : Nat) ≠ 1 by omega)
    have G1 := cell_on _ _ _ (.slice none 0 0) _ (cell_off _ _ _ 0 (.int .i64 0) _ P1 (show (1 : Nat) ≠ 0 by omega))
    go_wp2
    exact bodyPost_ret (v := .tuple #[.agg #[.int .i64 0, .slice none 0 0], .bool false]) (by simp [results, Tryz.results70, go_sem, G0, G1]) rfl ⟨.slice none 0 0, by rw [unhide HM], by rw [unhide HB]; exact DysO.void _ _ _, unhide K7⟩
  · have HM := hide (show X1 = M from unhide H1)
    have ks : Kept w.heap.size (w.heap.size + 1) w1 ((w1.setCell ⟨w.heap.size, 0, none⟩ (.int .i64 M)).setCell ⟨w.heap.size, 1, none⟩ (.slice a1 X3.length c1)) :=
      ((Kept.refl _ _ _).setCell (p := ⟨w.heap.size, 0, none⟩) (Nat.le_refl _) (Nat.lt_succ_self _) _).setCell (p := ⟨w.heap.size, 1, none⟩) (Nat.le_refl _) (Nat.lt_succ_self _) _
    have hsz : ((w1.setCell ⟨w.heap.size, 0, none⟩ (.int .i64 M)).setCell ⟨w.heap.size, 1, none⟩ (.slice a1 X3.length c1)).heap.size = w1.heap.size := by rw [size_set, size_set]
    have DD := hide (((unhide D1).kept ks (by omega)).wider (lo' := w.heap.size) (hi' := ((w1.setCell ⟨w.heap.size, 0, none⟩ (.int .i64 M)).setCell ⟨w.heap.size, 1, none⟩ (.slice a1 X3.length c1)).heap.size) (by omega) (by omega))
    have K7 : Hid (Kept 0 0 w ((w1.setCell ⟨w.heap.size, 0, none⟩ (.int .i64 M)).setCell ⟨w.heap.size, 1, none⟩ (.slice a1 X3.length c1))) := ((unhide K1).setNew (p := ⟨w.heap.size, 0, none⟩) (Nat.le_refl _) (.int .i64 M)).setNew (p := ⟨w.heap.size, 1, none⟩) (Nat.le_refl _) (.slice a1 X3.length c1)
    have G0 := cell_off _ _ _ 1 (.slice a1 X3.length c1) _ (cell_on _ _ _ (.int .i64 M) _ P0) (show (0 : Nat) ≠ 1 by omega)
    have G1 := cell_on _ _ _ (.slice a1 X3.length c1) _ (cell_off _ _ _ 0 (.int .i64 M) _ P1 (show (1 : Nat) ≠ 0 by omega))
    clear H1 H3 ks hsz D1 K1 K0
    go_wp2
    exact bodyPost_ret (v := .tuple #[.agg #[.int .i64 M, .slice a1 X3.length c1], .bool true]) (by simp [results, Tryz.results70, go_sem, G0, G1]) rfl ⟨_, by rw [unhide HM], unhide DD, unhide K7⟩

def twB (c : Bool) (V : Nat → Int) (L n : Int) : Bool := c && allB (fun p => dOkE (nE (V p) L)) (n.toNat * n.toNat)
def twL (c : Bool) (V : Nat → Int) (L n : Int) : List DE := if twB c V L n = true then (List.range (n.toNat * n.toNat)).map (fun p => nE (V p) L) else []
def twN (c : Bool) (V : Nat → Int) (L n : Int) : Int := if twB c V L n = true then n else 0
theorem tw_no (V : Nat → Int) (L n : Int) : twB false V L n = false ∧ twL false V L n = [] ∧ twN false V L n = 0 := ⟨rfl, rfl, rfl⟩
theorem allB_congr {B B' : Nat → Bool} {n : Nat} (h : ∀ p, p < n → B p = B' p) : allB B n = allB B' n := by
  unfold allB
  apply Bool.eq_iff_iff.2
  rw [List.all_eq_true, List.all_eq_true]
  exact ⟨fun g p hp => by rw [← h p (List.mem_range.1 hp)]; exact g p hp, fun g p hp => by rw [h p (List.mem_range.1 hp)]; exact g p hp⟩
/-- What the model tells of a list. -/
theorem tw_fit {k : Nat} {V : Nat → Int} {L : Int} (h1 : 0 < k) (h4 : k ≤ 4) :
    fitB (k : Int) ((List.range (k * k)).map (fun p => nE (V p) L)) = twB true V L (k : Int) ∧ fitN (k : Int) ((List.range (k * k)).map (fun p => nE (V p) L)) = twN true V L (k : Int) ∧ fitL (k : Int) ((List.range (k * k)).map (fun p => nE (V p) L)) = twL true V L (k : Int) := by
  have e : mokB (k : Int) ((List.range (k * k)).map (fun p => nE (V p) L)) = twB true V L (k : Int) := by
    rw [mok_yes (by simp; omega) (by simp)]
    unfold twB allB
    rw [Bool.true_and, Int.toNat_natCast, List.all_map]
    rfl
  refine ⟨e, by unfold fitN twN; rw [e], ?_⟩
  unfold fitL twL
  rw [e, Int.toNat_natCast]
theorem tw_sz {c : Bool} {V : Nat → Int} {L n : Int} (hc : c = true → 1 ≤ n ∧ n ≤ 4) : szT (twL c V L n) ≤ 2000 := by
  unfold twL
  by_cases hb : twB c V L n = true
  · rw [if_pos hb]
    have hc2 : c = true := by unfold twB at hb; simp only [Bool.and_eq_true] at hb; exact hb.1
    obtain ⟨g1, g4⟩ := hc hc2
    obtain ⟨k, rfl⟩ := Int.eq_ofNat_of_zero_le (show 0 ≤ n by omega)
    have e := (tw_fit (k := k) (V := V) (L := L) (by omega) (by omega)).1
    rw [Int.toNat_natCast]
    rw [hc2] at hb
    exact mok_sz (e.trans hb)
  · rw [if_neg hb]; decide

theorem mid_tel {ds : List DE} (k : Nat) : telN (midB ds) (k * k) (k : Int) = twN true (midV ds) (-3001) (k : Int) ∧ allB (midB ds) (k * k) = twB true (midV ds) (-3001) (k : Int) ∧ telL (midE ds) (midB ds) (k * k) = twL true (midV ds) (-3001) (k : Int) := by
  have hb : ∀ p, midB ds p = dOkE (nE (midV ds p) (-3001)) := fun p => by unfold midB ansDB dOkE nE; rw [Bool.true_and]
  have e : allB (midB ds) (k * k) = twB true (midV ds) (-3001) (k : Int) := by
    unfold twB
    rw [Bool.true_and, Int.toNat_natCast]
    exact allB_congr (fun p hp => hb p)
  refine ⟨by unfold telN twN; rw [e], e, ?_⟩
  unfold telL twL
  rw [e, Int.toNat_natCast]
  by_cases h : twB true (midV ds) (-3001) (k : Int) = true
  · rw [if_pos h, if_pos h]
    rw [← e] at h
    unfold allB at h
    rw [List.all_eq_true] at h
    refine List.map_congr_left (fun p hp => ?_)
    obtain ⟨y1, y2, y3⟩ := ansD_yes (h p hp)
    unfold midE nE
    rw [y1, y2, y3]
  · rw [if_neg h, if_neg h]

set_option maxHeartbeats 8000000 in
theorem ivMatMid_impl {lo hi m : Nat} {v : Value} {ds : List DE} (n : Int) (w : World) (hw : WfD ds) (r : Ivs lo hi w v ds m) (T : TabB w) :
    Calls Tryz.prog 30 #[.agg #[.int .i64 n, v]] w fun e w' => ∃ v', e = .returned (.tuple #[.agg #[.int .i64 (twN (imokB n ds m) (midV ds) (-3001) n), v'], .bool (twB (imokB n ds m) (midV ds) (-3001) n)]) ∧ DysO w.heap.size w'.heap.size w' v' (twL (imokB n ds m) (midV ds) (-3001) n) ∧ Kept 0 0 w w' := by
  obtain ⟨W, hW⟩ : ∃ W, W = (w.alloc (.cells #[.int .i64 n, v] 28)).alloc (.cells #[.int .i64 0, .slice none 0 0] 59) := ⟨_, rfl⟩
  have k0 : Kept 0 0 w W := by rw [hW]; exact ((Kept.refl 0 0 w).alloc _).alloc _
  have c0 : W.cell? ⟨w.heap.size, 0, none⟩ = some (.int .i64 n) := by rw [hW]; exact old_cell _ (new_cell2 _ _ _ _ _ _ (by simp) rfl)
  have c1 : W.cell? ⟨w.heap.size, 1, none⟩ = some v := by rw [hW]; exact old_cell _ (new_cell2 _ _ _ _ _ _ (by simp) rfl)
  have q0 : W.cell? ⟨w.heap.size + 1, 0, none⟩ = some (.int .i64 0) := by rw [hW]; exact new_cell2 _ _ _ _ _ _ (by simp) rfl
  have q1 : W.cell? ⟨w.heap.size + 1, 1, none⟩ = some (.slice none 0 0) := by rw [hW]; exact new_cell2 _ _ _ _ _ _ (by simp) rfl
  have f0 : W.frozen? ⟨w.heap.size + 1, 0, none⟩ = false := by rw [hW]; exact new_loose2 _ _ _ _ _ (by simp)
  have f1 : W.frozen? ⟨w.heap.size + 1, 1, none⟩ = false := by rw [hW]; exact new_loose2 _ _ _ _ _ (by simp)
  have sW : W.heap.size = w.heap.size + 2 := by rw [hW]; simp
  have r0 := r.kept k0 (by omega)
  have ho := ivMatOk_impl n W hw r0
  obtain ⟨a, c, rfl, -, -⟩ := r.form
  rw [hW] at ho
  clear r
  go_enter Tryz.func30, Tryz.ntmps30
  go_wp2_with fail
  rw [← hW] at ho ⊢
  clear hW
  refine ho.mono ?_
  rintro e w1 ⟨rfl, k1⟩
  replace f0 := k1.loose0 (World.block_lt_of_cell? _ _ q0) f0
  replace f1 := k1.loose0 (World.block_lt_of_cell? _ _ q1) f1
  replace c0 := k1.cell0 c0
  replace c1 := k1.cell0 c1
  replace q0 := k1.cell0 q0
  replace q1 := k1.cell0 q1
  replace r0 := r0.kept k1 (by omega)
  have K1 := hide (k0.trans k1)
  have z1 := k1.size
  clear ho k0 k1
  cases hk : imokB n ds m
  · obtain ⟨h1, h2, h3⟩ := tw_no (midV ds) (-3001) n
    have HB := hide (And.intro h1 (And.intro h2 h3))
    have HKF := hide hk
    have K7 := hide (((unhide K1).setNew (p := ⟨w.heap.size + 1, 0, none⟩) (by dsimp only; omega) (.int .i64 0)).setNew (p := ⟨w.heap.size + 1, 1, none⟩) (by dsimp only; omega) (.slice none 0 0))
    clear r0 K1 hk h1 h2 h3
    go_wp2
    exact bodyPost_ret (v := .tuple #[.agg #[.int .i64 0, .slice none 0 0], .bool false]) (by simp [results, Tryz.results30, go_sem, q0, q1]) rfl ⟨.slice none 0 0, by rw [unhide HKF, (unhide HB).1, (unhide HB).2.2], by rw [unhide HKF, (unhide HB).2.1]; exact DysO.void _ _ _, unhide K7⟩
  obtain ⟨u1, u2, u3, U⟩ := imok_parts hk
  obtain ⟨k, rfl⟩ := Int.eq_ofNat_of_zero_le (show 0 ≤ n by omega)
  have hlen : m = k * k := by rw [← Int.natCast_mul] at u3; omega
  have h16 : k * k ≤ 4 * 4 := Nat.mul_le_mul (by omega) (by omega)
  have ht := toldMatV_impl (k : Int) (midE ds) (midB ds) w1 (by omega) r0 (fun i w' b l c' b' l' c'' hi kk rr rr' => mid1_impl _ _ _ _ w' rr rr' (U _ (by omega)) (U _ (by omega)) (T.kept ((unhide K1).trans kk)) rfl)
  obtain ⟨t1, t2, t3⟩ := mid_tel (ds := ds) k
  rw [hlen, t1, t2, t3] at ht
  obtain ⟨BB, hBB⟩ : ∃ q, q = twB true (midV ds) (-3001) (k : Int) := ⟨_, rfl⟩
  obtain ⟨LL, hLL⟩ : ∃ q, q = twL true (midV ds) (-3001) (k : Int) := ⟨_, rfl⟩
  obtain ⟨NN, hNN⟩ : ∃ q, q = twN true (midV ds) (-3001) (k : Int) := ⟨_, rfl⟩
  rw [← hBB, ← hLL, ← hNN] at ht
  have HANS := hide (And.intro hk (And.intro hBB (And.intro hNN hLL)))
  have HL := hide hlen
  rw [← hlen] at ht
  clear t1 t2 t3 u1 u2 u3 U hlen hk hBB hLL hNN r0 hw T
  go_wp2_with fail
  refine ht.mono ?_
  rintro e w3 ⟨v3, rfl, r3, k3⟩
  obtain ⟨a3, d3, hv3⟩ := r3.form'
  subst hv3
  replace f0 := k3.loose0 (World.block_lt_of_cell? _ _ q0) f0
  replace f1 := k3.loose0 (World.block_lt_of_cell? _ _ q1) f1
  replace q0 := k3.cell0 q0
  replace q1 := k3.cell0 q1
  have K7 := hide ((((unhide K1).trans k3).setNew (p := ⟨w.heap.size + 1, 0, none⟩) (by dsimp only; omega) (.int .i64 NN)).setNew (p := ⟨w.heap.size + 1, 1, none⟩) (by dsimp only; omega) (.slice a3 LL.length d3))
  have ks : Kept (w.heap.size + 1) (w.heap.size + 2) w3 ((w3.setCell ⟨w.heap.size + 1, 0, none⟩ (.int .i64 NN)).setCell ⟨w.heap.size + 1, 1, none⟩ (.slice a3 LL.length d3)) := ((Kept.refl _ _ _).setCell (p := ⟨w.heap.size + 1, 0, none⟩) (Nat.le_refl _) (Nat.lt_succ_self _) _).setCell (p := ⟨w.heap.size + 1, 1, none⟩) (Nat.le_refl _) (Nat.lt_succ_self _) _
  have hsz : ((w3.setCell ⟨w.heap.size + 1, 0, none⟩ (.int .i64 NN)).setCell ⟨w.heap.size + 1, 1, none⟩ (.slice a3 LL.length d3)).heap.size = w3.heap.size := by rw [size_set, size_set]
  have R7 := hide ((r3.kept ks (by omega)).wider (lo' := w.heap.size) (hi' := ((w3.setCell ⟨w.heap.size + 1, 0, none⟩ (.int .i64 NN)).setCell ⟨w.heap.size + 1, 1, none⟩ (.slice a3 LL.length d3)).heap.size) (by omega) (by omega))
  clear ht r3 k3 ks hsz c0 c1 K1
  go_wp2
  exact bodyPost_ret (v := .tuple #[.agg #[.int .i64 NN, .slice a3 LL.length d3], .bool BB]) (by simp [results, Tryz.results30, go_sem, q0, q1]) rfl ⟨.slice a3 LL.length d3, by rw [(unhide HANS).1, ← (unhide HANS).2.1, ← (unhide HANS).2.2.1], by rw [(unhide HANS).1, ← (unhide HANS).2.2.2]; exact unhide R7, unhide K7⟩

end Go.Proofs.YthahoabkehcgbaaGreatDoor

