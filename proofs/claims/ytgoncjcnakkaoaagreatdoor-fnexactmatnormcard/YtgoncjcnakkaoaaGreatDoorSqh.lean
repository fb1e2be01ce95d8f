/-
  The program's squareOf and turned: numbers of a square that lie apart.
-/
import Derived.Test.YtgoncjcnakkaoaaGreatDoorSqg
import Derived.Test.YtgoncjcnakkaoaaGreatDoorMat1
import Derived.Test.YtgoncjcnakkaoaaGreatDoorStep2
import Derived.Deep.RegionHeld3
import Derived.Deep.DeepCutAuto
namespace Go.Proofs.YtgoncjcnakkaoaaGreatDoor
open Go.RowKit
set_option linter.unusedVariables false
set_option maxRecDepth 8000
set_option linter.unusedSimpArgs false

theorem place_lt {i j n : Nat} (hi : i < n) (hj : j < n) : i * n + j < n * n := by
  have h1 : (i + 1) * n ≤ n * n := Nat.mul_le_mul_right n hi
  have h2 : (i + 1) * n = i * n + n := Nat.succ_mul i n
  omega

theorem Nums.win {b k lo hi : Nat} {S : Nat → Prop} {w w' : World} {G : Nat → Nat} {F : Nat → DE} (h : Nums b S w k G F) (m : Kept lo hi w w') (hb : hi ≤ b) : Nums b S w' k G F := by
  obtain ⟨L, H, h1, h2⟩ := h
  refine ⟨L, H, fun p hp => ?_, h2⟩
  obtain ⟨d, q1, q2, q3⟩ := h1 p hp
  exact ⟨d.mod (X := fun i => lo ≤ i ∧ i < hi) ⟨m.os, m.tape, m.output, m.size, fun i hi ho => m.block i hi (by omega)⟩ (fun x hx1 _ hx => by omega), q1, Nat.le_trans q2 m.size, q3⟩
theorem Nums.less {b b' k : Nat} {S : Nat → Prop} {w : World} {G : Nat → Nat} {F : Nat → DE} (h : Nums b S w k G F) (hb : b' ≤ b) : Nums b' S w k G F := by
  obtain ⟨L, H, h1, h2⟩ := h
  exact ⟨L, H, fun p hp => by obtain ⟨d, q1, q2, q3⟩ := h1 p hp; exact ⟨d, by omega, q2, q3⟩, h2⟩
/-- The place of a number in a square that is turned. -/
def turP (n p : Nat) : Nat := (p % n) * n + p / n
theorem turP_at {n j : Nat} (i : Nat) (hj : j < n) : turP n (i * n + j) = j * n + i := by
  unfold turP
  rw [Nat.mul_comm i n, Nat.mul_add_mod, Nat.mod_eq_of_lt hj, Nat.mul_add_div (by omega), Nat.div_eq_of_lt hj, Nat.add_zero]
theorem turP_parts {n p : Nat} (h : p < n * n) : p % n < n ∧ p / n < n ∧ n * (p / n) + p % n = p := by
  have hn : 0 < n := by
    rcases Nat.eq_zero_or_pos n with h0 | h0
    · subst h0; simp at h
    · exact h0
  exact ⟨Nat.mod_lt _ hn, Nat.div_lt_of_lt_mul h, Nat.div_add_mod p n⟩
theorem turP_lt {n p : Nat} (h : p < n * n) : turP n p < n * n := by
  obtain ⟨h1, h2, -⟩ := turP_parts h
  exact place_lt h1 h2
theorem turP_inj {n p q : Nat} (hp : p < n * n) (hq : q < n * n) (h : turP n p = turP n q) : p = q := by
  obtain ⟨p1, p2, p3⟩ := turP_parts hp
  obtain ⟨q1, q2, q3⟩ := turP_parts hq
  have a1 : turP n p / n = p % n := by unfold turP; rw [Nat.mul_comm, Nat.mul_add_div (by omega), Nat.div_eq_of_lt p2, Nat.add_zero]
  have a2 : turP n q / n = q % n := by unfold turP; rw [Nat.mul_comm, Nat.mul_add_div (by omega), Nat.div_eq_of_lt q2, Nat.add_zero]
  have b1 : turP n p % n = p / n := by unfold turP; rw [Nat.mul_comm, Nat.mul_add_mod, Nat.mod_eq_of_lt p2]
  have b2 : turP n q % n = q / n := by unfold turP; rw [Nat.mul_comm, Nat.mul_add_mod, Nat.mod_eq_of_lt q2]
  rw [← p3, ← q3, ← a1, ← a2, ← b1, ← b2, h]

theorem in_newDyadic : ∀ (w : World) (args : Array Value), (callFunc 42 args).run Tryz.prog w = .ok (.enter 42 args) w := enters Tryz.func42 (by decide) (fun h => by cases h)

theorem in_squareFrom : ∀ (w : World) (args : Array Value), (callFunc 41 args).run Tryz.prog w = .ok (.enter 41 args) w := enters Tryz.func41 (by decide) (fun h => by cases h)

theorem in_squareFrom1 : ∀ (w : World) (args : Array Value), (callFunc 67 args).run Tryz.prog w = .ok (.enter 67 args) w := enters Tryz.func67 (by decide) (fun h => by cases h)

set_option maxHeartbeats 4000000 in
theorem newDyadic_impl {bw : Bool} {lo hi : Nat} {v0 : Value} {z : List Int} (s0 : Bool) (y0 : Int) (w : World) (rr : Row .i64 bw lo hi w v0 z) (hz : z.length ≤ 1000000) :
    Calls Tryz.prog 42 #[.agg #[.bool s0, v0, .int .i64 y0]] w fun e w' => ∃ g, e = .returned (.pointer (some ⟨g, 0, none⟩)) ∧ DyP (fun x => x < w.heap.size) w' g (s0, z, y0) ∧ Kept 0 0 w w' := by
  have kA := (Kept.refl 0 0 w).alloc (.cells #[.bool s0, v0, .int .i64 y0] 32)
  have c0 : (w.alloc (.cells #[.bool s0, v0, .int .i64 y0] 32)).cell? ⟨w.heap.size, 0, none⟩ = some (.bool s0) := new_cell2 _ _ _ _ _ _ rfl rfl
  have c1 : (w.alloc (.cells #[.bool s0, v0, .int .i64 y0] 32)).cell? ⟨w.heap.size, 1, none⟩ = some v0 := new_cell2 _ _ _ _ _ _ rfl rfl
  have c2 : (w.alloc (.cells #[.bool s0, v0, .int .i64 y0] 32)).cell? ⟨w.heap.size, 2, none⟩ = some (.int .i64 y0) := new_cell2 _ _ _ _ _ _ rfl rfl
  have hd := dyadicOf_impl s0 y0 _ (rr.kept kA (by omega)) hz
  have sA : (w.alloc (.cells #[.bool s0, v0, .int .i64 y0] 32)).heap.size = w.heap.size + 1 := by simp
  have KA := hide kA
  obtain ⟨b0, l0, rfl⟩ := Row.form' rr
  clear rr kA
  go_enter Tryz.func42, Tryz.ntmps42
  go_wp2_with fail
  refine hd.mono ?_
  rintro e w1 ⟨v1, rfl, o1, k1⟩
  obtain ⟨a1, d1, hv1⟩ := own_slice o1
  subst hv1
  obtain ⟨n1, s1, x1⟩ := new_dya s0 y0 90 o1
  have ks := k1.size
  have D : Hid (DyP (fun x => x < w.heap.size) (w1.alloc (.cells #[.slice a1 z.length d1, .bool s0, .int .i64 y0] 90)) w1.heap.size (s0, z, y0)) :=
    ⟨_, n1.less (Nat.zero_le _), s1, x1, by omega, fun q hq => by have := (o1.lt q hq).1; omega⟩
  have K1 := hide (((unhide KA).trans k1).alloc (.cells #[.slice a1 z.length d1, .bool s0, .int .i64 y0] 90))
  clear hd n1 s1 x1 o1 k1 c0 c1 c2 KA sA
  go_wp2
  go_ret
  exact ⟨_, rfl, unhide D, unhide K1⟩

set_option maxHeartbeats 8000000 in
theorem squareFrom1_impl {lo hi B n i j : Nat} {v : Value} {ds : List DE} (w : World) (hn : n ≤ 1000) (hi' : i < n) (hj : j < n) (hl : ds.length = n * n) (hz : ∀ k, k < ds.length → (ds.getD k de0).2.1.length ≤ 1000000)
    (c0 : w.cell? ⟨B, 0, none⟩ = some (.int .i64 (n : Int))) (c1 : w.cell? ⟨B + 1, 0, none⟩ = some v) (c2 : w.cell? ⟨B + 2, 0, none⟩ = some (.func (.func 42) #[] #[])) (r : Dys lo hi w v ds) :
    Calls Tryz.prog 67 #[.int .i64 (i : Int), .int .i64 (j : Int), .pointer (some ⟨B + 2, 0, none⟩), .pointer (some ⟨B + 1, 0, none⟩), .pointer (some ⟨B, 0, none⟩)] w fun e w' => ∃ g, e = .returned (.pointer (some ⟨g, 0, none⟩)) ∧ DyP (fun x => x < w.heap.size) w' g (ds.getD (i * n + j) de0) ∧ Kept 0 0 w w' := by
  have hp := place_lt hi' hj
  have hnn : n * n ≤ 1000000 := Nat.mul_le_mul hn hn
  have hin : i * n ≤ n * n := by omega
  obtain ⟨p, hpp⟩ : ∃ p, p = i * n + j := ⟨_, rfl⟩
  have hpl : p < ds.length := by omega
  obtain ⟨a, c, rfl, -, -⟩ := r.form
  obtain ⟨g, off, ln, rfl, -, -, -, b, kk, e0, e1, e2, hln, rr⟩ := r.at (i := p) hpl
  have hzl := hz p hpl
  obtain ⟨s0, hs0'⟩ : ∃ q, q = (ds.getD p de0).1 := ⟨_, rfl⟩
  obtain ⟨y0, hy0⟩ : ∃ q, q = (ds.getD p de0).2.2 := ⟨_, rfl⟩
  obtain ⟨z0, hz0⟩ : ∃ q, q = (ds.getD p de0).2.1 := ⟨_, rfl⟩
  rw [← hs0'] at e0
  rw [← hy0] at e2
  rw [← hz0] at hln rr hzl
  have hE : ds.getD p de0 = (s0, z0, y0) := by rw [hs0', hy0, hz0]
  rw [← hpp, hE]
  have kd := (Kept.refl 0 0 w).drew
  have hd := newDyadic_impl s0 y0 w.drew (rr.kept kd (by omega)) hzl
  have hw1 : IntKind.i64.wrap ((i : Int) * (n : Int)) = (((i * n : Nat)) : Int) := by rw [IntKind.wrap_i64, ← Int.natCast_mul]; omega
  have hw2 : IntKind.i64.wrap ((((i * n : Nat)) : Int) + (j : Int)) = (p : Int) := by rw [IntKind.wrap_i64, hpp]; omega
  obtain ⟨im, him⟩ : ∃ im : Nat, i * n = im := ⟨_, rfl⟩
  rw [him] at hw1 hw2
  obtain ⟨m, hm⟩ : ∃ m, m = ds.length := ⟨_, rfl⟩
  rw [← hm] at hpl c1
  clear him hs0' hy0 hz0 hln rr hzl hpp hp hnn hin hl hz r hm hE
  replace c0 := kd.cell0 c0
  replace c1 := kd.cell0 c1
  replace c2 := kd.cell0 c2
  replace e0 := kd.cell0 e0
  replace e1 := kd.cell0 e1
  replace e2 := kd.cell0 e2
  go_enter Tryz.func67, Tryz.ntmps67
  go_wp2_with fail
  refine wp_region_held_drew (S := (fun w' => w'.cell? ⟨B + 2, 0, none⟩ = some (.func (.func 42) #[] #[]) ∧ w'.cell? ⟨B + 1, 0, none⟩ = some (.slice (some ⟨g, off, none⟩) m c) ∧ w'.cell? ⟨B, 0, none⟩ = some (.int .i64 (n : Int)) ∧ w'.cell? ⟨g, off + p * 3, none⟩ = some (.bool s0) ∧ w'.cell? ⟨g, off + p * 3 + 1, none⟩ = some (.slice b ln kk) ∧ w'.cell? ⟨g, off + p * 3 + 2, none⟩ = some (.int .i64 y0))) (by kernel_rfl) ?_ (fun hHeld => ?_)
  · exact ⟨c2, c1, c0, e0, e1, e2⟩
  refine wpAnyH_take (i := 0) (oi := _) (v := .func (.func 42) #[] #[]) rfl (by kernel_rfl) (by kernel_rfl) (by kernel_rfl) (fun _ _ _ h => h) (Or.inl ⟨by rfl, ?_⟩) hHeld ?_
  · intro wq hSw
    try dsimp only at hSw
    go_simp
  try simp only [Act.put, List.getElem_toArray, List.getElem_cons_succ, List.getElem_cons_zero, List.setIfInBounds_toArray, List.set_cons_zero, List.set_cons_succ]
  refine wpAnyH_take (i := 1) (oi := _) (v := .slice (some ⟨g, off, none⟩) m c) rfl (by kernel_rfl) (by kernel_rfl) (by kernel_rfl) (fun _ _ _ h => h) (Or.inl ⟨by rfl, ?_⟩) hHeld ?_
  · intro wq hSw
    try dsimp only at hSw
    go_simp
  try simp only [Act.put, List.getElem_toArray, List.getElem_cons_succ, List.getElem_cons_zero, List.setIfInBounds_toArray, List.set_cons_zero, List.set_cons_succ]
  refine wpAnyH_take (i := 2) (oi := _) (v := .int .i64 (i : Int)) rfl (by kernel_rfl) (by kernel_rfl) (by kernel_rfl) (fun _ _ _ h => h) (Or.inl ⟨by rfl, ?_⟩) hHeld ?_
  · intro wq hSw
    try dsimp only at hSw
    go_simp
  try simp only [Act.put, List.getElem_toArray, List.getElem_cons_succ, List.getElem_cons_zero, List.setIfInBounds_toArray, List.set_cons_zero, List.set_cons_succ]
  refine wpAnyH_take (i := 3) (oi := _) (v := .int .i64 (n : Int)) rfl (by kernel_rfl) (by kernel_rfl) (by kernel_rfl) (fun _ _ _ h => h) (Or.inl ⟨by rfl, ?_⟩) hHeld ?_
  · intro wq hSw
    try dsimp only at hSw
    go_simp
  try simp only [Act.put, List.getElem_toArray, List.getElem_cons_succ, List.getElem_cons_zero, List.setIfInBounds_toArray, List.set_cons_zero, List.set_cons_succ]
  refine wpAnyH_take (i := 4) (oi := _) (v := .int .i64 (im : Int)) rfl (by kernel_rfl) (by kernel_rfl) (by kernel_rfl) (fun _ _ _ h => h) (Or.inl ⟨by rfl, ?_⟩) hHeld ?_
  · intro wq hSw
    try dsimp only at hSw
    go_simp
  try simp only [Act.put, List.getElem_toArray, List.getElem_cons_succ, List.getElem_cons_zero, List.setIfInBounds_toArray, List.set_cons_zero, List.set_cons_succ]
  refine wpAnyH_take (i := 5) (oi := _) (v := .int .i64 (j : Int)) rfl (by kernel_rfl) (by kernel_rfl) (by kernel_rfl) (fun _ _ _ h => h) (Or.inl ⟨by rfl, ?_⟩) hHeld ?_
  · intro wq hSw
    try dsimp only at hSw
    go_simp
  try simp only [Act.put, List.getElem_toArray, List.getElem_cons_succ, List.getElem_cons_zero, List.setIfInBounds_toArray, List.set_cons_zero, List.set_cons_succ]
  refine wpAnyH_take (i := 6) (oi := _) (v := .int .i64 (p : Int)) rfl (by kernel_rfl) (by kernel_rfl) (by kernel_rfl) (fun _ _ _ h => h) (Or.inl ⟨by rfl, ?_⟩) hHeld ?_
  · intro wq hSw
    try dsimp only at hSw
    go_simp
  try simp only [Act.put, List.getElem_toArray, List.getElem_cons_succ, List.getElem_cons_zero, List.setIfInBounds_toArray, List.set_cons_zero, List.set_cons_succ]
  refine wpAnyH_take (i := 7) (oi := _) (v := .pointer (some ⟨g, off + p * 3, none⟩)) rfl (by kernel_rfl) (by kernel_rfl) (by kernel_rfl) (fun _ _ _ h => h) (Or.inl ⟨by rfl, ?_⟩) hHeld ?_
  · intro wq hSw
    try dsimp only at hSw
    go_simp
  try simp only [Act.put, List.getElem_toArray, List.getElem_cons_succ, List.getElem_cons_zero, List.setIfInBounds_toArray, List.set_cons_zero, List.set_cons_succ]
  refine wpAnyH_take (i := 8) (oi := _) (v := .agg #[.bool s0, .slice b ln kk, .int .i64 y0]) rfl (by kernel_rfl) (by kernel_rfl) (by kernel_rfl) (fun _ _ _ h => h) (Or.inl ⟨by rfl, ?_⟩) hHeld ?_
  · intro wq hSw
    try dsimp only at hSw
    go_simp
  try simp only [Act.put, List.getElem_toArray, List.getElem_cons_succ, List.getElem_cons_zero, List.setIfInBounds_toArray, List.set_cons_zero, List.set_cons_succ]
  refine wpAnyH_ready (rs := [9]) (by kernel_rfl) (by simp) ?_
  refine AllReadyH.cons rfl (fun KK hK => ?_) AllReadyH.nil
  simp only [List.getElem_toArray, List.getElem_cons_succ, List.getElem_cons_zero]
  rw [if_pos (by rfl)]
  refine wpv1 42 (.tmp 8) (.tmp 16) _ rfl rfl in_newDyadic (.agg #[.bool s0, .slice b ln kk, .int .i64 y0]) rfl hd ?_
  rintro e w1 ⟨g1, rfl, D1, k1⟩
  refine ⟨_, rfl, ?_⟩
  have D := hide D1
  have K1 := hide (kd.trans k1)
  replace c0 := k1.cell0 c0
  replace c1 := k1.cell0 c1
  replace c2 := k1.cell0 c2
  replace e0 := k1.cell0 e0
  replace e1 := k1.cell0 e1
  replace e2 := k1.cell0 e2
  clear hd D1 k1 kd
  clear hHeld
  refine hK.out _ _ ?_ (fun hHeld => ?_)
  · exact ⟨c2, c1, c0, e0, e1, e2⟩
  clear hK KK
  try simp only [Act.put, List.getElem_toArray, List.getElem_cons_succ, List.getElem_cons_zero, List.setIfInBounds_toArray, List.set_cons_zero, List.set_cons_succ]
  refine wpAnyH_take (i := 10) (oi := _) (v := .pointer (some ⟨g1, 0, none⟩)) rfl (by kernel_rfl) (by kernel_rfl) (by kernel_rfl) (fun _ _ _ h => h) (Or.inl ⟨by rfl, ?_⟩) hHeld ?_
  · intro wq hSw
    try dsimp only at hSw
    go_simp
  try simp only [Act.put, List.getElem_toArray, List.getElem_cons_succ, List.getElem_cons_zero, List.setIfInBounds_toArray, List.set_cons_zero, List.set_cons_succ]
  refine wpAnyH_done (by kernel_rfl) ?_ _
  clear hHeld
  go_wp2
  go_ret
  exact ⟨_, rfl, unhide D, unhide K1⟩

set_option maxHeartbeats 4000000 in
theorem squareFrom_impl {lo hi n : Nat} {v : Value} {ds : List DE} (w : World) (hn : n ≤ 1000) (hl : ds.length = n * n) (hz : ∀ k, k < ds.length → (ds.getD k de0).2.1.length ≤ 1000000) (r : Dys lo hi w v ds) :
    Calls Tryz.prog 41 #[.int .i64 (n : Int), v, .func (.func 42) #[] #[]] w fun e w' => ∃ R G S, e = .returned (.agg #[.slice (some ⟨R, 0, none⟩) n n]) ∧ SqG S w' R n n G ∧ Nums w.heap.size S w' (n * n) G (fun p => ds.getD p de0) ∧ (∀ x, S x → w.heap.size ≤ x ∧ x < w'.heap.size) ∧ w.heap.size ≤ R ∧ Kept 0 0 w w' := by
  obtain ⟨W, hW⟩ : ∃ W, W = (((w.alloc (.cells #[.int .i64 (n : Int)] 3)).alloc (.cells #[v] 35)).alloc (.cells #[.func (.func 42) #[] #[]] 82)).alloc (.cells #[.slice none 0 0] 53) := ⟨_, rfl⟩
  have k0 : Kept 0 0 w W := by rw [hW]; exact ((((Kept.refl 0 0 w).alloc _).alloc _).alloc _).alloc _
  have c0 : W.cell? ⟨w.heap.size, 0, none⟩ = some (.int .i64 (n : Int)) := by rw [hW]; exact old_cell _ (old_cell _ (old_cell _ (new_cell_at _ _ _ _ rfl)))
  have c1 : W.cell? ⟨w.heap.size + 1, 0, none⟩ = some v := by rw [hW]; exact old_cell _ (old_cell _ (new_cell_at _ _ _ _ (by simp)))
  have c2 : W.cell? ⟨w.heap.size + 2, 0, none⟩ = some (.func (.func 42) #[] #[]) := by rw [hW]; exact old_cell _ (new_cell_at _ _ _ _ (by simp))
  have q0 : W.cell? ⟨w.heap.size + 3, 0, none⟩ = some (.slice none 0 0) := by rw [hW]; exact new_cell2 _ _ _ _ _ _ (by simp) rfl
  have qf : W.frozen? ⟨w.heap.size + 3, 0, none⟩ = false := by rw [hW]; exact new_loose2 _ _ _ _ _ (by simp)
  have sW : W.heap.size = w.heap.size + 4 := by rw [hW]; simp
  have r0 := r.kept k0 (by omega)
  have hm := makeSquare_new (n := n) hn 67 in_squareFrom1 #[.pointer (some ⟨w.heap.size + 2, 0, none⟩), .pointer (some ⟨w.heap.size + 1, 0, none⟩), .pointer (some ⟨w.heap.size, 0, none⟩)] (fun p => ds.getD p de0) W (fun i j w' hi hj k => squareFrom1_impl (B := w.heap.size) w' hn hi hj hl hz (k.cell0 c0) (k.cell0 c1) (k.cell0 c2) (r0.kept k (by omega)))
  obtain ⟨a, c, rfl, -, -⟩ := r.form
  rw [hW] at hm c0
  have SW := hide sW
  clear r r0 hz sW hl c1 c2
  go_enter Tryz.func41, Tryz.ntmps41
  go_wp2_with fail
  refine hm.mono ?_
  rw [← hW]
  rintro e w1 ⟨R, G, S, rfl, sq, nm, hS, hR, k1⟩
  have q1 := k1.cell0 q0
  have qf1 := k1.loose0 (World.block_lt_of_cell? _ _ q0) qf
  have sW := unhide SW
  have E1 := cell_on w1 (w.heap.size + 3) 0 (.slice (some ⟨R, 0, none⟩) n n) _ q1
  have ks : Kept (w.heap.size + 3) (w.heap.size + 3 + 1) w1 (w1.setCell ⟨w.heap.size + 3, 0, none⟩ (.slice (some ⟨R, 0, none⟩) n n)) := (Kept.refl _ _ _).setCell (p := ⟨w.heap.size + 3, 0, none⟩) (Nat.le_refl _) (Nat.lt_succ_self _) _
  have S2 : Hid (SqG S (w1.setCell ⟨w.heap.size + 3, 0, none⟩ (.slice (some ⟨R, 0, none⟩) n n)) R n n G ∧ Nums w.heap.size S (w1.setCell ⟨w.heap.size + 3, 0, none⟩ (.slice (some ⟨R, 0, none⟩) n n)) (n * n) G (fun p => ds.getD p de0) ∧ (∀ x, S x → w.heap.size ≤ x ∧ x < (w1.setCell ⟨w.heap.size + 3, 0, none⟩ (.slice (some ⟨R, 0, none⟩) n n)).heap.size)) :=
    ⟨sq.keptY ks (by omega), (nm.win ks (by omega)).less (by omega), fun x hx => by (have := hS x hx; rw [size_set]; omega)⟩
  have K2 := hide ((k0.trans k1).wide ks (by omega))
  have hRR : w.heap.size ≤ R := by omega
  clear hm sq nm hS hR k1 ks sW q0 qf c0
  go_wp2
  exact bodyPost_ret (v := .agg #[.slice (some ⟨R, 0, none⟩) n n]) (by simp [results, Tryz.results41, go_sem, E1]) rfl ⟨R, G, S, rfl, (unhide S2).1, (unhide S2).2.1, (unhide S2).2.2, by have := hRR; omega, unhide K2⟩

set_option maxHeartbeats 4000000 in
theorem squareOf_impl {lo hi n : Nat} {v : Value} {ds : List DE} (w : World) (hn : n ≤ 1000) (hl : ds.length = n * n) (hz : ∀ k, k < ds.length → (ds.getD k de0).2.1.length ≤ 1000000) (r : Dys lo hi w v ds) :
    Calls Tryz.prog 20 #[.agg #[.int .i64 (n : Int), v]] w fun e w' => ∃ R G S, e = .returned (.agg #[.slice (some ⟨R, 0, none⟩) n n]) ∧ SqG S w' R n n G ∧ Nums w.heap.size S w' (n * n) G (fun p => ds.getD p de0) ∧ (∀ x, S x → w.heap.size ≤ x ∧ x < w'.heap.size) ∧ Kept 0 0 w w' := by
  obtain ⟨W, hW⟩ : ∃ W, W = (w.alloc (.cells #[.int .i64 (n : Int), v] 37)).alloc (.cells #[.slice none 0 0] 53) := ⟨_, rfl⟩
  have k0 : Kept 0 0 w W := by rw [hW]; exact ((Kept.refl 0 0 w).alloc _).alloc _
  have c0 : W.cell? ⟨w.heap.size, 0, none⟩ = some (.int .i64 (n : Int)) := by rw [hW]; exact old_cell _ (new_cell2 _ _ _ _ _ _ (by simp) rfl)
  have c1 : W.cell? ⟨w.heap.size, 1, none⟩ = some v := by rw [hW]; exact old_cell _ (new_cell2 _ _ _ _ _ _ (by simp) rfl)
  have q0 : W.cell? ⟨w.heap.size + 1, 0, none⟩ = some (.slice none 0 0) := by rw [hW]; exact new_cell2 _ _ _ _ _ _ (by simp) rfl
  have qf : W.frozen? ⟨w.heap.size + 1, 0, none⟩ = false := by rw [hW]; exact new_loose2 _ _ _ _ _ (by simp)
  have sW : W.heap.size = w.heap.size + 2 := by rw [hW]; simp
  have hm := squareFrom_impl W hn hl hz (r.kept k0 (by omega))
  obtain ⟨a, c, rfl, -, -⟩ := r.form
  rw [hW] at hm c0 c1
  have SW := hide sW
  clear r hz sW hl
  go_enter Tryz.func20, Tryz.ntmps20
  go_wp2_with fail
  refine hm.mono ?_
  rw [← hW]
  rintro e w1 ⟨R, G, S, rfl, sq, nm, hS, hR, k1⟩
  have q1 := k1.cell0 q0
  have qf1 := k1.loose0 (World.block_lt_of_cell? _ _ q0) qf
  have sW := unhide SW
  have E1 := cell_on w1 (w.heap.size + 1) 0 (.slice (some ⟨R, 0, none⟩) n n) _ q1
  have ks : Kept (w.heap.size + 1) (w.heap.size + 1 + 1) w1 (w1.setCell ⟨w.heap.size + 1, 0, none⟩ (.slice (some ⟨R, 0, none⟩) n n)) := (Kept.refl _ _ _).setCell (p := ⟨w.heap.size + 1, 0, none⟩) (Nat.le_refl _) (Nat.lt_succ_self _) _
  have S2 : Hid (SqG S (w1.setCell ⟨w.heap.size + 1, 0, none⟩ (.slice (some ⟨R, 0, none⟩) n n)) R n n G ∧ Nums w.heap.size S (w1.setCell ⟨w.heap.size + 1, 0, none⟩ (.slice (some ⟨R, 0, none⟩) n n)) (n * n) G (fun p => ds.getD p de0) ∧ (∀ x, S x → w.heap.size ≤ x ∧ x < (w1.setCell ⟨w.heap.size + 1, 0, none⟩ (.slice (some ⟨R, 0, none⟩) n n)).heap.size)) :=
    ⟨sq.keptY ks (by omega), (nm.win ks (by omega)).less (by omega), fun x hx => by (have := hS x hx; rw [size_set]; omega)⟩
  have K2 := hide ((k0.trans k1).wide ks (by omega))
  clear hm sq nm hS hR k1 ks sW q0 qf c0 c1
  go_wp2
  exact bodyPost_ret (v := .agg #[.slice (some ⟨R, 0, none⟩) n n]) (by simp [results, Tryz.results20, go_sem, E1]) rfl ⟨R, G, S, rfl, (unhide S2).1, (unhide S2).2.1, (unhide S2).2.2, unhide K2⟩

theorem in_turned1 : ∀ (w : World) (args : Array Value), (callFunc 64 args).run Tryz.prog w = .ok (.enter 64 args) w := enters Tryz.func64 (by decide) (fun h => by cases h)

set_option maxHeartbeats 4000000 in
theorem turned1_impl {B R r n i j g : Nat} (w : World) (hi' : i < n) (hj : j < n) (c0 : w.cell? ⟨B, 0, none⟩ = some (.slice (some ⟨R, 0, none⟩) n n)) (c1 : w.cell? ⟨R, j, none⟩ = some (.slice (some ⟨r, 0, none⟩) n n)) (c2 : w.cell? ⟨r, i, none⟩ = some (.pointer (some ⟨g, 0, none⟩))) :
    Calls Tryz.prog 64 #[.int .i64 (i : Int), .int .i64 (j : Int), .pointer (some ⟨B, 0, none⟩)] w fun e w' => e = .returned (.pointer (some ⟨g, 0, none⟩)) ∧ w' = w := by
  go_enter Tryz.func64, Tryz.ntmps64
  go_wp2
  go_ret
  exact ⟨rfl, rfl⟩

set_option maxHeartbeats 4000000 in
theorem turned_impl {S : Nat → Prop} {R n b : Nat} {G : Nat → Nat} {F : Nat → DE} (w : World) (hn : n ≤ 1000) (s : SqG S w R n n G) (nm : Nums b S w (n * n) G F) :
    Calls Tryz.prog 37 #[.agg #[.slice (some ⟨R, 0, none⟩) n n]] w fun e w' => ∃ R' G' S', e = .returned (.agg #[.slice (some ⟨R', 0, none⟩) n n]) ∧ SqG S' w' R' n n G' ∧ Nums b S' w' (n * n) G' (fun p => F (turP n p)) ∧ (∀ x, S' x → w.heap.size ≤ x ∧ x < w'.heap.size) ∧ Kept 0 0 w w' := by
  obtain ⟨W, hW⟩ : ∃ W, W = (w.alloc (.cells #[.slice (some ⟨R, 0, none⟩) n n] 53)).alloc (.cells #[.slice none 0 0] 53) := ⟨_, rfl⟩
  have k0 : Kept 0 0 w W := by rw [hW]; exact ((Kept.refl 0 0 w).alloc _).alloc _
  have c0 : W.cell? ⟨w.heap.size, 0, none⟩ = some (.slice (some ⟨R, 0, none⟩) n n) := by rw [hW]; exact old_cell _ (new_cell2 _ _ _ _ _ _ (by simp) rfl)
  have q0 : W.cell? ⟨w.heap.size + 1, 0, none⟩ = some (.slice none 0 0) := by rw [hW]; exact new_cell2 _ _ _ _ _ _ (by simp) rfl
  have qf : W.frozen? ⟨w.heap.size + 1, 0, none⟩ = false := by rw [hW]; exact new_loose2 _ _ _ _ _ (by simp)
  have sW : W.heap.size = w.heap.size + 2 := by rw [hW]; simp
  have hm := makeSquare_old (n := n) hn 64 in_turned1 #[.pointer (some ⟨w.heap.size, 0, none⟩)] (fun p => G (turP n p)) W (fun i j w' hi hj k => by
    obtain ⟨r, cr, -, -, -, q4⟩ := s.2.2 j hj
    have kk := k0.trans k
    have := turned1_impl (B := w.heap.size) w' hi hj (k.cell0 c0) (kk.cell0 cr) (kk.cell0 (q4 i hi))
    rw [← turP_at i hj] at this
    refine this.mono ?_
    rintro e w'' ⟨rfl, rfl⟩
    exact ⟨rfl, Kept.refl 0 0 _⟩)
  rw [hW] at hm c0
  have SW := hide sW
  have NM := hide nm
  clear s sW nm
  go_enter Tryz.func37, Tryz.ntmps37
  go_wp2_with fail
  refine hm.mono ?_
  rw [← hW]
  rintro e w1 ⟨R', G', S', rfl, sq, hG, hS, hR, k1⟩
  have q1 := k1.cell0 q0
  have qf1 := k1.loose0 (World.block_lt_of_cell? _ _ q0) qf
  have sW := unhide SW
  have E1 := cell_on w1 (w.heap.size + 1) 0 (.slice (some ⟨R', 0, none⟩) n n) _ q1
  have ks : Kept (w.heap.size + 1) (w.heap.size + 2) w1 (w1.setCell ⟨w.heap.size + 1, 0, none⟩ (.slice (some ⟨R', 0, none⟩) n n)) := (Kept.refl _ _ _).setCell (p := ⟨w.heap.size + 1, 0, none⟩) (Nat.le_refl _) (Nat.lt_succ_self _) _
  have KK : Kept 0 0 w (w1.setCell ⟨w.heap.size + 1, 0, none⟩ (.slice (some ⟨R', 0, none⟩) n n)) := (k0.trans k1).wide ks (by omega)
  have S2 : Hid (SqG S' (w1.setCell ⟨w.heap.size + 1, 0, none⟩ (.slice (some ⟨R', 0, none⟩) n n)) R' n n G' ∧ Nums b S' (w1.setCell ⟨w.heap.size + 1, 0, none⟩ (.slice (some ⟨R', 0, none⟩) n n)) (n * n) G' (fun p => F (turP n p)) ∧ (∀ x, S' x → w.heap.size ≤ x ∧ x < (w1.setCell ⟨w.heap.size + 1, 0, none⟩ (.slice (some ⟨R', 0, none⟩) n n)).heap.size)) :=
    ⟨sq.keptY ks (by omega), (((unhide NM).perm (turP n) (fun p hp => turP_lt hp) (fun p q hp hq e => turP_inj hp hq e)).congr hG (fun _ _ => rfl)).fresh KK (fun x hx => by have := hS x hx; omega), fun x hx => by (have := hS x hx; rw [size_set]; omega)⟩
  have K2 := hide ((k0.trans k1).wide ks (by omega))
  clear hm sq hG hS hR k1 ks sW q0 qf c0 KK
  go_wp2
  exact bodyPost_ret (v := .agg #[.slice (some ⟨R', 0, none⟩) n n]) (by simp [results, Tryz.results37, go_sem, E1]) rfl ⟨R', G', S', rfl, (unhide S2).1, (unhide S2).2.1, (unhide S2).2.2, unhide K2⟩

end Go.Proofs.YtgoncjcnakkaoaaGreatDoor
