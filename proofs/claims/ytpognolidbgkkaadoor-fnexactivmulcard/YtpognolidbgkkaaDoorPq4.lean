/-
  The program's extremes: of four pairs of ends that which comes first and that which comes last.
-/
import Derived.Test.YtpognolidbgkkaaDoorPq3
import Derived.Deep.DeepCutAuto
import Derived.Deep.RegionHeld3
namespace Go.Proofs.YtpognolidbgkkaaDoor
open Go.RowKit
set_option linter.unusedVariables false
set_option maxRecDepth 8000
set_option linter.unusedSimpArgs false

def f4 {α : Type} (a b c d : α) : Nat → α
  | 0 => a
  | 1 => b
  | 2 => c
  | _ => d
theorem PL.new (W : World) (t : TypeId) (s1 s2 s3 s4 : Bool) (a1 a2 a3 a4 : Option Addr) (n1 n2 n3 n4 c1 c2 c3 c4 : Nat) (x1 x2 x3 x4 : Int) : PL (W.alloc (.cells #[.bool s1, .slice a1 n1 c1, .int .i64 x1, .bool s3, .slice a3 n3 c3, .int .i64 x3, .bool s1, .slice a1 n1 c1, .int .i64 x1, .bool s4, .slice a4 n4 c4, .int .i64 x4, .bool s2, .slice a2 n2 c2, .int .i64 x2, .bool s3, .slice a3 n3 c3, .int .i64 x3, .bool s2, .slice a2 n2 c2, .int .i64 x2, .bool s4, .slice a4 n4 c4, .int .i64 x4] t)) W.heap.size (f4 s1 s1 s2 s2) (f4 s3 s4 s3 s4) (f4 a1 a1 a2 a2) (f4 a3 a4 a3 a4) (f4 n1 n1 n2 n2) (f4 c1 c1 c2 c2) (f4 n3 n4 n3 n4) (f4 c3 c4 c3 c4) (f4 x1 x1 x2 x2) (f4 x3 x4 x3 x4) := fun k hk => by
  obtain rfl | rfl | rfl | rfl : k = 0 ∨ k = 1 ∨ k = 2 ∨ k = 3 := by omega
  all_goals exact ⟨new_cell2 _ _ _ _ _ _ rfl rfl, new_cell2 _ _ _ _ _ _ rfl rfl, new_cell2 _ _ _ _ _ _ rfl rfl, new_cell2 _ _ _ _ _ _ rfl rfl, new_cell2 _ _ _ _ _ _ rfl rfl, new_cell2 _ _ _ _ _ _ rfl rfl⟩

set_option maxHeartbeats 4000000 in
theorem extremes_impl {C : Nat → Nat → Int} (f : FuncId) (hcf : ∀ (w : World) (args : Array Value), (callFunc f args).run Tryd.prog w = .ok (.enter f args) w) (s1 s2 s3 s4 : Bool) (a1 a2 a3 a4 : Option Addr) (n1 n2 n3 n4 c1 c2 c3 c4 : Nat) (x1 x2 x3 x4 : Int) (w : World)
    (h1 : ∀ (i j : Nat) w1, Kept 0 0 w w1 → Calls Tryd.prog f #[.agg #[.bool ((f4 s1 s1 s2 s2) i), .slice ((f4 a1 a1 a2 a2) i) ((f4 n1 n1 n2 n2) i) ((f4 c1 c1 c2 c2) i), .int .i64 ((f4 x1 x1 x2 x2) i), .bool ((f4 s3 s4 s3 s4) i), .slice ((f4 a3 a4 a3 a4) i) ((f4 n3 n4 n3 n4) i) ((f4 c3 c4 c3 c4) i), .int .i64 ((f4 x3 x4 x3 x4) i)], .agg #[.bool ((f4 s1 s1 s2 s2) j), .slice ((f4 a1 a1 a2 a2) j) ((f4 n1 n1 n2 n2) j) ((f4 c1 c1 c2 c2) j), .int .i64 ((f4 x1 x1 x2 x2) j), .bool ((f4 s3 s4 s3 s4) j), .slice ((f4 a3 a4 a3 a4) j) ((f4 n3 n4 n3 n4) j) ((f4 c3 c4 c3 c4) j), .int .i64 ((f4 x3 x4 x3 x4) j)]] w1 (fun e w' => e = .returned (.int .i64 (C i j)) ∧ Kept 0 0 w1 w')) :
    Calls Tryd.prog 17 #[.agg #[.bool s1, .slice a1 n1 c1, .int .i64 x1, .bool s2, .slice a2 n2 c2, .int .i64 x2], .agg #[.bool s3, .slice a3 n3 c3, .int .i64 x3, .bool s4, .slice a4 n4 c4, .int .i64 x4], .func (.func f) #[] #[]] w fun e w' => e = .returned (.tuple #[.agg #[.bool ((f4 s1 s1 s2 s2) (selP (fun i j => decide (C i j < 0)) 4)), .slice ((f4 a1 a1 a2 a2) (selP (fun i j => decide (C i j < 0)) 4)) ((f4 n1 n1 n2 n2) (selP (fun i j => decide (C i j < 0)) 4)) ((f4 c1 c1 c2 c2) (selP (fun i j => decide (C i j < 0)) 4)), .int .i64 ((f4 x1 x1 x2 x2) (selP (fun i j => decide (C i j < 0)) 4)), .bool ((f4 s3 s4 s3 s4) (selP (fun i j => decide (C i j < 0)) 4)), .slice ((f4 a3 a4 a3 a4) (selP (fun i j => decide (C i j < 0)) 4)) ((f4 n3 n4 n3 n4) (selP (fun i j => decide (C i j < 0)) 4)) ((f4 c3 c4 c3 c4) (selP (fun i j => decide (C i j < 0)) 4)), .int .i64 ((f4 x3 x4 x3 x4) (selP (fun i j => decide (C i j < 0)) 4))], .agg #[.bool ((f4 s1 s1 s2 s2) (selP (fun i j => decide (0 < C i j)) 4)), .slice ((f4 a1 a1 a2 a2) (selP (fun i j => decide (0 < C i j)) 4)) ((f4 n1 n1 n2 n2) (selP (fun i j => decide (0 < C i j)) 4)) ((f4 c1 c1 c2 c2) (selP (fun i j => decide (0 < C i j)) 4)), .int .i64 ((f4 x1 x1 x2 x2) (selP (fun i j => decide (0 < C i j)) 4)), .bool ((f4 s3 s4 s3 s4) (selP (fun i j => decide (0 < C i j)) 4)), .slice ((f4 a3 a4 a3 a4) (selP (fun i j => decide (0 < C i j)) 4)) ((f4 n3 n4 n3 n4) (selP (fun i j => decide (0 < C i j)) 4)) ((f4 c3 c4 c3 c4) (selP (fun i j => decide (0 < C i j)) 4)), .int .i64 ((f4 x3 x4 x3 x4) (selP (fun i j => decide (0 < C i j)) 4))]]) ∧ Kept 0 0 w w' := by
  have H1 := hide h1
  clear h1
  obtain ⟨i0, hi0⟩ : ∃ i, (selP (fun i j => decide (C i j < 0)) 4) = i := ⟨_, rfl⟩
  obtain ⟨i1, hi1⟩ : ∃ i, (selP (fun i j => decide (0 < C i j)) 4) = i := ⟨_, rfl⟩
  rw [hi0, hi1]
  have HI0 := hide hi0
  have HI1 := hide hi1
  clear hi0 hi1
  obtain ⟨Wn, hn0⟩ : ∃ wz, wz = ((((w.alloc (.cells #[.bool s1, .slice a1 n1 c1, .int .i64 x1, .bool s2, .slice a2 n2 c2, .int .i64 x2] 38)).alloc (.cells #[.bool s3, .slice a3 n3 c3, .int .i64 x3, .bool s4, .slice a4 n4 c4, .int .i64 x4] 38)).alloc (.cells #[.bool false, .slice none 0 0, .int .i64 0, .bool false, .slice none 0 0, .int .i64 0] 51)).alloc (.cells #[.bool false, .slice none 0 0, .int .i64 0, .bool false, .slice none 0 0, .int .i64 0] 51)) := ⟨_, rfl⟩
  have k0 : Kept 0 0 w Wn := by rw [hn0]; exact (((((Kept.refl 0 0 w).alloc _).alloc _).alloc _).alloc _)
  have p0 : Wn.cell? ⟨w.heap.size, 0, none⟩ = some (.bool s1) := by rw [hn0]; exact old_cell _ (old_cell _ (old_cell _ (new_cell2 _ _ _ _ _ _ (by simp) rfl)))
  have p1 : Wn.cell? ⟨w.heap.size, 1, none⟩ = some (.slice a1 n1 c1) := by rw [hn0]; exact old_cell _ (old_cell _ (old_cell _ (new_cell2 _ _ _ _ _ _ (by simp) rfl)))
  have p2 : Wn.cell? ⟨w.heap.size, 2, none⟩ = some (.int .i64 x1) := by rw [hn0]; exact old_cell _ (old_cell _ (old_cell _ (new_cell2 _ _ _ _ _ _ (by simp) rfl)))
  have p3 : Wn.cell? ⟨w.heap.size, 3, none⟩ = some (.bool s2) := by rw [hn0]; exact old_cell _ (old_cell _ (old_cell _ (new_cell2 _ _ _ _ _ _ (by simp) rfl)))
  have p4 : Wn.cell? ⟨w.heap.size, 4, none⟩ = some (.slice a2 n2 c2) := by rw [hn0]; exact old_cell _ (old_cell _ (old_cell _ (new_cell2 _ _ _ _ _ _ (by simp) rfl)))
  have p5 : Wn.cell? ⟨w.heap.size, 5, none⟩ = some (.int .i64 x2) := by rw [hn0]; exact old_cell _ (old_cell _ (old_cell _ (new_cell2 _ _ _ _ _ _ (by simp) rfl)))
  have t0 : Wn.cell? ⟨w.heap.size + 1, 0, none⟩ = some (.bool s3) := by rw [hn0]; exact old_cell _ (old_cell _ (new_cell2 _ _ _ _ _ _ (by simp) rfl))
  have t1 : Wn.cell? ⟨w.heap.size + 1, 1, none⟩ = some (.slice a3 n3 c3) := by rw [hn0]; exact old_cell _ (old_cell _ (new_cell2 _ _ _ _ _ _ (by simp) rfl))
  have t2 : Wn.cell? ⟨w.heap.size + 1, 2, none⟩ = some (.int .i64 x3) := by rw [hn0]; exact old_cell _ (old_cell _ (new_cell2 _ _ _ _ _ _ (by simp) rfl))
  have t3 : Wn.cell? ⟨w.heap.size + 1, 3, none⟩ = some (.bool s4) := by rw [hn0]; exact old_cell _ (old_cell _ (new_cell2 _ _ _ _ _ _ (by simp) rfl))
  have t4 : Wn.cell? ⟨w.heap.size + 1, 4, none⟩ = some (.slice a4 n4 c4) := by rw [hn0]; exact old_cell _ (old_cell _ (new_cell2 _ _ _ _ _ _ (by simp) rfl))
  have t5 : Wn.cell? ⟨w.heap.size + 1, 5, none⟩ = some (.int .i64 x4) := by rw [hn0]; exact old_cell _ (old_cell _ (new_cell2 _ _ _ _ _ _ (by simp) rfl))
  have R0 : Wn.cell? ⟨w.heap.size + 2, 0, none⟩ = some (.bool false) := by rw [hn0]; exact old_cell _ (new_cell2 _ _ _ _ _ _ (by simp) rfl)
  have Ba : Wn.frozen? ⟨w.heap.size + 2, 0, none⟩ = false := by rw [hn0]; exact loose_old (by simp <;> omega) (new_loose2 _ _ _ _ _ (by simp))
  have R1 : Wn.cell? ⟨w.heap.size + 2, 1, none⟩ = some (.slice none 0 0) := by rw [hn0]; exact old_cell _ (new_cell2 _ _ _ _ _ _ (by simp) rfl)
  have Bb : Wn.frozen? ⟨w.heap.size + 2, 1, none⟩ = false := by rw [hn0]; exact loose_old (by simp <;> omega) (new_loose2 _ _ _ _ _ (by simp))
  have R2 : Wn.cell? ⟨w.heap.size + 2, 2, none⟩ = some (.int .i64 0) := by rw [hn0]; exact old_cell _ (new_cell2 _ _ _ _ _ _ (by simp) rfl)
  have Bc : Wn.frozen? ⟨w.heap.size + 2, 2, none⟩ = false := by rw [hn0]; exact loose_old (by simp <;> omega) (new_loose2 _ _ _ _ _ (by simp))
  have R3 : Wn.cell? ⟨w.heap.size + 2, 3, none⟩ = some (.bool false) := by rw [hn0]; exact old_cell _ (new_cell2 _ _ _ _ _ _ (by simp) rfl)
  have Bd : Wn.frozen? ⟨w.heap.size + 2, 3, none⟩ = false := by rw [hn0]; exact loose_old (by simp <;> omega) (new_loose2 _ _ _ _ _ (by simp))
  have R4 : Wn.cell? ⟨w.heap.size + 2, 4, none⟩ = some (.slice none 0 0) := by rw [hn0]; exact old_cell _ (new_cell2 _ _ _ _ _ _ (by simp) rfl)
  have Be : Wn.frozen? ⟨w.heap.size + 2, 4, none⟩ = false := by rw [hn0]; exact loose_old (by simp <;> omega) (new_loose2 _ _ _ _ _ (by simp))
  have R5 : Wn.cell? ⟨w.heap.size + 2, 5, none⟩ = some (.int .i64 0) := by rw [hn0]; exact old_cell _ (new_cell2 _ _ _ _ _ _ (by simp) rfl)
  have Bf : Wn.frozen? ⟨w.heap.size + 2, 5, none⟩ = false := by rw [hn0]; exact loose_old (by simp <;> omega) (new_loose2 _ _ _ _ _ (by simp))
  have X0 : Wn.cell? ⟨w.heap.size + 3, 0, none⟩ = some (.bool false) := by rw [hn0]; exact new_cell2 _ _ _ _ _ _ (by simp) rfl
  have Xf0 : Wn.frozen? ⟨w.heap.size + 3, 0, none⟩ = false := by rw [hn0]; exact new_loose2 _ _ _ _ _ (by simp)
  have X1 : Wn.cell? ⟨w.heap.size + 3, 1, none⟩ = some (.slice none 0 0) := by rw [hn0]; exact new_cell2 _ _ _ _ _ _ (by simp) rfl
  have Xf1 : Wn.frozen? ⟨w.heap.size + 3, 1, none⟩ = false := by rw [hn0]; exact new_loose2 _ _ _ _ _ (by simp)
  have X2 : Wn.cell? ⟨w.heap.size + 3, 2, none⟩ = some (.int .i64 0) := by rw [hn0]; exact new_cell2 _ _ _ _ _ _ (by simp) rfl
  have Xf2 : Wn.frozen? ⟨w.heap.size + 3, 2, none⟩ = false := by rw [hn0]; exact new_loose2 _ _ _ _ _ (by simp)
  have X3 : Wn.cell? ⟨w.heap.size + 3, 3, none⟩ = some (.bool false) := by rw [hn0]; exact new_cell2 _ _ _ _ _ _ (by simp) rfl
  have Xf3 : Wn.frozen? ⟨w.heap.size + 3, 3, none⟩ = false := by rw [hn0]; exact new_loose2 _ _ _ _ _ (by simp)
  have X4 : Wn.cell? ⟨w.heap.size + 3, 4, none⟩ = some (.slice none 0 0) := by rw [hn0]; exact new_cell2 _ _ _ _ _ _ (by simp) rfl
  have Xf4 : Wn.frozen? ⟨w.heap.size + 3, 4, none⟩ = false := by rw [hn0]; exact new_loose2 _ _ _ _ _ (by simp)
  have X5 : Wn.cell? ⟨w.heap.size + 3, 5, none⟩ = some (.int .i64 0) := by rw [hn0]; exact new_cell2 _ _ _ _ _ _ (by simp) rfl
  have Xf5 : Wn.frozen? ⟨w.heap.size + 3, 5, none⟩ = false := by rw [hn0]; exact new_loose2 _ _ _ _ _ (by simp)
  have s0 : Wn.heap.size = w.heap.size + 4 := by rw [hn0]; exact by simp
  subst hn0
  have K := hide (k0)
  clear k0
  have S0 := hide s0
  clear s0
  go_enter Tryd.func17, Tryd.ntmps17
  generalize hW : ((((w.alloc (.cells #[.bool s1, .slice a1 n1 c1, .int .i64 x1, .bool s2, .slice a2 n2 c2, .int .i64 x2] 38)).alloc (.cells #[.bool s3, .slice a3 n3 c3, .int .i64 x3, .bool s4, .slice a4 n4 c4, .int .i64 x4] 38)).alloc (.cells #[.bool false, .slice none 0 0, .int .i64 0, .bool false, .slice none 0 0, .int .i64 0] 51)).alloc (.cells #[.bool false, .slice none 0 0, .int .i64 0, .bool false, .slice none 0 0, .int .i64 0] 51)) = W at *
  go_wp2_with fail
  have FL := PL.new W 51 s1 s2 s3 s4 a1 a2 a3 a4 n1 n2 n3 n4 c1 c2 c3 c4 x1 x2 x3 x4
  have kn := (Kept.refl 0 0 W).alloc (.cells #[.bool s1, .slice a1 n1 c1, .int .i64 x1, .bool s3, .slice a3 n3 c3, .int .i64 x3, .bool s1, .slice a1 n1 c1, .int .i64 x1, .bool s4, .slice a4 n4 c4, .int .i64 x4, .bool s2, .slice a2 n2 c2, .int .i64 x2, .bool s3, .slice a3 n3 c3, .int .i64 x3, .bool s2, .slice a2 n2 c2, .int .i64 x2, .bool s4, .slice a4 n4 c4, .int .i64 x4] 51)
  have s1' : W.heap.size + 1 ≤ (W.alloc (.cells #[.bool s1, .slice a1 n1 c1, .int .i64 x1, .bool s3, .slice a3 n3 c3, .int .i64 x3, .bool s1, .slice a1 n1 c1, .int .i64 x1, .bool s4, .slice a4 n4 c4, .int .i64 x4, .bool s2, .slice a2 n2 c2, .int .i64 x2, .bool s3, .slice a3 n3 c3, .int .i64 x3, .bool s2, .slice a2 n2 c2, .int .i64 x2, .bool s4, .slice a4 n4 c4, .int .i64 x4] 51)).heap.size := by simp
  replace Ba := kn.loose0 (zbl R0) Ba
  replace Bb := kn.loose0 (zbl R1) Bb
  replace Bc := kn.loose0 (zbl R2) Bc
  replace Bd := kn.loose0 (zbl R3) Bd
  replace Be := kn.loose0 (zbl R4) Be
  replace Bf := kn.loose0 (zbl R5) Bf
  replace Xf0 := kn.loose0 (zbl X0) Xf0
  replace Xf1 := kn.loose0 (zbl X1) Xf1
  replace Xf2 := kn.loose0 (zbl X2) Xf2
  replace Xf3 := kn.loose0 (zbl X3) Xf3
  replace Xf4 := kn.loose0 (zbl X4) Xf4
  replace Xf5 := kn.loose0 (zbl X5) Xf5
  revert p0 p1 p2 p3 p4 p5 t0 t1 t2 t3 t4 t5; refine kn.m12 ?_; intro p0 p1 p2 p3 p4 p5 t0 t1 t2 t3 t4 t5
  revert R0 R1 R2 R3 R4 R5 X0 X1 X2 X3 X4 X5; refine kn.m12 ?_; intro R0 R1 R2 R3 R4 R5 X0 X1 X2 X3 X4 X5
  replace K := hide ((unhide K).trans kn)
  have z1 := kn.size
  clear kn hW
  generalize hg : W.heap.size = g at *
  generalize W.alloc (.cells #[.bool s1, .slice a1 n1 c1, .int .i64 x1, .bool s3, .slice a3 n3 c3, .int .i64 x3, .bool s1, .slice a1 n1 c1, .int .i64 x1, .bool s4, .slice a4 n4 c4, .int .i64 x4, .bool s2, .slice a2 n2 c2, .int .i64 x2, .bool s3, .slice a3 n3 c3, .int .i64 x3, .bool s2, .slice a2 n2 c2, .int .i64 x2, .bool s4, .slice a4 n4 c4, .int .i64 x4] 51) = W2 at *
  have mk := minQ_impl (cc := 4) f hcf W2 FL (fun i j w1 k1 => unhide H1 i j w1 ((unhide K).trans k1))
  rw [unhide HI0] at mk
  refine (mk).mono ?_
  rintro e w2 ⟨rfl, k2⟩
  replace FL := FL.kept k2
  replace Ba := k2.loose0 (zbl R0) Ba
  replace Bb := k2.loose0 (zbl R1) Bb
  replace Bc := k2.loose0 (zbl R2) Bc
  replace Bd := k2.loose0 (zbl R3) Bd
  replace Be := k2.loose0 (zbl R4) Be
  replace Bf := k2.loose0 (zbl R5) Bf
  replace Xf0 := k2.loose0 (zbl X0) Xf0
  replace Xf1 := k2.loose0 (zbl X1) Xf1
  replace Xf2 := k2.loose0 (zbl X2) Xf2
  replace Xf3 := k2.loose0 (zbl X3) Xf3
  replace Xf4 := k2.loose0 (zbl X4) Xf4
  replace Xf5 := k2.loose0 (zbl X5) Xf5
  revert p0 p1 p2 p3 p4 p5 t0 t1 t2 t3 t4 t5; refine k2.m12 ?_; intro p0 p1 p2 p3 p4 p5 t0 t1 t2 t3 t4 t5
  revert R0 R1 R2 R3 R4 R5 X0 X1 X2 X3 X4 X5; refine k2.m12 ?_; intro R0 R1 R2 R3 R4 R5 X0 X1 X2 X3 X4 X5
  replace K := hide ((unhide K).trans k2)
  have z3 := k2.size
  clear k2
  clear mk
  go_wp2_with fail
  have mk := maxQ_impl (cc := 4) f hcf w2 FL (fun i j w1 k1 => unhide H1 i j w1 ((unhide K).trans k1))
  rw [unhide HI1] at mk
  refine (mk).mono ?_
  rintro e w4 ⟨rfl, k4⟩
  replace FL := FL.kept k4
  replace Ba := k4.loose0 (zbl R0) Ba
  replace Bb := k4.loose0 (zbl R1) Bb
  replace Bc := k4.loose0 (zbl R2) Bc
  replace Bd := k4.loose0 (zbl R3) Bd
  replace Be := k4.loose0 (zbl R4) Be
  replace Bf := k4.loose0 (zbl R5) Bf
  replace Xf0 := k4.loose0 (zbl X0) Xf0
  replace Xf1 := k4.loose0 (zbl X1) Xf1
  replace Xf2 := k4.loose0 (zbl X2) Xf2
  replace Xf3 := k4.loose0 (zbl X3) Xf3
  replace Xf4 := k4.loose0 (zbl X4) Xf4
  replace Xf5 := k4.loose0 (zbl X5) Xf5
  revert p0 p1 p2 p3 p4 p5 t0 t1 t2 t3 t4 t5; refine k4.m12 ?_; intro p0 p1 p2 p3 p4 p5 t0 t1 t2 t3 t4 t5
  revert R0 R1 R2 R3 R4 R5 X0 X1 X2 X3 X4 X5; refine k4.m12 ?_; intro R0 R1 R2 R3 R4 R5 X0 X1 X2 X3 X4 X5
  replace K := hide ((unhide K).trans k4)
  have z5 := k4.size
  clear k4
  clear mk FL
  have K7 := hide (((((((((((((unhide K).setNew (p := ⟨w.heap.size + 2, 0, none⟩) (by simp) (.bool ((f4 s1 s1 s2 s2) i0))).setNew (p := ⟨w.heap.size + 2, 1, none⟩) (by simp) (.slice ((f4 a1 a1 a2 a2) i0) ((f4 n1 n1 n2 n2) i0) ((f4 c1 c1 c2 c2) i0))).setNew (p := ⟨w.heap.size + 2, 2, none⟩) (by simp) (.int .i64 ((f4 x1 x1 x2 x2) i0))).setNew (p := ⟨w.heap.size + 2, 3, none⟩) (by simp) (.bool ((f4 s3 s4 s3 s4) i0))).setNew (p := ⟨w.heap.size + 2, 4, none⟩) (by simp) (.slice ((f4 a3 a4 a3 a4) i0) ((f4 n3 n4 n3 n4) i0) ((f4 c3 c4 c3 c4) i0))).setNew (p := ⟨w.heap.size + 2, 5, none⟩) (by simp) (.int .i64 ((f4 x3 x4 x3 x4) i0))).setNew (p := ⟨w.heap.size + 3, 0, none⟩) (by simp) (.bool ((f4 s1 s1 s2 s2) i1))).setNew (p := ⟨w.heap.size + 3, 1, none⟩) (by simp) (.slice ((f4 a1 a1 a2 a2) i1) ((f4 n1 n1 n2 n2) i1) ((f4 c1 c1 c2 c2) i1))).setNew (p := ⟨w.heap.size + 3, 2, none⟩) (by simp) (.int .i64 ((f4 x1 x1 x2 x2) i1))).setNew (p := ⟨w.heap.size + 3, 3, none⟩) (by simp) (.bool ((f4 s3 s4 s3 s4) i1))).setNew (p := ⟨w.heap.size + 3, 4, none⟩) (by simp) (.slice ((f4 a3 a4 a3 a4) i1) ((f4 n3 n4 n3 n4) i1) ((f4 c3 c4 c3 c4) i1))).setNew (p := ⟨w.heap.size + 3, 5, none⟩) (by simp) (.int .i64 ((f4 x3 x4 x3 x4) i1)))
  clear K
  go_wp2_with fail
  exact bodyPost_ret (v := .tuple #[.agg #[.bool ((f4 s1 s1 s2 s2) i0), .slice ((f4 a1 a1 a2 a2) i0) ((f4 n1 n1 n2 n2) i0) ((f4 c1 c1 c2 c2) i0), .int .i64 ((f4 x1 x1 x2 x2) i0), .bool ((f4 s3 s4 s3 s4) i0), .slice ((f4 a3 a4 a3 a4) i0) ((f4 n3 n4 n3 n4) i0) ((f4 c3 c4 c3 c4) i0), .int .i64 ((f4 x3 x4 x3 x4) i0)], .agg #[.bool ((f4 s1 s1 s2 s2) i1), .slice ((f4 a1 a1 a2 a2) i1) ((f4 n1 n1 n2 n2) i1) ((f4 c1 c1 c2 c2) i1), .int .i64 ((f4 x1 x1 x2 x2) i1), .bool ((f4 s3 s4 s3 s4) i1), .slice ((f4 a3 a4 a3 a4) i1) ((f4 n3 n4 n3 n4) i1) ((f4 c3 c4 c3 c4) i1), .int .i64 ((f4 x3 x4 x3 x4) i1)]]) (by simp [results, Tryd.results17, go_sem, R0, R1, R2, R3, R4, R5, X0, X1, X2, X3, X4, X5]) rfl ⟨rfl, unhide K7⟩

end Go.Proofs.YtpognolidbgkkaaDoor

