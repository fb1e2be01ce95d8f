/-
  Intervals of the program: IvMul.
-/
import Derived.Test.YtpognolidbgkkaaDoorIv1D
import Derived.Test.YtpognolidbgkkaaDoorIv2P
import Derived.Test.YtpognolidbgkkaaDoorIdmulm
import Derived.Test.YtpognolidbgkkaaDoorPq2
import Derived.Test.YtpognolidbgkkaaDoorPq4
import Derived.Deep.DeepCutAuto
import Derived.Deep.RegionHeld3
namespace Go.Proofs.YtpognolidbgkkaaDoor
open Go.RowKit
set_option linter.unusedVariables false
set_option maxRecDepth 8000
set_option linter.unusedSimpArgs false

theorem row_f4 {b1 b2 b3 b4 : Bool} {p1 p2 p3 p4 q1 q2 q3 q4 : Nat} {w : World} {a1 a2 a3 a4 : Option Addr} {c1 c2 c3 c4 : Nat} {l1 l2 l3 l4 : List Int} (r1 : Row .i64 b1 p1 q1 w (.slice a1 l1.length c1) l1) (r2 : Row .i64 b2 p2 q2 w (.slice a2 l2.length c2) l2) (r3 : Row .i64 b3 p3 q3 w (.slice a3 l3.length c3) l3) (r4 : Row .i64 b4 p4 q4 w (.slice a4 l4.length c4) l4) (i : Nat) :
    Row .i64 (f4 b1 b2 b3 b4 i) (f4 p1 p2 p3 p4 i) (f4 q1 q2 q3 q4 i) w (.slice (f4 a1 a2 a3 a4 i) (f4 l1.length l2.length l3.length l4.length i) (f4 c1 c2 c3 c4 i)) (f4 l1 l2 l3 l4 i) :=
  match i with
  | 0 => r1
  | 1 => r2
  | 2 => r3
  | _ + 3 => r4
theorem dok_f4 {s1 s2 s3 s4 : Bool} {l1 l2 l3 l4 : List Int} {x1 x2 x3 x4 : Int} (h1 : dokB s1 l1 x1 = true) (h2 : dokB s2 l2 x2 = true) (h3 : dokB s3 l3 x3 = true) (h4 : dokB s4 l4 x4 = true) (i : Nat) : dokB (f4 s1 s2 s3 s4 i) (f4 l1 l2 l3 l4 i) (f4 x1 x2 x3 x4 i) = true :=
  match i with
  | 0 => h1
  | 1 => h2
  | 2 => h3
  | _ + 3 => h4
theorem le_f4 {a : Int} {x1 x2 x3 x4 : Int} (h1 : x1 ≤ a) (h2 : x2 ≤ a) (h3 : x3 ≤ a) (h4 : x4 ≤ a) (i : Nat) : f4 x1 x2 x3 x4 i ≤ a :=
  match i with
  | 0 => h1
  | 1 => h2
  | 2 => h3
  | _ + 3 => h4
theorem ge_f4 {a : Int} {x1 x2 x3 x4 : Int} (h1 : a ≤ x1) (h2 : a ≤ x2) (h3 : a ≤ x3) (h4 : a ≤ x4) (i : Nat) : a ≤ f4 x1 x2 x3 x4 i :=
  match i with
  | 0 => h1
  | 1 => h2
  | 2 => h3
  | _ + 3 => h4

theorem in_cmpProducts_q : ∀ (w : World) (args : Array Value), (callFunc 18 args).run Tryd.prog w = .ok (.enter 18 args) w := enters Tryd.func18 (by decide) (fun h => by cases h)

theorem in_ivmul1 : ∀ (w : World) (args : Array Value), (callFunc 20 args).run Tryd.prog w = .ok (.enter 20 args) w := enters Tryd.func20 (by decide) (fun h => by cases h)

set_option maxHeartbeats 2000000 in
theorem ivmul1_impl {b1 b2 : Bool} {w1l w1h w2l w2h : Nat} {v1 v2 : Value} {l1 l2 : List Int} (s1 : Bool) (e1 : Int) (hu1 : e1 ≤ 9223372036854775807) (hd1 : -9223372036854775808 ≤ e1) (s2 : Bool) (e2 : Int) (hu2 : e2 ≤ 9223372036854775807) (hd2 : -9223372036854775808 ≤ e2) (w : World) (r1 : Row .i64 b1 w1l w1h w v1 l1) (r2 : Row .i64 b2 w2l w2h w v2 l2) (T : TabB w) (mode : Int) :
    Calls Tryd.prog 20 #[.agg #[.bool s1, v1, .int .i64 e1, .bool s2, v2, .int .i64 e2], .int .i64 mode] w fun e w' => ∃ v', e = .returned (.tuple #[.agg #[.bool (ansDS (dokB s1 l1 e1 && dokB s2 l2 e2) (wval s1 l1 * wval s2 l2) (e1 + e2)), v', .int .i64 (ansDE (dokB s1 l1 e1 && dokB s2 l2 e2) (wval s1 l1 * wval s2 l2) (e1 + e2))], .bool (ansDB (dokB s1 l1 e1 && dokB s2 l2 e2) (wval s1 l1 * wval s2 l2) (e1 + e2))]) ∧ Row .i64 true w.heap.size w'.heap.size w' v' (ansDL (dokB s1 l1 e1 && dokB s2 l2 e2) (wval s1 l1 * wval s2 l2) (e1 + e2)) ∧ Kept 0 0 w w' := by
  obtain ⟨GS, hGS⟩ : ∃ y, ansDS (dokB s1 l1 e1 && dokB s2 l2 e2) (wval s1 l1 * wval s2 l2) (e1 + e2) = y := ⟨_, rfl⟩
  obtain ⟨GL, hGL⟩ : ∃ y, ansDL (dokB s1 l1 e1 && dokB s2 l2 e2) (wval s1 l1 * wval s2 l2) (e1 + e2) = y := ⟨_, rfl⟩
  obtain ⟨GE, hGE⟩ : ∃ y, ansDE (dokB s1 l1 e1 && dokB s2 l2 e2) (wval s1 l1 * wval s2 l2) (e1 + e2) = y := ⟨_, rfl⟩
  obtain ⟨GB, hGB⟩ : ∃ y, ansDB (dokB s1 l1 e1 && dokB s2 l2 e2) (wval s1 l1 * wval s2 l2) (e1 + e2) = y := ⟨_, rfl⟩
  try rw [hGS]
  try rw [hGL]
  try rw [hGE]
  try rw [hGB]
  have HGS := hide hGS
  have HGL := hide hGL
  have HGE := hide hGE
  have HGB := hide hGB
  clear hGS hGL hGE hGB
  obtain ⟨Wn, hn0⟩ : ∃ wz, wz = ((w.alloc (.cells #[.bool s1, v1, .int .i64 e1, .bool s2, v2, .int .i64 e2] 51)).alloc (.cells #[.bool false, .slice none 0 0, .int .i64 0] 36)) := ⟨_, rfl⟩
  have k0 : Kept 0 0 w Wn := by rw [hn0]; exact (((Kept.refl 0 0 w).alloc _).alloc _)
  have bp0 : Wn.cell? ⟨w.heap.size, 0, none⟩ = some (.bool s1) := by rw [hn0]; exact old_cell _ (new_cell2 _ _ _ _ _ _ (by simp) rfl)
  have bp1 : Wn.cell? ⟨w.heap.size, 1, none⟩ = some (v1) := by rw [hn0]; exact old_cell _ (new_cell2 _ _ _ _ _ _ (by simp) rfl)
  have bp2 : Wn.cell? ⟨w.heap.size, 2, none⟩ = some (.int .i64 e1) := by rw [hn0]; exact old_cell _ (new_cell2 _ _ _ _ _ _ (by simp) rfl)
  have bp3 : Wn.cell? ⟨w.heap.size, 3, none⟩ = some (.bool s2) := by rw [hn0]; exact old_cell _ (new_cell2 _ _ _ _ _ _ (by simp) rfl)
  have bp4 : Wn.cell? ⟨w.heap.size, 4, none⟩ = some (v2) := by rw [hn0]; exact old_cell _ (new_cell2 _ _ _ _ _ _ (by simp) rfl)
  have bp5 : Wn.cell? ⟨w.heap.size, 5, none⟩ = some (.int .i64 e2) := by rw [hn0]; exact old_cell _ (new_cell2 _ _ _ _ _ _ (by simp) rfl)
  have q0 : Wn.cell? ⟨w.heap.size + 1, 0, none⟩ = some (.bool false) := by rw [hn0]; exact new_cell2 _ _ _ _ _ _ (by simp) rfl
  have qf0 : Wn.frozen? ⟨w.heap.size + 1, 0, none⟩ = false := by rw [hn0]; exact new_loose2 _ _ _ _ _ (by simp)
  have q1 : Wn.cell? ⟨w.heap.size + 1, 1, none⟩ = some (.slice none 0 0) := by rw [hn0]; exact new_cell2 _ _ _ _ _ _ (by simp) rfl
  have qf1 : Wn.frozen? ⟨w.heap.size + 1, 1, none⟩ = false := by rw [hn0]; exact new_loose2 _ _ _ _ _ (by simp)
  have q2 : Wn.cell? ⟨w.heap.size + 1, 2, none⟩ = some (.int .i64 0) := by rw [hn0]; exact new_cell2 _ _ _ _ _ _ (by simp) rfl
  have qf2 : Wn.frozen? ⟨w.heap.size + 1, 2, none⟩ = false := by rw [hn0]; exact new_loose2 _ _ _ _ _ (by simp)
  subst hn0
  replace r1 := r1.kept k0 (by omega)
  replace r2 := r2.kept k0 (by omega)
  have s0 : ((w.alloc (.cells #[.bool s1, v1, .int .i64 e1, .bool s2, v2, .int .i64 e2] 51)).alloc (.cells #[.bool false, .slice none 0 0, .int .i64 0] 36)).heap.size = w.heap.size + 2 := by simp
  obtain ⟨a1, c1, hv⟩ := r1.form'
  subst hv
  obtain ⟨a2, c2, hv⟩ := r2.form'
  subst hv
  have K := hide (k0)
  clear k0
  have S0 := hide s0
  clear s0
  go_enter Tryd.func20, Tryd.ntmps20
  go_wp2_with fail
  generalize ((w.alloc (.cells #[.bool s1, .slice a1 l1.length c1, .int .i64 e1, .bool s2, .slice a2 l2.length c2, .int .i64 e2] 51)).alloc (.cells #[.bool false, .slice none 0 0, .int .i64 0] 36)) = W at *
  have mk := dmul_impl s1 s2 e1 e2 hu1 hd1 hu2 hd2 W r1 r2 (T.kept (unhide K))
  rw [unhide HGS, unhide HGL, unhide HGE, unhide HGB] at mk
  refine (mk).mono ?_
  rintro e w1 ⟨v7, rfl, r7, k1⟩
  revert r1 r2; refine k1.n2 ?_; intro r1 r2
  replace qf0 := k1.loose0 (zbl q0) qf0
  replace qf1 := k1.loose0 (zbl q1) qf1
  replace qf2 := k1.loose0 (zbl q2) qf2
  revert bp0 bp1 bp2 bp3 bp4 bp5 q0 q1 q2; refine k1.m9 ?_; intro bp0 bp1 bp2 bp3 bp4 bp5 q0 q1 q2
  replace K := hide ((unhide K).trans k1)
  have z2 := k1.size
  clear k1
  clear mk
  obtain ⟨a7, c7, hv⟩ := Row.form' r7
  subst hv
  have R := hide ((((r7.set_other (p := ⟨w.heap.size + 1, 0, none⟩) (.inl (by have := unhide S0; dsimp only; omega)) (.bool GS)).set_other (p := ⟨w.heap.size + 1, 1, none⟩) (.inl (by have := unhide S0; dsimp only; omega)) (.slice a7 GL.length c7)).set_other (p := ⟨w.heap.size + 1, 2, none⟩) (.inl (by have := unhide S0; dsimp only; omega)) (.int .i64 GE)).tight.wider (lo' := w.heap.size) (by have := unhide S0; omega) (Nat.le_refl _))
  have K7 := hide ((((unhide K).setNew (p := ⟨w.heap.size + 1, 0, none⟩) (by simp) (.bool GS)).setNew (p := ⟨w.heap.size + 1, 1, none⟩) (by simp) (.slice a7 GL.length c7)).setNew (p := ⟨w.heap.size + 1, 2, none⟩) (by simp) (.int .i64 GE))
  clear r1 r2 r7 K 
  go_wp2_with fail
  exact bodyPost_ret (v := .tuple #[.agg #[.bool GS, .slice a7 GL.length c7, .int .i64 GE], .bool GB]) (by simp [results, Tryd.results20, go_sem, q0, q1, q2]) rfl ⟨_, rfl, unhide R, unhide K7⟩

set_option maxHeartbeats 8000000 in
theorem ivmul_impl {b1 b2 b3 b4 : Bool} {w1l w1h w2l w2h w3l w3h w4l w4h : Nat} {v1 v2 v3 v4 : Value} {l1 l2 l3 l4 : List Int} (s1 : Bool) (e1 : Int) (hu1 : e1 ≤ 9223372036854775807) (hd1 : -9223372036854775808 ≤ e1) (s2 : Bool) (e2 : Int) (hu2 : e2 ≤ 9223372036854775807) (hd2 : -9223372036854775808 ≤ e2) (s3 : Bool) (e3 : Int) (hu3 : e3 ≤ 9223372036854775807) (hd3 : -9223372036854775808 ≤ e3) (s4 : Bool) (e4 : Int) (hu4 : e4 ≤ 9223372036854775807) (hd4 : -9223372036854775808 ≤ e4) (w : World) (r1 : Row .i64 b1 w1l w1h w v1 l1) (r2 : Row .i64 b2 w2l w2h w v2 l2) (r3 : Row .i64 b3 w3l w3h w v3 l3) (r4 : Row .i64 b4 w4l w4h w v4 l4) (T : TabB w) :
    Calls Tryd.prog 7 #[.agg #[.bool s1, v1, .int .i64 e1, .bool s2, v2, .int .i64 e2], .agg #[.bool s3, v3, .int .i64 e3, .bool s4, v4, .int .i64 e4]] w fun e w' => IvAns (ivC (iokB s1 l1 e1 s2 l2 e2 && iokB s3 l3 e3 s4 l4 e4) (wval ((f4 s1 s1 s2 s2) (selP (fun i j => decide ((fun i j => cmpDI (wval ((f4 s1 s1 s2 s2) i) ((f4 l1 l1 l2 l2) i) * wval ((f4 s3 s4 s3 s4) i) ((f4 l3 l4 l3 l4) i)) ((f4 e1 e1 e2 e2) i + (f4 e3 e4 e3 e4) i) (wval ((f4 s1 s1 s2 s2) j) ((f4 l1 l1 l2 l2) j) * wval ((f4 s3 s4 s3 s4) j) ((f4 l3 l4 l3 l4) j)) ((f4 e1 e1 e2 e2) j + (f4 e3 e4 e3 e4) j)) i j < 0)) 4)) ((f4 l1 l1 l2 l2) (selP (fun i j => decide ((fun i j => cmpDI (wval ((f4 s1 s1 s2 s2) i) ((f4 l1 l1 l2 l2) i) * wval ((f4 s3 s4 s3 s4) i) ((f4 l3 l4 l3 l4) i)) ((f4 e1 e1 e2 e2) i + (f4 e3 e4 e3 e4) i) (wval ((f4 s1 s1 s2 s2) j) ((f4 l1 l1 l2 l2) j) * wval ((f4 s3 s4 s3 s4) j) ((f4 l3 l4 l3 l4) j)) ((f4 e1 e1 e2 e2) j + (f4 e3 e4 e3 e4) j)) i j < 0)) 4)) * wval ((f4 s3 s4 s3 s4) (selP (fun i j => decide ((fun i j => cmpDI (wval ((f4 s1 s1 s2 s2) i) ((f4 l1 l1 l2 l2) i) * wval ((f4 s3 s4 s3 s4) i) ((f4 l3 l4 l3 l4) i)) ((f4 e1 e1 e2 e2) i + (f4 e3 e4 e3 e4) i) (wval ((f4 s1 s1 s2 s2) j) ((f4 l1 l1 l2 l2) j) * wval ((f4 s3 s4 s3 s4) j) ((f4 l3 l4 l3 l4) j)) ((f4 e1 e1 e2 e2) j + (f4 e3 e4 e3 e4) j)) i j < 0)) 4)) ((f4 l3 l4 l3 l4) (selP (fun i j => decide ((fun i j => cmpDI (wval ((f4 s1 s1 s2 s2) i) ((f4 l1 l1 l2 l2) i) * wval ((f4 s3 s4 s3 s4) i) ((f4 l3 l4 l3 l4) i)) ((f4 e1 e1 e2 e2) i + (f4 e3 e4 e3 e4) i) (wval ((f4 s1 s1 s2 s2) j) ((f4 l1 l1 l2 l2) j) * wval ((f4 s3 s4 s3 s4) j) ((f4 l3 l4 l3 l4) j)) ((f4 e1 e1 e2 e2) j + (f4 e3 e4 e3 e4) j)) i j < 0)) 4))) ((f4 e1 e1 e2 e2) (selP (fun i j => decide ((fun i j => cmpDI (wval ((f4 s1 s1 s2 s2) i) ((f4 l1 l1 l2 l2) i) * wval ((f4 s3 s4 s3 s4) i) ((f4 l3 l4 l3 l4) i)) ((f4 e1 e1 e2 e2) i + (f4 e3 e4 e3 e4) i) (wval ((f4 s1 s1 s2 s2) j) ((f4 l1 l1 l2 l2) j) * wval ((f4 s3 s4 s3 s4) j) ((f4 l3 l4 l3 l4) j)) ((f4 e1 e1 e2 e2) j + (f4 e3 e4 e3 e4) j)) i j < 0)) 4) + (f4 e3 e4 e3 e4) (selP (fun i j => decide ((fun i j => cmpDI (wval ((f4 s1 s1 s2 s2) i) ((f4 l1 l1 l2 l2) i) * wval ((f4 s3 s4 s3 s4) i) ((f4 l3 l4 l3 l4) i)) ((f4 e1 e1 e2 e2) i + (f4 e3 e4 e3 e4) i) (wval ((f4 s1 s1 s2 s2) j) ((f4 l1 l1 l2 l2) j) * wval ((f4 s3 s4 s3 s4) j) ((f4 l3 l4 l3 l4) j)) ((f4 e1 e1 e2 e2) j + (f4 e3 e4 e3 e4) j)) i j < 0)) 4)) (wval ((f4 s1 s1 s2 s2) (selP (fun i j => decide (0 < (fun i j => cmpDI (wval ((f4 s1 s1 s2 s2) i) ((f4 l1 l1 l2 l2) i) * wval ((f4 s3 s4 s3 s4) i) ((f4 l3 l4 l3 l4) i)) ((f4 e1 e1 e2 e2) i + (f4 e3 e4 e3 e4) i) (wval ((f4 s1 s1 s2 s2) j) ((f4 l1 l1 l2 l2) j) * wval ((f4 s3 s4 s3 s4) j) ((f4 l3 l4 l3 l4) j)) ((f4 e1 e1 e2 e2) j + (f4 e3 e4 e3 e4) j)) i j)) 4)) ((f4 l1 l1 l2 l2) (selP (fun i j => decide (0 < (fun i j => cmpDI (wval ((f4 s1 s1 s2 s2) i) ((f4 l1 l1 l2 l2) i) * wval ((f4 s3 s4 s3 s4) i) ((f4 l3 l4 l3 l4) i)) ((f4 e1 e1 e2 e2) i + (f4 e3 e4 e3 e4) i) (wval ((f4 s1 s1 s2 s2) j) ((f4 l1 l1 l2 l2) j) * wval ((f4 s3 s4 s3 s4) j) ((f4 l3 l4 l3 l4) j)) ((f4 e1 e1 e2 e2) j + (f4 e3 e4 e3 e4) j)) i j)) 4)) * wval ((f4 s3 s4 s3 s4) (selP (fun i j => decide (0 < (fun i j => cmpDI (wval ((f4 s1 s1 s2 s2) i) ((f4 l1 l1 l2 l2) i) * wval ((f4 s3 s4 s3 s4) i) ((f4 l3 l4 l3 l4) i)) ((f4 e1 e1 e2 e2) i + (f4 e3 e4 e3 e4) i) (wval ((f4 s1 s1 s2 s2) j) ((f4 l1 l1 l2 l2) j) * wval ((f4 s3 s4 s3 s4) j) ((f4 l3 l4 l3 l4) j)) ((f4 e1 e1 e2 e2) j + (f4 e3 e4 e3 e4) j)) i j)) 4)) ((f4 l3 l4 l3 l4) (selP (fun i j => decide (0 < (fun i j => cmpDI (wval ((f4 s1 s1 s2 s2) i) ((f4 l1 l1 l2 l2) i) * wval ((f4 s3 s4 s3 s4) i) ((f4 l3 l4 l3 l4) i)) ((f4 e1 e1 e2 e2) i + (f4 e3 e4 e3 e4) i) (wval ((f4 s1 s1 s2 s2) j) ((f4 l1 l1 l2 l2) j) * wval ((f4 s3 s4 s3 s4) j) ((f4 l3 l4 l3 l4) j)) ((f4 e1 e1 e2 e2) j + (f4 e3 e4 e3 e4) j)) i j)) 4))) ((f4 e1 e1 e2 e2) (selP (fun i j => decide (0 < (fun i j => cmpDI (wval ((f4 s1 s1 s2 s2) i) ((f4 l1 l1 l2 l2) i) * wval ((f4 s3 s4 s3 s4) i) ((f4 l3 l4 l3 l4) i)) ((f4 e1 e1 e2 e2) i + (f4 e3 e4 e3 e4) i) (wval ((f4 s1 s1 s2 s2) j) ((f4 l1 l1 l2 l2) j) * wval ((f4 s3 s4 s3 s4) j) ((f4 l3 l4 l3 l4) j)) ((f4 e1 e1 e2 e2) j + (f4 e3 e4 e3 e4) j)) i j)) 4) + (f4 e3 e4 e3 e4) (selP (fun i j => decide (0 < (fun i j => cmpDI (wval ((f4 s1 s1 s2 s2) i) ((f4 l1 l1 l2 l2) i) * wval ((f4 s3 s4 s3 s4) i) ((f4 l3 l4 l3 l4) i)) ((f4 e1 e1 e2 e2) i + (f4 e3 e4 e3 e4) i) (wval ((f4 s1 s1 s2 s2) j) ((f4 l1 l1 l2 l2) j) * wval ((f4 s3 s4 s3 s4) j) ((f4 l3 l4 l3 l4) j)) ((f4 e1 e1 e2 e2) j + (f4 e3 e4 e3 e4) j)) i j)) 4))) (wsg (wval ((f4 s1 s1 s2 s2) (selP (fun i j => decide ((fun i j => cmpDI (wval ((f4 s1 s1 s2 s2) i) ((f4 l1 l1 l2 l2) i) * wval ((f4 s3 s4 s3 s4) i) ((f4 l3 l4 l3 l4) i)) ((f4 e1 e1 e2 e2) i + (f4 e3 e4 e3 e4) i) (wval ((f4 s1 s1 s2 s2) j) ((f4 l1 l1 l2 l2) j) * wval ((f4 s3 s4 s3 s4) j) ((f4 l3 l4 l3 l4) j)) ((f4 e1 e1 e2 e2) j + (f4 e3 e4 e3 e4) j)) i j < 0)) 4)) ((f4 l1 l1 l2 l2) (selP (fun i j => decide ((fun i j => cmpDI (wval ((f4 s1 s1 s2 s2) i) ((f4 l1 l1 l2 l2) i) * wval ((f4 s3 s4 s3 s4) i) ((f4 l3 l4 l3 l4) i)) ((f4 e1 e1 e2 e2) i + (f4 e3 e4 e3 e4) i) (wval ((f4 s1 s1 s2 s2) j) ((f4 l1 l1 l2 l2) j) * wval ((f4 s3 s4 s3 s4) j) ((f4 l3 l4 l3 l4) j)) ((f4 e1 e1 e2 e2) j + (f4 e3 e4 e3 e4) j)) i j < 0)) 4)) * wval ((f4 s3 s4 s3 s4) (selP (fun i j => decide ((fun i j => cmpDI (wval ((f4 s1 s1 s2 s2) i) ((f4 l1 l1 l2 l2) i) * wval ((f4 s3 s4 s3 s4) i) ((f4 l3 l4 l3 l4) i)) ((f4 e1 e1 e2 e2) i + (f4 e3 e4 e3 e4) i) (wval ((f4 s1 s1 s2 s2) j) ((f4 l1 l1 l2 l2) j) * wval ((f4 s3 s4 s3 s4) j) ((f4 l3 l4 l3 l4) j)) ((f4 e1 e1 e2 e2) j + (f4 e3 e4 e3 e4) j)) i j < 0)) 4)) ((f4 l3 l4 l3 l4) (selP (fun i j => decide ((fun i j => cmpDI (wval ((f4 s1 s1 s2 s2) i) ((f4 l1 l1 l2 l2) i) * wval ((f4 s3 s4 s3 s4) i) ((f4 l3 l4 l3 l4) i)) ((f4 e1 e1 e2 e2) i + (f4 e3 e4 e3 e4) i) (wval ((f4 s1 s1 s2 s2) j) ((f4 l1 l1 l2 l2) j) * wval ((f4 s3 s4 s3 s4) j) ((f4 l3 l4 l3 l4) j)) ((f4 e1 e1 e2 e2) j + (f4 e3 e4 e3 e4) j)) i j < 0)) 4)))) (dex (wval ((f4 s1 s1 s2 s2) (selP (fun i j => decide ((fun i j => cmpDI (wval ((f4 s1 s1 s2 s2) i) ((f4 l1 l1 l2 l2) i) * wval ((f4 s3 s4 s3 s4) i) ((f4 l3 l4 l3 l4) i)) ((f4 e1 e1 e2 e2) i + (f4 e3 e4 e3 e4) i) (wval ((f4 s1 s1 s2 s2) j) ((f4 l1 l1 l2 l2) j) * wval ((f4 s3 s4 s3 s4) j) ((f4 l3 l4 l3 l4) j)) ((f4 e1 e1 e2 e2) j + (f4 e3 e4 e3 e4) j)) i j < 0)) 4)) ((f4 l1 l1 l2 l2) (selP (fun i j => decide ((fun i j => cmpDI (wval ((f4 s1 s1 s2 s2) i) ((f4 l1 l1 l2 l2) i) * wval ((f4 s3 s4 s3 s4) i) ((f4 l3 l4 l3 l4) i)) ((f4 e1 e1 e2 e2) i + (f4 e3 e4 e3 e4) i) (wval ((f4 s1 s1 s2 s2) j) ((f4 l1 l1 l2 l2) j) * wval ((f4 s3 s4 s3 s4) j) ((f4 l3 l4 l3 l4) j)) ((f4 e1 e1 e2 e2) j + (f4 e3 e4 e3 e4) j)) i j < 0)) 4)) * wval ((f4 s3 s4 s3 s4) (selP (fun i j => decide ((fun i j => cmpDI (wval ((f4 s1 s1 s2 s2) i) ((f4 l1 l1 l2 l2) i) * wval ((f4 s3 s4 s3 s4) i) ((f4 l3 l4 l3 l4) i)) ((f4 e1 e1 e2 e2) i + (f4 e3 e4 e3 e4) i) (wval ((f4 s1 s1 s2 s2) j) ((f4 l1 l1 l2 l2) j) * wval ((f4 s3 s4 s3 s4) j) ((f4 l3 l4 l3 l4) j)) ((f4 e1 e1 e2 e2) j + (f4 e3 e4 e3 e4) j)) i j < 0)) 4)) ((f4 l3 l4 l3 l4) (selP (fun i j => decide ((fun i j => cmpDI (wval ((f4 s1 s1 s2 s2) i) ((f4 l1 l1 l2 l2) i) * wval ((f4 s3 s4 s3 s4) i) ((f4 l3 l4 l3 l4) i)) ((f4 e1 e1 e2 e2) i + (f4 e3 e4 e3 e4) i) (wval ((f4 s1 s1 s2 s2) j) ((f4 l1 l1 l2 l2) j) * wval ((f4 s3 s4 s3 s4) j) ((f4 l3 l4 l3 l4) j)) ((f4 e1 e1 e2 e2) j + (f4 e3 e4 e3 e4) j)) i j < 0)) 4))) ((f4 e1 e1 e2 e2) (selP (fun i j => decide ((fun i j => cmpDI (wval ((f4 s1 s1 s2 s2) i) ((f4 l1 l1 l2 l2) i) * wval ((f4 s3 s4 s3 s4) i) ((f4 l3 l4 l3 l4) i)) ((f4 e1 e1 e2 e2) i + (f4 e3 e4 e3 e4) i) (wval ((f4 s1 s1 s2 s2) j) ((f4 l1 l1 l2 l2) j) * wval ((f4 s3 s4 s3 s4) j) ((f4 l3 l4 l3 l4) j)) ((f4 e1 e1 e2 e2) j + (f4 e3 e4 e3 e4) j)) i j < 0)) 4) + (f4 e3 e4 e3 e4) (selP (fun i j => decide ((fun i j => cmpDI (wval ((f4 s1 s1 s2 s2) i) ((f4 l1 l1 l2 l2) i) * wval ((f4 s3 s4 s3 s4) i) ((f4 l3 l4 l3 l4) i)) ((f4 e1 e1 e2 e2) i + (f4 e3 e4 e3 e4) i) (wval ((f4 s1 s1 s2 s2) j) ((f4 l1 l1 l2 l2) j) * wval ((f4 s3 s4 s3 s4) j) ((f4 l3 l4 l3 l4) j)) ((f4 e1 e1 e2 e2) j + (f4 e3 e4 e3 e4) j)) i j < 0)) 4))) (dlm (wval ((f4 s1 s1 s2 s2) (selP (fun i j => decide ((fun i j => cmpDI (wval ((f4 s1 s1 s2 s2) i) ((f4 l1 l1 l2 l2) i) * wval ((f4 s3 s4 s3 s4) i) ((f4 l3 l4 l3 l4) i)) ((f4 e1 e1 e2 e2) i + (f4 e3 e4 e3 e4) i) (wval ((f4 s1 s1 s2 s2) j) ((f4 l1 l1 l2 l2) j) * wval ((f4 s3 s4 s3 s4) j) ((f4 l3 l4 l3 l4) j)) ((f4 e1 e1 e2 e2) j + (f4 e3 e4 e3 e4) j)) i j < 0)) 4)) ((f4 l1 l1 l2 l2) (selP (fun i j => decide ((fun i j => cmpDI (wval ((f4 s1 s1 s2 s2) i) ((f4 l1 l1 l2 l2) i) * wval ((f4 s3 s4 s3 s4) i) ((f4 l3 l4 l3 l4) i)) ((f4 e1 e1 e2 e2) i + (f4 e3 e4 e3 e4) i) (wval ((f4 s1 s1 s2 s2) j) ((f4 l1 l1 l2 l2) j) * wval ((f4 s3 s4 s3 s4) j) ((f4 l3 l4 l3 l4) j)) ((f4 e1 e1 e2 e2) j + (f4 e3 e4 e3 e4) j)) i j < 0)) 4)) * wval ((f4 s3 s4 s3 s4) (selP (fun i j => decide ((fun i j => cmpDI (wval ((f4 s1 s1 s2 s2) i) ((f4 l1 l1 l2 l2) i) * wval ((f4 s3 s4 s3 s4) i) ((f4 l3 l4 l3 l4) i)) ((f4 e1 e1 e2 e2) i + (f4 e3 e4 e3 e4) i) (wval ((f4 s1 s1 s2 s2) j) ((f4 l1 l1 l2 l2) j) * wval ((f4 s3 s4 s3 s4) j) ((f4 l3 l4 l3 l4) j)) ((f4 e1 e1 e2 e2) j + (f4 e3 e4 e3 e4) j)) i j < 0)) 4)) ((f4 l3 l4 l3 l4) (selP (fun i j => decide ((fun i j => cmpDI (wval ((f4 s1 s1 s2 s2) i) ((f4 l1 l1 l2 l2) i) * wval ((f4 s3 s4 s3 s4) i) ((f4 l3 l4 l3 l4) i)) ((f4 e1 e1 e2 e2) i + (f4 e3 e4 e3 e4) i) (wval ((f4 s1 s1 s2 s2) j) ((f4 l1 l1 l2 l2) j) * wval ((f4 s3 s4 s3 s4) j) ((f4 l3 l4 l3 l4) j)) ((f4 e1 e1 e2 e2) j + (f4 e3 e4 e3 e4) j)) i j < 0)) 4)))) (wsg (wval ((f4 s1 s1 s2 s2) (selP (fun i j => decide (0 < (fun i j => cmpDI (wval ((f4 s1 s1 s2 s2) i) ((f4 l1 l1 l2 l2) i) * wval ((f4 s3 s4 s3 s4) i) ((f4 l3 l4 l3 l4) i)) ((f4 e1 e1 e2 e2) i + (f4 e3 e4 e3 e4) i) (wval ((f4 s1 s1 s2 s2) j) ((f4 l1 l1 l2 l2) j) * wval ((f4 s3 s4 s3 s4) j) ((f4 l3 l4 l3 l4) j)) ((f4 e1 e1 e2 e2) j + (f4 e3 e4 e3 e4) j)) i j)) 4)) ((f4 l1 l1 l2 l2) (selP (fun i j => decide (0 < (fun i j => cmpDI (wval ((f4 s1 s1 s2 s2) i) ((f4 l1 l1 l2 l2) i) * wval ((f4 s3 s4 s3 s4) i) ((f4 l3 l4 l3 l4) i)) ((f4 e1 e1 e2 e2) i + (f4 e3 e4 e3 e4) i) (wval ((f4 s1 s1 s2 s2) j) ((f4 l1 l1 l2 l2) j) * wval ((f4 s3 s4 s3 s4) j) ((f4 l3 l4 l3 l4) j)) ((f4 e1 e1 e2 e2) j + (f4 e3 e4 e3 e4) j)) i j)) 4)) * wval ((f4 s3 s4 s3 s4) (selP (fun i j => decide (0 < (fun i j => cmpDI (wval ((f4 s1 s1 s2 s2) i) ((f4 l1 l1 l2 l2) i) * wval ((f4 s3 s4 s3 s4) i) ((f4 l3 l4 l3 l4) i)) ((f4 e1 e1 e2 e2) i + (f4 e3 e4 e3 e4) i) (wval ((f4 s1 s1 s2 s2) j) ((f4 l1 l1 l2 l2) j) * wval ((f4 s3 s4 s3 s4) j) ((f4 l3 l4 l3 l4) j)) ((f4 e1 e1 e2 e2) j + (f4 e3 e4 e3 e4) j)) i j)) 4)) ((f4 l3 l4 l3 l4) (selP (fun i j => decide (0 < (fun i j => cmpDI (wval ((f4 s1 s1 s2 s2) i) ((f4 l1 l1 l2 l2) i) * wval ((f4 s3 s4 s3 s4) i) ((f4 l3 l4 l3 l4) i)) ((f4 e1 e1 e2 e2) i + (f4 e3 e4 e3 e4) i) (wval ((f4 s1 s1 s2 s2) j) ((f4 l1 l1 l2 l2) j) * wval ((f4 s3 s4 s3 s4) j) ((f4 l3 l4 l3 l4) j)) ((f4 e1 e1 e2 e2) j + (f4 e3 e4 e3 e4) j)) i j)) 4)))) (dex (wval ((f4 s1 s1 s2 s2) (selP (fun i j => decide (0 < (fun i j => cmpDI (wval ((f4 s1 s1 s2 s2) i) ((f4 l1 l1 l2 l2) i) * wval ((f4 s3 s4 s3 s4) i) ((f4 l3 l4 l3 l4) i)) ((f4 e1 e1 e2 e2) i + (f4 e3 e4 e3 e4) i) (wval ((f4 s1 s1 s2 s2) j) ((f4 l1 l1 l2 l2) j) * wval ((f4 s3 s4 s3 s4) j) ((f4 l3 l4 l3 l4) j)) ((f4 e1 e1 e2 e2) j + (f4 e3 e4 e3 e4) j)) i j)) 4)) ((f4 l1 l1 l2 l2) (selP (fun i j => decide (0 < (fun i j => cmpDI (wval ((f4 s1 s1 s2 s2) i) ((f4 l1 l1 l2 l2) i) * wval ((f4 s3 s4 s3 s4) i) ((f4 l3 l4 l3 l4) i)) ((f4 e1 e1 e2 e2) i + (f4 e3 e4 e3 e4) i) (wval ((f4 s1 s1 s2 s2) j) ((f4 l1 l1 l2 l2) j) * wval ((f4 s3 s4 s3 s4) j) ((f4 l3 l4 l3 l4) j)) ((f4 e1 e1 e2 e2) j + (f4 e3 e4 e3 e4) j)) i j)) 4)) * wval ((f4 s3 s4 s3 s4) (selP (fun i j => decide (0 < (fun i j => cmpDI (wval ((f4 s1 s1 s2 s2) i) ((f4 l1 l1 l2 l2) i) * wval ((f4 s3 s4 s3 s4) i) ((f4 l3 l4 l3 l4) i)) ((f4 e1 e1 e2 e2) i + (f4 e3 e4 e3 e4) i) (wval ((f4 s1 s1 s2 s2) j) ((f4 l1 l1 l2 l2) j) * wval ((f4 s3 s4 s3 s4) j) ((f4 l3 l4 l3 l4) j)) ((f4 e1 e1 e2 e2) j + (f4 e3 e4 e3 e4) j)) i j)) 4)) ((f4 l3 l4 l3 l4) (selP (fun i j => decide (0 < (fun i j => cmpDI (wval ((f4 s1 s1 s2 s2) i) ((f4 l1 l1 l2 l2) i) * wval ((f4 s3 s4 s3 s4) i) ((f4 l3 l4 l3 l4) i)) ((f4 e1 e1 e2 e2) i + (f4 e3 e4 e3 e4) i) (wval ((f4 s1 s1 s2 s2) j) ((f4 l1 l1 l2 l2) j) * wval ((f4 s3 s4 s3 s4) j) ((f4 l3 l4 l3 l4) j)) ((f4 e1 e1 e2 e2) j + (f4 e3 e4 e3 e4) j)) i j)) 4))) ((f4 e1 e1 e2 e2) (selP (fun i j => decide (0 < (fun i j => cmpDI (wval ((f4 s1 s1 s2 s2) i) ((f4 l1 l1 l2 l2) i) * wval ((f4 s3 s4 s3 s4) i) ((f4 l3 l4 l3 l4) i)) ((f4 e1 e1 e2 e2) i + (f4 e3 e4 e3 e4) i) (wval ((f4 s1 s1 s2 s2) j) ((f4 l1 l1 l2 l2) j) * wval ((f4 s3 s4 s3 s4) j) ((f4 l3 l4 l3 l4) j)) ((f4 e1 e1 e2 e2) j + (f4 e3 e4 e3 e4) j)) i j)) 4) + (f4 e3 e4 e3 e4) (selP (fun i j => decide (0 < (fun i j => cmpDI (wval ((f4 s1 s1 s2 s2) i) ((f4 l1 l1 l2 l2) i) * wval ((f4 s3 s4 s3 s4) i) ((f4 l3 l4 l3 l4) i)) ((f4 e1 e1 e2 e2) i + (f4 e3 e4 e3 e4) i) (wval ((f4 s1 s1 s2 s2) j) ((f4 l1 l1 l2 l2) j) * wval ((f4 s3 s4 s3 s4) j) ((f4 l3 l4 l3 l4) j)) ((f4 e1 e1 e2 e2) j + (f4 e3 e4 e3 e4) j)) i j)) 4))) (dlm (wval ((f4 s1 s1 s2 s2) (selP (fun i j => decide (0 < (fun i j => cmpDI (wval ((f4 s1 s1 s2 s2) i) ((f4 l1 l1 l2 l2) i) * wval ((f4 s3 s4 s3 s4) i) ((f4 l3 l4 l3 l4) i)) ((f4 e1 e1 e2 e2) i + (f4 e3 e4 e3 e4) i) (wval ((f4 s1 s1 s2 s2) j) ((f4 l1 l1 l2 l2) j) * wval ((f4 s3 s4 s3 s4) j) ((f4 l3 l4 l3 l4) j)) ((f4 e1 e1 e2 e2) j + (f4 e3 e4 e3 e4) j)) i j)) 4)) ((f4 l1 l1 l2 l2) (selP (fun i j => decide (0 < (fun i j => cmpDI (wval ((f4 s1 s1 s2 s2) i) ((f4 l1 l1 l2 l2) i) * wval ((f4 s3 s4 s3 s4) i) ((f4 l3 l4 l3 l4) i)) ((f4 e1 e1 e2 e2) i + (f4 e3 e4 e3 e4) i) (wval ((f4 s1 s1 s2 s2) j) ((f4 l1 l1 l2 l2) j) * wval ((f4 s3 s4 s3 s4) j) ((f4 l3 l4 l3 l4) j)) ((f4 e1 e1 e2 e2) j + (f4 e3 e4 e3 e4) j)) i j)) 4)) * wval ((f4 s3 s4 s3 s4) (selP (fun i j => decide (0 < (fun i j => cmpDI (wval ((f4 s1 s1 s2 s2) i) ((f4 l1 l1 l2 l2) i) * wval ((f4 s3 s4 s3 s4) i) ((f4 l3 l4 l3 l4) i)) ((f4 e1 e1 e2 e2) i + (f4 e3 e4 e3 e4) i) (wval ((f4 s1 s1 s2 s2) j) ((f4 l1 l1 l2 l2) j) * wval ((f4 s3 s4 s3 s4) j) ((f4 l3 l4 l3 l4) j)) ((f4 e1 e1 e2 e2) j + (f4 e3 e4 e3 e4) j)) i j)) 4)) ((f4 l3 l4 l3 l4) (selP (fun i j => decide (0 < (fun i j => cmpDI (wval ((f4 s1 s1 s2 s2) i) ((f4 l1 l1 l2 l2) i) * wval ((f4 s3 s4 s3 s4) i) ((f4 l3 l4 l3 l4) i)) ((f4 e1 e1 e2 e2) i + (f4 e3 e4 e3 e4) i) (wval ((f4 s1 s1 s2 s2) j) ((f4 l1 l1 l2 l2) j) * wval ((f4 s3 s4 s3 s4) j) ((f4 l3 l4 l3 l4) j)) ((f4 e1 e1 e2 e2) j + (f4 e3 e4 e3 e4) j)) i j)) 4)))) w e w' := by
  replace r1 := r1.tight
  replace r2 := r2.tight
  replace r3 := r3.tight
  replace r4 := r4.tight
  obtain ⟨i0, hi0⟩ : ∃ i, (selP (fun i j => decide ((fun i j => cmpDI (wval ((f4 s1 s1 s2 s2) i) ((f4 l1 l1 l2 l2) i) * wval ((f4 s3 s4 s3 s4) i) ((f4 l3 l4 l3 l4) i)) ((f4 e1 e1 e2 e2) i + (f4 e3 e4 e3 e4) i) (wval ((f4 s1 s1 s2 s2) j) ((f4 l1 l1 l2 l2) j) * wval ((f4 s3 s4 s3 s4) j) ((f4 l3 l4 l3 l4) j)) ((f4 e1 e1 e2 e2) j + (f4 e3 e4 e3 e4) j)) i j < 0)) 4) = i := ⟨_, rfl⟩
  obtain ⟨i1, hi1⟩ : ∃ i, (selP (fun i j => decide (0 < (fun i j => cmpDI (wval ((f4 s1 s1 s2 s2) i) ((f4 l1 l1 l2 l2) i) * wval ((f4 s3 s4 s3 s4) i) ((f4 l3 l4 l3 l4) i)) ((f4 e1 e1 e2 e2) i + (f4 e3 e4 e3 e4) i) (wval ((f4 s1 s1 s2 s2) j) ((f4 l1 l1 l2 l2) j) * wval ((f4 s3 s4 s3 s4) j) ((f4 l3 l4 l3 l4) j)) ((f4 e1 e1 e2 e2) j + (f4 e3 e4 e3 e4) j)) i j)) 4) = i := ⟨_, rfl⟩
  rw [hi0, hi1]
  have HI0 := hide hi0
  have HI1 := hide hi1
  clear hi0 hi1
  obtain ⟨CC, hCC⟩ : ∃ c, ivC (iokB s1 l1 e1 s2 l2 e2 && iokB s3 l3 e3 s4 l4 e4) (wval ((f4 s1 s1 s2 s2) i0) ((f4 l1 l1 l2 l2) i0) * wval ((f4 s3 s4 s3 s4) i0) ((f4 l3 l4 l3 l4) i0)) ((f4 e1 e1 e2 e2) i0 + (f4 e3 e4 e3 e4) i0) (wval ((f4 s1 s1 s2 s2) i1) ((f4 l1 l1 l2 l2) i1) * wval ((f4 s3 s4 s3 s4) i1) ((f4 l3 l4 l3 l4) i1)) ((f4 e1 e1 e2 e2) i1 + (f4 e3 e4 e3 e4) i1) = c := ⟨_, rfl⟩
  rw [hCC]
  have HCC := hide hCC
  clear hCC
  obtain ⟨W1, hW1⟩ : ∃ c, wsg (wval ((f4 s1 s1 s2 s2) i0) ((f4 l1 l1 l2 l2) i0) * wval ((f4 s3 s4 s3 s4) i0) ((f4 l3 l4 l3 l4) i0)) = c := ⟨_, rfl⟩
  obtain ⟨D1, hD1⟩ : ∃ c, dex (wval ((f4 s1 s1 s2 s2) i0) ((f4 l1 l1 l2 l2) i0) * wval ((f4 s3 s4 s3 s4) i0) ((f4 l3 l4 l3 l4) i0)) ((f4 e1 e1 e2 e2) i0 + (f4 e3 e4 e3 e4) i0) = c := ⟨_, rfl⟩
  obtain ⟨Q1, hQ1⟩ : ∃ c, dlm (wval ((f4 s1 s1 s2 s2) i0) ((f4 l1 l1 l2 l2) i0) * wval ((f4 s3 s4 s3 s4) i0) ((f4 l3 l4 l3 l4) i0)) = c := ⟨_, rfl⟩
  obtain ⟨W2, hW2⟩ : ∃ c, wsg (wval ((f4 s1 s1 s2 s2) i1) ((f4 l1 l1 l2 l2) i1) * wval ((f4 s3 s4 s3 s4) i1) ((f4 l3 l4 l3 l4) i1)) = c := ⟨_, rfl⟩
  obtain ⟨D2, hD2⟩ : ∃ c, dex (wval ((f4 s1 s1 s2 s2) i1) ((f4 l1 l1 l2 l2) i1) * wval ((f4 s3 s4 s3 s4) i1) ((f4 l3 l4 l3 l4) i1)) ((f4 e1 e1 e2 e2) i1 + (f4 e3 e4 e3 e4) i1) = c := ⟨_, rfl⟩
  obtain ⟨Q2, hQ2⟩ : ∃ c, dlm (wval ((f4 s1 s1 s2 s2) i1) ((f4 l1 l1 l2 l2) i1) * wval ((f4 s3 s4 s3 s4) i1) ((f4 l3 l4 l3 l4) i1)) = c := ⟨_, rfl⟩
  try rw [hW1]
  try rw [hD1]
  try rw [hQ1]
  try rw [hW2]
  try rw [hD2]
  try rw [hQ2]
  have HW1 := hide hW1
  clear hW1
  have HD1 := hide hD1
  clear hD1
  have HQ1 := hide hQ1
  clear hQ1
  have HW2 := hide hW2
  clear hW2
  have HD2 := hide hD2
  clear hD2
  have HQ2 := hide hQ2
  clear hQ2
  obtain ⟨Wn, hn0⟩ : ∃ wz, wz = (((w.alloc (.cells #[.bool s1, v1, .int .i64 e1, .bool s2, v2, .int .i64 e2] 38)).alloc (.cells #[.bool s3, v3, .int .i64 e3, .bool s4, v4, .int .i64 e4] 38)).alloc (.cells #[.bool false, .slice none 0 0, .int .i64 0, .bool false, .slice none 0 0, .int .i64 0] 38)) := ⟨_, rfl⟩
  have k0 : Kept 0 0 w Wn := by rw [hn0]; exact ((((Kept.refl 0 0 w).alloc _).alloc _).alloc _)
  have bp0 : Wn.cell? ⟨w.heap.size, 0, none⟩ = some (.bool s1) := by rw [hn0]; exact old_cell _ (old_cell _ (new_cell2 _ _ _ _ _ _ (by simp) rfl))
  have bp1 : Wn.cell? ⟨w.heap.size, 1, none⟩ = some (v1) := by rw [hn0]; exact old_cell _ (old_cell _ (new_cell2 _ _ _ _ _ _ (by simp) rfl))
  have bp2 : Wn.cell? ⟨w.heap.size, 2, none⟩ = some (.int .i64 e1) := by rw [hn0]; exact old_cell _ (old_cell _ (new_cell2 _ _ _ _ _ _ (by simp) rfl))
  have bp3 : Wn.cell? ⟨w.heap.size, 3, none⟩ = some (.bool s2) := by rw [hn0]; exact old_cell _ (old_cell _ (new_cell2 _ _ _ _ _ _ (by simp) rfl))
  have bp4 : Wn.cell? ⟨w.heap.size, 4, none⟩ = some (v2) := by rw [hn0]; exact old_cell _ (old_cell _ (new_cell2 _ _ _ _ _ _ (by simp) rfl))
  have bp5 : Wn.cell? ⟨w.heap.size, 5, none⟩ = some (.int .i64 e2) := by rw [hn0]; exact old_cell _ (old_cell _ (new_cell2 _ _ _ _ _ _ (by simp) rfl))
  have bq0 : Wn.cell? ⟨w.heap.size + 1, 0, none⟩ = some (.bool s3) := by rw [hn0]; exact old_cell _ (new_cell2 _ _ _ _ _ _ (by simp) rfl)
  have bq1 : Wn.cell? ⟨w.heap.size + 1, 1, none⟩ = some (v3) := by rw [hn0]; exact old_cell _ (new_cell2 _ _ _ _ _ _ (by simp) rfl)
  have bq2 : Wn.cell? ⟨w.heap.size + 1, 2, none⟩ = some (.int .i64 e3) := by rw [hn0]; exact old_cell _ (new_cell2 _ _ _ _ _ _ (by simp) rfl)
  have bq3 : Wn.cell? ⟨w.heap.size + 1, 3, none⟩ = some (.bool s4) := by rw [hn0]; exact old_cell _ (new_cell2 _ _ _ _ _ _ (by simp) rfl)
  have bq4 : Wn.cell? ⟨w.heap.size + 1, 4, none⟩ = some (v4) := by rw [hn0]; exact old_cell _ (new_cell2 _ _ _ _ _ _ (by simp) rfl)
  have bq5 : Wn.cell? ⟨w.heap.size + 1, 5, none⟩ = some (.int .i64 e4) := by rw [hn0]; exact old_cell _ (new_cell2 _ _ _ _ _ _ (by simp) rfl)
  have R0 : Wn.cell? ⟨w.heap.size + 2, 0, none⟩ = some (.bool false) := by rw [hn0]; exact new_cell2 _ _ _ _ _ _ (by simp) rfl
  have Ba : Wn.frozen? ⟨w.heap.size + 2, 0, none⟩ = false := by rw [hn0]; exact new_loose2 _ _ _ _ _ (by simp)
  have R1 : Wn.cell? ⟨w.heap.size + 2, 1, none⟩ = some (.slice none 0 0) := by rw [hn0]; exact new_cell2 _ _ _ _ _ _ (by simp) rfl
  have Bb : Wn.frozen? ⟨w.heap.size + 2, 1, none⟩ = false := by rw [hn0]; exact new_loose2 _ _ _ _ _ (by simp)
  have R2 : Wn.cell? ⟨w.heap.size + 2, 2, none⟩ = some (.int .i64 0) := by rw [hn0]; exact new_cell2 _ _ _ _ _ _ (by simp) rfl
  have Bc : Wn.frozen? ⟨w.heap.size + 2, 2, none⟩ = false := by rw [hn0]; exact new_loose2 _ _ _ _ _ (by simp)
  have R3 : Wn.cell? ⟨w.heap.size + 2, 3, none⟩ = some (.bool false) := by rw [hn0]; exact new_cell2 _ _ _ _ _ _ (by simp) rfl
  have Bd : Wn.frozen? ⟨w.heap.size + 2, 3, none⟩ = false := by rw [hn0]; exact new_loose2 _ _ _ _ _ (by simp)
  have R4 : Wn.cell? ⟨w.heap.size + 2, 4, none⟩ = some (.slice none 0 0) := by rw [hn0]; exact new_cell2 _ _ _ _ _ _ (by simp) rfl
  have Be : Wn.frozen? ⟨w.heap.size + 2, 4, none⟩ = false := by rw [hn0]; exact new_loose2 _ _ _ _ _ (by simp)
  have R5 : Wn.cell? ⟨w.heap.size + 2, 5, none⟩ = some (.int .i64 0) := by rw [hn0]; exact new_cell2 _ _ _ _ _ _ (by simp) rfl
  have Bf : Wn.frozen? ⟨w.heap.size + 2, 5, none⟩ = false := by rw [hn0]; exact new_loose2 _ _ _ _ _ (by simp)
  subst hn0
  replace r1 := r1.kept k0 (by omega)
  replace r2 := r2.kept k0 (by omega)
  replace r3 := r3.kept k0 (by omega)
  replace r4 := r4.kept k0 (by omega)
  have s0 : (((w.alloc (.cells #[.bool s1, v1, .int .i64 e1, .bool s2, v2, .int .i64 e2] 38)).alloc (.cells #[.bool s3, v3, .int .i64 e3, .bool s4, v4, .int .i64 e4] 38)).alloc (.cells #[.bool false, .slice none 0 0, .int .i64 0, .bool false, .slice none 0 0, .int .i64 0] 38)).heap.size = w.heap.size + 3 := by simp
  obtain ⟨a1, c1, hv⟩ := r1.form'
  subst hv
  obtain ⟨a2, c2, hv⟩ := r2.form'
  subst hv
  obtain ⟨a3, c3, hv⟩ := r3.form'
  subst hv
  obtain ⟨a4, c4, hv⟩ := r4.form'
  subst hv
  have K := hide (k0)
  clear k0
  have S0 := hide s0
  clear s0
  go_enter Tryd.func7, Tryd.ntmps7
  go_wp2_with fail
  generalize (((w.alloc (.cells #[.bool s1, .slice a1 l1.length c1, .int .i64 e1, .bool s2, .slice a2 l2.length c2, .int .i64 e2] 38)).alloc (.cells #[.bool s3, .slice a3 l3.length c3, .int .i64 e3, .bool s4, .slice a4 l4.length c4, .int .i64 e4] 38)).alloc (.cells #[.bool false, .slice none 0 0, .int .i64 0, .bool false, .slice none 0 0, .int .i64 0] 38)) = W at *
  refine (ivok_impl s1 e1 hu1 hd1 s2 e2 hu2 hd2 _ r1 r2).mono ?_
  rintro e w1 ⟨rfl, k1⟩
  revert r1 r2 r3 r4; refine k1.n4 ?_; intro r1 r2 r3 r4
  replace Ba := k1.loose0 (zbl R0) Ba
  replace Bb := k1.loose0 (zbl R1) Bb
  replace Bc := k1.loose0 (zbl R2) Bc
  replace Bd := k1.loose0 (zbl R3) Bd
  replace Be := k1.loose0 (zbl R4) Be
  replace Bf := k1.loose0 (zbl R5) Bf
  revert bp0 bp1 bp2 bp3 bp4 bp5 bq0 bq1 bq2 bq3 bq4 bq5; refine k1.m12 ?_; intro bp0 bp1 bp2 bp3 bp4 bp5 bq0 bq1 bq2 bq3 bq4 bq5
  revert R0 R1 R2 R3 R4 R5; refine k1.m6 ?_; intro R0 R1 R2 R3 R4 R5
  replace K := hide ((unhide K).trans k1)
  have z2 := k1.size
  clear k1
  cases ho : iokB s1 l1 e1 s2 l2 e2
  ·have EC : Hid (CC = false) := by show _ = _; rw [← unhide HCC]; exact ivC_no (by rw [ho]; rfl)
   have K7 := hide (((((((unhide K).setNew (p := ⟨w.heap.size + 2, 0, none⟩) (by simp) (.bool false)).setNew (p := ⟨w.heap.size + 2, 1, none⟩) (by simp) (.slice none 0 0)).setNew (p := ⟨w.heap.size + 2, 2, none⟩) (by simp) (.int .i64 0)).setNew (p := ⟨w.heap.size + 2, 3, none⟩) (by simp) (.bool false)).setNew (p := ⟨w.heap.size + 2, 4, none⟩) (by simp) (.slice none 0 0)).setNew (p := ⟨w.heap.size + 2, 5, none⟩) (by simp) (.int .i64 0))
   clear r1 r2 r3 r4 K
   go_wp2_with fail
   exact bodyPost_ret (v := .tuple #[.agg #[.bool false, .slice none 0 0, .int .i64 0, .bool false, .slice none 0 0, .int .i64 0], .bool false]) (by simp [results, Tryd.results7, go_sem, R0, R1, R2, R3, R4, R5]) rfl (by rw [unhide EC]; exact ivAns_no (unhide K7))
  obtain ⟨i1', i2', -⟩ := iok_parts ho
  have I1 := hide i1'
  have I2 := hide i2'
  have HO := hide ho
  clear ho i1' i2'
  go_wp2_with fail
  refine (ivok_impl s3 e3 hu3 hd3 s4 e4 hu4 hd4 _ r3 r4).mono ?_
  rintro e w3 ⟨rfl, k3⟩
  revert r1 r2 r3 r4; refine k3.n4 ?_; intro r1 r2 r3 r4
  replace Ba := k3.loose0 (zbl R0) Ba
  replace Bb := k3.loose0 (zbl R1) Bb
  replace Bc := k3.loose0 (zbl R2) Bc
  replace Bd := k3.loose0 (zbl R3) Bd
  replace Be := k3.loose0 (zbl R4) Be
  replace Bf := k3.loose0 (zbl R5) Bf
  revert bp0 bp1 bp2 bp3 bp4 bp5 bq0 bq1 bq2 bq3 bq4 bq5; refine k3.m12 ?_; intro bp0 bp1 bp2 bp3 bp4 bp5 bq0 bq1 bq2 bq3 bq4 bq5
  revert R0 R1 R2 R3 R4 R5; refine k3.m6 ?_; intro R0 R1 R2 R3 R4 R5
  replace K := hide ((unhide K).trans k3)
  have z4 := k3.size
  clear k3
  cases ho : iokB s3 l3 e3 s4 l4 e4
  ·have EC : Hid (CC = false) := by show _ = _; rw [← unhide HCC]; exact ivC_no (by rw [ho, unhide HO]; rfl)
   have K7 := hide (((((((unhide K).setNew (p := ⟨w.heap.size + 2, 0, none⟩) (by simp) (.bool false)).setNew (p := ⟨w.heap.size + 2, 1, none⟩) (by simp) (.slice none 0 0)).setNew (p := ⟨w.heap.size + 2, 2, none⟩) (by simp) (.int .i64 0)).setNew (p := ⟨w.heap.size + 2, 3, none⟩) (by simp) (.bool false)).setNew (p := ⟨w.heap.size + 2, 4, none⟩) (by simp) (.slice none 0 0)).setNew (p := ⟨w.heap.size + 2, 5, none⟩) (by simp) (.int .i64 0))
   clear r1 r2 r3 r4 K
   go_wp2_with fail
   exact bodyPost_ret (v := .tuple #[.agg #[.bool false, .slice none 0 0, .int .i64 0, .bool false, .slice none 0 0, .int .i64 0], .bool false]) (by simp [results, Tryd.results7, go_sem, R0, R1, R2, R3, R4, R5]) rfl (by rw [unhide EC]; exact ivAns_no (unhide K7))
  obtain ⟨i3', i4', -⟩ := iok_parts ho
  have I3 := hide i3'
  have I4 := hide i4'
  have HC : Hid ((iokB s1 l1 e1 s2 l2 e2 && iokB s3 l3 e3 s4 l4 e4) = true) := by show _ = _; rw [ho, unhide HO]; rfl
  clear ho i3' i4'
  go_wp2_with fail
  have hcmp : Hid (∀ (i j : Nat) w1, Kept 0 0 w3 w1 → Calls Tryd.prog 18 #[.agg #[.bool ((f4 s1 s1 s2 s2) i), .slice ((f4 a1 a1 a2 a2) i) ((f4 l1.length l1.length l2.length l2.length) i) ((f4 c1 c1 c2 c2) i), .int .i64 ((f4 e1 e1 e2 e2) i), .bool ((f4 s3 s4 s3 s4) i), .slice ((f4 a3 a4 a3 a4) i) ((f4 l3.length l4.length l3.length l4.length) i) ((f4 c3 c4 c3 c4) i), .int .i64 ((f4 e3 e4 e3 e4) i)], .agg #[.bool ((f4 s1 s1 s2 s2) j), .slice ((f4 a1 a1 a2 a2) j) ((f4 l1.length l1.length l2.length l2.length) j) ((f4 c1 c1 c2 c2) j), .int .i64 ((f4 e1 e1 e2 e2) j), .bool ((f4 s3 s4 s3 s4) j), .slice ((f4 a3 a4 a3 a4) j) ((f4 l3.length l4.length l3.length l4.length) j) ((f4 c3 c4 c3 c4) j), .int .i64 ((f4 e3 e4 e3 e4) j)]] w1 (fun e w' => e = .returned (.int .i64 ((fun i j => cmpDI (wval ((f4 s1 s1 s2 s2) i) ((f4 l1 l1 l2 l2) i) * wval ((f4 s3 s4 s3 s4) i) ((f4 l3 l4 l3 l4) i)) ((f4 e1 e1 e2 e2) i + (f4 e3 e4 e3 e4) i) (wval ((f4 s1 s1 s2 s2) j) ((f4 l1 l1 l2 l2) j) * wval ((f4 s3 s4 s3 s4) j) ((f4 l3 l4 l3 l4) j)) ((f4 e1 e1 e2 e2) j + (f4 e3 e4 e3 e4) j)) i j)) ∧ Kept 0 0 w1 w')) := fun i j w1 k1 => cmpProducts_impl _ _ _ _ _ _ _ _ w1 ((row_f4 r1 r1 r2 r2 i).kept k1 (.inr (.inr (Nat.le_refl 0)))) ((row_f4 r3 r4 r3 r4 i).kept k1 (.inr (.inr (Nat.le_refl 0)))) ((row_f4 r1 r1 r2 r2 j).kept k1 (.inr (.inr (Nat.le_refl 0)))) ((row_f4 r3 r4 r3 r4 j).kept k1 (.inr (.inr (Nat.le_refl 0)))) (dok_f4 (unhide I1) (unhide I1) (unhide I2) (unhide I2) i) (dok_f4 (unhide I3) (unhide I4) (unhide I3) (unhide I4) i) (dok_f4 (unhide I1) (unhide I1) (unhide I2) (unhide I2) j) (dok_f4 (unhide I3) (unhide I4) (unhide I3) (unhide I4) j)
  have mk := extremes_impl (C := (fun i j => cmpDI (wval ((f4 s1 s1 s2 s2) i) ((f4 l1 l1 l2 l2) i) * wval ((f4 s3 s4 s3 s4) i) ((f4 l3 l4 l3 l4) i)) ((f4 e1 e1 e2 e2) i + (f4 e3 e4 e3 e4) i) (wval ((f4 s1 s1 s2 s2) j) ((f4 l1 l1 l2 l2) j) * wval ((f4 s3 s4 s3 s4) j) ((f4 l3 l4 l3 l4) j)) ((f4 e1 e1 e2 e2) j + (f4 e3 e4 e3 e4) j))) 18 in_cmpProducts_q s1 s2 s3 s4 a1 a2 a3 a4 l1.length l2.length l3.length l4.length c1 c2 c3 c4 e1 e2 e3 e4 w3 (unhide hcmp)
  rw [unhide HI0, unhide HI1] at mk
  clear hcmp
  refine (mk).mono ?_
  rintro e w5 ⟨rfl, k5⟩
  revert r1 r2 r3 r4; refine k5.n4 ?_; intro r1 r2 r3 r4
  replace Ba := k5.loose0 (zbl R0) Ba
  replace Bb := k5.loose0 (zbl R1) Bb
  replace Bc := k5.loose0 (zbl R2) Bc
  replace Bd := k5.loose0 (zbl R3) Bd
  replace Be := k5.loose0 (zbl R4) Be
  replace Bf := k5.loose0 (zbl R5) Bf
  revert bp0 bp1 bp2 bp3 bp4 bp5 bq0 bq1 bq2 bq3 bq4 bq5; refine k5.m12 ?_; intro bp0 bp1 bp2 bp3 bp4 bp5 bq0 bq1 bq2 bq3 bq4 bq5
  revert R0 R1 R2 R3 R4 R5; refine k5.m6 ?_; intro R0 R1 R2 R3 R4 R5
  replace K := hide ((unhide K).trans k5)
  have z6 := k5.size
  clear k5
  clear mk
  go_wp2_with fail
  have kn := ((Kept.refl 0 0 w5).alloc (.cells #[.bool ((f4 s1 s1 s2 s2) i0), .slice ((f4 a1 a1 a2 a2) i0) ((f4 l1.length l1.length l2.length l2.length) i0) ((f4 c1 c1 c2 c2) i0), .int .i64 ((f4 e1 e1 e2 e2) i0), .bool ((f4 s3 s4 s3 s4) i0), .slice ((f4 a3 a4 a3 a4) i0) ((f4 l3.length l4.length l3.length l4.length) i0) ((f4 c3 c4 c3 c4) i0), .int .i64 ((f4 e3 e4 e3 e4) i0)] 51)).alloc (.cells #[.bool ((f4 s1 s1 s2 s2) i1), .slice ((f4 a1 a1 a2 a2) i1) ((f4 l1.length l1.length l2.length l2.length) i1) ((f4 c1 c1 c2 c2) i1), .int .i64 ((f4 e1 e1 e2 e2) i1), .bool ((f4 s3 s4 s3 s4) i1), .slice ((f4 a3 a4 a3 a4) i1) ((f4 l3.length l4.length l3.length l4.length) i1) ((f4 c3 c4 c3 c4) i1), .int .i64 ((f4 e3 e4 e3 e4) i1)] 51)
  revert r1 r2 r3 r4; refine kn.n4 ?_; intro r1 r2 r3 r4
  replace Ba := kn.loose0 (zbl R0) Ba
  replace Bb := kn.loose0 (zbl R1) Bb
  replace Bc := kn.loose0 (zbl R2) Bc
  replace Bd := kn.loose0 (zbl R3) Bd
  replace Be := kn.loose0 (zbl R4) Be
  replace Bf := kn.loose0 (zbl R5) Bf
  revert bp0 bp1 bp2 bp3 bp4 bp5 bq0 bq1 bq2 bq3 bq4 bq5; refine kn.m12 ?_; intro bp0 bp1 bp2 bp3 bp4 bp5 bq0 bq1 bq2 bq3 bq4 bq5
  revert R0 R1 R2 R3 R4 R5; refine kn.m6 ?_; intro R0 R1 R2 R3 R4 R5
  replace K := hide ((unhide K).trans kn)
  have z7 := kn.size
  clear kn
  generalize hwu : ((w5.alloc (.cells #[.bool ((f4 s1 s1 s2 s2) i0), .slice ((f4 a1 a1 a2 a2) i0) ((f4 l1.length l1.length l2.length l2.length) i0) ((f4 c1 c1 c2 c2) i0), .int .i64 ((f4 e1 e1 e2 e2) i0), .bool ((f4 s3 s4 s3 s4) i0), .slice ((f4 a3 a4 a3 a4) i0) ((f4 l3.length l4.length l3.length l4.length) i0) ((f4 c3 c4 c3 c4) i0), .int .i64 ((f4 e3 e4 e3 e4) i0)] 51)).alloc (.cells #[.bool ((f4 s1 s1 s2 s2) i1), .slice ((f4 a1 a1 a2 a2) i1) ((f4 l1.length l1.length l2.length l2.length) i1) ((f4 c1 c1 c2 c2) i1), .int .i64 ((f4 e1 e1 e2 e2) i1), .bool ((f4 s3 s4 s3 s4) i1), .slice ((f4 a3 a4 a3 a4) i1) ((f4 l3.length l4.length l3.length l4.length) i1) ((f4 c3 c4 c3 c4) i1), .int .i64 ((f4 e3 e4 e3 e4) i1)] 51)) = wu at *
  clear hwu
  have mk := (bothEnds_P ((f4 s1 s1 s2 s2) i0) ((f4 s1 s1 s2 s2) i1) ((f4 s3 s4 s3 s4) i0) ((f4 s3 s4 s3 s4) i1) ((f4 e1 e1 e2 e2) i0) ((f4 e1 e1 e2 e2) i1) ((f4 e3 e4 e3 e4) i0) ((f4 e3 e4 e3 e4) i1) 20 in_ivmul1 wu (fun w1 kk => ivmul1_impl _ _ (le_f4 hu1 hu1 hu2 hu2 i0) (ge_f4 hd1 hd1 hd2 hd2 i0) _ _ (le_f4 hu3 hu4 hu3 hu4 i0) (ge_f4 hd3 hd4 hd3 hd4 i0) w1 ((row_f4 r1 r1 r2 r2 i0).kept kk (by omega)) ((row_f4 r3 r4 r3 r4 i0).kept kk (by omega)) ((T.kept (unhide K)).kept kk) 3) (fun w1 kk => ivmul1_impl _ _ (le_f4 hu1 hu1 hu2 hu2 i1) (ge_f4 hd1 hd1 hd2 hd2 i1) _ _ (le_f4 hu3 hu4 hu3 hu4 i1) (ge_f4 hd3 hd4 hd3 hd4 i1) w1 ((row_f4 r1 r1 r2 r2 i1).kept kk (by omega)) ((row_f4 r3 r4 r3 r4 i1).kept kk (by omega)) ((T.kept (unhide K)).kept kk) 2)).mono (fun e w' h => ivAns_ans (unhide HC) (by rw [dok_f4 (unhide I1) (unhide I1) (unhide I2) (unhide I2) i0, dok_f4 (unhide I3) (unhide I4) (unhide I3) (unhide I4) i0]; rfl) (by rw [dok_f4 (unhide I1) (unhide I1) (unhide I2) (unhide I2) i1, dok_f4 (unhide I3) (unhide I4) (unhide I3) (unhide I4) i1]; rfl) h)
  rw [unhide HCC, unhide HW1, unhide HD1, unhide HQ1, unhide HW2, unhide HD2, unhide HQ2] at mk
  refine (mk).mono ?_
  rintro e w8 h5
  skip
  obtain ⟨q1, y1, M1, q2, y2, M2, vL, vM, mid, rfl, rL, rM, hm1, hm2, k5, hq⟩ := ivAns_open h5
  have HQ := hide hq
  clear hq h5
  revert r1 r2 r3 r4; refine k5.n4 ?_; intro r1 r2 r3 r4
  replace Ba := k5.loose0 (zbl R0) Ba
  replace Bb := k5.loose0 (zbl R1) Bb
  replace Bc := k5.loose0 (zbl R2) Bc
  replace Bd := k5.loose0 (zbl R3) Bd
  replace Be := k5.loose0 (zbl R4) Be
  replace Bf := k5.loose0 (zbl R5) Bf
  revert bp0 bp1 bp2 bp3 bp4 bp5 bq0 bq1 bq2 bq3 bq4 bq5; refine k5.m12 ?_; intro bp0 bp1 bp2 bp3 bp4 bp5 bq0 bq1 bq2 bq3 bq4 bq5
  revert R0 R1 R2 R3 R4 R5; refine k5.m6 ?_; intro R0 R1 R2 R3 R4 R5
  replace K := hide ((unhide K).trans k5)
  have z9 := k5.size
  clear k5
  obtain ⟨aL, dL, hv⟩ := Row.form' rL
  subst hv
  obtain ⟨aM, dM, hv⟩ := Row.form' rM
  subst hv
  have RL := hide ((((((rL.set_other (p := ⟨w.heap.size + 2, 0, none⟩) (.inl (by have := unhide S0; dsimp only; omega)) (.bool q1)).set_other (p := ⟨w.heap.size + 2, 1, none⟩) (.inl (by have := unhide S0; dsimp only; omega)) (.slice aL M1.length dL)).set_other (p := ⟨w.heap.size + 2, 2, none⟩) (.inl (by have := unhide S0; dsimp only; omega)) (.int .i64 y1)).set_other (p := ⟨w.heap.size + 2, 3, none⟩) (.inl (by have := unhide S0; dsimp only; omega)) (.bool q2)).set_other (p := ⟨w.heap.size + 2, 4, none⟩) (.inl (by have := unhide S0; dsimp only; omega)) (.slice aM M2.length dM)).set_other (p := ⟨w.heap.size + 2, 5, none⟩) (.inl (by have := unhide S0; dsimp only; omega)) (.int .i64 y2))
  have RM := hide ((((((rM.set_other (p := ⟨w.heap.size + 2, 0, none⟩) (.inl (by have := unhide S0; dsimp only; omega)) (.bool q1)).set_other (p := ⟨w.heap.size + 2, 1, none⟩) (.inl (by have := unhide S0; dsimp only; omega)) (.slice aL M1.length dL)).set_other (p := ⟨w.heap.size + 2, 2, none⟩) (.inl (by have := unhide S0; dsimp only; omega)) (.int .i64 y1)).set_other (p := ⟨w.heap.size + 2, 3, none⟩) (.inl (by have := unhide S0; dsimp only; omega)) (.bool q2)).set_other (p := ⟨w.heap.size + 2, 4, none⟩) (.inl (by have := unhide S0; dsimp only; omega)) (.slice aM M2.length dM)).set_other (p := ⟨w.heap.size + 2, 5, none⟩) (.inl (by have := unhide S0; dsimp only; omega)) (.int .i64 y2))
  have K7 := hide (((((((unhide K).setNew (p := ⟨w.heap.size + 2, 0, none⟩) (by simp) (.bool q1)).setNew (p := ⟨w.heap.size + 2, 1, none⟩) (by simp) (.slice aL M1.length dL)).setNew (p := ⟨w.heap.size + 2, 2, none⟩) (by simp) (.int .i64 y1)).setNew (p := ⟨w.heap.size + 2, 3, none⟩) (by simp) (.bool q2)).setNew (p := ⟨w.heap.size + 2, 4, none⟩) (by simp) (.slice aM M2.length dM)).setNew (p := ⟨w.heap.size + 2, 5, none⟩) (by simp) (.int .i64 y2))
  clear r1 r2 r3 r4 rL rM K
  go_wp2_with fail
  have sS0 := unhide S0
  exact bodyPost_ret (v := .tuple #[.agg #[.bool q1, .slice aL M1.length dL, .int .i64 y1, .bool q2, .slice aM M2.length dM, .int .i64 y2], .bool CC]) (by simp [results, Tryd.results7, go_sem, R0, R1, R2, R3, R4, R5]) rfl (ivAns_shut (unhide HQ) ((unhide RL).wider (by omega) (Nat.le_refl _)) (unhide RM).tight (by omega) (by simp only [size_set]; omega) (unhide K7))

end Go.Proofs.YtpognolidbgkkaaDoor

