/-
  Intervals of the model: l7mul.
-/
import Derived.Test.YtpognolidbgkkaaDoorPq5
import Derived.Test.YtpognolidbgkkaaDoorPq6
import Derived.Test.YtpognolidbgkkaaDoorPq7
import Derived.Deep.DeepCutAuto
import Derived.Deep.RegionHeld3
namespace Go.Proofs.YtpognolidbgkkaaDoor
open Go.RowKit
set_option linter.unusedVariables false
set_option maxRecDepth 8000
set_option linter.unusedSimpArgs false

theorem pk_app {α β : Type} (f : α → β) (c : Bool) (a b : α) : pk c (f a) (f b) = f (pk c a b) := by cases c <;> rfl
/-- Four numbers in a list. -/
def PL3 (w : World) (g : Nat) (PW : Nat → Bool) (A : Nat → Option Addr) (PQ : Nat → List Int) (Z : Nat → Nat) (PD : Nat → Int) : Prop := ∀ k, k < 4 → w.cell? ⟨g, 3 * k, none⟩ = some (.bool (PW k)) ∧ w.cell? ⟨g, 3 * k + 1, none⟩ = some (.slice (A k) (PQ k).length (Z k)) ∧ w.cell? ⟨g, 3 * k + 2, none⟩ = some (.int .i64 (PD k))
theorem PL3.kept {w w' : World} {g : Nat} {PW : Nat → Bool} {A : Nat → Option Addr} {PQ : Nat → List Int} {Z : Nat → Nat} {PD : Nat → Int} (h : PL3 w g PW A PQ Z PD) (k : Kept 0 0 w w') : PL3 w' g PW A PQ Z PD := fun i hi => by
  obtain ⟨h0, h1, h2⟩ := h i hi
  exact ⟨k.cell0 h0, k.cell0 h1, k.cell0 h2⟩
def S3 (w : World) (M o : Nat) (u0 u1 u2 : Value) : World := ((w.setCell ⟨M, o, none⟩ u0).setCell ⟨M, o + 1, none⟩ u1).setCell ⟨M, o + 2, none⟩ u2
theorem aside3 {w : World} {a : Addr} {v : Value} {M o : Nat} (h : w.cell? a = some v) (hne : a.block ≠ M) (u0 u1 u2 : Value) : (S3 w M o u0 u1 u2).cell? a = some v :=
  cell_aside _ (by dsimp only; omega) (cell_aside _ (by dsimp only; omega) (cell_aside _ (by dsimp only; omega) h))
theorem PL3.set {w : World} {g M o : Nat} {PW : Nat → Bool} {A : Nat → Option Addr} {PQ : Nat → List Int} {Z : Nat → Nat} {PD : Nat → Int} (h : PL3 w g PW A PQ Z PD) (hne : g ≠ M) (u0 u1 u2 : Value) : PL3 (S3 w M o u0 u1 u2) g PW A PQ Z PD := fun i hi => by
  obtain ⟨h0, h1, h2⟩ := h i hi
  exact ⟨aside3 h0 hne _ _ _, aside3 h1 hne _ _ _, aside3 h2 hne _ _ _⟩
theorem P6.aside3 {w : World} {b M o : Nat} {v0 v1 v2 v3 v4 v5 : Value} (h : P6 w b v0 v1 v2 v3 v4 v5) (hne : b ≠ M) (u0 u1 u2 : Value) : P6 (S3 w M o u0 u1 u2) b v0 v1 v2 v3 v4 v5 :=
  ⟨Go.Proofs.YtpognolidbgkkaaDoor.aside3 h.1 hne _ _ _, Go.Proofs.YtpognolidbgkkaaDoor.aside3 h.2.1 hne _ _ _, Go.Proofs.YtpognolidbgkkaaDoor.aside3 h.2.2.1 hne _ _ _, Go.Proofs.YtpognolidbgkkaaDoor.aside3 h.2.2.2.1 hne _ _ _, Go.Proofs.YtpognolidbgkkaaDoor.aside3 h.2.2.2.2.1 hne _ _ _, Go.Proofs.YtpognolidbgkkaaDoor.aside3 h.2.2.2.2.2 hne _ _ _⟩
theorem P6.low {w : World} {b : Nat} {v0 v1 v2 v3 v4 v5 : Value} (h : P6 w b v0 v1 v2 v3 v4 v5) (u0 u1 u2 : Value) : P6 (S3 w b 0 u0 u1 u2) b u0 u1 u2 v3 v4 v5 :=
  ⟨cell_off _ _ _ _ _ _ (cell_off _ _ _ _ _ _ (cell_on _ _ _ _ _ h.1) (by decide)) (by decide),
   cell_off _ _ _ _ _ _ (cell_on _ _ _ _ _ (cell_off _ _ _ _ _ _ h.2.1 (by decide))) (by decide),
   cell_on _ _ _ _ _ (cell_off _ _ _ _ _ _ (cell_off _ _ _ _ _ _ h.2.2.1 (by decide)) (by decide)),
   cell_off _ _ _ _ _ _ (cell_off _ _ _ _ _ _ (cell_off _ _ _ _ _ _ h.2.2.2.1 (by decide)) (by decide)) (by decide),
   cell_off _ _ _ _ _ _ (cell_off _ _ _ _ _ _ (cell_off _ _ _ _ _ _ h.2.2.2.2.1 (by decide)) (by decide)) (by decide),
   cell_off _ _ _ _ _ _ (cell_off _ _ _ _ _ _ (cell_off _ _ _ _ _ _ h.2.2.2.2.2 (by decide)) (by decide)) (by decide)⟩
theorem P6.high {w : World} {b : Nat} {v0 v1 v2 v3 v4 v5 : Value} (h : P6 w b v0 v1 v2 v3 v4 v5) (u0 u1 u2 : Value) : P6 (S3 w b 3 u0 u1 u2) b v0 v1 v2 u0 u1 u2 :=
  ⟨cell_off _ _ _ _ _ _ (cell_off _ _ _ _ _ _ (cell_off _ _ _ _ _ _ h.1 (by decide)) (by decide)) (by decide),
   cell_off _ _ _ _ _ _ (cell_off _ _ _ _ _ _ (cell_off _ _ _ _ _ _ h.2.1 (by decide)) (by decide)) (by decide),
   cell_off _ _ _ _ _ _ (cell_off _ _ _ _ _ _ (cell_off _ _ _ _ _ _ h.2.2.1 (by decide)) (by decide)) (by decide),
   cell_off _ _ _ _ _ _ (cell_off _ _ _ _ _ _ (cell_on _ _ _ _ _ h.2.2.2.1) (by decide)) (by decide),
   cell_off _ _ _ _ _ _ (cell_on _ _ _ _ _ (cell_off _ _ _ _ _ _ h.2.2.2.2.1 (by decide))) (by decide),
   cell_on _ _ _ _ _ (cell_off _ _ _ _ _ _ (cell_off _ _ _ _ _ _ h.2.2.2.2.2 (by decide)) (by decide))⟩
theorem L6.set3 {w : World} {b M o : Nat} (h : L6 w b) (u0 u1 u2 : Value) : L6 (S3 w M o u0 u1 u2) b := fun i hi => by unfold S3; rw [frozen_set, frozen_set, frozen_set]; exact h i hi
theorem Row.set3 {bw : Bool} {lo hi : Nat} {w : World} {v : Value} {zs : List Int} (r : Row .i64 bw lo hi w v zs) {M o : Nat} (hp : hi ≤ M) (u0 u1 u2 : Value) : Row .i64 bw lo hi (S3 w M o u0 u1 u2) v zs :=
  ((r.set_other (p := ⟨M, o, none⟩) (.inr hp) u0).set_other (p := ⟨M, o + 1, none⟩) (.inr hp) u1).set_other (p := ⟨M, o + 2, none⟩) (.inr hp) u2
theorem kept_S3 {w w' : World} (k : Kept 0 0 w w') {M o : Nat} (hp : w.heap.size ≤ M) (u0 u1 u2 : Value) : Kept 0 0 w (S3 w' M o u0 u1 u2) :=
  ((k.setNew (p := ⟨M, o, none⟩) (by dsimp only; omega) u0).setNew (p := ⟨M, o + 1, none⟩) (by dsimp only; omega) u1).setNew (p := ⟨M, o + 2, none⟩) (by dsimp only; omega) u2
theorem size_S3 (w : World) (M o : Nat) (u0 u1 u2 : Value) : (S3 w M o u0 u1 u2).heap.size = w.heap.size := by unfold S3; simp [World.setCell]

theorem in_l4mul_q : ∀ (w : World) (args : Array Value), (callFunc 29 args).run Tryd.prog w = .ok (.enter 29 args) w := enters Tryd.func29 (by decide) (fun h => by cases h)

set_option maxHeartbeats 8000000 in
theorem mul7_spec {b1 b2 b3 b4 : Bool} {w1l w1h w2l w2h w3l w3h w4l w4h : Nat} {v1 v2 v3 v4 : Value} {l1 l2 l3 l4 : List Int} (s1 : Bool) (e1 : Int) (s2 : Bool) (e2 : Int) (s3 : Bool) (e3 : Int) (s4 : Bool) (e4 : Int) (w : World) (r1 : Row .i64 b1 w1l w1h w v1 l1) (r2 : Row .i64 b2 w2l w2h w v2 l2) (r3 : Row .i64 b3 w3l w3h w v3 l3) (r4 : Row .i64 b4 w4l w4h w v4 l4) (o1 : dokB s1 l1 e1 = true) (o2 : dokB s2 l2 e2 = true) (o3 : dokB s3 l3 e3 = true) (o4 : dokB s4 l4 e4 = true) :
    Calls Tryd.prog 14 #[.agg #[.bool s1, v1, .int .i64 e1, .bool s2, v2, .int .i64 e2], .agg #[.bool s3, v3, .int .i64 e3, .bool s4, v4, .int .i64 e4]] w fun e w' => ∃ v v', e = .returned (.agg #[.bool (wsg (wval ((f4 s1 s1 s2 s2) (selP (fun i j => decide ((fun i j => cmpDI (wval ((f4 s1 s1 s2 s2) i) ((f4 l1 l1 l2 l2) i) * wval ((f4 s3 s4 s3 s4) i) ((f4 l3 l4 l3 l4) i)) ((f4 e1 e1 e2 e2) i + (f4 e3 e4 e3 e4) i) (wval ((f4 s1 s1 s2 s2) j) ((f4 l1 l1 l2 l2) j) * wval ((f4 s3 s4 s3 s4) j) ((f4 l3 l4 l3 l4) j)) ((f4 e1 e1 e2 e2) j + (f4 e3 e4 e3 e4) j)) i j < 0)) 4)) ((f4 l1 l1 l2 l2) (selP (fun i j => decide ((fun i j => cmpDI (wval ((f4 s1 s1 s2 s2) i) ((f4 l1 l1 l2 l2) i) * wval ((f4 s3 s4 s3 s4) i) ((f4 l3 l4 l3 l4) i)) ((f4 e1 e1 e2 e2) i + (f4 e3 e4 e3 e4) i) (wval ((f4 s1 s1 s2 s2) j) ((f4 l1 l1 l2 l2) j) * wval ((f4 s3 s4 s3 s4) j) ((f4 l3 l4 l3 l4) j)) ((f4 e1 e1 e2 e2) j + (f4 e3 e4 e3 e4) j)) i j < 0)) 4)) * wval ((f4 s3 s4 s3 s4) (selP (fun i j => decide ((fun i j => cmpDI (wval ((f4 s1 s1 s2 s2) i) ((f4 l1 l1 l2 l2) i) * wval ((f4 s3 s4 s3 s4) i) ((f4 l3 l4 l3 l4) i)) ((f4 e1 e1 e2 e2) i + (f4 e3 e4 e3 e4) i) (wval ((f4 s1 s1 s2 s2) j) ((f4 l1 l1 l2 l2) j) * wval ((f4 s3 s4 s3 s4) j) ((f4 l3 l4 l3 l4) j)) ((f4 e1 e1 e2 e2) j + (f4 e3 e4 e3 e4) j)) i j < 0)) 4)) ((f4 l3 l4 l3 l4) (selP (fun i j => decide ((fun i j => cmpDI (wval ((f4 s1 s1 s2 s2) i) ((f4 l1 l1 l2 l2) i) * wval ((f4 s3 s4 s3 s4) i) ((f4 l3 l4 l3 l4) i)) ((f4 e1 e1 e2 e2) i + (f4 e3 e4 e3 e4) i) (wval ((f4 s1 s1 s2 s2) j) ((f4 l1 l1 l2 l2) j) * wval ((f4 s3 s4 s3 s4) j) ((f4 l3 l4 l3 l4) j)) ((f4 e1 e1 e2 e2) j + (f4 e3 e4 e3 e4) j)) i j < 0)) 4)))), v, .int .i64 (dex (wval ((f4 s1 s1 s2 s2) (selP (fun i j => decide ((fun i j => cmpDI (wval ((f4 s1 s1 s2 s2) i) ((f4 l1 l1 l2 l2) i) * wval ((f4 s3 s4 s3 s4) i) ((f4 l3 l4 l3 l4) i)) ((f4 e1 e1 e2 e2) i + (f4 e3 e4 e3 e4) i) (wval ((f4 s1 s1 s2 s2) j) ((f4 l1 l1 l2 l2) j) * wval ((f4 s3 s4 s3 s4) j) ((f4 l3 l4 l3 l4) j)) ((f4 e1 e1 e2 e2) j + (f4 e3 e4 e3 e4) j)) i j < 0)) 4)) ((f4 l1 l1 l2 l2) (selP (fun i j => decide ((fun i j => cmpDI (wval ((f4 s1 s1 s2 s2) i) ((f4 l1 l1 l2 l2) i) * wval ((f4 s3 s4 s3 s4) i) ((f4 l3 l4 l3 l4) i)) ((f4 e1 e1 e2 e2) i + (f4 e3 e4 e3 e4) i) (wval ((f4 s1 s1 s2 s2) j) ((f4 l1 l1 l2 l2) j) * wval ((f4 s3 s4 s3 s4) j) ((f4 l3 l4 l3 l4) j)) ((f4 e1 e1 e2 e2) j + (f4 e3 e4 e3 e4) j)) i j < 0)) 4)) * wval ((f4 s3 s4 s3 s4) (selP (fun i j => decide ((fun i j => cmpDI (wval ((f4 s1 s1 s2 s2) i) ((f4 l1 l1 l2 l2) i) * wval ((f4 s3 s4 s3 s4) i) ((f4 l3 l4 l3 l4) i)) ((f4 e1 e1 e2 e2) i + (f4 e3 e4 e3 e4) i) (wval ((f4 s1 s1 s2 s2) j) ((f4 l1 l1 l2 l2) j) * wval ((f4 s3 s4 s3 s4) j) ((f4 l3 l4 l3 l4) j)) ((f4 e1 e1 e2 e2) j + (f4 e3 e4 e3 e4) j)) i j < 0)) 4)) ((f4 l3 l4 l3 l4) (selP (fun i j => decide ((fun i j => cmpDI (wval ((f4 s1 s1 s2 s2) i) ((f4 l1 l1 l2 l2) i) * wval ((f4 s3 s4 s3 s4) i) ((f4 l3 l4 l3 l4) i)) ((f4 e1 e1 e2 e2) i + (f4 e3 e4 e3 e4) i) (wval ((f4 s1 s1 s2 s2) j) ((f4 l1 l1 l2 l2) j) * wval ((f4 s3 s4 s3 s4) j) ((f4 l3 l4 l3 l4) j)) ((f4 e1 e1 e2 e2) j + (f4 e3 e4 e3 e4) j)) i j < 0)) 4))) ((f4 e1 e1 e2 e2) (selP (fun i j => decide ((fun i j => cmpDI (wval ((f4 s1 s1 s2 s2) i) ((f4 l1 l1 l2 l2) i) * wval ((f4 s3 s4 s3 s4) i) ((f4 l3 l4 l3 l4) i)) ((f4 e1 e1 e2 e2) i + (f4 e3 e4 e3 e4) i) (wval ((f4 s1 s1 s2 s2) j) ((f4 l1 l1 l2 l2) j) * wval ((f4 s3 s4 s3 s4) j) ((f4 l3 l4 l3 l4) j)) ((f4 e1 e1 e2 e2) j + (f4 e3 e4 e3 e4) j)) i j < 0)) 4) + (f4 e3 e4 e3 e4) (selP (fun i j => decide ((fun i j => cmpDI (wval ((f4 s1 s1 s2 s2) i) ((f4 l1 l1 l2 l2) i) * wval ((f4 s3 s4 s3 s4) i) ((f4 l3 l4 l3 l4) i)) ((f4 e1 e1 e2 e2) i + (f4 e3 e4 e3 e4) i) (wval ((f4 s1 s1 s2 s2) j) ((f4 l1 l1 l2 l2) j) * wval ((f4 s3 s4 s3 s4) j) ((f4 l3 l4 l3 l4) j)) ((f4 e1 e1 e2 e2) j + (f4 e3 e4 e3 e4) j)) i j < 0)) 4))), .bool (wsg (wval ((f4 s1 s1 s2 s2) (selP (fun i j => decide (0 < (fun i j => cmpDI (wval ((f4 s1 s1 s2 s2) i) ((f4 l1 l1 l2 l2) i) * wval ((f4 s3 s4 s3 s4) i) ((f4 l3 l4 l3 l4) i)) ((f4 e1 e1 e2 e2) i + (f4 e3 e4 e3 e4) i) (wval ((f4 s1 s1 s2 s2) j) ((f4 l1 l1 l2 l2) j) * wval ((f4 s3 s4 s3 s4) j) ((f4 l3 l4 l3 l4) j)) ((f4 e1 e1 e2 e2) j + (f4 e3 e4 e3 e4) j)) i j)) 4)) ((f4 l1 l1 l2 l2) (selP (fun i j => decide (0 < (fun i j => cmpDI (wval ((f4 s1 s1 s2 s2) i) ((f4 l1 l1 l2 l2) i) * wval ((f4 s3 s4 s3 s4) i) ((f4 l3 l4 l3 l4) i)) ((f4 e1 e1 e2 e2) i + (f4 e3 e4 e3 e4) i) (wval ((f4 s1 s1 s2 s2) j) ((f4 l1 l1 l2 l2) j) * wval ((f4 s3 s4 s3 s4) j) ((f4 l3 l4 l3 l4) j)) ((f4 e1 e1 e2 e2) j + (f4 e3 e4 e3 e4) j)) i j)) 4)) * wval ((f4 s3 s4 s3 s4) (selP (fun i j => decide (0 < (fun i j => cmpDI (wval ((f4 s1 s1 s2 s2) i) ((f4 l1 l1 l2 l2) i) * wval ((f4 s3 s4 s3 s4) i) ((f4 l3 l4 l3 l4) i)) ((f4 e1 e1 e2 e2) i + (f4 e3 e4 e3 e4) i) (wval ((f4 s1 s1 s2 s2) j) ((f4 l1 l1 l2 l2) j) * wval ((f4 s3 s4 s3 s4) j) ((f4 l3 l4 l3 l4) j)) ((f4 e1 e1 e2 e2) j + (f4 e3 e4 e3 e4) j)) i j)) 4)) ((f4 l3 l4 l3 l4) (selP (fun i j => decide (0 < (fun i j => cmpDI (wval ((f4 s1 s1 s2 s2) i) ((f4 l1 l1 l2 l2) i) * wval ((f4 s3 s4 s3 s4) i) ((f4 l3 l4 l3 l4) i)) ((f4 e1 e1 e2 e2) i + (f4 e3 e4 e3 e4) i) (wval ((f4 s1 s1 s2 s2) j) ((f4 l1 l1 l2 l2) j) * wval ((f4 s3 s4 s3 s4) j) ((f4 l3 l4 l3 l4) j)) ((f4 e1 e1 e2 e2) j + (f4 e3 e4 e3 e4) j)) i j)) 4)))), v', .int .i64 (dex (wval ((f4 s1 s1 s2 s2) (selP (fun i j => decide (0 < (fun i j => cmpDI (wval ((f4 s1 s1 s2 s2) i) ((f4 l1 l1 l2 l2) i) * wval ((f4 s3 s4 s3 s4) i) ((f4 l3 l4 l3 l4) i)) ((f4 e1 e1 e2 e2) i + (f4 e3 e4 e3 e4) i) (wval ((f4 s1 s1 s2 s2) j) ((f4 l1 l1 l2 l2) j) * wval ((f4 s3 s4 s3 s4) j) ((f4 l3 l4 l3 l4) j)) ((f4 e1 e1 e2 e2) j + (f4 e3 e4 e3 e4) j)) i j)) 4)) ((f4 l1 l1 l2 l2) (selP (fun i j => decide (0 < (fun i j => cmpDI (wval ((f4 s1 s1 s2 s2) i) ((f4 l1 l1 l2 l2) i) * wval ((f4 s3 s4 s3 s4) i) ((f4 l3 l4 l3 l4) i)) ((f4 e1 e1 e2 e2) i + (f4 e3 e4 e3 e4) i) (wval ((f4 s1 s1 s2 s2) j) ((f4 l1 l1 l2 l2) j) * wval ((f4 s3 s4 s3 s4) j) ((f4 l3 l4 l3 l4) j)) ((f4 e1 e1 e2 e2) j + (f4 e3 e4 e3 e4) j)) i j)) 4)) * wval ((f4 s3 s4 s3 s4) (selP (fun i j => decide (0 < (fun i j => cmpDI (wval ((f4 s1 s1 s2 s2) i) ((f4 l1 l1 l2 l2) i) * wval ((f4 s3 s4 s3 s4) i) ((f4 l3 l4 l3 l4) i)) ((f4 e1 e1 e2 e2) i + (f4 e3 e4 e3 e4) i) (wval ((f4 s1 s1 s2 s2) j) ((f4 l1 l1 l2 l2) j) * wval ((f4 s3 s4 s3 s4) j) ((f4 l3 l4 l3 l4) j)) ((f4 e1 e1 e2 e2) j + (f4 e3 e4 e3 e4) j)) i j)) 4)) ((f4 l3 l4 l3 l4) (selP (fun i j => decide (0 < (fun i j => cmpDI (wval ((f4 s1 s1 s2 s2) i) ((f4 l1 l1 l2 l2) i) * wval ((f4 s3 s4 s3 s4) i) ((f4 l3 l4 l3 l4) i)) ((f4 e1 e1 e2 e2) i + (f4 e3 e4 e3 e4) i) (wval ((f4 s1 s1 s2 s2) j) ((f4 l1 l1 l2 l2) j) * wval ((f4 s3 s4 s3 s4) j) ((f4 l3 l4 l3 l4) j)) ((f4 e1 e1 e2 e2) j + (f4 e3 e4 e3 e4) j)) i j)) 4))) ((f4 e1 e1 e2 e2) (selP (fun i j => decide (0 < (fun i j => cmpDI (wval ((f4 s1 s1 s2 s2) i) ((f4 l1 l1 l2 l2) i) * wval ((f4 s3 s4 s3 s4) i) ((f4 l3 l4 l3 l4) i)) ((f4 e1 e1 e2 e2) i + (f4 e3 e4 e3 e4) i) (wval ((f4 s1 s1 s2 s2) j) ((f4 l1 l1 l2 l2) j) * wval ((f4 s3 s4 s3 s4) j) ((f4 l3 l4 l3 l4) j)) ((f4 e1 e1 e2 e2) j + (f4 e3 e4 e3 e4) j)) i j)) 4) + (f4 e3 e4 e3 e4) (selP (fun i j => decide (0 < (fun i j => cmpDI (wval ((f4 s1 s1 s2 s2) i) ((f4 l1 l1 l2 l2) i) * wval ((f4 s3 s4 s3 s4) i) ((f4 l3 l4 l3 l4) i)) ((f4 e1 e1 e2 e2) i + (f4 e3 e4 e3 e4) i) (wval ((f4 s1 s1 s2 s2) j) ((f4 l1 l1 l2 l2) j) * wval ((f4 s3 s4 s3 s4) j) ((f4 l3 l4 l3 l4) j)) ((f4 e1 e1 e2 e2) j + (f4 e3 e4 e3 e4) j)) i j)) 4)))]) ∧ Row .i64 false 0 w'.heap.size w' v (dlm (wval ((f4 s1 s1 s2 s2) (selP (fun i j => decide ((fun i j => cmpDI (wval ((f4 s1 s1 s2 s2) i) ((f4 l1 l1 l2 l2) i) * wval ((f4 s3 s4 s3 s4) i) ((f4 l3 l4 l3 l4) i)) ((f4 e1 e1 e2 e2) i + (f4 e3 e4 e3 e4) i) (wval ((f4 s1 s1 s2 s2) j) ((f4 l1 l1 l2 l2) j) * wval ((f4 s3 s4 s3 s4) j) ((f4 l3 l4 l3 l4) j)) ((f4 e1 e1 e2 e2) j + (f4 e3 e4 e3 e4) j)) i j < 0)) 4)) ((f4 l1 l1 l2 l2) (selP (fun i j => decide ((fun i j => cmpDI (wval ((f4 s1 s1 s2 s2) i) ((f4 l1 l1 l2 l2) i) * wval ((f4 s3 s4 s3 s4) i) ((f4 l3 l4 l3 l4) i)) ((f4 e1 e1 e2 e2) i + (f4 e3 e4 e3 e4) i) (wval ((f4 s1 s1 s2 s2) j) ((f4 l1 l1 l2 l2) j) * wval ((f4 s3 s4 s3 s4) j) ((f4 l3 l4 l3 l4) j)) ((f4 e1 e1 e2 e2) j + (f4 e3 e4 e3 e4) j)) i j < 0)) 4)) * wval ((f4 s3 s4 s3 s4) (selP (fun i j => decide ((fun i j => cmpDI (wval ((f4 s1 s1 s2 s2) i) ((f4 l1 l1 l2 l2) i) * wval ((f4 s3 s4 s3 s4) i) ((f4 l3 l4 l3 l4) i)) ((f4 e1 e1 e2 e2) i + (f4 e3 e4 e3 e4) i) (wval ((f4 s1 s1 s2 s2) j) ((f4 l1 l1 l2 l2) j) * wval ((f4 s3 s4 s3 s4) j) ((f4 l3 l4 l3 l4) j)) ((f4 e1 e1 e2 e2) j + (f4 e3 e4 e3 e4) j)) i j < 0)) 4)) ((f4 l3 l4 l3 l4) (selP (fun i j => decide ((fun i j => cmpDI (wval ((f4 s1 s1 s2 s2) i) ((f4 l1 l1 l2 l2) i) * wval ((f4 s3 s4 s3 s4) i) ((f4 l3 l4 l3 l4) i)) ((f4 e1 e1 e2 e2) i + (f4 e3 e4 e3 e4) i) (wval ((f4 s1 s1 s2 s2) j) ((f4 l1 l1 l2 l2) j) * wval ((f4 s3 s4 s3 s4) j) ((f4 l3 l4 l3 l4) j)) ((f4 e1 e1 e2 e2) j + (f4 e3 e4 e3 e4) j)) i j < 0)) 4)))) ∧ Row .i64 false 0 w'.heap.size w' v' (dlm (wval ((f4 s1 s1 s2 s2) (selP (fun i j => decide (0 < (fun i j => cmpDI (wval ((f4 s1 s1 s2 s2) i) ((f4 l1 l1 l2 l2) i) * wval ((f4 s3 s4 s3 s4) i) ((f4 l3 l4 l3 l4) i)) ((f4 e1 e1 e2 e2) i + (f4 e3 e4 e3 e4) i) (wval ((f4 s1 s1 s2 s2) j) ((f4 l1 l1 l2 l2) j) * wval ((f4 s3 s4 s3 s4) j) ((f4 l3 l4 l3 l4) j)) ((f4 e1 e1 e2 e2) j + (f4 e3 e4 e3 e4) j)) i j)) 4)) ((f4 l1 l1 l2 l2) (selP (fun i j => decide (0 < (fun i j => cmpDI (wval ((f4 s1 s1 s2 s2) i) ((f4 l1 l1 l2 l2) i) * wval ((f4 s3 s4 s3 s4) i) ((f4 l3 l4 l3 l4) i)) ((f4 e1 e1 e2 e2) i + (f4 e3 e4 e3 e4) i) (wval ((f4 s1 s1 s2 s2) j) ((f4 l1 l1 l2 l2) j) * wval ((f4 s3 s4 s3 s4) j) ((f4 l3 l4 l3 l4) j)) ((f4 e1 e1 e2 e2) j + (f4 e3 e4 e3 e4) j)) i j)) 4)) * wval ((f4 s3 s4 s3 s4) (selP (fun i j => decide (0 < (fun i j => cmpDI (wval ((f4 s1 s1 s2 s2) i) ((f4 l1 l1 l2 l2) i) * wval ((f4 s3 s4 s3 s4) i) ((f4 l3 l4 l3 l4) i)) ((f4 e1 e1 e2 e2) i + (f4 e3 e4 e3 e4) i) (wval ((f4 s1 s1 s2 s2) j) ((f4 l1 l1 l2 l2) j) * wval ((f4 s3 s4 s3 s4) j) ((f4 l3 l4 l3 l4) j)) ((f4 e1 e1 e2 e2) j + (f4 e3 e4 e3 e4) j)) i j)) 4)) ((f4 l3 l4 l3 l4) (selP (fun i j => decide (0 < (fun i j => cmpDI (wval ((f4 s1 s1 s2 s2) i) ((f4 l1 l1 l2 l2) i) * wval ((f4 s3 s4 s3 s4) i) ((f4 l3 l4 l3 l4) i)) ((f4 e1 e1 e2 e2) i + (f4 e3 e4 e3 e4) i) (wval ((f4 s1 s1 s2 s2) j) ((f4 l1 l1 l2 l2) j) * wval ((f4 s3 s4 s3 s4) j) ((f4 l3 l4 l3 l4) j)) ((f4 e1 e1 e2 e2) j + (f4 e3 e4 e3 e4) j)) i j)) 4)))) ∧ Kept 0 0 w w' := by
  replace r1 := r1.tight
  replace r2 := r2.tight
  replace r3 := r3.tight
  replace r4 := r4.tight
  obtain ⟨PW, hPW⟩ : ∃ f : Nat → Bool, f = (fun i => wsg (wval ((f4 s1 s1 s2 s2) i) ((f4 l1 l1 l2 l2) i) * wval ((f4 s3 s4 s3 s4) i) ((f4 l3 l4 l3 l4) i))) := ⟨_, rfl⟩
  obtain ⟨PQ, hPQ⟩ : ∃ f : Nat → List Int, f = (fun i => dlm (wval ((f4 s1 s1 s2 s2) i) ((f4 l1 l1 l2 l2) i) * wval ((f4 s3 s4 s3 s4) i) ((f4 l3 l4 l3 l4) i))) := ⟨_, rfl⟩
  obtain ⟨PD, hPD⟩ : ∃ f : Nat → Int, f = (fun i => dex (wval ((f4 s1 s1 s2 s2) i) ((f4 l1 l1 l2 l2) i) * wval ((f4 s3 s4 s3 s4) i) ((f4 l3 l4 l3 l4) i)) ((f4 e1 e1 e2 e2) i + (f4 e3 e4 e3 e4) i)) := ⟨_, rfl⟩
  obtain ⟨C, hC⟩ : ∃ f : Nat → Nat → Int, f = (fun i j => cmpDI (wval ((f4 s1 s1 s2 s2) i) ((f4 l1 l1 l2 l2) i) * wval ((f4 s3 s4 s3 s4) i) ((f4 l3 l4 l3 l4) i)) ((f4 e1 e1 e2 e2) i + (f4 e3 e4 e3 e4) i) (wval ((f4 s1 s1 s2 s2) j) ((f4 l1 l1 l2 l2) j) * wval ((f4 s3 s4 s3 s4) j) ((f4 l3 l4 l3 l4) j)) ((f4 e1 e1 e2 e2) j + (f4 e3 e4 e3 e4) j)) := ⟨_, rfl⟩
  have HT : Hid (∀ i j, C i j = -C j i) := fun i j => by rw [hC]; exact cmp_turn _ _ _ _
  have HW : Hid (∀ i, WB (PW i) (PQ i) (PD i)) := fun i => by rw [hPW, hPQ, hPD]; exact (prod_wb (dok_f4 o1 o1 o2 o2 i) (dok_f4 o3 o4 o3 o4 i)).1
  have HCM : Hid (∀ i j, cmpDI (wval (PW i) (PQ i)) (PD i) (wval (PW j) (PQ j)) (PD j) = C i j) := fun i j => by rw [hPW, hPQ, hPD, hC]; exact cmp_form (prod_wb (dok_f4 o1 o1 o2 o2 i) (dok_f4 o3 o4 o3 o4 i)).2 (prod_wb (dok_f4 o1 o1 o2 o2 j) (dok_f4 o3 o4 o3 o4 j)).2
  have HB : Hid (∀ i, PD i ≤ 9223372036854775807 ∧ -9223372036854775808 ≤ PD i) := fun i => by have h1 := (unhide HW i).2.2.1; have h2 := (unhide HW i).2.2.2; exact ⟨by omega, by omega⟩
  obtain ⟨i0, hi0⟩ : ∃ i, (selP (fun i j => decide ((fun i j => cmpDI (wval ((f4 s1 s1 s2 s2) i) ((f4 l1 l1 l2 l2) i) * wval ((f4 s3 s4 s3 s4) i) ((f4 l3 l4 l3 l4) i)) ((f4 e1 e1 e2 e2) i + (f4 e3 e4 e3 e4) i) (wval ((f4 s1 s1 s2 s2) j) ((f4 l1 l1 l2 l2) j) * wval ((f4 s3 s4 s3 s4) j) ((f4 l3 l4 l3 l4) j)) ((f4 e1 e1 e2 e2) j + (f4 e3 e4 e3 e4) j)) i j < 0)) 4) = i := ⟨_, rfl⟩
  obtain ⟨i1, hi1⟩ : ∃ i, (selP (fun i j => decide (0 < (fun i j => cmpDI (wval ((f4 s1 s1 s2 s2) i) ((f4 l1 l1 l2 l2) i) * wval ((f4 s3 s4 s3 s4) i) ((f4 l3 l4 l3 l4) i)) ((f4 e1 e1 e2 e2) i + (f4 e3 e4 e3 e4) i) (wval ((f4 s1 s1 s2 s2) j) ((f4 l1 l1 l2 l2) j) * wval ((f4 s3 s4 s3 s4) j) ((f4 l3 l4 l3 l4) j)) ((f4 e1 e1 e2 e2) j + (f4 e3 e4 e3 e4) j)) i j)) 4) = i := ⟨_, rfl⟩
  rw [hi0, hi1]
  rw [show wsg (wval ((f4 s1 s1 s2 s2) i0) ((f4 l1 l1 l2 l2) i0) * wval ((f4 s3 s4 s3 s4) i0) ((f4 l3 l4 l3 l4) i0)) = PW i0 from by rw [hPW], show dex (wval ((f4 s1 s1 s2 s2) i0) ((f4 l1 l1 l2 l2) i0) * wval ((f4 s3 s4 s3 s4) i0) ((f4 l3 l4 l3 l4) i0)) ((f4 e1 e1 e2 e2) i0 + (f4 e3 e4 e3 e4) i0) = PD i0 from by rw [hPD], show dlm (wval ((f4 s1 s1 s2 s2) i0) ((f4 l1 l1 l2 l2) i0) * wval ((f4 s3 s4 s3 s4) i0) ((f4 l3 l4 l3 l4) i0)) = PQ i0 from by rw [hPQ]]
  rw [show wsg (wval ((f4 s1 s1 s2 s2) i1) ((f4 l1 l1 l2 l2) i1) * wval ((f4 s3 s4 s3 s4) i1) ((f4 l3 l4 l3 l4) i1)) = PW i1 from by rw [hPW], show dex (wval ((f4 s1 s1 s2 s2) i1) ((f4 l1 l1 l2 l2) i1) * wval ((f4 s3 s4 s3 s4) i1) ((f4 l3 l4 l3 l4) i1)) ((f4 e1 e1 e2 e2) i1 + (f4 e3 e4 e3 e4) i1) = PD i1 from by rw [hPD], show dlm (wval ((f4 s1 s1 s2 s2) i1) ((f4 l1 l1 l2 l2) i1) * wval ((f4 s3 s4 s3 s4) i1) ((f4 l3 l4 l3 l4) i1)) = PQ i1 from by rw [hPQ]]
  have HI0 : Hid (selP (fun i j => decide (C i j < 0)) 4 = i0) := by show _ = _; rw [hC]; exact hi0
  have HI1 : Hid (selP (fun i j => decide (0 < C i j)) 4 = i1) := by show _ = _; rw [hC]; exact hi1
  have HPW := hide hPW
  have HPQ := hide hPQ
  have HPD := hide hPD
  clear hi0 hi1 hC hPW hPQ hPD
  obtain ⟨Wn, hn0⟩ : ∃ wz, wz = (((w.alloc (.cells #[.bool s1, v1, .int .i64 e1, .bool s2, v2, .int .i64 e2] 38)).alloc (.cells #[.bool s3, v3, .int .i64 e3, .bool s4, v4, .int .i64 e4] 38)).alloc (.cells #[.bool false, .slice none 0 0, .int .i64 0, .bool false, .slice none 0 0, .int .i64 0] 38)) := ⟨_, rfl⟩
  have k0 : Kept 0 0 w Wn := by rw [hn0]; exact ((((Kept.refl 0 0 w).alloc _).alloc _).alloc _)
  have bp0 : Wn.cell? ⟨w.heap.size, 0, none⟩ = some (.bool s1) := by rw [hn0]; exact old_cell _ (old_cell _ (new_cell2 _ _ _ _ _ _ (by simp) rfl))
  have bp1 : Wn.cell? ⟨w.heap.size, 1, none⟩ = some (v1) := by rw [hn0]; exact old_cell _ (old_cell _ (new_cell2 _ _ _ _ _ _ (by simp) rfl))
  have bp2 : Wn.cell? ⟨w.heap.size, 2, none⟩ = some (.int .i64 e1) := by rw [hn0]; exact old_cell _ (old_cell _ (new_cell2 _ _ _ _ _ _ (by simp) rfl))
  have bp3 : Wn.cell? ⟨w.heap.size, 3, none⟩ = some (.bool s2) := by rw [hn0]; exact old_cell _ (old_cell _ (new_cell2 _ _ _ _ _ _ (by simp) rfl))
  have bp4 : Wn.cell? ⟨w.heap.size, 4, none⟩ = some (v2) := by rw [hn0]; exact old_cell _ (old_cell _ (new_cell2 _ _ _ _ _ _ (by simp) rfl))
  have bp5 : Wn.cell? ⟨w.heap.size, 5, none⟩ = some (.int .i64 e2) := by rw [hn0]; exact old_cell _ (old_cell _ (new_cell2 _ _ _ _ _ _ (by simp) rfl))
  have bq0 : Wn.cell? ⟨w.heap.size + 1, 0, none⟩ = some (.bool s3) := by rw [hn0]; exact old_cell _ (new_cell2 _ _ _ _ _ _ (by simp) rfl)
  have bq1 : Wn.cell? ⟨w.heap.size + 1, 1, none⟩ = some (v3) := by rw [hn0]; exact old_cell _ (new_cell2 _ _ _ _ _ _ (by simp) rfl)
  have bq2 : Wn.cell? ⟨w.heap.size + 1, 2, none⟩ = some (.int .i64 e3) := by rw [hn0]; exact old_cell _ (new_cell2 _ _ _ _ _ _ (by simp) rfl)
  have bq3 : Wn.cell? ⟨w.heap.size + 1, 3, none⟩ = some (.bool s4) := by rw [hn0]; exact old_cell _ (new_cell2 _ _ _ _ _ _ (by simp) rfl)
  have bq4 : Wn.cell? ⟨w.heap.size + 1, 4, none⟩ = some (v4) := by rw [hn0]; exact old_cell _ (new_cell2 _ _ _ _ _ _ (by simp) rfl)
  have bq5 : Wn.cell? ⟨w.heap.size + 1, 5, none⟩ = some (.int .i64 e4) := by rw [hn0]; exact old_cell _ (new_cell2 _ _ _ _ _ _ (by simp) rfl)
  have R0 : Wn.cell? ⟨w.heap.size + 2, 0, none⟩ = some (.bool false) := by rw [hn0]; exact new_cell2 _ _ _ _ _ _ (by simp) rfl
  have Ba : Wn.frozen? ⟨w.heap.size + 2, 0, none⟩ = false := by rw [hn0]; exact new_loose2 _ _ _ _ _ (by simp)
  have R1 : Wn.cell? ⟨w.heap.size + 2, 1, none⟩ = some (.slice none 0 0) := by rw [hn0]; exact new_cell2 _ _ _ _ _ _ (by simp) rfl
  have Bb : Wn.frozen? ⟨w.heap.size + 2, 1, none⟩ = false := by rw [hn0]; exact new_loose2 _ _ _ _ _ (by simp)
  have R2 : Wn.cell? ⟨w.heap.size + 2, 2, none⟩ = some (.int .i64 0) := by rw [hn0]; exact new_cell2 _ _ _ _ _ _ (by simp) rfl
  have Bc : Wn.frozen? ⟨w.heap.size + 2, 2, none⟩ = false := by rw [hn0]; exact new_loose2 _ _ _ _ _ (by simp)
  have R3 : Wn.cell? ⟨w.heap.size + 2, 3, none⟩ = some (.bool false) := by rw [hn0]; exact new_cell2 _ _ _ _ _ _ (by simp) rfl
  have Bd : Wn.frozen? ⟨w.heap.size + 2, 3, none⟩ = false := by rw [hn0]; exact new_loose2 _ _ _ _ _ (by simp)
  have R4 : Wn.cell? ⟨w.heap.size + 2, 4, none⟩ = some (.slice none 0 0) := by rw [hn0]; exact new_cell2 _ _ _ _ _ _ (by simp) rfl
  have Be : Wn.frozen? ⟨w.heap.size + 2, 4, none⟩ = false := by rw [hn0]; exact new_loose2 _ _ _ _ _ (by simp)
  have R5 : Wn.cell? ⟨w.heap.size + 2, 5, none⟩ = some (.int .i64 0) := by rw [hn0]; exact new_cell2 _ _ _ _ _ _ (by simp) rfl
  have Bf : Wn.frozen? ⟨w.heap.size + 2, 5, none⟩ = false := by rw [hn0]; exact new_loose2 _ _ _ _ _ (by simp)
  subst hn0
  replace r1 := r1.kept k0 (by omega)
  replace r2 := r2.kept k0 (by omega)
  replace r3 := r3.kept k0 (by omega)
  replace r4 := r4.kept k0 (by omega)
  have s0 : (((w.alloc (.cells #[.bool s1, v1, .int .i64 e1, .bool s2, v2, .int .i64 e2] 38)).alloc (.cells #[.bool s3, v3, .int .i64 e3, .bool s4, v4, .int .i64 e4] 38)).alloc (.cells #[.bool false, .slice none 0 0, .int .i64 0, .bool false, .slice none 0 0, .int .i64 0] 38)).heap.size = w.heap.size + 3 := by simp
  obtain ⟨a1, c1, hv⟩ := r1.form'
  subst hv
  obtain ⟨a2, c2, hv⟩ := r2.form'
  subst hv
  obtain ⟨a3, c3, hv⟩ := r3.form'
  subst hv
  obtain ⟨a4, c4, hv⟩ := r4.form'
  subst hv
  have K := hide (k0)
  clear k0
  have S0 := hide s0
  clear s0
  go_enter Tryd.func14, Tryd.ntmps14
  go_wp2_with fail
  generalize (((w.alloc (.cells #[.bool s1, .slice a1 l1.length c1, .int .i64 e1, .bool s2, .slice a2 l2.length c2, .int .i64 e2] 38)).alloc (.cells #[.bool s3, .slice a3 l3.length c3, .int .i64 e3, .bool s4, .slice a4 l4.length c4, .int .i64 e4] 38)).alloc (.cells #[.bool false, .slice none 0 0, .int .i64 0, .bool false, .slice none 0 0, .int .i64 0] 38)) = W at *
  have mk0 := fun w' r1' r3' => mul4_spec (b1 := b1) (l1 := w1l) (h1 := w.heap.size) (b2 := b3) (l2 := w3l) (h2 := w.heap.size) (v1 := .slice a1 l1.length c1) (v2 := .slice a3 l3.length c3) (xs := l1) (ys := l3) s1 s3 e1 e3 w' r1' r3' o1 o3
  rw [show wsg (wval s1 l1 * wval s3 l3) = PW 0 from by rw [unhide HPW]; rfl, show dex (wval s1 l1 * wval s3 l3) (e1 + e3) = PD 0 from by rw [unhide HPD]; rfl, show dlm (wval s1 l1 * wval s3 l3) = PQ 0 from by rw [unhide HPQ]; rfl] at mk0
  have mk1 := fun w' r1' r3' => mul4_spec (b1 := b1) (l1 := w1l) (h1 := w.heap.size) (b2 := b4) (l2 := w4l) (h2 := w.heap.size) (v1 := .slice a1 l1.length c1) (v2 := .slice a4 l4.length c4) (xs := l1) (ys := l4) s1 s4 e1 e4 w' r1' r3' o1 o4
  rw [show wsg (wval s1 l1 * wval s4 l4) = PW 1 from by rw [unhide HPW]; rfl, show dex (wval s1 l1 * wval s4 l4) (e1 + e4) = PD 1 from by rw [unhide HPD]; rfl, show dlm (wval s1 l1 * wval s4 l4) = PQ 1 from by rw [unhide HPQ]; rfl] at mk1
  have mk2 := fun w' r1' r3' => mul4_spec (b1 := b2) (l1 := w2l) (h1 := w.heap.size) (b2 := b3) (l2 := w3l) (h2 := w.heap.size) (v1 := .slice a2 l2.length c2) (v2 := .slice a3 l3.length c3) (xs := l2) (ys := l3) s2 s3 e2 e3 w' r1' r3' o2 o3
  rw [show wsg (wval s2 l2 * wval s3 l3) = PW 2 from by rw [unhide HPW]; rfl, show dex (wval s2 l2 * wval s3 l3) (e2 + e3) = PD 2 from by rw [unhide HPD]; rfl, show dlm (wval s2 l2 * wval s3 l3) = PQ 2 from by rw [unhide HPQ]; rfl] at mk2
  have mk3 := fun w' r1' r3' => mul4_spec (b1 := b2) (l1 := w2l) (h1 := w.heap.size) (b2 := b4) (l2 := w4l) (h2 := w.heap.size) (v1 := .slice a2 l2.length c2) (v2 := .slice a4 l4.length c4) (xs := l2) (ys := l4) s2 s4 e2 e4 w' r1' r3' o2 o4
  rw [show wsg (wval s2 l2 * wval s4 l4) = PW 3 from by rw [unhide HPW]; rfl, show dex (wval s2 l2 * wval s4 l4) (e2 + e4) = PD 3 from by rw [unhide HPD]; rfl, show dlm (wval s2 l2 * wval s4 l4) = PQ 3 from by rw [unhide HPQ]; rfl] at mk3
  clear HPW HPQ HPD
  have kd := (Kept.refl 0 0 W).drew
  revert r1 r2 r3 r4; refine kd.n4 ?_; intro r1 r2 r3 r4
  replace Ba := kd.loose0 (zbl R0) Ba
  replace Bb := kd.loose0 (zbl R1) Bb
  replace Bc := kd.loose0 (zbl R2) Bc
  replace Bd := kd.loose0 (zbl R3) Bd
  replace Be := kd.loose0 (zbl R4) Be
  replace Bf := kd.loose0 (zbl R5) Bf
  revert bp0 bp1 bp2 bp3 bp4 bp5 bq0 bq1 bq2 bq3 bq4 bq5; refine kd.m12 ?_; intro bp0 bp1 bp2 bp3 bp4 bp5 bq0 bq1 bq2 bq3 bq4 bq5
  revert R0 R1 R2 R3 R4 R5; refine kd.m6 ?_; intro R0 R1 R2 R3 R4 R5
  replace K := hide ((unhide K).trans kd)
  have z1 := kd.size
  clear kd
  refine wp_region_held_drew (S := (fun w' => w'.cell? ⟨w.heap.size, 0, none⟩ = some (.bool s1) ∧ w'.cell? ⟨w.heap.size, 1, none⟩ = some (.slice a1 l1.length c1) ∧ w'.cell? ⟨w.heap.size, 2, none⟩ = some (.int .i64 e1) ∧ w'.cell? ⟨w.heap.size, 3, none⟩ = some (.bool s2) ∧ w'.cell? ⟨w.heap.size, 4, none⟩ = some (.slice a2 l2.length c2) ∧ w'.cell? ⟨w.heap.size, 5, none⟩ = some (.int .i64 e2) ∧ w'.cell? ⟨w.heap.size + 1, 0, none⟩ = some (.bool s3) ∧ w'.cell? ⟨w.heap.size + 1, 1, none⟩ = some (.slice a3 l3.length c3) ∧ w'.cell? ⟨w.heap.size + 1, 2, none⟩ = some (.int .i64 e3) ∧ w'.cell? ⟨w.heap.size + 1, 3, none⟩ = some (.bool s4) ∧ w'.cell? ⟨w.heap.size + 1, 4, none⟩ = some (.slice a4 l4.length c4) ∧ w'.cell? ⟨w.heap.size + 1, 5, none⟩ = some (.int .i64 e4))) (by kernel_rfl) ?_ (fun hH => ?_)
  ·exact ⟨bp0, bp1, bp2, bp3, bp4, bp5, bq0, bq1, bq2, bq3, bq4, bq5⟩
  generalize W.drew = wd at *
  refine wT (i := 0) (v := .pointer (some ⟨w.heap.size, 0, none⟩)) rfl (Or.inl ⟨by rfl, ?_⟩) hH ?_
  ·intro wq hSw
   try dsimp only at hSw
   go_simp
  try simp only [Act.put, zq1, zq2, zq3, zq4, zq5, zq6]
  refine wT (i := 1) (v := .agg #[.bool s1, .slice a1 l1.length c1, .int .i64 e1]) rfl (Or.inl ⟨by rfl, ?_⟩) hH ?_
  ·intro wq hSw
   try dsimp only at hSw
   go_simp
  try simp only [Act.put, zq1, zq2, zq3, zq4, zq5, zq6]
  refine wT (i := 2) (v := .pointer (some ⟨w.heap.size + 1, 0, none⟩)) rfl (Or.inl ⟨by rfl, ?_⟩) hH ?_
  ·intro wq hSw
   try dsimp only at hSw
   go_simp
  try simp only [Act.put, zq1, zq2, zq3, zq4, zq5, zq6]
  refine wT (i := 3) (v := .agg #[.bool s3, .slice a3 l3.length c3, .int .i64 e3]) rfl (Or.inl ⟨by rfl, ?_⟩) hH ?_
  ·intro wq hSw
   try dsimp only at hSw
   go_simp
  try simp only [Act.put, zq1, zq2, zq3, zq4, zq5, zq6]
  refine wT (i := 5) (v := .pointer (some ⟨w.heap.size, 0, none⟩)) rfl (Or.inl ⟨by rfl, ?_⟩) hH ?_
  ·intro wq hSw
   try dsimp only at hSw
   go_simp
  try simp only [Act.put, zq1, zq2, zq3, zq4, zq5, zq6]
  refine wT (i := 6) (v := .agg #[.bool s1, .slice a1 l1.length c1, .int .i64 e1]) rfl (Or.inl ⟨by rfl, ?_⟩) hH ?_
  ·intro wq hSw
   try dsimp only at hSw
   go_simp
  try simp only [Act.put, zq1, zq2, zq3, zq4, zq5, zq6]
  refine wT (i := 7) (v := .pointer (some ⟨w.heap.size + 1, 3, none⟩)) rfl (Or.inl ⟨by rfl, ?_⟩) hH ?_
  ·intro wq hSw
   try dsimp only at hSw
   go_simp
  try simp only [Act.put, zq1, zq2, zq3, zq4, zq5, zq6]
  refine wT (i := 8) (v := .agg #[.bool s4, .slice a4 l4.length c4, .int .i64 e4]) rfl (Or.inl ⟨by rfl, ?_⟩) hH ?_
  ·intro wq hSw
   try dsimp only at hSw
   go_simp
  try simp only [Act.put, zq1, zq2, zq3, zq4, zq5, zq6]
  refine wT (i := 10) (v := .pointer (some ⟨w.heap.size, 3, none⟩)) rfl (Or.inl ⟨by rfl, ?_⟩) hH ?_
  ·intro wq hSw
   try dsimp only at hSw
   go_simp
  try simp only [Act.put, zq1, zq2, zq3, zq4, zq5, zq6]
  refine wT (i := 11) (v := .agg #[.bool s2, .slice a2 l2.length c2, .int .i64 e2]) rfl (Or.inl ⟨by rfl, ?_⟩) hH ?_
  ·intro wq hSw
   try dsimp only at hSw
   go_simp
  try simp only [Act.put, zq1, zq2, zq3, zq4, zq5, zq6]
  refine wT (i := 12) (v := .pointer (some ⟨w.heap.size + 1, 0, none⟩)) rfl (Or.inl ⟨by rfl, ?_⟩) hH ?_
  ·intro wq hSw
   try dsimp only at hSw
   go_simp
  try simp only [Act.put, zq1, zq2, zq3, zq4, zq5, zq6]
  refine wT (i := 13) (v := .agg #[.bool s3, .slice a3 l3.length c3, .int .i64 e3]) rfl (Or.inl ⟨by rfl, ?_⟩) hH ?_
  ·intro wq hSw
   try dsimp only at hSw
   go_simp
  try simp only [Act.put, zq1, zq2, zq3, zq4, zq5, zq6]
  refine wT (i := 15) (v := .pointer (some ⟨w.heap.size, 3, none⟩)) rfl (Or.inl ⟨by rfl, ?_⟩) hH ?_
  ·intro wq hSw
   try dsimp only at hSw
   go_simp
  try simp only [Act.put, zq1, zq2, zq3, zq4, zq5, zq6]
  refine wT (i := 16) (v := .agg #[.bool s2, .slice a2 l2.length c2, .int .i64 e2]) rfl (Or.inl ⟨by rfl, ?_⟩) hH ?_
  ·intro wq hSw
   try dsimp only at hSw
   go_simp
  try simp only [Act.put, zq1, zq2, zq3, zq4, zq5, zq6]
  refine wT (i := 17) (v := .pointer (some ⟨w.heap.size + 1, 3, none⟩)) rfl (Or.inl ⟨by rfl, ?_⟩) hH ?_
  ·intro wq hSw
   try dsimp only at hSw
   go_simp
  try simp only [Act.put, zq1, zq2, zq3, zq4, zq5, zq6]
  refine wT (i := 18) (v := .agg #[.bool s4, .slice a4 l4.length c4, .int .i64 e4]) rfl (Or.inl ⟨by rfl, ?_⟩) hH ?_
  ·intro wq hSw
   try dsimp only at hSw
   go_simp
  try simp only [Act.put, zq1, zq2, zq3, zq4, zq5, zq6]
  refine wR 4 (by kernel_rfl) rfl (fun KK hK => ?_)
  simp only [zq1, zq2, zq3]
  rw [if_pos (by rfl)]
  refine wps2 29 (.tmp 9) (.tmp 11) _ rfl in_l4mul_q (.agg #[.bool s1, .slice a1 l1.length c1, .int .i64 e1]) (.agg #[.bool s3, .slice a3 l3.length c3, .int .i64 e3]) rfl rfl (mk0 _ r1 r3) ?_
  rintro e w2 ⟨vR0, rfl, rR0, k2⟩
  refine ⟨_, rfl, ?_⟩
  revert r1 r2 r3 r4; refine k2.n4 ?_; intro r1 r2 r3 r4
  replace Ba := k2.loose0 (zbl R0) Ba
  replace Bb := k2.loose0 (zbl R1) Bb
  replace Bc := k2.loose0 (zbl R2) Bc
  replace Bd := k2.loose0 (zbl R3) Bd
  replace Be := k2.loose0 (zbl R4) Be
  replace Bf := k2.loose0 (zbl R5) Bf
  revert bp0 bp1 bp2 bp3 bp4 bp5 bq0 bq1 bq2 bq3 bq4 bq5; refine k2.m12 ?_; intro bp0 bp1 bp2 bp3 bp4 bp5 bq0 bq1 bq2 bq3 bq4 bq5
  revert R0 R1 R2 R3 R4 R5; refine k2.m6 ?_; intro R0 R1 R2 R3 R4 R5
  replace K := hide ((unhide K).trans k2)
  have z3 := k2.size
  clear k2
  clear hH
  refine hK.out _ _ ?_ (fun hH => ?_)
  ·exact ⟨bp0, bp1, bp2, bp3, bp4, bp5, bq0, bq1, bq2, bq3, bq4, bq5⟩
  clear hK KK
  try simp only [Act.put, zq1, zq2, zq3, zq4, zq5, zq6]
  obtain ⟨z0a, z0c, hv⟩ := Row.form' rR0
  subst hv
  clear mk0
  refine wR 9 (by kernel_rfl) rfl (fun KK hK => ?_)
  simp only [zq1, zq2, zq3]
  rw [if_pos (by rfl)]
  refine wps2 29 (.tmp 14) (.tmp 16) _ rfl in_l4mul_q (.agg #[.bool s1, .slice a1 l1.length c1, .int .i64 e1]) (.agg #[.bool s4, .slice a4 l4.length c4, .int .i64 e4]) rfl rfl (mk1 _ r1 r4) ?_
  rintro e w4 ⟨vR1, rfl, rR1, k4⟩
  refine ⟨_, rfl, ?_⟩
  replace r1 := r1.kp k4
  replace r2 := r2.kp k4
  replace r3 := r3.kp k4
  replace r4 := r4.kp k4
  replace rR0 := rR0.kp k4
  replace Ba := k4.loose0 (zbl R0) Ba
  replace Bb := k4.loose0 (zbl R1) Bb
  replace Bc := k4.loose0 (zbl R2) Bc
  replace Bd := k4.loose0 (zbl R3) Bd
  replace Be := k4.loose0 (zbl R4) Be
  replace Bf := k4.loose0 (zbl R5) Bf
  revert bp0 bp1 bp2 bp3 bp4 bp5 bq0 bq1 bq2 bq3 bq4 bq5; refine k4.m12 ?_; intro bp0 bp1 bp2 bp3 bp4 bp5 bq0 bq1 bq2 bq3 bq4 bq5
  revert R0 R1 R2 R3 R4 R5; refine k4.m6 ?_; intro R0 R1 R2 R3 R4 R5
  replace K := hide ((unhide K).trans k4)
  have z5 := k4.size
  clear k4
  clear hH
  refine hK.out _ _ ?_ (fun hH => ?_)
  ·exact ⟨bp0, bp1, bp2, bp3, bp4, bp5, bq0, bq1, bq2, bq3, bq4, bq5⟩
  clear hK KK
  try simp only [Act.put, zq1, zq2, zq3, zq4, zq5, zq6]
  obtain ⟨z1a, z1c, hv⟩ := Row.form' rR1
  subst hv
  clear mk1
  refine wR 14 (by kernel_rfl) rfl (fun KK hK => ?_)
  simp only [zq1, zq2, zq3]
  rw [if_pos (by rfl)]
  refine wps2 29 (.tmp 19) (.tmp 21) _ rfl in_l4mul_q (.agg #[.bool s2, .slice a2 l2.length c2, .int .i64 e2]) (.agg #[.bool s3, .slice a3 l3.length c3, .int .i64 e3]) rfl rfl (mk2 _ r2 r3) ?_
  rintro e w6 ⟨vR2, rfl, rR2, k6⟩
  refine ⟨_, rfl, ?_⟩
  replace r1 := r1.kp k6
  replace r2 := r2.kp k6
  replace r3 := r3.kp k6
  replace r4 := r4.kp k6
  replace rR0 := rR0.kp k6
  replace rR1 := rR1.kp k6
  replace Ba := k6.loose0 (zbl R0) Ba
  replace Bb := k6.loose0 (zbl R1) Bb
  replace Bc := k6.loose0 (zbl R2) Bc
  replace Bd := k6.loose0 (zbl R3) Bd
  replace Be := k6.loose0 (zbl R4) Be
  replace Bf := k6.loose0 (zbl R5) Bf
  revert bp0 bp1 bp2 bp3 bp4 bp5 bq0 bq1 bq2 bq3 bq4 bq5; refine k6.m12 ?_; intro bp0 bp1 bp2 bp3 bp4 bp5 bq0 bq1 bq2 bq3 bq4 bq5
  revert R0 R1 R2 R3 R4 R5; refine k6.m6 ?_; intro R0 R1 R2 R3 R4 R5
  replace K := hide ((unhide K).trans k6)
  have z7 := k6.size
  clear k6
  clear hH
  refine hK.out _ _ ?_ (fun hH => ?_)
  ·exact ⟨bp0, bp1, bp2, bp3, bp4, bp5, bq0, bq1, bq2, bq3, bq4, bq5⟩
  clear hK KK
  try simp only [Act.put, zq1, zq2, zq3, zq4, zq5, zq6]
  obtain ⟨z2a, z2c, hv⟩ := Row.form' rR2
  subst hv
  clear mk2
  refine wR 19 (by kernel_rfl) rfl (fun KK hK => ?_)
  simp only [zq1, zq2, zq3]
  rw [if_pos (by rfl)]
  refine wps2 29 (.tmp 24) (.tmp 26) _ rfl in_l4mul_q (.agg #[.bool s2, .slice a2 l2.length c2, .int .i64 e2]) (.agg #[.bool s4, .slice a4 l4.length c4, .int .i64 e4]) rfl rfl (mk3 _ r2 r4) ?_
  rintro e w8 ⟨vR3, rfl, rR3, k8⟩
  refine ⟨_, rfl, ?_⟩
  revert r1 r2 r3 r4 rR0 rR1; refine k8.n6 ?_; intro r1 r2 r3 r4 rR0 rR1
  replace rR2 := rR2.kp k8
  replace Ba := k8.loose0 (zbl R0) Ba
  replace Bb := k8.loose0 (zbl R1) Bb
  replace Bc := k8.loose0 (zbl R2) Bc
  replace Bd := k8.loose0 (zbl R3) Bd
  replace Be := k8.loose0 (zbl R4) Be
  replace Bf := k8.loose0 (zbl R5) Bf
  revert bp0 bp1 bp2 bp3 bp4 bp5 bq0 bq1 bq2 bq3 bq4 bq5; refine k8.m12 ?_; intro bp0 bp1 bp2 bp3 bp4 bp5 bq0 bq1 bq2 bq3 bq4 bq5
  revert R0 R1 R2 R3 R4 R5; refine k8.m6 ?_; intro R0 R1 R2 R3 R4 R5
  replace K := hide ((unhide K).trans k8)
  have z9 := k8.size
  clear k8
  clear hH
  refine hK.out _ _ ?_ (fun hH => ?_)
  ·exact ⟨bp0, bp1, bp2, bp3, bp4, bp5, bq0, bq1, bq2, bq3, bq4, bq5⟩
  clear hK KK
  try simp only [Act.put, zq1, zq2, zq3, zq4, zq5, zq6]
  obtain ⟨z3a, z3c, hv⟩ := Row.form' rR3
  subst hv
  clear mk3
  refine wR 20 (by kernel_rfl) rfl (fun KK hK => ?_)
  simp only [zq1, zq2, zq3]
  rw [if_pos (by rfl)]
  go_simp
  obtain ⟨A, hA⟩ : ∃ f, f = f4 z0a z1a z2a z3a := ⟨_, rfl⟩
  obtain ⟨Z, hZ⟩ : ∃ f, f = f4 z0c z1c z2c z3c := ⟨_, rfl⟩
  have F : PL3 (w8.alloc (.cells #[.bool (PW 0), .slice z0a (PQ 0).length z0c, .int .i64 (PD 0), .bool (PW 1), .slice z1a (PQ 1).length z1c, .int .i64 (PD 1), .bool (PW 2), .slice z2a (PQ 2).length z2c, .int .i64 (PD 2), .bool (PW 3), .slice z3a (PQ 3).length z3c, .int .i64 (PD 3)] 36)) w8.heap.size PW A PQ Z PD := fun q hq => by
   rw [hA, hZ]
   obtain rfl | rfl | rfl | rfl : q = 0 ∨ q = 1 ∨ q = 2 ∨ q = 3 := by omega
   all_goals exact ⟨new_cell2 _ _ _ _ _ _ rfl rfl, new_cell2 _ _ _ _ _ _ rfl rfl, new_cell2 _ _ _ _ _ _ rfl rfl⟩
  have RW0 : ∀ q, q < 4 → Row .i64 false (w.heap.size + 3) w8.heap.size w8 (.slice (A q) (PQ q).length (Z q)) (PQ q) := fun q hq => by
   have sS0 := unhide S0
   rw [hA, hZ]
   obtain rfl | rfl | rfl | rfl : q = 0 ∨ q = 1 ∨ q = 2 ∨ q = 3 := by omega
   ·exact rR0.read.wider (by omega) (by omega)
   ·exact rR1.read.wider (by omega) (by omega)
   ·exact rR2.read.wider (by omega) (by omega)
   ·exact rR3.read.wider (by omega) (by omega)
  have kn := (Kept.refl 0 0 w8).alloc (.cells #[.bool (PW 0), .slice z0a (PQ 0).length z0c, .int .i64 (PD 0), .bool (PW 1), .slice z1a (PQ 1).length z1c, .int .i64 (PD 1), .bool (PW 2), .slice z2a (PQ 2).length z2c, .int .i64 (PD 2), .bool (PW 3), .slice z3a (PQ 3).length z3c, .int .i64 (PD 3)] 36)
  have sz9 : w8.heap.size < (w8.alloc (.cells #[.bool (PW 0), .slice z0a (PQ 0).length z0c, .int .i64 (PD 0), .bool (PW 1), .slice z1a (PQ 1).length z1c, .int .i64 (PD 1), .bool (PW 2), .slice z2a (PQ 2).length z2c, .int .i64 (PD 2), .bool (PW 3), .slice z3a (PQ 3).length z3c, .int .i64 (PD 3)] 36)).heap.size := by simp
  revert r1 r2 r3 r4 rR0 rR1; refine kn.n6 ?_; intro r1 r2 r3 r4 rR0 rR1
  replace rR2 := rR2.kp kn
  replace rR3 := rR3.kp kn
  replace Ba := kn.loose0 (zbl R0) Ba
  replace Bb := kn.loose0 (zbl R1) Bb
  replace Bc := kn.loose0 (zbl R2) Bc
  replace Bd := kn.loose0 (zbl R3) Bd
  replace Be := kn.loose0 (zbl R4) Be
  replace Bf := kn.loose0 (zbl R5) Bf
  revert bp0 bp1 bp2 bp3 bp4 bp5 bq0 bq1 bq2 bq3 bq4 bq5; refine kn.m12 ?_; intro bp0 bp1 bp2 bp3 bp4 bp5 bq0 bq1 bq2 bq3 bq4 bq5
  revert R0 R1 R2 R3 R4 R5; refine kn.m6 ?_; intro R0 R1 R2 R3 R4 R5
  replace K := hide ((unhide K).trans kn)
  have z10 := kn.size
  have RW := fun q hq => (RW0 q hq).kept kn (.inr (.inr (Nat.le_refl 0)))
  clear kn RW0 hA hZ
  clear hH
  refine hK.out _ _ ?_ (fun hH => ?_)
  ·exact ⟨bp0, bp1, bp2, bp3, bp4, bp5, bq0, bq1, bq2, bq3, bq4, bq5⟩
  clear hK KK
  try simp only [Act.put, zq1, zq2, zq3, zq4, zq5, zq6]
  generalize w8.alloc (.cells #[.bool (PW 0), .slice z0a (PQ 0).length z0c, .int .i64 (PD 0), .bool (PW 1), .slice z1a (PQ 1).length z1c, .int .i64 (PD 1), .bool (PW 2), .slice z2a (PQ 2).length z2c, .int .i64 (PD 2), .bool (PW 3), .slice z3a (PQ 3).length z3c, .int .i64 (PD 3)] 36) = wp at *
  generalize hg : w8.heap.size = g at *
  refine wT (i := 21) (v := .slice (some ⟨g, 0, none⟩) 4 4) rfl (Or.inl ⟨by rfl, ?_⟩) hH ?_
  ·intro wq hSw
   try dsimp only at hSw
   go_simp
  try simp only [Act.put, zq1, zq2, zq3, zq4, zq5, zq6]
  refine wpAnyH_done (by kernel_rfl) ?_ _
  clear hH r1 r2 r3 r4 rR0 rR1 rR2 rR3 bp0 bp1 bp2 bp3 bp4 bp5 bq0 bq1 bq2 bq3 bq4 bq5
  obtain ⟨g0, g1, g2⟩ := F 0 (by decide)
  replace g0 : wp.cell? ⟨g, 0, none⟩ = some (.bool (PW 0)) := g0
  replace g1 : wp.cell? ⟨g, 1, none⟩ = some (.slice (A 0) (PQ 0).length (Z 0)) := g1
  replace g2 : wp.cell? ⟨g, 2, none⟩ = some (.int .i64 (PD 0)) := g2
  go_upto_region 2 with fail
  have kd := (Kept.refl 0 0 wp).drew
  replace F := hide (F.kept kd)
  replace RW := fun q hq => (RW q hq).kept kd (.inr (.inr (Nat.le_refl 0)))
  replace Ba := kd.loose0 (zbl R0) Ba
  replace Bb := kd.loose0 (zbl R1) Bb
  replace Bc := kd.loose0 (zbl R2) Bc
  replace Bd := kd.loose0 (zbl R3) Bd
  replace Be := kd.loose0 (zbl R4) Be
  replace Bf := kd.loose0 (zbl R5) Bf
  revert R0 R1 R2 R3 R4 R5 g0 g1 g2; refine kd.m9 ?_; intro R0 R1 R2 R3 R4 R5 g0 g1 g2
  replace K := hide ((unhide K).trans kd)
  have z11 := kd.size
  clear kd
  refine wp_region_held_drew (S := (fun w' => w'.cell? ⟨g, 0, none⟩ = some (.bool (PW 0)) ∧ w'.cell? ⟨g, 1, none⟩ = some (.slice (A 0) (PQ 0).length (Z 0)) ∧ w'.cell? ⟨g, 2, none⟩ = some (.int .i64 (PD 0)))) (by kernel_rfl) ?_ (fun hH => ?_)
  ·exact ⟨g0, g1, g2⟩
  generalize wp.drew = wd2 at *
  refine wT (i := 0) (v := .slice (some ⟨g, 0, none⟩) 4 4) rfl (Or.inl ⟨by rfl, ?_⟩) hH ?_
  ·intro wq hSw
   try dsimp only at hSw
   go_simp
  try simp only [Act.put, zq1, zq2, zq3, zq4, zq5, zq6]
  refine wT (i := 1) (v := .pointer (some ⟨g, 0, none⟩)) rfl (Or.inl ⟨by rfl, ?_⟩) hH ?_
  ·intro wq hSw
   try dsimp only at hSw
   go_simp
  try simp only [Act.put, zq1, zq2, zq3, zq4, zq5, zq6]
  refine wT (i := 2) (v := .agg #[.bool (PW 0), .slice (A 0) (PQ 0).length (Z 0), .int .i64 (PD 0)]) rfl (Or.inl ⟨by rfl, ?_⟩) hH ?_
  ·intro wq hSw
   try dsimp only at hSw
   go_simp
  try simp only [Act.put, zq1, zq2, zq3, zq4, zq5, zq6]
  refine wT (i := 3) (v := .slice (some ⟨g, 0, none⟩) 4 4) rfl (Or.inl ⟨by rfl, ?_⟩) hH ?_
  ·intro wq hSw
   try dsimp only at hSw
   go_simp
  try simp only [Act.put, zq1, zq2, zq3, zq4, zq5, zq6]
  refine wT (i := 4) (v := .pointer (some ⟨g, 0, none⟩)) rfl (Or.inl ⟨by rfl, ?_⟩) hH ?_
  ·intro wq hSw
   try dsimp only at hSw
   go_simp
  try simp only [Act.put, zq1, zq2, zq3, zq4, zq5, zq6]
  refine wT (i := 5) (v := .agg #[.bool (PW 0), .slice (A 0) (PQ 0).length (Z 0), .int .i64 (PD 0)]) rfl (Or.inl ⟨by rfl, ?_⟩) hH ?_
  ·intro wq hSw
   try dsimp only at hSw
   go_simp
  try simp only [Act.put, zq1, zq2, zq3, zq4, zq5, zq6]
  refine wT (i := 6) (v := .agg #[.bool (PW 0), .slice (A 0) (PQ 0).length (Z 0), .int .i64 (PD 0), .bool (PW 0), .slice (A 0) (PQ 0).length (Z 0), .int .i64 (PD 0)]) rfl (Or.inl ⟨by rfl, ?_⟩) hH ?_
  ·intro wq hSw
   try dsimp only at hSw
   go_simp
  try simp only [Act.put, zq1, zq2, zq3, zq4, zq5, zq6]
  refine wR 7 (by kernel_rfl) rfl (fun KK hK => ?_)
  simp only [zq1, zq2, zq3]
  rw [if_pos (by rfl)]
  go_simp
  have kn := (Kept.refl 0 0 wd2).alloc (.cells #[.bool false, .slice none 0 0, .int .i64 0, .bool false, .slice none 0 0, .int .i64 0] 38)
  have sz8 : wd2.heap.size < (wd2.alloc (.cells #[.bool false, .slice none 0 0, .int .i64 0, .bool false, .slice none 0 0, .int .i64 0] 38)).heap.size := by simp
  have RW2 := fun q hq => (RW q hq).kept kn (.inr (.inr (Nat.le_refl 0)))
  have F2 := hide ((unhide F).kept kn)
  have BV : P6 (wd2.alloc (.cells #[.bool false, .slice none 0 0, .int .i64 0, .bool false, .slice none 0 0, .int .i64 0] 38)) wd2.heap.size (.bool false) (.slice none 0 0) (.int .i64 0) (.bool false) (.slice none 0 0) (.int .i64 0) := ⟨new_cell2 _ _ _ _ _ _ rfl rfl, new_cell2 _ _ _ _ _ _ rfl rfl, new_cell2 _ _ _ _ _ _ rfl rfl, new_cell2 _ _ _ _ _ _ rfl rfl, new_cell2 _ _ _ _ _ _ rfl rfl, new_cell2 _ _ _ _ _ _ rfl rfl⟩
  have LV : L6 (wd2.alloc (.cells #[.bool false, .slice none 0 0, .int .i64 0, .bool false, .slice none 0 0, .int .i64 0] 38)) wd2.heap.size := fun i hi => new_loose2 _ _ _ _ _ rfl
  replace Ba := kn.loose0 (zbl R0) Ba
  replace Bb := kn.loose0 (zbl R1) Bb
  replace Bc := kn.loose0 (zbl R2) Bc
  replace Bd := kn.loose0 (zbl R3) Bd
  replace Be := kn.loose0 (zbl R4) Be
  replace Bf := kn.loose0 (zbl R5) Bf
  revert R0 R1 R2 R3 R4 R5 g0 g1 g2; refine kn.m9 ?_; intro R0 R1 R2 R3 R4 R5 g0 g1 g2
  replace K := hide ((unhide K).trans kn)
  have z12 := kn.size
  clear kn RW F
  clear hH
  refine hK.out _ _ ?_ (fun hH => ?_)
  ·exact ⟨g0, g1, g2⟩
  clear hK KK
  try simp only [Act.put, zq1, zq2, zq3, zq4, zq5, zq6]
  generalize wd2.alloc (.cells #[.bool false, .slice none 0 0, .int .i64 0, .bool false, .slice none 0 0, .int .i64 0] 38) = wv at *
  generalize hV : wd2.heap.size = V at *
  obtain ⟨m0, m1, m2, m3, m4, m5⟩ := BV
  have f0 := LV 0 (by decide)
  have f1 := LV 1 (by decide)
  have f2 := LV 2 (by decide)
  have f3 := LV 3 (by decide)
  have f4 := LV 4 (by decide)
  have f5 := LV 5 (by decide)
  have BV : P6 wv V (.bool false) (.slice none 0 0) (.int .i64 0) (.bool false) (.slice none 0 0) (.int .i64 0) := ⟨m0, m1, m2, m3, m4, m5⟩
  refine wR 8 (by kernel_rfl) rfl (fun KK hK => ?_)
  simp only [zq1, zq2, zq3]
  rw [if_pos (by rfl)]
  go_simp
  clear hH
  refine hK.out _ _ ?_ (fun hH => ?_)
  ·exact ⟨(cell_aside _ (by dsimp only; omega) (cell_aside _ (by dsimp only; omega) (cell_aside _ (by dsimp only; omega) (cell_aside _ (by dsimp only; omega) (cell_aside _ (by dsimp only; omega) (cell_aside _ (by dsimp only; omega) g0)))))), (cell_aside _ (by dsimp only; omega) (cell_aside _ (by dsimp only; omega) (cell_aside _ (by dsimp only; omega) (cell_aside _ (by dsimp only; omega) (cell_aside _ (by dsimp only; omega) (cell_aside _ (by dsimp only; omega) g1)))))), (cell_aside _ (by dsimp only; omega) (cell_aside _ (by dsimp only; omega) (cell_aside _ (by dsimp only; omega) (cell_aside _ (by dsimp only; omega) (cell_aside _ (by dsimp only; omega) (cell_aside _ (by dsimp only; omega) g2))))))⟩
  clear hK KK
  try simp only [Act.put, zq1, zq2, zq3, zq4, zq5, zq6]
  refine wpAnyH_done (by kernel_rfl) ?_ _
  clear hH m0 m1 m2 m3 m4 m5 f0 f1 f2 f3 f4 f5 g0 g1 g2
  have sS0 := unhide S0
  have hgG : w.heap.size + 3 ≤ g := by omega
  have hgV : g < V := by omega
  have hVs : V < wv.heap.size := by omega
  have F3 := hide (((unhide F2).set (o := 0) (Nat.ne_of_lt hgV) (.bool (PW 0)) (.slice (A 0) (PQ 0).length (Z 0)) (.int .i64 (PD 0))).set (o := 3) (Nat.ne_of_lt hgV) (.bool (PW 0)) (.slice (A 0) (PQ 0).length (Z 0)) (.int .i64 (PD 0)))
  have RW3 := hide (fun q hq => ((RW2 q hq).set3 (o := 0) (Nat.le_of_lt hgV) (.bool (PW 0)) (.slice (A 0) (PQ 0).length (Z 0)) (.int .i64 (PD 0))).set3 (o := 3) (Nat.le_of_lt hgV) (.bool (PW 0)) (.slice (A 0) (PQ 0).length (Z 0)) (.int .i64 (PD 0)))
  have BV3 := hide ((BV.low (.bool (PW 0)) (.slice (A 0) (PQ 0).length (Z 0)) (.int .i64 (PD 0))).high (.bool (PW 0)) (.slice (A 0) (PQ 0).length (Z 0)) (.int .i64 (PD 0)))
  have LV3 := hide ((L6.set3 (M := V) (o := 0) LV (.bool (PW 0)) (.slice (A 0) (PQ 0).length (Z 0)) (.int .i64 (PD 0))).set3 (M := V) (o := 3) (.bool (PW 0)) (.slice (A 0) (PQ 0).length (Z 0)) (.int .i64 (PD 0)))
  have BR0 : P6 wv (w.heap.size + 2) (.bool false) (.slice none 0 0) (.int .i64 0) (.bool false) (.slice none 0 0) (.int .i64 0) := ⟨R0, R1, R2, R3, R4, R5⟩
  have BR3 := hide ((BR0.aside3 (M := V) (o := 0) (by omega) (.bool (PW 0)) (.slice (A 0) (PQ 0).length (Z 0)) (.int .i64 (PD 0))).aside3 (M := V) (o := 3) (by omega) (.bool (PW 0)) (.slice (A 0) (PQ 0).length (Z 0)) (.int .i64 (PD 0)))
  have LR0 : L6 wv (w.heap.size + 2) := fun i hi => by
   obtain rfl | rfl | rfl | rfl | rfl | rfl : i = 0 ∨ i = 1 ∨ i = 2 ∨ i = 3 ∨ i = 4 ∨ i = 5 := by omega
   all_goals assumption
  have LR3 := hide ((LR0.set3 (M := V) (o := 0) (.bool (PW 0)) (.slice (A 0) (PQ 0).length (Z 0)) (.int .i64 (PD 0))).set3 (M := V) (o := 3) (.bool (PW 0)) (.slice (A 0) (PQ 0).length (Z 0)) (.int .i64 (PD 0)))
  have K3 := hide (kept_S3 (kept_S3 (unhide K) (M := V) (o := 0) (by omega) (.bool (PW 0)) (.slice (A 0) (PQ 0).length (Z 0)) (.int .i64 (PD 0))) (M := V) (o := 3) (by omega) (.bool (PW 0)) (.slice (A 0) (PQ 0).length (Z 0)) (.int .i64 (PD 0)))
  have z3 : V < (S3 (S3 wv V 0 (.bool (PW 0)) (.slice (A 0) (PQ 0).length (Z 0)) (.int .i64 (PD 0))) V 3 (.bool (PW 0)) (.slice (A 0) (PQ 0).length (Z 0)) (.int .i64 (PD 0))).heap.size := by rw [size_S3, size_S3]; exact hVs
  clear sS0 BV LV BR0 LR0 F2 RW2 K R0 R1 R2 R3 R4 R5 Ba Bb Bc Bd Be Bf
  obtain ⟨ws0, hws0⟩ : ∃ x, x = S3 (S3 wv V 0 (.bool (PW 0)) (.slice (A 0) (PQ 0).length (Z 0)) (.int .i64 (PD 0))) V 3 (.bool (PW 0)) (.slice (A 0) (PQ 0).length (Z 0)) (.int .i64 (PD 0)) := ⟨_, rfl⟩
  rw [← hws0] at F3 RW3 BV3 LV3 BR3 LR3 K3 z3
  go_wp2_with fail
  rw [show ((((((wv.setCell ⟨V, 0, none⟩ (.bool (PW 0))).setCell ⟨V, 1, none⟩ (.slice (A 0) (PQ 0).length (Z 0))).setCell ⟨V, 2, none⟩ (.int .i64 (PD 0))).setCell ⟨V, 3, none⟩ (.bool (PW 0))).setCell ⟨V, 4, none⟩ (.slice (A 0) (PQ 0).length (Z 0))).setCell ⟨V, 5, none⟩ (.int .i64 (PD 0))) = ws0 from hws0.symm]
  clear hws0
  go_loopw [7] (fun ii wr => ∃ (i b c : Nat) (aL aH : Option Addr) (cL cH : Nat), ii = .int .i64 (i : Int) ∧ 1 ≤ i ∧ i ≤ 4 ∧ Hid (b = selP (fun i j => decide (C i j < 0)) i) ∧ Hid (c = selP (fun i j => decide (0 < C i j)) i) ∧ Hid (PL3 wr g PW A PQ Z PD) ∧ Hid (∀ q, q < 4 → Row .i64 false (w.heap.size + 3) g wr (.slice (A q) (PQ q).length (Z q)) (PQ q)) ∧ Hid (P6 wr V (.bool (PW b)) (.slice aL (PQ b).length cL) (.int .i64 (PD b)) (.bool (PW c)) (.slice aH (PQ c).length cH) (.int .i64 (PD c))) ∧ Hid (L6 wr V) ∧ Hid (P6 wr (w.heap.size + 2) (.bool false) (.slice none 0 0) (.int .i64 0) (.bool false) (.slice none 0 0) (.int .i64 0)) ∧ Hid (L6 wr (w.heap.size + 2)) ∧ Hid (Row .i64 false (w.heap.size + 3) g wr (.slice aL (PQ b).length cL) (PQ b)) ∧ Hid (Row .i64 false (w.heap.size + 3) g wr (.slice aH (PQ c).length cH) (PQ c)) ∧ Hid (Kept 0 0 w wr) ∧ V < wr.heap.size) (fun ii _ => 4 - (intOf ii).toNat)
  case atStart => exact ⟨1, 0, 0, A 0, A 0, Z 0, Z 0, rfl, by omega, by omega, rfl, rfl, F3, RW3, BV3, LV3, BR3, LR3, unhide RW3 0 (by decide), unhide RW3 0 (by decide), K3, z3⟩
  case round =>
   clear F3 RW3 BV3 LV3 BR3 LR3 K3 z3
   obtain ⟨i, b, c, aL, aH, cL, cH, rfl, hi1, hi4, hb, hc, F, RW, BV, LV, BR, LR, RL, RH, K, hsz⟩ := hrel
   obtain rfl | rfl | rfl | rfl : i = 1 ∨ i = 2 ∨ i = 3 ∨ i = 4 := by omega
   ·go_upto_region 6 with fail
    have F9 := (unhide F).kept (Kept.refl 0 0 wr).drew
    obtain ⟨g0, g1, g2⟩ := F9 1 (by decide)
    replace g0 : (wr).drew.cell? ⟨g, 3, none⟩ = some (.bool (PW 1)) := g0
    replace g1 : (wr).drew.cell? ⟨g, 4, none⟩ = some (.slice (A 1) (PQ 1).length (Z 1)) := g1
    replace g2 : (wr).drew.cell? ⟨g, 5, none⟩ = some (.int .i64 (PD 1)) := g2
    obtain ⟨m0, m1, m2, m3, m4, m5⟩ := (unhide BV).kept (Kept.refl 0 0 wr).drew
    have rX9 := (unhide RL).kept (Kept.refl 0 0 wr).drew (.inr (.inr (Nat.le_refl 0)))
    have rI9 := (unhide RW 1 (by decide)).kept (Kept.refl 0 0 wr).drew (.inr (.inr (Nat.le_refl 0)))
    have zd := (Kept.refl 0 0 wr).drew.size
    refine wp_region_held_drew (S := (fun w' => w'.cell? ⟨g, 3, none⟩ = some (.bool (PW 1)) ∧ w'.cell? ⟨g, 4, none⟩ = some (.slice (A 1) (PQ 1).length (Z 1)) ∧ w'.cell? ⟨g, 5, none⟩ = some (.int .i64 (PD 1)))) (by kernel_rfl) ?_ (fun hH => ?_)
    ·exact ⟨g0, g1, g2⟩
    generalize hwd : (wr).drew = wd at *
    refine wT (i := 0) (v := .pointer (some ⟨V, 0, none⟩)) rfl (Or.inl ⟨by rfl, ?_⟩) hH ?_
    ·intro wq hSw
     try dsimp only at hSw
     go_simp
    try simp only [Act.put, zq1, zq2, zq3, zq4, zq5, zq6]
    refine wT (i := 2) (v := .slice (some ⟨g, 0, none⟩) 4 4) rfl (Or.inl ⟨by rfl, ?_⟩) hH ?_
    ·intro wq hSw
     try dsimp only at hSw
     go_simp
    try simp only [Act.put, zq1, zq2, zq3, zq4, zq5, zq6]
    refine wT (i := 3) (v := .int .i64 1) rfl (Or.inl ⟨by rfl, ?_⟩) hH ?_
    ·intro wq hSw
     try dsimp only at hSw
     go_simp
    try simp only [Act.put, zq1, zq2, zq3, zq4, zq5, zq6]
    refine wT (i := 4) (v := .pointer (some ⟨g, 3, none⟩)) rfl (Or.inl ⟨by rfl, ?_⟩) hH ?_
    ·intro wq hSw
     try dsimp only at hSw
     go_simp
    try simp only [Act.put, zq1, zq2, zq3, zq4, zq5, zq6]
    refine wT (i := 5) (v := .agg #[.bool (PW 1), .slice (A 1) (PQ 1).length (Z 1), .int .i64 (PD 1)]) rfl (Or.inl ⟨by rfl, ?_⟩) hH ?_
    ·intro wq hSw
     try dsimp only at hSw
     go_simp
    try simp only [Act.put, zq1, zq2, zq3, zq4, zq5, zq6]
    refine wR 1 (by kernel_rfl) rfl (fun KK hK => ?_)
    simp only [zq1, zq2, zq3]
    rw [if_pos (by rfl)]
    go_simp
    clear hH
    refine hK.out _ _ ?_ (fun hH => ?_)
    ·exact ⟨g0, g1, g2⟩
    clear hK KK
    try simp only [Act.put, zq1, zq2, zq3, zq4, zq5, zq6]
    have mk := less7w_spec (PW b) (PD b) (unhide HB b).1 (unhide HB b).2 (PW 1) (PD 1) (unhide HB 1).1 (unhide HB 1).2 wd rX9 rI9 (Nat.le_refl _) (Nat.le_refl _) (Nat.le_refl _) (Nat.le_refl _) (by omega) (unhide HW b) (unhide HW 1)
    rw [unhide HCM b 1] at mk
    have e := selP_less (C := C) (i := 1) (by decide) (unhide HT)
    rw [← unhide hb] at e
    rw [pk_app PW, pk_app PQ, pk_app PD, ← e] at mk
    obtain ⟨b', hn⟩ : ∃ x, selP (fun i j => decide (C i j < 0)) (1 + 1) = x := ⟨_, rfl⟩
    rw [hn] at mk
    have HNL := hide hn.symm
    clear e hn
    refine wR 6 (by kernel_rfl) rfl (fun KK hK => ?_)
    simp only [zq1, zq2, zq3]
    rw [if_pos (by rfl)]
    refine wps2 30 (.tmp 41) (.tmp 45) _ rfl in_l7less (.agg #[.bool (PW b), .slice aL (PQ b).length cL, .int .i64 (PD b)]) (.agg #[.bool (PW 1), .slice (A 1) (PQ 1).length (Z 1), .int .i64 (PD 1)]) rfl rfl mk ?_
    rintro e w5 ⟨vN, rfl, rN, k5⟩
    refine ⟨_, rfl, ?_⟩
    clear mk
    revert g0 g1 g2; refine k5.m3 ?_; intro g0 g1 g2
    obtain ⟨aN, cN, hv⟩ := Row.form' rN
    subst hv
    clear hH
    refine hK.out _ _ ?_ (fun hH => ?_)
    ·exact ⟨g0, g1, g2⟩
    clear hK KK
    try simp only [Act.put, zq1, zq2, zq3, zq4, zq5, zq6]
    have kk := (show Kept 0 0 (wr) wd from hwd ▸ (Kept.refl 0 0 (wr)).drew).trans k5
    have z5 := kk.size
    clear rX9 rI9 m0 m1 m2 m3 m4 m5
    have LV5 := L6.kept (unhide LV) hsz kk
    have BV5 := (unhide BV).kept kk
    have BV6 := BV5
    obtain ⟨m0, m1, m2, m3, m4, m5⟩ := BV6
    have f0 := LV5 0 (by decide)
    have f1 := LV5 1 (by decide)
    have f2 := LV5 2 (by decide)
    have f3 := LV5 3 (by decide)
    have f4 := LV5 4 (by decide)
    have f5 := LV5 5 (by decide)
    refine wT (i := 7) (v := .pointer (some ⟨V, 0, none⟩)) rfl (Or.inl ⟨by rfl, ?_⟩) hH ?_
    ·intro wq hSw
     try dsimp only at hSw
     go_simp
    try simp only [Act.put, zq1, zq2, zq3, zq4, zq5, zq6]
    refine wR 8 (by kernel_rfl) rfl (fun KK hK => ?_)
    simp only [zq1, zq2, zq3]
    rw [if_pos (by rfl)]
    go_simp
    clear hH
    refine hK.out _ _ ?_ (fun hH => ?_)
    ·exact ⟨(cell_aside _ (by dsimp only; omega) (cell_aside _ (by dsimp only; omega) (cell_aside _ (by dsimp only; omega) g0))), (cell_aside _ (by dsimp only; omega) (cell_aside _ (by dsimp only; omega) (cell_aside _ (by dsimp only; omega) g1))), (cell_aside _ (by dsimp only; omega) (cell_aside _ (by dsimp only; omega) (cell_aside _ (by dsimp only; omega) g2)))⟩
    clear hK KK
    try simp only [Act.put, zq1, zq2, zq3, zq4, zq5, zq6]
    refine wpAnyH_done (by kernel_rfl) ?_ _
    clear hH g0 g1 g2 f0 f1 f2 f3 f4 f5 m0 m1 m2 m3 m4 m5 F9
    obtain ⟨ws, hws⟩ : ∃ x, x = S3 w5 V 0 (.bool (PW b')) (.slice aN (PQ b').length cN) (.int .i64 (PD b')) := ⟨_, rfl⟩
    have F7 := hide (((unhide F).kept kk).set (o := 0) (Nat.ne_of_lt hgV) (.bool (PW b')) (.slice aN (PQ b').length cN) (.int .i64 (PD b')))
    have RW7 := hide (fun q hq => ((unhide RW q hq).kept kk (.inr (.inr (Nat.le_refl 0)))).set3 (o := 0) (Nat.le_of_lt hgV) (.bool (PW b')) (.slice aN (PQ b').length cN) (.int .i64 (PD b')))
    have BV7 := hide (BV5.low (.bool (PW b')) (.slice aN (PQ b').length cN) (.int .i64 (PD b')))
    have LV7 := hide (LV5.set3 (M := V) (o := 0) (.bool (PW b')) (.slice aN (PQ b').length cN) (.int .i64 (PD b')))
    have BR7 := hide (((unhide BR).kept kk).aside3 (M := V) (o := 0) (by omega) (.bool (PW b')) (.slice aN (PQ b').length cN) (.int .i64 (PD b')))
    have LR7 := hide ((L6.kept (unhide LR) (by omega) kk).set3 (M := V) (o := 0) (.bool (PW b')) (.slice aN (PQ b').length cN) (.int .i64 (PD b')))
    have RN7 := hide (rN.set3 (o := 0) (Nat.le_of_lt hgV) (.bool (PW b')) (.slice aN (PQ b').length cN) (.int .i64 (PD b')))
    have RO7 := hide (((unhide RH).kept kk (.inr (.inr (Nat.le_refl 0)))).set3 (o := 0) (Nat.le_of_lt hgV) (.bool (PW b')) (.slice aN (PQ b').length cN) (.int .i64 (PD b')))
    have K7 := hide (kept_S3 ((unhide K).trans kk) (M := V) (o := 0) (by omega) (.bool (PW b')) (.slice aN (PQ b').length cN) (.int .i64 (PD b')))
    have z7 : V < (S3 w5 V 0 (.bool (PW b')) (.slice aN (PQ b').length cN) (.int .i64 (PD b'))).heap.size := by rw [size_S3]; omega
    rw [← hws] at F7 RW7 BV7 LV7 BR7 LR7 RN7 RO7 K7 z7
    go_upto_region 7 with fail
    rw [show (((w5.setCell ⟨V, 0, none⟩ (.bool (PW b'))).setCell ⟨V, 1, none⟩ (.slice aN (PQ b').length cN)).setCell ⟨V, 2, none⟩ (.int .i64 (PD b'))) = ws from hws.symm]
    clear hws kk hwd z5 zd k5 rN F RW BV LV BR LR RL RH K hsz BV5 LV5
    have F := F7
    clear F7
    have RW := RW7
    clear RW7
    have BV := BV7
    clear BV7
    have LV := LV7
    clear LV7
    have BR := BR7
    clear BR7
    have LR := LR7
    clear LR7
    have RL := RN7
    clear RN7
    have RH := RO7
    clear RO7
    have K := K7
    clear K7
    have hsz := z7
    clear z7
    have F9 := (unhide F).kept (Kept.refl 0 0 ws).drew
    obtain ⟨g0, g1, g2⟩ := F9 1 (by decide)
    replace g0 : (ws).drew.cell? ⟨g, 3, none⟩ = some (.bool (PW 1)) := g0
    replace g1 : (ws).drew.cell? ⟨g, 4, none⟩ = some (.slice (A 1) (PQ 1).length (Z 1)) := g1
    replace g2 : (ws).drew.cell? ⟨g, 5, none⟩ = some (.int .i64 (PD 1)) := g2
    obtain ⟨m0, m1, m2, m3, m4, m5⟩ := (unhide BV).kept (Kept.refl 0 0 ws).drew
    have rX9 := (unhide RH).kept (Kept.refl 0 0 ws).drew (.inr (.inr (Nat.le_refl 0)))
    have rI9 := (unhide RW 1 (by decide)).kept (Kept.refl 0 0 ws).drew (.inr (.inr (Nat.le_refl 0)))
    have zd := (Kept.refl 0 0 ws).drew.size
    refine wp_region_held_drew (S := (fun w' => w'.cell? ⟨g, 3, none⟩ = some (.bool (PW 1)) ∧ w'.cell? ⟨g, 4, none⟩ = some (.slice (A 1) (PQ 1).length (Z 1)) ∧ w'.cell? ⟨g, 5, none⟩ = some (.int .i64 (PD 1)))) (by kernel_rfl) ?_ (fun hH => ?_)
    ·exact ⟨g0, g1, g2⟩
    generalize hwd : (ws).drew = we at *
    refine wT (i := 0) (v := .pointer (some ⟨V, 3, none⟩)) rfl (Or.inl ⟨by rfl, ?_⟩) hH ?_
    ·intro wq hSw
     try dsimp only at hSw
     go_simp
    try simp only [Act.put, zq1, zq2, zq3, zq4, zq5, zq6]
    refine wT (i := 2) (v := .slice (some ⟨g, 0, none⟩) 4 4) rfl (Or.inl ⟨by rfl, ?_⟩) hH ?_
    ·intro wq hSw
     try dsimp only at hSw
     go_simp
    try simp only [Act.put, zq1, zq2, zq3, zq4, zq5, zq6]
    refine wT (i := 3) (v := .int .i64 1) rfl (Or.inl ⟨by rfl, ?_⟩) hH ?_
    ·intro wq hSw
     try dsimp only at hSw
     go_simp
    try simp only [Act.put, zq1, zq2, zq3, zq4, zq5, zq6]
    refine wT (i := 4) (v := .pointer (some ⟨g, 3, none⟩)) rfl (Or.inl ⟨by rfl, ?_⟩) hH ?_
    ·intro wq hSw
     try dsimp only at hSw
     go_simp
    try simp only [Act.put, zq1, zq2, zq3, zq4, zq5, zq6]
    refine wT (i := 5) (v := .agg #[.bool (PW 1), .slice (A 1) (PQ 1).length (Z 1), .int .i64 (PD 1)]) rfl (Or.inl ⟨by rfl, ?_⟩) hH ?_
    ·intro wq hSw
     try dsimp only at hSw
     go_simp
    try simp only [Act.put, zq1, zq2, zq3, zq4, zq5, zq6]
    refine wR 1 (by kernel_rfl) rfl (fun KK hK => ?_)
    simp only [zq1, zq2, zq3]
    rw [if_pos (by rfl)]
    go_simp
    clear hH
    refine hK.out _ _ ?_ (fun hH => ?_)
    ·exact ⟨g0, g1, g2⟩
    clear hK KK
    try simp only [Act.put, zq1, zq2, zq3, zq4, zq5, zq6]
    have mk := more7w_spec (PW c) (PD c) (unhide HB c).1 (unhide HB c).2 (PW 1) (PD 1) (unhide HB 1).1 (unhide HB 1).2 we rX9 rI9 (Nat.le_refl _) (Nat.le_refl _) (Nat.le_refl _) (Nat.le_refl _) (by omega) (unhide HW c) (unhide HW 1)
    rw [unhide HCM c 1] at mk
    have e := selP_more (C := C) (i := 1) (by decide) (unhide HT)
    rw [← unhide hc] at e
    rw [pk_app PW, pk_app PQ, pk_app PD, ← e] at mk
    obtain ⟨c', hn⟩ : ∃ x, selP (fun i j => decide (0 < C i j)) (1 + 1) = x := ⟨_, rfl⟩
    rw [hn] at mk
    have HNM := hide hn.symm
    clear e hn
    refine wR 6 (by kernel_rfl) rfl (fun KK hK => ?_)
    simp only [zq1, zq2, zq3]
    rw [if_pos (by rfl)]
    refine wps2 31 (.tmp 49) (.tmp 53) _ rfl in_l7more (.agg #[.bool (PW c), .slice aH (PQ c).length cH, .int .i64 (PD c)]) (.agg #[.bool (PW 1), .slice (A 1) (PQ 1).length (Z 1), .int .i64 (PD 1)]) rfl rfl mk ?_
    rintro e w6 ⟨vN, rfl, rN, k6⟩
    refine ⟨_, rfl, ?_⟩
    clear mk
    revert g0 g1 g2; refine k6.m3 ?_; intro g0 g1 g2
    obtain ⟨aM, cM, hv⟩ := Row.form' rN
    subst hv
    clear hH
    refine hK.out _ _ ?_ (fun hH => ?_)
    ·exact ⟨g0, g1, g2⟩
    clear hK KK
    try simp only [Act.put, zq1, zq2, zq3, zq4, zq5, zq6]
    have kk := (show Kept 0 0 (ws) we from hwd ▸ (Kept.refl 0 0 (ws)).drew).trans k6
    have z5 := kk.size
    clear rX9 rI9 m0 m1 m2 m3 m4 m5
    have LV5 := L6.kept (unhide LV) hsz kk
    have BV5 := (unhide BV).kept kk
    have BV6 := BV5
    obtain ⟨m0, m1, m2, m3, m4, m5⟩ := BV6
    have f0 := LV5 0 (by decide)
    have f1 := LV5 1 (by decide)
    have f2 := LV5 2 (by decide)
    have f3 := LV5 3 (by decide)
    have f4 := LV5 4 (by decide)
    have f5 := LV5 5 (by decide)
    refine wT (i := 7) (v := .pointer (some ⟨V, 3, none⟩)) rfl (Or.inl ⟨by rfl, ?_⟩) hH ?_
    ·intro wq hSw
     try dsimp only at hSw
     go_simp
    try simp only [Act.put, zq1, zq2, zq3, zq4, zq5, zq6]
    refine wR 8 (by kernel_rfl) rfl (fun KK hK => ?_)
    simp only [zq1, zq2, zq3]
    rw [if_pos (by rfl)]
    go_simp
    clear hH
    refine hK.out _ _ ?_ (fun hH => ?_)
    ·exact ⟨(cell_aside _ (by dsimp only; omega) (cell_aside _ (by dsimp only; omega) (cell_aside _ (by dsimp only; omega) g0))), (cell_aside _ (by dsimp only; omega) (cell_aside _ (by dsimp only; omega) (cell_aside _ (by dsimp only; omega) g1))), (cell_aside _ (by dsimp only; omega) (cell_aside _ (by dsimp only; omega) (cell_aside _ (by dsimp only; omega) g2)))⟩
    clear hK KK
    try simp only [Act.put, zq1, zq2, zq3, zq4, zq5, zq6]
    refine wpAnyH_done (by kernel_rfl) ?_ _
    clear hH g0 g1 g2 f0 f1 f2 f3 f4 f5 m0 m1 m2 m3 m4 m5 F9
    obtain ⟨wt, hws⟩ : ∃ x, x = S3 w6 V 3 (.bool (PW c')) (.slice aM (PQ c').length cM) (.int .i64 (PD c')) := ⟨_, rfl⟩
    have F7 := hide (((unhide F).kept kk).set (o := 3) (Nat.ne_of_lt hgV) (.bool (PW c')) (.slice aM (PQ c').length cM) (.int .i64 (PD c')))
    have RW7 := hide (fun q hq => ((unhide RW q hq).kept kk (.inr (.inr (Nat.le_refl 0)))).set3 (o := 3) (Nat.le_of_lt hgV) (.bool (PW c')) (.slice aM (PQ c').length cM) (.int .i64 (PD c')))
    have BV7 := hide (BV5.high (.bool (PW c')) (.slice aM (PQ c').length cM) (.int .i64 (PD c')))
    have LV7 := hide (LV5.set3 (M := V) (o := 3) (.bool (PW c')) (.slice aM (PQ c').length cM) (.int .i64 (PD c')))
    have BR7 := hide (((unhide BR).kept kk).aside3 (M := V) (o := 3) (by omega) (.bool (PW c')) (.slice aM (PQ c').length cM) (.int .i64 (PD c')))
    have LR7 := hide ((L6.kept (unhide LR) (by omega) kk).set3 (M := V) (o := 3) (.bool (PW c')) (.slice aM (PQ c').length cM) (.int .i64 (PD c')))
    have RN7 := hide (rN.set3 (o := 3) (Nat.le_of_lt hgV) (.bool (PW c')) (.slice aM (PQ c').length cM) (.int .i64 (PD c')))
    have RO7 := hide (((unhide RL).kept kk (.inr (.inr (Nat.le_refl 0)))).set3 (o := 3) (Nat.le_of_lt hgV) (.bool (PW c')) (.slice aM (PQ c').length cM) (.int .i64 (PD c')))
    have K7 := hide (kept_S3 ((unhide K).trans kk) (M := V) (o := 3) (by omega) (.bool (PW c')) (.slice aM (PQ c').length cM) (.int .i64 (PD c')))
    have z7 : V < (S3 w6 V 3 (.bool (PW c')) (.slice aM (PQ c').length cM) (.int .i64 (PD c'))).heap.size := by rw [size_S3]; omega
    rw [← hws] at F7 RW7 BV7 LV7 BR7 LR7 RN7 RO7 K7 z7
    go_wp2
    rw [show (((w6.setCell ⟨V, 3, none⟩ (.bool (PW c'))).setCell ⟨V, 4, none⟩ (.slice aM (PQ c').length cM)).setCell ⟨V, 5, none⟩ (.int .i64 (PD c'))) = wt from hws.symm]
    clear hws kk hwd z5 zd k6 rN F RW BV LV BR LR RL RH K hsz BV5 LV5
    have F := F7
    clear F7
    have RW := RW7
    clear RW7
    have BV := BV7
    clear BV7
    have LV := LV7
    clear LV7
    have BR := BR7
    clear BR7
    have LR := LR7
    clear LR7
    have RH := RN7
    clear RN7
    have RL := RO7
    clear RO7
    have K := K7
    clear K7
    have hsz := z7
    clear z7
    go_roundw
    case rel => exact ⟨1 + 1, b', c', aN, aM, cN, cM, rfl, by omega, by omega, HNL, HNM, F, RW, BV, LV, BR, LR, RL, RH, K, hsz⟩
    case measure => simp [intOf]
   ·go_upto_region 6 with fail
    have F9 := (unhide F).kept (Kept.refl 0 0 wr).drew
    obtain ⟨g0, g1, g2⟩ := F9 2 (by decide)
    replace g0 : (wr).drew.cell? ⟨g, 6, none⟩ = some (.bool (PW 2)) := g0
    replace g1 : (wr).drew.cell? ⟨g, 7, none⟩ = some (.slice (A 2) (PQ 2).length (Z 2)) := g1
    replace g2 : (wr).drew.cell? ⟨g, 8, none⟩ = some (.int .i64 (PD 2)) := g2
    obtain ⟨m0, m1, m2, m3, m4, m5⟩ := (unhide BV).kept (Kept.refl 0 0 wr).drew
    have rX9 := (unhide RL).kept (Kept.refl 0 0 wr).drew (.inr (.inr (Nat.le_refl 0)))
    have rI9 := (unhide RW 2 (by decide)).kept (Kept.refl 0 0 wr).drew (.inr (.inr (Nat.le_refl 0)))
    have zd := (Kept.refl 0 0 wr).drew.size
    refine wp_region_held_drew (S := (fun w' => w'.cell? ⟨g, 6, none⟩ = some (.bool (PW 2)) ∧ w'.cell? ⟨g, 7, none⟩ = some (.slice (A 2) (PQ 2).length (Z 2)) ∧ w'.cell? ⟨g, 8, none⟩ = some (.int .i64 (PD 2)))) (by kernel_rfl) ?_ (fun hH => ?_)
    ·exact ⟨g0, g1, g2⟩
    generalize hwd : (wr).drew = wd at *
    refine wT (i := 0) (v := .pointer (some ⟨V, 0, none⟩)) rfl (Or.inl ⟨by rfl, ?_⟩) hH ?_
    ·intro wq hSw
     try dsimp only at hSw
     go_simp
    try simp only [Act.put, zq1, zq2, zq3, zq4, zq5, zq6]
    refine wT (i := 2) (v := .slice (some ⟨g, 0, none⟩) 4 4) rfl (Or.inl ⟨by rfl, ?_⟩) hH ?_
    ·intro wq hSw
     try dsimp only at hSw
     go_simp
    try simp only [Act.put, zq1, zq2, zq3, zq4, zq5, zq6]
    refine wT (i := 3) (v := .int .i64 2) rfl (Or.inl ⟨by rfl, ?_⟩) hH ?_
    ·intro wq hSw
     try dsimp only at hSw
     go_simp
    try simp only [Act.put, zq1, zq2, zq3, zq4, zq5, zq6]
    refine wT (i := 4) (v := .pointer (some ⟨g, 6, none⟩)) rfl (Or.inl ⟨by rfl, ?_⟩) hH ?_
    ·intro wq hSw
     try dsimp only at hSw
     go_simp
    try simp only [Act.put, zq1, zq2, zq3, zq4, zq5, zq6]
    refine wT (i := 5) (v := .agg #[.bool (PW 2), .slice (A 2) (PQ 2).length (Z 2), .int .i64 (PD 2)]) rfl (Or.inl ⟨by rfl, ?_⟩) hH ?_
    ·intro wq hSw
     try dsimp only at hSw
     go_simp
    try simp only [Act.put, zq1, zq2, zq3, zq4, zq5, zq6]
    refine wR 1 (by kernel_rfl) rfl (fun KK hK => ?_)
    simp only [zq1, zq2, zq3]
    rw [if_pos (by rfl)]
    go_simp
    clear hH
    refine hK.out _ _ ?_ (fun hH => ?_)
    ·exact ⟨g0, g1, g2⟩
    clear hK KK
    try simp only [Act.put, zq1, zq2, zq3, zq4, zq5, zq6]
    have mk := less7w_spec (PW b) (PD b) (unhide HB b).1 (unhide HB b).2 (PW 2) (PD 2) (unhide HB 2).1 (unhide HB 2).2 wd rX9 rI9 (Nat.le_refl _) (Nat.le_refl _) (Nat.le_refl _) (Nat.le_refl _) (by omega) (unhide HW b) (unhide HW 2)
    rw [unhide HCM b 2] at mk
    have e := selP_less (C := C) (i := 2) (by decide) (unhide HT)
    rw [← unhide hb] at e
    rw [pk_app PW, pk_app PQ, pk_app PD, ← e] at mk
    obtain ⟨b', hn⟩ : ∃ x, selP (fun i j => decide (C i j < 0)) (2 + 1) = x := ⟨_, rfl⟩
    rw [hn] at mk
    have HNL := hide hn.symm
    clear e hn
    refine wR 6 (by kernel_rfl) rfl (fun KK hK => ?_)
    simp only [zq1, zq2, zq3]
    rw [if_pos (by rfl)]
    refine wps2 30 (.tmp 41) (.tmp 45) _ rfl in_l7less (.agg #[.bool (PW b), .slice aL (PQ b).length cL, .int .i64 (PD b)]) (.agg #[.bool (PW 2), .slice (A 2) (PQ 2).length (Z 2), .int .i64 (PD 2)]) rfl rfl mk ?_
    rintro e w5 ⟨vN, rfl, rN, k5⟩
    refine ⟨_, rfl, ?_⟩
    clear mk
    revert g0 g1 g2; refine k5.m3 ?_; intro g0 g1 g2
    obtain ⟨aN, cN, hv⟩ := Row.form' rN
    subst hv
    clear hH
    refine hK.out _ _ ?_ (fun hH => ?_)
    ·exact ⟨g0, g1, g2⟩
    clear hK KK
    try simp only [Act.put, zq1, zq2, zq3, zq4, zq5, zq6]
    have kk := (show Kept 0 0 (wr) wd from hwd ▸ (Kept.refl 0 0 (wr)).drew).trans k5
    have z5 := kk.size
    clear rX9 rI9 m0 m1 m2 m3 m4 m5
    have LV5 := L6.kept (unhide LV) hsz kk
    have BV5 := (unhide BV).kept kk
    have BV6 := BV5
    obtain ⟨m0, m1, m2, m3, m4, m5⟩ := BV6
    have f0 := LV5 0 (by decide)
    have f1 := LV5 1 (by decide)
    have f2 := LV5 2 (by decide)
    have f3 := LV5 3 (by decide)
    have f4 := LV5 4 (by decide)
    have f5 := LV5 5 (by decide)
    refine wT (i := 7) (v := .pointer (some ⟨V, 0, none⟩)) rfl (Or.inl ⟨by rfl, ?_⟩) hH ?_
    ·intro wq hSw
     try dsimp only at hSw
     go_simp
    try simp only [Act.put, zq1, zq2, zq3, zq4, zq5, zq6]
    refine wR 8 (by kernel_rfl) rfl (fun KK hK => ?_)
    simp only [zq1, zq2, zq3]
    rw [if_pos (by rfl)]
    go_simp
    clear hH
    refine hK.out _ _ ?_ (fun hH => ?_)
    ·exact ⟨(cell_aside _ (by dsimp only; omega) (cell_aside _ (by dsimp only; omega) (cell_aside _ (by dsimp only; omega) g0))), (cell_aside _ (by dsimp only; omega) (cell_aside _ (by dsimp only; omega) (cell_aside _ (by dsimp only; omega) g1))), (cell_aside _ (by dsimp only; omega) (cell_aside _ (by dsimp only; omega) (cell_aside _ (by dsimp only; omega) g2)))⟩
    clear hK KK
    try simp only [Act.put, zq1, zq2, zq3, zq4, zq5, zq6]
    refine wpAnyH_done (by kernel_rfl) ?_ _
    clear hH g0 g1 g2 f0 f1 f2 f3 f4 f5 m0 m1 m2 m3 m4 m5 F9
    obtain ⟨ws, hws⟩ : ∃ x, x = S3 w5 V 0 (.bool (PW b')) (.slice aN (PQ b').length cN) (.int .i64 (PD b')) := ⟨_, rfl⟩
    have F7 := hide (((unhide F).kept kk).set (o := 0) (Nat.ne_of_lt hgV) (.bool (PW b')) (.slice aN (PQ b').length cN) (.int .i64 (PD b')))
    have RW7 := hide (fun q hq => ((unhide RW q hq).kept kk (.inr (.inr (Nat.le_refl 0)))).set3 (o := 0) (Nat.le_of_lt hgV) (.bool (PW b')) (.slice aN (PQ b').length cN) (.int .i64 (PD b')))
    have BV7 := hide (BV5.low (.bool (PW b')) (.slice aN (PQ b').length cN) (.int .i64 (PD b')))
    have LV7 := hide (LV5.set3 (M := V) (o := 0) (.bool (PW b')) (.slice aN (PQ b').length cN) (.int .i64 (PD b')))
    have BR7 := hide (((unhide BR).kept kk).aside3 (M := V) (o := 0) (by omega) (.bool (PW b')) (.slice aN (PQ b').length cN) (.int .i64 (PD b')))
    have LR7 := hide ((L6.kept (unhide LR) (by omega) kk).set3 (M := V) (o := 0) (.bool (PW b')) (.slice aN (PQ b').length cN) (.int .i64 (PD b')))
    have RN7 := hide (rN.set3 (o := 0) (Nat.le_of_lt hgV) (.bool (PW b')) (.slice aN (PQ b').length cN) (.int .i64 (PD b')))
    have RO7 := hide (((unhide RH).kept kk (.inr (.inr (Nat.le_refl 0)))).set3 (o := 0) (Nat.le_of_lt hgV) (.bool (PW b')) (.slice aN (PQ b').length cN) (.int .i64 (PD b')))
    have K7 := hide (kept_S3 ((unhide K).trans kk) (M := V) (o := 0) (by omega) (.bool (PW b')) (.slice aN (PQ b').length cN) (.int .i64 (PD b')))
    have z7 : V < (S3 w5 V 0 (.bool (PW b')) (.slice aN (PQ b').length cN) (.int .i64 (PD b'))).heap.size := by rw [size_S3]; omega
    rw [← hws] at F7 RW7 BV7 LV7 BR7 LR7 RN7 RO7 K7 z7
    go_upto_region 7 with fail
    rw [show (((w5.setCell ⟨V, 0, none⟩ (.bool (PW b'))).setCell ⟨V, 1, none⟩ (.slice aN (PQ b').length cN)).setCell ⟨V, 2, none⟩ (.int .i64 (PD b'))) = ws from hws.symm]
    clear hws kk hwd z5 zd k5 rN F RW BV LV BR LR RL RH K hsz BV5 LV5
    have F := F7
    clear F7
    have RW := RW7
    clear RW7
    have BV := BV7
    clear BV7
    have LV := LV7
    clear LV7
    have BR := BR7
    clear BR7
    have LR := LR7
    clear LR7
    have RL := RN7
    clear RN7
    have RH := RO7
    clear RO7
    have K := K7
    clear K7
    have hsz := z7
    clear z7
    have F9 := (unhide F).kept (Kept.refl 0 0 ws).drew
    obtain ⟨g0, g1, g2⟩ := F9 2 (by decide)
    replace g0 : (ws).drew.cell? ⟨g, 6, none⟩ = some (.bool (PW 2)) := g0
    replace g1 : (ws).drew.cell? ⟨g, 7, none⟩ = some (.slice (A 2) (PQ 2).length (Z 2)) := g1
    replace g2 : (ws).drew.cell? ⟨g, 8, none⟩ = some (.int .i64 (PD 2)) := g2
    obtain ⟨m0, m1, m2, m3, m4, m5⟩ := (unhide BV).kept (Kept.refl 0 0 ws).drew
    have rX9 := (unhide RH).kept (Kept.refl 0 0 ws).drew (.inr (.inr (Nat.le_refl 0)))
    have rI9 := (unhide RW 2 (by decide)).kept (Kept.refl 0 0 ws).drew (.inr (.inr (Nat.le_refl 0)))
    have zd := (Kept.refl 0 0 ws).drew.size
    refine wp_region_held_drew (S := (fun w' => w'.cell? ⟨g, 6, none⟩ = some (.bool (PW 2)) ∧ w'.cell? ⟨g, 7, none⟩ = some (.slice (A 2) (PQ 2).length (Z 2)) ∧ w'.cell? ⟨g, 8, none⟩ = some (.int .i64 (PD 2)))) (by kernel_rfl) ?_ (fun hH => ?_)
    ·exact ⟨g0, g1, g2⟩
    generalize hwd : (ws).drew = we at *
    refine wT (i := 0) (v := .pointer (some ⟨V, 3, none⟩)) rfl (Or.inl ⟨by rfl, ?_⟩) hH ?_
    ·intro wq hSw
     try dsimp only at hSw
     go_simp
    try simp only [Act.put, zq1, zq2, zq3, zq4, zq5, zq6]
    refine wT (i := 2) (v := .slice (some ⟨g, 0, none⟩) 4 4) rfl (Or.inl ⟨by rfl, ?_⟩) hH ?_
    ·intro wq hSw
     try dsimp only at hSw
     go_simp
    try simp only [Act.put, zq1, zq2, zq3, zq4, zq5, zq6]
    refine wT (i := 3) (v := .int .i64 2) rfl (Or.inl ⟨by rfl, ?_⟩) hH ?_
    ·intro wq hSw
     try dsimp only at hSw
     go_simp
    try simp only [Act.put, zq1, zq2, zq3, zq4, zq5, zq6]
    refine wT (i := 4) (v := .pointer (some ⟨g, 6, none⟩)) rfl (Or.inl ⟨by rfl, ?_⟩) hH ?_
    ·intro wq hSw
     try dsimp only at hSw
     go_simp
    try simp only [Act.put, zq1, zq2, zq3, zq4, zq5, zq6]
    refine wT (i := 5) (v := .agg #[.bool (PW 2), .slice (A 2) (PQ 2).length (Z 2), .int .i64 (PD 2)]) rfl (Or.inl ⟨by rfl, ?_⟩) hH ?_
    ·intro wq hSw
     try dsimp only at hSw
     go_simp
    try simp only [Act.put, zq1, zq2, zq3, zq4, zq5, zq6]
    refine wR 1 (by kernel_rfl) rfl (fun KK hK => ?_)
    simp only [zq1, zq2, zq3]
    rw [if_pos (by rfl)]
    go_simp
    clear hH
    refine hK.out _ _ ?_ (fun hH => ?_)
    ·exact ⟨g0, g1, g2⟩
    clear hK KK
    try simp only [Act.put, zq1, zq2, zq3, zq4, zq5, zq6]
    have mk := more7w_spec (PW c) (PD c) (unhide HB c).1 (unhide HB c).2 (PW 2) (PD 2) (unhide HB 2).1 (unhide HB 2).2 we rX9 rI9 (Nat.le_refl _) (Nat.le_refl _) (Nat.le_refl _) (Nat.le_refl _) (by omega) (unhide HW c) (unhide HW 2)
    rw [unhide HCM c 2] at mk
    have e := selP_more (C := C) (i := 2) (by decide) (unhide HT)
    rw [← unhide hc] at e
    rw [pk_app PW, pk_app PQ, pk_app PD, ← e] at mk
    obtain ⟨c', hn⟩ : ∃ x, selP (fun i j => decide (0 < C i j)) (2 + 1) = x := ⟨_, rfl⟩
    rw [hn] at mk
    have HNM := hide hn.symm
    clear e hn
    refine wR 6 (by kernel_rfl) rfl (fun KK hK => ?_)
    simp only [zq1, zq2, zq3]
    rw [if_pos (by rfl)]
    refine wps2 31 (.tmp 49) (.tmp 53) _ rfl in_l7more (.agg #[.bool (PW c), .slice aH (PQ c).length cH, .int .i64 (PD c)]) (.agg #[.bool (PW 2), .slice (A 2) (PQ 2).length (Z 2), .int .i64 (PD 2)]) rfl rfl mk ?_
    rintro e w6 ⟨vN, rfl, rN, k6⟩
    refine ⟨_, rfl, ?_⟩
    clear mk
    revert g0 g1 g2; refine k6.m3 ?_; intro g0 g1 g2
    obtain ⟨aM, cM, hv⟩ := Row.form' rN
    subst hv
    clear hH
    refine hK.out _ _ ?_ (fun hH => ?_)
    ·exact ⟨g0, g1, g2⟩
    clear hK KK
    try simp only [Act.put, zq1, zq2, zq3, zq4, zq5, zq6]
    have kk := (show Kept 0 0 (ws) we from hwd ▸ (Kept.refl 0 0 (ws)).drew).trans k6
    have z5 := kk.size
    clear rX9 rI9 m0 m1 m2 m3 m4 m5
    have LV5 := L6.kept (unhide LV) hsz kk
    have BV5 := (unhide BV).kept kk
    have BV6 := BV5
    obtain ⟨m0, m1, m2, m3, m4, m5⟩ := BV6
    have f0 := LV5 0 (by decide)
    have f1 := LV5 1 (by decide)
    have f2 := LV5 2 (by decide)
    have f3 := LV5 3 (by decide)
    have f4 := LV5 4 (by decide)
    have f5 := LV5 5 (by decide)
    refine wT (i := 7) (v := .pointer (some ⟨V, 3, none⟩)) rfl (Or.inl ⟨by rfl, ?_⟩) hH ?_
    ·intro wq hSw
     try dsimp only at hSw
     go_simp
    try simp only [Act.put, zq1, zq2, zq3, zq4, zq5, zq6]
    refine wR 8 (by kernel_rfl) rfl (fun KK hK => ?_)
    simp only [zq1, zq2, zq3]
    rw [if_pos (by rfl)]
    go_simp
    clear hH
    refine hK.out _ _ ?_ (fun hH => ?_)
    ·exact ⟨(cell_aside _ (by dsimp only; omega) (cell_aside _ (by dsimp only; omega) (cell_aside _ (by dsimp only; omega) g0))), (cell_aside _ (by dsimp only; omega) (cell_aside _ (by dsimp only; omega) (cell_aside _ (by dsimp only; omega) g1))), (cell_aside _ (by dsimp only; omega) (cell_aside _ (by dsimp only; omega) (cell_aside _ (by dsimp only; omega) g2)))⟩
    clear hK KK
    try simp only [Act.put, zq1, zq2, zq3, zq4, zq5, zq6]
    refine wpAnyH_done (by kernel_rfl) ?_ _
    clear hH g0 g1 g2 f0 f1 f2 f3 f4 f5 m0 m1 m2 m3 m4 m5 F9
    obtain ⟨wt, hws⟩ : ∃ x, x = S3 w6 V 3 (.bool (PW c')) (.slice aM (PQ c').length cM) (.int .i64 (PD c')) := ⟨_, rfl⟩
    have F7 := hide (((unhide F).kept kk).set (o := 3) (Nat.ne_of_lt hgV) (.bool (PW c')) (.slice aM (PQ c').length cM) (.int .i64 (PD c')))
    have RW7 := hide (fun q hq => ((unhide RW q hq).kept kk (.inr (.inr (Nat.le_refl 0)))).set3 (o := 3) (Nat.le_of_lt hgV) (.bool (PW c')) (.slice aM (PQ c').length cM) (.int .i64 (PD c')))
    have BV7 := hide (BV5.high (.bool (PW c')) (.slice aM (PQ c').length cM) (.int .i64 (PD c')))
    have LV7 := hide (LV5.set3 (M := V) (o := 3) (.bool (PW c')) (.slice aM (PQ c').length cM) (.int .i64 (PD c')))
    have BR7 := hide (((unhide BR).kept kk).aside3 (M := V) (o := 3) (by omega) (.bool (PW c')) (.slice aM (PQ c').length cM) (.int .i64 (PD c')))
    have LR7 := hide ((L6.kept (unhide LR) (by omega) kk).set3 (M := V) (o := 3) (.bool (PW c')) (.slice aM (PQ c').length cM) (.int .i64 (PD c')))
    have RN7 := hide (rN.set3 (o := 3) (Nat.le_of_lt hgV) (.bool (PW c')) (.slice aM (PQ c').length cM) (.int .i64 (PD c')))
    have RO7 := hide (((unhide RL).kept kk (.inr (.inr (Nat.le_refl 0)))).set3 (o := 3) (Nat.le_of_lt hgV) (.bool (PW c')) (.slice aM (PQ c').length cM) (.int .i64 (PD c')))
    have K7 := hide (kept_S3 ((unhide K).trans kk) (M := V) (o := 3) (by omega) (.bool (PW c')) (.slice aM (PQ c').length cM) (.int .i64 (PD c')))
    have z7 : V < (S3 w6 V 3 (.bool (PW c')) (.slice aM (PQ c').length cM) (.int .i64 (PD c'))).heap.size := by rw [size_S3]; omega
    rw [← hws] at F7 RW7 BV7 LV7 BR7 LR7 RN7 RO7 K7 z7
    go_wp2
    rw [show (((w6.setCell ⟨V, 3, none⟩ (.bool (PW c'))).setCell ⟨V, 4, none⟩ (.slice aM (PQ c').length cM)).setCell ⟨V, 5, none⟩ (.int .i64 (PD c'))) = wt from hws.symm]
    clear hws kk hwd z5 zd k6 rN F RW BV LV BR LR RL RH K hsz BV5 LV5
    have F := F7
    clear F7
    have RW := RW7
    clear RW7
    have BV := BV7
    clear BV7
    have LV := LV7
    clear LV7
    have BR := BR7
    clear BR7
    have LR := LR7
    clear LR7
    have RH := RN7
    clear RN7
    have RL := RO7
    clear RO7
    have K := K7
    clear K7
    have hsz := z7
    clear z7
    go_roundw
    case rel => exact ⟨2 + 1, b', c', aN, aM, cN, cM, rfl, by omega, by omega, HNL, HNM, F, RW, BV, LV, BR, LR, RL, RH, K, hsz⟩
    case measure => simp [intOf]
   ·go_upto_region 6 with fail
    have F9 := (unhide F).kept (Kept.refl 0 0 wr).drew
    obtain ⟨g0, g1, g2⟩ := F9 3 (by decide)
    replace g0 : (wr).drew.cell? ⟨g, 9, none⟩ = some (.bool (PW 3)) := g0
    replace g1 : (wr).drew.cell? ⟨g, 10, none⟩ = some (.slice (A 3) (PQ 3).length (Z 3)) := g1
    replace g2 : (wr).drew.cell? ⟨g, 11, none⟩ = some (.int .i64 (PD 3)) := g2
    obtain ⟨m0, m1, m2, m3, m4, m5⟩ := (unhide BV).kept (Kept.refl 0 0 wr).drew
    have rX9 := (unhide RL).kept (Kept.refl 0 0 wr).drew (.inr (.inr (Nat.le_refl 0)))
    have rI9 := (unhide RW 3 (by decide)).kept (Kept.refl 0 0 wr).drew (.inr (.inr (Nat.le_refl 0)))
    have zd := (Kept.refl 0 0 wr).drew.size
    refine wp_region_held_drew (S := (fun w' => w'.cell? ⟨g, 9, none⟩ = some (.bool (PW 3)) ∧ w'.cell? ⟨g, 10, none⟩ = some (.slice (A 3) (PQ 3).length (Z 3)) ∧ w'.cell? ⟨g, 11, none⟩ = some (.int .i64 (PD 3)))) (by kernel_rfl) ?_ (fun hH => ?_)
    ·exact ⟨g0, g1, g2⟩
    generalize hwd : (wr).drew = wd at *
    refine wT (i := 0) (v := .pointer (some ⟨V, 0, none⟩)) rfl (Or.inl ⟨by rfl, ?_⟩) hH ?_
    ·intro wq hSw
     try dsimp only at hSw
     go_simp
    try simp only [Act.put, zq1, zq2, zq3, zq4, zq5, zq6]
    refine wT (i := 2) (v := .slice (some ⟨g, 0, none⟩) 4 4) rfl (Or.inl ⟨by rfl, ?_⟩) hH ?_
    ·intro wq hSw
     try dsimp only at hSw
     go_simp
    try simp only [Act.put, zq1, zq2, zq3, zq4, zq5, zq6]
    refine wT (i := 3) (v := .int .i64 3) rfl (Or.inl ⟨by rfl, ?_⟩) hH ?_
    ·intro wq hSw
     try dsimp only at hSw
     go_simp
    try simp only [Act.put, zq1, zq2, zq3, zq4, zq5, zq6]
    refine wT (i := 4) (v := .pointer (some ⟨g, 9, none⟩)) rfl (Or.inl ⟨by rfl, ?_⟩) hH ?_
    ·intro wq hSw
     try dsimp only at hSw
     go_simp
    try simp only [Act.put, zq1, zq2, zq3, zq4, zq5, zq6]
    refine wT (i := 5) (v := .agg #[.bool (PW 3), .slice (A 3) (PQ 3).length (Z 3), .int .i64 (PD 3)]) rfl (Or.inl ⟨by rfl, ?_⟩) hH ?_
    ·intro wq hSw
     try dsimp only at hSw
     go_simp
    try simp only [Act.put, zq1, zq2, zq3, zq4, zq5, zq6]
    refine wR 1 (by kernel_rfl) rfl (fun KK hK => ?_)
    simp only [zq1, zq2, zq3]
    rw [if_pos (by rfl)]
    go_simp
    clear hH
    refine hK.out _ _ ?_ (fun hH => ?_)
    ·exact ⟨g0, g1, g2⟩
    clear hK KK
    try simp only [Act.put, zq1, zq2, zq3, zq4, zq5, zq6]
    have mk := less7w_spec (PW b) (PD b) (unhide HB b).1 (unhide HB b).2 (PW 3) (PD 3) (unhide HB 3).1 (unhide HB 3).2 wd rX9 rI9 (Nat.le_refl _) (Nat.le_refl _) (Nat.le_refl _) (Nat.le_refl _) (by omega) (unhide HW b) (unhide HW 3)
    rw [unhide HCM b 3] at mk
    have e := selP_less (C := C) (i := 3) (by decide) (unhide HT)
    rw [← unhide hb] at e
    rw [pk_app PW, pk_app PQ, pk_app PD, ← e] at mk
    obtain ⟨b', hn⟩ : ∃ x, selP (fun i j => decide (C i j < 0)) (3 + 1) = x := ⟨_, rfl⟩
    rw [hn] at mk
    have HNL := hide hn.symm
    clear e hn
    refine wR 6 (by kernel_rfl) rfl (fun KK hK => ?_)
    simp only [zq1, zq2, zq3]
    rw [if_pos (by rfl)]
    refine wps2 30 (.tmp 41) (.tmp 45) _ rfl in_l7less (.agg #[.bool (PW b), .slice aL (PQ b).length cL, .int .i64 (PD b)]) (.agg #[.bool (PW 3), .slice (A 3) (PQ 3).length (Z 3), .int .i64 (PD 3)]) rfl rfl mk ?_
    rintro e w5 ⟨vN, rfl, rN, k5⟩
    refine ⟨_, rfl, ?_⟩
    clear mk
    revert g0 g1 g2; refine k5.m3 ?_; intro g0 g1 g2
    obtain ⟨aN, cN, hv⟩ := Row.form' rN
    subst hv
    clear hH
    refine hK.out _ _ ?_ (fun hH => ?_)
    ·exact ⟨g0, g1, g2⟩
    clear hK KK
    try simp only [Act.put, zq1, zq2, zq3, zq4, zq5, zq6]
    have kk := (show Kept 0 0 (wr) wd from hwd ▸ (Kept.refl 0 0 (wr)).drew).trans k5
    have z5 := kk.size
    clear rX9 rI9 m0 m1 m2 m3 m4 m5
    have LV5 := L6.kept (unhide LV) hsz kk
    have BV5 := (unhide BV).kept kk
    have BV6 := BV5
    obtain ⟨m0, m1, m2, m3, m4, m5⟩ := BV6
    have f0 := LV5 0 (by decide)
    have f1 := LV5 1 (by decide)
    have f2 := LV5 2 (by decide)
    have f3 := LV5 3 (by decide)
    have f4 := LV5 4 (by decide)
    have f5 := LV5 5 (by decide)
    refine wT (i := 7) (v := .pointer (some ⟨V, 0, none⟩)) rfl (Or.inl ⟨by rfl, ?_⟩) hH ?_
    ·intro wq hSw
     try dsimp only at hSw
     go_simp
    try simp only [Act.put, zq1, zq2, zq3, zq4, zq5, zq6]
    refine wR 8 (by kernel_rfl) rfl (fun KK hK => ?_)
    simp only [zq1, zq2, zq3]
    rw [if_pos (by rfl)]
    go_simp
    clear hH
    refine hK.out _ _ ?_ (fun hH => ?_)
    ·exact ⟨(cell_aside _ (by dsimp only; omega) (cell_aside _ (by dsimp only; omega) (cell_aside _ (by dsimp only; omega) g0))), (cell_aside _ (by dsimp only; omega) (cell_aside _ (by dsimp only; omega) (cell_aside _ (by dsimp only; omega) g1))), (cell_aside _ (by dsimp only; omega) (cell_aside _ (by dsimp only; omega) (cell_aside _ (by dsimp only; omega) g2)))⟩
    clear hK KK
    try simp only [Act.put, zq1, zq2, zq3, zq4, zq5, zq6]
    refine wpAnyH_done (by kernel_rfl) ?_ _
    clear hH g0 g1 g2 f0 f1 f2 f3 f4 f5 m0 m1 m2 m3 m4 m5 F9
    obtain ⟨ws, hws⟩ : ∃ x, x = S3 w5 V 0 (.bool (PW b')) (.slice aN (PQ b').length cN) (.int .i64 (PD b')) := ⟨_, rfl⟩
    have F7 := hide (((unhide F).kept kk).set (o := 0) (Nat.ne_of_lt hgV) (.bool (PW b')) (.slice aN (PQ b').length cN) (.int .i64 (PD b')))
    have RW7 := hide (fun q hq => ((unhide RW q hq).kept kk (.inr (.inr (Nat.le_refl 0)))).set3 (o := 0) (Nat.le_of_lt hgV) (.bool (PW b')) (.slice aN (PQ b').length cN) (.int .i64 (PD b')))
    have BV7 := hide (BV5.low (.bool (PW b')) (.slice aN (PQ b').length cN) (.int .i64 (PD b')))
    have LV7 := hide (LV5.set3 (M := V) (o := 0) (.bool (PW b')) (.slice aN (PQ b').length cN) (.int .i64 (PD b')))
    have BR7 := hide (((unhide BR).kept kk).aside3 (M := V) (o := 0) (by omega) (.bool (PW b')) (.slice aN (PQ b').length cN) (.int .i64 (PD b')))
    have LR7 := hide ((L6.kept (unhide LR) (by omega) kk).set3 (M := V) (o := 0) (.bool (PW b')) (.slice aN (PQ b').length cN) (.int .i64 (PD b')))
    have RN7 := hide (rN.set3 (o := 0) (Nat.le_of_lt hgV) (.bool (PW b')) (.slice aN (PQ b').length cN) (.int .i64 (PD b')))
    have RO7 := hide (((unhide RH).kept kk (.inr (.inr (Nat.le_refl 0)))).set3 (o := 0) (Nat.le_of_lt hgV) (.bool (PW b')) (.slice aN (PQ b').length cN) (.int .i64 (PD b')))
    have K7 := hide (kept_S3 ((unhide K).trans kk) (M := V) (o := 0) (by omega) (.bool (PW b')) (.slice aN (PQ b').length cN) (.int .i64 (PD b')))
    have z7 : V < (S3 w5 V 0 (.bool (PW b')) (.slice aN (PQ b').length cN) (.int .i64 (PD b'))).heap.size := by rw [size_S3]; omega
    rw [← hws] at F7 RW7 BV7 LV7 BR7 LR7 RN7 RO7 K7 z7
    go_upto_region 7 with fail
    rw [show (((w5.setCell ⟨V, 0, none⟩ (.bool (PW b'))).setCell ⟨V, 1, none⟩ (.slice aN (PQ b').length cN)).setCell ⟨V, 2, none⟩ (.int .i64 (PD b'))) = ws from hws.symm]
    clear hws kk hwd z5 zd k5 rN F RW BV LV BR LR RL RH K hsz BV5 LV5
    have F := F7
    clear F7
    have RW := RW7
    clear RW7
    have BV := BV7
    clear BV7
    have LV := LV7
    clear LV7
    have BR := BR7
    clear BR7
    have LR := LR7
    clear LR7
    have RL := RN7
    clear RN7
    have RH := RO7
    clear RO7
    have K := K7
    clear K7
    have hsz := z7
    clear z7
    have F9 := (unhide F).kept (Kept.refl 0 0 ws).drew
    obtain ⟨g0, g1, g2⟩ := F9 3 (by decide)
    replace g0 : (ws).drew.cell? ⟨g, 9, none⟩ = some (.bool (PW 3)) := g0
    replace g1 : (ws).drew.cell? ⟨g, 10, none⟩ = some (.slice (A 3) (PQ 3).length (Z 3)) := g1
    replace g2 : (ws).drew.cell? ⟨g, 11, none⟩ = some (.int .i64 (PD 3)) := g2
    obtain ⟨m0, m1, m2, m3, m4, m5⟩ := (unhide BV).kept (Kept.refl 0 0 ws).drew
    have rX9 := (unhide RH).kept (Kept.refl 0 0 ws).drew (.inr (.inr (Nat.le_refl 0)))
    have rI9 := (unhide RW 3 (by decide)).kept (Kept.refl 0 0 ws).drew (.inr (.inr (Nat.le_refl 0)))
    have zd := (Kept.refl 0 0 ws).drew.size
    refine wp_region_held_drew (S := (fun w' => w'.cell? ⟨g, 9, none⟩ = some (.bool (PW 3)) ∧ w'.cell? ⟨g, 10, none⟩ = some (.slice (A 3) (PQ 3).length (Z 3)) ∧ w'.cell? ⟨g, 11, none⟩ = some (.int .i64 (PD 3)))) (by kernel_rfl) ?_ (fun hH => ?_)
    ·exact ⟨g0, g1, g2⟩
    generalize hwd : (ws).drew = we at *
    refine wT (i := 0) (v := .pointer (some ⟨V, 3, none⟩)) rfl (Or.inl ⟨by rfl, ?_⟩) hH ?_
    ·intro wq hSw
     try dsimp only at hSw
     go_simp
    try simp only [Act.put, zq1, zq2, zq3, zq4, zq5, zq6]
    refine wT (i := 2) (v := .slice (some ⟨g, 0, none⟩) 4 4) rfl (Or.inl ⟨by rfl, ?_⟩) hH ?_
    ·intro wq hSw
     try dsimp only at hSw
     go_simp
    try simp only [Act.put, zq1, zq2, zq3, zq4, zq5, zq6]
    refine wT (i := 3) (v := .int .i64 3) rfl (Or.inl ⟨by rfl, ?_⟩) hH ?_
    ·intro wq hSw
     try dsimp only at hSw
     go_simp
    try simp only [Act.put, zq1, zq2, zq3, zq4, zq5, zq6]
    refine wT (i := 4) (v := .pointer (some ⟨g, 9, none⟩)) rfl (Or.inl ⟨by rfl, ?_⟩) hH ?_
    ·intro wq hSw
     try dsimp only at hSw
     go_simp
    try simp only [Act.put, zq1, zq2, zq3, zq4, zq5, zq6]
    refine wT (i := 5) (v := .agg #[.bool (PW 3), .slice (A 3) (PQ 3).length (Z 3), .int .i64 (PD 3)]) rfl (Or.inl ⟨by rfl, ?_⟩) hH ?_
    ·intro wq hSw
     try dsimp only at hSw
     go_simp
    try simp only [Act.put, zq1, zq2, zq3, zq4, zq5, zq6]
    refine wR 1 (by kernel_rfl) rfl (fun KK hK => ?_)
    simp only [zq1, zq2, zq3]
    rw [if_pos (by rfl)]
    go_simp
    clear hH
    refine hK.out _ _ ?_ (fun hH => ?_)
    ·exact ⟨g0, g1, g2⟩
    clear hK KK
    try simp only [Act.put, zq1, zq2, zq3, zq4, zq5, zq6]
    have mk := more7w_spec (PW c) (PD c) (unhide HB c).1 (unhide HB c).2 (PW 3) (PD 3) (unhide HB 3).1 (unhide HB 3).2 we rX9 rI9 (Nat.le_refl _) (Nat.le_refl _) (Nat.le_refl _) (Nat.le_refl _) (by omega) (unhide HW c) (unhide HW 3)
    rw [unhide HCM c 3] at mk
    have e := selP_more (C := C) (i := 3) (by decide) (unhide HT)
    rw [← unhide hc] at e
    rw [pk_app PW, pk_app PQ, pk_app PD, ← e] at mk
    obtain ⟨c', hn⟩ : ∃ x, selP (fun i j => decide (0 < C i j)) (3 + 1) = x := ⟨_, rfl⟩
    rw [hn] at mk
    have HNM := hide hn.symm
    clear e hn
    refine wR 6 (by kernel_rfl) rfl (fun KK hK => ?_)
    simp only [zq1, zq2, zq3]
    rw [if_pos (by rfl)]
    refine wps2 31 (.tmp 49) (.tmp 53) _ rfl in_l7more (.agg #[.bool (PW c), .slice aH (PQ c).length cH, .int .i64 (PD c)]) (.agg #[.bool (PW 3), .slice (A 3) (PQ 3).length (Z 3), .int .i64 (PD 3)]) rfl rfl mk ?_
    rintro e w6 ⟨vN, rfl, rN, k6⟩
    refine ⟨_, rfl, ?_⟩
    clear mk
    revert g0 g1 g2; refine k6.m3 ?_; intro g0 g1 g2
    obtain ⟨aM, cM, hv⟩ := Row.form' rN
    subst hv
    clear hH
    refine hK.out _ _ ?_ (fun hH => ?_)
    ·exact ⟨g0, g1, g2⟩
    clear hK KK
    try simp only [Act.put, zq1, zq2, zq3, zq4, zq5, zq6]
    have kk := (show Kept 0 0 (ws) we from hwd ▸ (Kept.refl 0 0 (ws)).drew).trans k6
    have z5 := kk.size
    clear rX9 rI9 m0 m1 m2 m3 m4 m5
    have LV5 := L6.kept (unhide LV) hsz kk
    have BV5 := (unhide BV).kept kk
    have BV6 := BV5
    obtain ⟨m0, m1, m2, m3, m4, m5⟩ := BV6
    have f0 := LV5 0 (by decide)
    have f1 := LV5 1 (by decide)
    have f2 := LV5 2 (by decide)
    have f3 := LV5 3 (by decide)
    have f4 := LV5 4 (by decide)
    have f5 := LV5 5 (by decide)
    refine wT (i := 7) (v := .pointer (some ⟨V, 3, none⟩)) rfl (Or.inl ⟨by rfl, ?_⟩) hH ?_
    ·intro wq hSw
     try dsimp only at hSw
     go_simp
    try simp only [Act.put, zq1, zq2, zq3, zq4, zq5, zq6]
    refine wR 8 (by kernel_rfl) rfl (fun KK hK => ?_)
    simp only [zq1, zq2, zq3]
    rw [if_pos (by rfl)]
    go_simp
    clear hH
    refine hK.out _ _ ?_ (fun hH => ?_)
    ·exact ⟨(cell_aside _ (by dsimp only; omega) (cell_aside _ (by dsimp only; omega) (cell_aside _ (by dsimp only; omega) g0))), (cell_aside _ (by dsimp only; omega) (cell_aside _ (by dsimp only; omega) (cell_aside _ (by dsimp only; omega) g1))), (cell_aside _ (by dsimp only; omega) (cell_aside _ (by dsimp only; omega) (cell_aside _ (by dsimp only; omega) g2)))⟩
    clear hK KK
    try simp only [Act.put, zq1, zq2, zq3, zq4, zq5, zq6]
    refine wpAnyH_done (by kernel_rfl) ?_ _
    clear hH g0 g1 g2 f0 f1 f2 f3 f4 f5 m0 m1 m2 m3 m4 m5 F9
    obtain ⟨wt, hws⟩ : ∃ x, x = S3 w6 V 3 (.bool (PW c')) (.slice aM (PQ c').length cM) (.int .i64 (PD c')) := ⟨_, rfl⟩
    have F7 := hide (((unhide F).kept kk).set (o := 3) (Nat.ne_of_lt hgV) (.bool (PW c')) (.slice aM (PQ c').length cM) (.int .i64 (PD c')))
    have RW7 := hide (fun q hq => ((unhide RW q hq).kept kk (.inr (.inr (Nat.le_refl 0)))).set3 (o := 3) (Nat.le_of_lt hgV) (.bool (PW c')) (.slice aM (PQ c').length cM) (.int .i64 (PD c')))
    have BV7 := hide (BV5.high (.bool (PW c')) (.slice aM (PQ c').length cM) (.int .i64 (PD c')))
    have LV7 := hide (LV5.set3 (M := V) (o := 3) (.bool (PW c')) (.slice aM (PQ c').length cM) (.int .i64 (PD c')))
    have BR7 := hide (((unhide BR).kept kk).aside3 (M := V) (o := 3) (by omega) (.bool (PW c')) (.slice aM (PQ c').length cM) (.int .i64 (PD c')))
    have LR7 := hide ((L6.kept (unhide LR) (by omega) kk).set3 (M := V) (o := 3) (.bool (PW c')) (.slice aM (PQ c').length cM) (.int .i64 (PD c')))
    have RN7 := hide (rN.set3 (o := 3) (Nat.le_of_lt hgV) (.bool (PW c')) (.slice aM (PQ c').length cM) (.int .i64 (PD c')))
    have RO7 := hide (((unhide RL).kept kk (.inr (.inr (Nat.le_refl 0)))).set3 (o := 3) (Nat.le_of_lt hgV) (.bool (PW c')) (.slice aM (PQ c').length cM) (.int .i64 (PD c')))
    have K7 := hide (kept_S3 ((unhide K).trans kk) (M := V) (o := 3) (by omega) (.bool (PW c')) (.slice aM (PQ c').length cM) (.int .i64 (PD c')))
    have z7 : V < (S3 w6 V 3 (.bool (PW c')) (.slice aM (PQ c').length cM) (.int .i64 (PD c'))).heap.size := by rw [size_S3]; omega
    rw [← hws] at F7 RW7 BV7 LV7 BR7 LR7 RN7 RO7 K7 z7
    go_wp2
    rw [show (((w6.setCell ⟨V, 3, none⟩ (.bool (PW c'))).setCell ⟨V, 4, none⟩ (.slice aM (PQ c').length cM)).setCell ⟨V, 5, none⟩ (.int .i64 (PD c'))) = wt from hws.symm]
    clear hws kk hwd z5 zd k6 rN F RW BV LV BR LR RL RH K hsz BV5 LV5
    have F := F7
    clear F7
    have RW := RW7
    clear RW7
    have BV := BV7
    clear BV7
    have LV := LV7
    clear LV7
    have BR := BR7
    clear BR7
    have LR := LR7
    clear LR7
    have RH := RN7
    clear RN7
    have RL := RO7
    clear RO7
    have K := K7
    clear K7
    have hsz := z7
    clear z7
    go_roundw
    case rel => exact ⟨3 + 1, b', c', aN, aM, cN, cM, rfl, by omega, by omega, HNL, HNM, F, RW, BV, LV, BR, LR, RL, RH, K, hsz⟩
    case measure => simp [intOf]
   ·obtain rfl : b = i0 := (unhide hb).trans (unhide HI0)
    obtain rfl : c = i1 := (unhide hc).trans (unhide HI1)
    obtain ⟨m0, m1, m2, m3, m4, m5⟩ := unhide BV
    obtain ⟨R0, R1, R2, R3, R4, R5⟩ := unhide BR
    have lr := unhide LR
    have f0 := lr 0 (by decide)
    have f1 := lr 1 (by decide)
    have f2 := lr 2 (by decide)
    have f3 := lr 3 (by decide)
    have f4 := lr 4 (by decide)
    have f5 := lr 5 (by decide)
    clear lr
    have RA := hide ((((((((unhide RL).set_other (p := ⟨w.heap.size + 2, 0, none⟩) (.inl (by dsimp only; omega)) (.bool (PW b))).set_other (p := ⟨w.heap.size + 2, 1, none⟩) (.inl (by dsimp only; omega)) (.slice aL (PQ b).length cL)).set_other (p := ⟨w.heap.size + 2, 2, none⟩) (.inl (by dsimp only; omega)) (.int .i64 (PD b))).set_other (p := ⟨w.heap.size + 2, 3, none⟩) (.inl (by dsimp only; omega)) (.bool (PW c))).set_other (p := ⟨w.heap.size + 2, 4, none⟩) (.inl (by dsimp only; omega)) (.slice aH (PQ c).length cH)).set_other (p := ⟨w.heap.size + 2, 5, none⟩) (.inl (by dsimp only; omega)) (.int .i64 (PD c))).tight.wider (lo' := 0) (Nat.zero_le _) (Nat.le_refl _))
    have RB := hide ((((((((unhide RH).set_other (p := ⟨w.heap.size + 2, 0, none⟩) (.inl (by dsimp only; omega)) (.bool (PW b))).set_other (p := ⟨w.heap.size + 2, 1, none⟩) (.inl (by dsimp only; omega)) (.slice aL (PQ b).length cL)).set_other (p := ⟨w.heap.size + 2, 2, none⟩) (.inl (by dsimp only; omega)) (.int .i64 (PD b))).set_other (p := ⟨w.heap.size + 2, 3, none⟩) (.inl (by dsimp only; omega)) (.bool (PW c))).set_other (p := ⟨w.heap.size + 2, 4, none⟩) (.inl (by dsimp only; omega)) (.slice aH (PQ c).length cH)).set_other (p := ⟨w.heap.size + 2, 5, none⟩) (.inl (by dsimp only; omega)) (.int .i64 (PD c))).tight.wider (lo' := 0) (Nat.zero_le _) (Nat.le_refl _))
    have K7 := hide (((((((unhide K).setNew (p := ⟨w.heap.size + 2, 0, none⟩) (by simp) (.bool (PW b))).setNew (p := ⟨w.heap.size + 2, 1, none⟩) (by simp) (.slice aL (PQ b).length cL)).setNew (p := ⟨w.heap.size + 2, 2, none⟩) (by simp) (.int .i64 (PD b))).setNew (p := ⟨w.heap.size + 2, 3, none⟩) (by simp) (.bool (PW c))).setNew (p := ⟨w.heap.size + 2, 4, none⟩) (by simp) (.slice aH (PQ c).length cH)).setNew (p := ⟨w.heap.size + 2, 5, none⟩) (by simp) (.int .i64 (PD c)))
    clear K F RW BV LV BR LR RL RH hb hc
    go_wp2_with fail
    exact bodyPost_ret (v := .agg #[.bool (PW b), .slice aL (PQ b).length cL, .int .i64 (PD b), .bool (PW c), .slice aH (PQ c).length cH, .int .i64 (PD c)]) (by simp [results, Tryd.results14, go_sem, R0, R1, R2, R3, R4, R5]) rfl ⟨_, _, rfl, unhide RA, unhide RB, unhide K7⟩

end Go.Proofs.YtpognolidbgkkaaDoor

