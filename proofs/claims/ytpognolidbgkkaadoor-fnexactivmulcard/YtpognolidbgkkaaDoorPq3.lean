/-
  The greatest and the least of four pairs in a list: slices.MaxFunc and slices.MinFunc.
-/
import Derived.Test.YtpognolidbgkkaaDoorBR
import Derived.Test.YtpognolidbgkkaaDoorBC
import Derived.Test.YtpognolidbgkkaaDoorDy2
import Derived.Test.YtpognolidbgkkaaDoorIvX
import Derived.Deep.DeepCutAuto
import Derived.Deep.RegionHeld3
import Derived.LoopN
namespace Go.Proofs.YtpognolidbgkkaaDoor
open Go.RowKit
set_option linter.unusedVariables false
set_option maxRecDepth 8000
set_option linter.unusedSimpArgs false

/-- Which of the first i comes out, where t tells whether one takes another's place. -/
def selP (t : Nat → Nat → Bool) : Nat → Nat
  | 0 => 0
  | 1 => 0
  | i + 2 => if t (i + 1) (selP t (i + 1)) = true then i + 1 else selP t (i + 1)
/-- Six cells of a block. -/
def P6 (w : World) (b : Nat) (v0 v1 v2 v3 v4 v5 : Value) : Prop := w.cell? ⟨b, 0, none⟩ = some v0 ∧ w.cell? ⟨b, 1, none⟩ = some v1 ∧ w.cell? ⟨b, 2, none⟩ = some v2 ∧ w.cell? ⟨b, 3, none⟩ = some v3 ∧ w.cell? ⟨b, 4, none⟩ = some v4 ∧ w.cell? ⟨b, 5, none⟩ = some v5
theorem P6.kept {w w' : World} {b : Nat} {v0 v1 v2 v3 v4 v5 : Value} (h : P6 w b v0 v1 v2 v3 v4 v5) (k : Kept 0 0 w w') : P6 w' b v0 v1 v2 v3 v4 v5 := ⟨k.cell0 h.1, k.cell0 h.2.1, k.cell0 h.2.2.1, k.cell0 h.2.2.2.1, k.cell0 h.2.2.2.2.1, k.cell0 h.2.2.2.2.2⟩
def S6 (w : World) (M : Nat) (u0 u1 u2 u3 u4 u5 : Value) : World := (((((w.setCell ⟨M, 0, none⟩ u0).setCell ⟨M, 1, none⟩ u1).setCell ⟨M, 2, none⟩ u2).setCell ⟨M, 3, none⟩ u3).setCell ⟨M, 4, none⟩ u4).setCell ⟨M, 5, none⟩ u5
theorem aside6 {w : World} {a : Addr} {v : Value} {M : Nat} (h : w.cell? a = some v) (hne : a.block ≠ M) (u0 u1 u2 u3 u4 u5 : Value) : (S6 w M u0 u1 u2 u3 u4 u5).cell? a = some v :=
  cell_aside _ (by dsimp only; omega) (cell_aside _ (by dsimp only; omega) (cell_aside _ (by dsimp only; omega) (cell_aside _ (by dsimp only; omega) (cell_aside _ (by dsimp only; omega) (cell_aside _ (by dsimp only; omega) h)))))
theorem P6.aside {w : World} {b M : Nat} {v0 v1 v2 v3 v4 v5 : Value} (h : P6 w b v0 v1 v2 v3 v4 v5) (hne : b ≠ M) (u0 u1 u2 u3 u4 u5 : Value) : P6 (S6 w M u0 u1 u2 u3 u4 u5) b v0 v1 v2 v3 v4 v5 :=
  ⟨aside6 h.1 hne _ _ _ _ _ _, aside6 h.2.1 hne _ _ _ _ _ _, aside6 h.2.2.1 hne _ _ _ _ _ _, aside6 h.2.2.2.1 hne _ _ _ _ _ _, aside6 h.2.2.2.2.1 hne _ _ _ _ _ _, aside6 h.2.2.2.2.2 hne _ _ _ _ _ _⟩
theorem P6.set {w : World} {b : Nat} {v0 v1 v2 v3 v4 v5 : Value} (h : P6 w b v0 v1 v2 v3 v4 v5) (u0 u1 u2 u3 u4 u5 : Value) : P6 (S6 w b u0 u1 u2 u3 u4 u5) b u0 u1 u2 u3 u4 u5 :=
  ⟨cell_off _ _ _ _ _ _ (cell_off _ _ _ _ _ _ (cell_off _ _ _ _ _ _ (cell_off _ _ _ _ _ _ (cell_off _ _ _ _ _ _ (cell_on _ _ _ _ _ h.1) (by decide)) (by decide)) (by decide)) (by decide)) (by decide),
   cell_off _ _ _ _ _ _ (cell_off _ _ _ _ _ _ (cell_off _ _ _ _ _ _ (cell_off _ _ _ _ _ _ (cell_on _ _ _ _ _ (cell_off _ _ _ _ _ _ h.2.1 (by decide))) (by decide)) (by decide)) (by decide)) (by decide),
   cell_off _ _ _ _ _ _ (cell_off _ _ _ _ _ _ (cell_off _ _ _ _ _ _ (cell_on _ _ _ _ _ (cell_off _ _ _ _ _ _ (cell_off _ _ _ _ _ _ h.2.2.1 (by decide)) (by decide))) (by decide)) (by decide)) (by decide),
   cell_off _ _ _ _ _ _ (cell_off _ _ _ _ _ _ (cell_on _ _ _ _ _ (cell_off _ _ _ _ _ _ (cell_off _ _ _ _ _ _ (cell_off _ _ _ _ _ _ h.2.2.2.1 (by decide)) (by decide)) (by decide))) (by decide)) (by decide),
   cell_off _ _ _ _ _ _ (cell_on _ _ _ _ _ (cell_off _ _ _ _ _ _ (cell_off _ _ _ _ _ _ (cell_off _ _ _ _ _ _ (cell_off _ _ _ _ _ _ h.2.2.2.2.1 (by decide)) (by decide)) (by decide)) (by decide))) (by decide),
   cell_on _ _ _ _ _ (cell_off _ _ _ _ _ _ (cell_off _ _ _ _ _ _ (cell_off _ _ _ _ _ _ (cell_off _ _ _ _ _ _ (cell_off _ _ _ _ _ _ h.2.2.2.2.2 (by decide)) (by decide)) (by decide)) (by decide)) (by decide))⟩
/-- Six cells may be written. -/
def L6 (w : World) (b : Nat) : Prop := ∀ o, o < 6 → w.frozen? ⟨b, o, none⟩ = false
theorem L6.kept {w w' : World} {b : Nat} (h : L6 w b) (hb : b < w.heap.size) (k : Kept 0 0 w w') : L6 w' b := fun o ho => k.loose0 hb (h o ho)
theorem L6.set {w : World} {b M : Nat} (h : L6 w b) (u0 u1 u2 u3 u4 u5 : Value) : L6 (S6 w M u0 u1 u2 u3 u4 u5) b := fun o ho => by unfold S6; rw [frozen_set, frozen_set, frozen_set, frozen_set, frozen_set, frozen_set]; exact h o ho
/-- Four pairs in a list. -/
def PL (w : World) (g : Nat) (s s' : Nat → Bool) (a a' : Nat → Option Addr) (n c n' c' : Nat → Nat) (x x' : Nat → Int) : Prop := ∀ k, k < 4 → w.cell? ⟨g, 6 * k, none⟩ = some (.bool (s k)) ∧ w.cell? ⟨g, 6 * k + 1, none⟩ = some (.slice (a k) (n k) (c k)) ∧ w.cell? ⟨g, 6 * k + 2, none⟩ = some (.int .i64 (x k)) ∧ w.cell? ⟨g, 6 * k + 3, none⟩ = some (.bool (s' k)) ∧ w.cell? ⟨g, 6 * k + 4, none⟩ = some (.slice (a' k) (n' k) (c' k)) ∧ w.cell? ⟨g, 6 * k + 5, none⟩ = some (.int .i64 (x' k))
theorem PL.kept {w w' : World} {g : Nat} {s s' : Nat → Bool} {a a' : Nat → Option Addr} {n c n' c' : Nat → Nat} {x x' : Nat → Int} (h : PL w g s s' a a' n c n' c' x x') (k : Kept 0 0 w w') : PL w' g s s' a a' n c n' c' x x' := fun i hi => by
  obtain ⟨h0, h1, h2, h3, h4, h5⟩ := h i hi
  exact ⟨k.cell0 h0, k.cell0 h1, k.cell0 h2, k.cell0 h3, k.cell0 h4, k.cell0 h5⟩
theorem PL.lt {w : World} {g : Nat} {s s' : Nat → Bool} {a a' : Nat → Option Addr} {n c n' c' : Nat → Nat} {x x' : Nat → Int} (h : PL w g s s' a a' n c n' c' x x') : g < w.heap.size := World.block_lt_of_cell? _ ⟨g, 0, none⟩ (h 0 (by decide)).1
theorem PL.set {w : World} {g M : Nat} {s s' : Nat → Bool} {a a' : Nat → Option Addr} {n c n' c' : Nat → Nat} {x x' : Nat → Int} (h : PL w g s s' a a' n c n' c' x x') (hne : g ≠ M) (u0 u1 u2 u3 u4 u5 : Value) : PL (S6 w M u0 u1 u2 u3 u4 u5) g s s' a a' n c n' c' x x' := fun i hi => by
  obtain ⟨h0, h1, h2, h3, h4, h5⟩ := h i hi
  exact ⟨aside6 h0 hne _ _ _ _ _ _, aside6 h1 hne _ _ _ _ _ _, aside6 h2 hne _ _ _ _ _ _, aside6 h3 hne _ _ _ _ _ _, aside6 h4 hne _ _ _ _ _ _, aside6 h5 hne _ _ _ _ _ _⟩

set_option maxHeartbeats 8000000 in
theorem maxQ_impl {s s' : Nat → Bool} {a a' : Nat → Option Addr} {n c n' c' : Nat → Nat} {x x' : Nat → Int} {g cc : Nat} {C : Nat → Nat → Int} (f : FuncId) (hcf : ∀ (w : World) (args : Array Value), (callFunc f args).run Tryd.prog w = .ok (.enter f args) w) (w : World) (F : PL w g s s' a a' n c n' c' x x')
    (h1 : ∀ (i j : Nat) w1, Kept 0 0 w w1 → Calls Tryd.prog f #[.agg #[.bool (s i), .slice (a i) (n i) (c i), .int .i64 (x i), .bool (s' i), .slice (a' i) (n' i) (c' i), .int .i64 (x' i)], .agg #[.bool (s j), .slice (a j) (n j) (c j), .int .i64 (x j), .bool (s' j), .slice (a' j) (n' j) (c' j), .int .i64 (x' j)]] w1 (fun e w' => e = .returned (.int .i64 (C i j)) ∧ Kept 0 0 w1 w')) :
    Calls Tryd.prog 36 #[.slice (some ⟨g, 0, none⟩) 4 cc, .func (.func f) #[] #[]] w fun e w' => e = .returned (.agg #[.bool (s (selP (fun i j => decide (0 < C i j)) 4)), .slice (a (selP (fun i j => decide (0 < C i j)) 4)) (n (selP (fun i j => decide (0 < C i j)) 4)) (c (selP (fun i j => decide (0 < C i j)) 4)), .int .i64 (x (selP (fun i j => decide (0 < C i j)) 4)), .bool (s' (selP (fun i j => decide (0 < C i j)) 4)), .slice (a' (selP (fun i j => decide (0 < C i j)) 4)) (n' (selP (fun i j => decide (0 < C i j)) 4)) (c' (selP (fun i j => decide (0 < C i j)) 4)), .int .i64 (x' (selP (fun i j => decide (0 < C i j)) 4))]) ∧ Kept 0 0 w w' := by
  have H1 := hide h1
  clear h1
  have hgl := F.lt
  obtain ⟨m, hm⟩ : ∃ m, selP (fun i j => decide (0 < C i j)) 4 = m := ⟨_, rfl⟩
  rw [hm]
  have HM := hide hm
  clear hm
  have k0 : Kept 0 0 w ((w.alloc (.cells #[.bool false, .slice none 0 0, .int .i64 0, .bool false, .slice none 0 0, .int .i64 0] 51)).alloc (.cells #[.bool (s 0), .slice (a 0) (n 0) (c 0), .int .i64 (x 0), .bool (s' 0), .slice (a' 0) (n' 0) (c' 0), .int .i64 (x' 0)] 51)) := ((Kept.refl 0 0 w).alloc _).alloc _
  have kR : Kept 0 0 w (w.alloc (.cells #[.bool false, .slice none 0 0, .int .i64 0, .bool false, .slice none 0 0, .int .i64 0] 51)) := (Kept.refl 0 0 w).alloc _
  have F2 := F.kept k0
  have FR := F.kept kR
  have BR : P6 ((w.alloc (.cells #[.bool false, .slice none 0 0, .int .i64 0, .bool false, .slice none 0 0, .int .i64 0] 51)).alloc (.cells #[.bool (s 0), .slice (a 0) (n 0) (c 0), .int .i64 (x 0), .bool (s' 0), .slice (a' 0) (n' 0) (c' 0), .int .i64 (x' 0)] 51)) w.heap.size (.bool false) (.slice none 0 0) (.int .i64 0) (.bool false) (.slice none 0 0) (.int .i64 0) := P6.kept ⟨new_cell2 _ _ _ _ _ _ (by simp) rfl, new_cell2 _ _ _ _ _ _ (by simp) rfl, new_cell2 _ _ _ _ _ _ (by simp) rfl, new_cell2 _ _ _ _ _ _ (by simp) rfl, new_cell2 _ _ _ _ _ _ (by simp) rfl, new_cell2 _ _ _ _ _ _ (by simp) rfl⟩ ((Kept.refl 0 0 (w.alloc (.cells #[.bool false, .slice none 0 0, .int .i64 0, .bool false, .slice none 0 0, .int .i64 0] 51))).alloc _)
  have BM : P6 ((w.alloc (.cells #[.bool false, .slice none 0 0, .int .i64 0, .bool false, .slice none 0 0, .int .i64 0] 51)).alloc (.cells #[.bool (s 0), .slice (a 0) (n 0) (c 0), .int .i64 (x 0), .bool (s' 0), .slice (a' 0) (n' 0) (c' 0), .int .i64 (x' 0)] 51)) (w.heap.size + 1) (.bool (s 0)) (.slice (a 0) (n 0) (c 0)) (.int .i64 (x 0)) (.bool (s' 0)) (.slice (a' 0) (n' 0) (c' 0)) (.int .i64 (x' 0)) := ⟨new_cell2 _ _ _ _ _ _ (by simp) rfl, new_cell2 _ _ _ _ _ _ (by simp) rfl, new_cell2 _ _ _ _ _ _ (by simp) rfl, new_cell2 _ _ _ _ _ _ (by simp) rfl, new_cell2 _ _ _ _ _ _ (by simp) rfl, new_cell2 _ _ _ _ _ _ (by simp) rfl⟩
  have LR : L6 ((w.alloc (.cells #[.bool false, .slice none 0 0, .int .i64 0, .bool false, .slice none 0 0, .int .i64 0] 51)).alloc (.cells #[.bool (s 0), .slice (a 0) (n 0) (c 0), .int .i64 (x 0), .bool (s' 0), .slice (a' 0) (n' 0) (c' 0), .int .i64 (x' 0)] 51)) w.heap.size := fun o ho => loose_old (by simp <;> omega) (new_loose2 _ _ _ _ _ (by simp))
  have LM : L6 ((w.alloc (.cells #[.bool false, .slice none 0 0, .int .i64 0, .bool false, .slice none 0 0, .int .i64 0] 51)).alloc (.cells #[.bool (s 0), .slice (a 0) (n 0) (c 0), .int .i64 (x 0), .bool (s' 0), .slice (a' 0) (n' 0) (c' 0), .int .i64 (x' 0)] 51)) (w.heap.size + 1) := fun o ho => new_loose2 _ _ _ _ _ (by simp)
  have s0 : ((w.alloc (.cells #[.bool false, .slice none 0 0, .int .i64 0, .bool false, .slice none 0 0, .int .i64 0] 51)).alloc (.cells #[.bool (s 0), .slice (a 0) (n 0) (c 0), .int .i64 (x 0), .bool (s' 0), .slice (a' 0) (n' 0) (c' 0), .int .i64 (x' 0)] 51)).heap.size = w.heap.size + 2 := by simp
  obtain ⟨q0, q1, q2, q3, q4, q5⟩ := FR 0 (by decide)
  replace q0 : (w.alloc (.cells #[.bool false, .slice none 0 0, .int .i64 0, .bool false, .slice none 0 0, .int .i64 0] 51)).cell? ⟨g, 0, none⟩ = some (.bool (s 0)) := q0
  replace q1 : (w.alloc (.cells #[.bool false, .slice none 0 0, .int .i64 0, .bool false, .slice none 0 0, .int .i64 0] 51)).cell? ⟨g, 1, none⟩ = some (.slice (a 0) (n 0) (c 0)) := q1
  replace q2 : (w.alloc (.cells #[.bool false, .slice none 0 0, .int .i64 0, .bool false, .slice none 0 0, .int .i64 0] 51)).cell? ⟨g, 2, none⟩ = some (.int .i64 (x 0)) := q2
  replace q3 : (w.alloc (.cells #[.bool false, .slice none 0 0, .int .i64 0, .bool false, .slice none 0 0, .int .i64 0] 51)).cell? ⟨g, 3, none⟩ = some (.bool (s' 0)) := q3
  replace q4 : (w.alloc (.cells #[.bool false, .slice none 0 0, .int .i64 0, .bool false, .slice none 0 0, .int .i64 0] 51)).cell? ⟨g, 4, none⟩ = some (.slice (a' 0) (n' 0) (c' 0)) := q4
  replace q5 : (w.alloc (.cells #[.bool false, .slice none 0 0, .int .i64 0, .bool false, .slice none 0 0, .int .i64 0] 51)).cell? ⟨g, 5, none⟩ = some (.int .i64 (x' 0)) := q5
  have K := hide k0
  clear k0 kR FR F
  go_enter Tryd.func36, Tryd.ntmps36
  go_wp2_with fail
  clear q0 q1 q2 q3 q4 q5
  generalize ((w.alloc (.cells #[.bool false, .slice none 0 0, .int .i64 0, .bool false, .slice none 0 0, .int .i64 0] 51)).alloc (.cells #[.bool (s 0), .slice (a 0) (n 0) (c 0), .int .i64 (x 0), .bool (s' 0), .slice (a' 0) (n' 0) (c' 0), .int .i64 (x' 0)] 51)) = W at *
  have HF := hide F2
  have HBR := hide BR
  have HBM := hide BM
  have HLR := hide LR
  have HLM := hide LM
  clear F2 BR BM LR LM
  go_loopw [6] (fun ii wr => ∃ (i b : Nat), ii = .int .i64 (i : Int) ∧ 1 ≤ i ∧ i ≤ 4 ∧ Hid (b = selP (fun i j => decide (0 < C i j)) i) ∧ Hid (PL wr g s s' a a' n c n' c' x x') ∧ Hid (P6 wr w.heap.size (.bool false) (.slice none 0 0) (.int .i64 0) (.bool false) (.slice none 0 0) (.int .i64 0)) ∧ Hid (P6 wr (w.heap.size + 1) (.bool (s b)) (.slice (a b) (n b) (c b)) (.int .i64 (x b)) (.bool (s' b)) (.slice (a' b) (n' b) (c' b)) (.int .i64 (x' b))) ∧ Hid (L6 wr w.heap.size) ∧ Hid (L6 wr (w.heap.size + 1)) ∧ Hid (Kept 0 0 w wr) ∧ w.heap.size + 2 ≤ wr.heap.size) (fun ii _ => 4 - (intOf ii).toNat)
  case atStart => exact ⟨1, 0, rfl, by omega, by omega, rfl, HF, HBR, HBM, HLR, HLM, K, by omega⟩
  case round =>
   clear HF HBR HBM HLR HLM K
   obtain ⟨i, b, rfl, hi1, hi4, hb, F, BR, BM, LR, LM, K, hsz⟩ := hrel
   obtain rfl | rfl | rfl | rfl : i = 1 ∨ i = 2 ∨ i = 3 ∨ i = 4 := by omega
   ·cases hd : decide (0 < C 1 b)
    ·have HD := hide hd
     clear hd
     go_wp2_with fail
     have hF := (unhide F).kept (Kept.refl 0 0 wr).drew
     have hM := (unhide BM).kept (Kept.refl 0 0 wr).drew
     have K9 := (unhide K).trans (Kept.refl 0 0 wr).drew
     obtain ⟨g0, g1, g2, g3, g4, g5⟩ := hF 1 (by decide)
     obtain ⟨m0, m1, m2, m3, m4, m5⟩ := hM
     replace g0 : wr.drew.cell? ⟨g, 6, none⟩ = some (.bool (s 1)) := g0
     replace g1 : wr.drew.cell? ⟨g, 7, none⟩ = some (.slice (a 1) (n 1) (c 1)) := g1
     replace g2 : wr.drew.cell? ⟨g, 8, none⟩ = some (.int .i64 (x 1)) := g2
     replace g3 : wr.drew.cell? ⟨g, 9, none⟩ = some (.bool (s' 1)) := g3
     replace g4 : wr.drew.cell? ⟨g, 10, none⟩ = some (.slice (a' 1) (n' 1) (c' 1)) := g4
     replace g5 : wr.drew.cell? ⟨g, 11, none⟩ = some (.int .i64 (x' 1)) := g5
     refine wp_region_held_drew (S := (fun w' => w'.cell? ⟨g, 6, none⟩ = some (.bool (s 1)) ∧ w'.cell? ⟨g, 7, none⟩ = some (.slice (a 1) (n 1) (c 1)) ∧ w'.cell? ⟨g, 8, none⟩ = some (.int .i64 (x 1)) ∧ w'.cell? ⟨g, 9, none⟩ = some (.bool (s' 1)) ∧ w'.cell? ⟨g, 10, none⟩ = some (.slice (a' 1) (n' 1) (c' 1)) ∧ w'.cell? ⟨g, 11, none⟩ = some (.int .i64 (x' 1)) ∧ w'.cell? ⟨w.heap.size + 1, 0, none⟩ = some (.bool (s b)) ∧ w'.cell? ⟨w.heap.size + 1, 1, none⟩ = some (.slice (a b) (n b) (c b)) ∧ w'.cell? ⟨w.heap.size + 1, 2, none⟩ = some (.int .i64 (x b)) ∧ w'.cell? ⟨w.heap.size + 1, 3, none⟩ = some (.bool (s' b)) ∧ w'.cell? ⟨w.heap.size + 1, 4, none⟩ = some (.slice (a' b) (n' b) (c' b)) ∧ w'.cell? ⟨w.heap.size + 1, 5, none⟩ = some (.int .i64 (x' b)))) (by kernel_rfl) ?_ (fun hH => ?_)
     ·exact ⟨g0, g1, g2, g3, g4, g5, m0, m1, m2, m3, m4, m5⟩
     generalize hwd : wr.drew = wd at *
     refine wT (i := 0) (v := .func (.func f) #[] #[]) rfl (Or.inl ⟨by rfl, ?_⟩) hH ?_
     ·intro wq hSw
      try dsimp only at hSw
      go_simp
     try simp only [Act.put, zq1, zq2, zq3, zq4, zq5, zq6]
     refine wT (i := 1) (v := .slice (some ⟨g, 0, none⟩) 4 cc) rfl (Or.inl ⟨by rfl, ?_⟩) hH ?_
     ·intro wq hSw
      try dsimp only at hSw
      go_simp
     try simp only [Act.put, zq1, zq2, zq3, zq4, zq5, zq6]
     refine wT (i := 2) (v := .int .i64 1) rfl (Or.inl ⟨by rfl, ?_⟩) hH ?_
     ·intro wq hSw
      try dsimp only at hSw
      go_simp
     try simp only [Act.put, zq1, zq2, zq3, zq4, zq5, zq6]
     refine wT (i := 3) (v := .pointer (some ⟨g, 6, none⟩)) rfl (Or.inl ⟨by rfl, ?_⟩) hH ?_
     ·intro wq hSw
      try dsimp only at hSw
      go_simp
     try simp only [Act.put, zq1, zq2, zq3, zq4, zq5, zq6]
     refine wT (i := 4) (v := .agg #[.bool (s 1), .slice (a 1) (n 1) (c 1), .int .i64 (x 1), .bool (s' 1), .slice (a' 1) (n' 1) (c' 1), .int .i64 (x' 1)]) rfl (Or.inl ⟨by rfl, ?_⟩) hH ?_
     ·intro wq hSw
      try dsimp only at hSw
      go_simp
     try simp only [Act.put, zq1, zq2, zq3, zq4, zq5, zq6]
     refine wT (i := 5) (v := .agg #[.bool (s b), .slice (a b) (n b) (c b), .int .i64 (x b), .bool (s' b), .slice (a' b) (n' b) (c' b), .int .i64 (x' b)]) rfl (Or.inl ⟨by rfl, ?_⟩) hH ?_
     ·intro wq hSw
      try dsimp only at hSw
      go_simp
     try simp only [Act.put, zq1, zq2, zq3, zq4, zq5, zq6]
     refine wR 6 (by kernel_rfl) rfl (fun KK hK => ?_)
     simp only [zq1, zq2, zq3]
     rw [if_pos (by rfl)]
     refine wpv2 f (.tmp 20) (.tmp 24) (.tmp 25) _ rfl rfl hcf (.agg #[.bool (s 1), .slice (a 1) (n 1) (c 1), .int .i64 (x 1), .bool (s' 1), .slice (a' 1) (n' 1) (c' 1), .int .i64 (x' 1)]) (.agg #[.bool (s b), .slice (a b) (n b) (c b), .int .i64 (x b), .bool (s' b), .slice (a' b) (n' b) (c' b), .int .i64 (x' b)]) rfl rfl (unhide H1 1 b _ K9) ?_
     rintro e w5 ⟨rfl, k5⟩
     refine ⟨_, rfl, ?_⟩
     replace g0 := k5.cell0 g0
     replace g1 := k5.cell0 g1
     replace g2 := k5.cell0 g2
     replace g3 := k5.cell0 g3
     replace g4 := k5.cell0 g4
     replace g5 := k5.cell0 g5
     replace m0 := k5.cell0 m0
     replace m1 := k5.cell0 m1
     replace m2 := k5.cell0 m2
     replace m3 := k5.cell0 m3
     replace m4 := k5.cell0 m4
     replace m5 := k5.cell0 m5
     clear hH
     refine hK.out _ _ ?_ (fun hH => ?_)
     ·exact ⟨g0, g1, g2, g3, g4, g5, m0, m1, m2, m3, m4, m5⟩
     clear hK KK
     try simp only [Act.put, zq1, zq2, zq3, zq4, zq5, zq6]
     have hd := unhide HD
     refine wT (i := 7) (v := .bool false) rfl (Or.inl ⟨by rfl, ?_⟩) hH ?_
     ·intro wq hSw
      try dsimp only at hSw
      go_simp
     try simp only [Act.put, zq1, zq2, zq3, zq4, zq5, zq6]
     refine wpAnyH_done (by kernel_rfl) ?_ _
     clear hH hd
     have kk := (show Kept 0 0 wr wd from hwd ▸ (Kept.refl 0 0 wr).drew).trans k5
     have z5 := kk.size
     replace F := hide ((unhide F).kept kk)
     replace BR := hide ((unhide BR).kept kk)
     replace BM := hide ((unhide BM).kept kk)
     skip
     have LR5 := hide (L6.kept (unhide LR) (by omega : w.heap.size < wr.heap.size) kk)
     have LM5 := hide (L6.kept (unhide LM) (by omega : w.heap.size + 1 < wr.heap.size) kk)
     have K5 := hide ((unhide K).trans kk)
     clear K9 hwd kk k5 LR LM K m0 m1 m2 m3 m4 m5
     clear g0 g1 g2 g3 g4 g5
     have hb2 : Hid (b = selP (fun i j => decide (0 < C i j)) (1 + 1)) := by show _ = _; unfold selP; rw [← unhide hb, unhide HD]; rfl
     go_wp2
     go_roundw
     case rel => exact ⟨1 + 1, b, rfl, by omega, by omega, hb2, F, BR, BM, LR5, LM5, K5, by omega⟩
     case measure => simp [intOf]
    ·have HD := hide hd
     clear hd
     go_wp2_with fail
     have hF := (unhide F).kept (Kept.refl 0 0 wr).drew
     have hM := (unhide BM).kept (Kept.refl 0 0 wr).drew
     have K9 := (unhide K).trans (Kept.refl 0 0 wr).drew
     obtain ⟨g0, g1, g2, g3, g4, g5⟩ := hF 1 (by decide)
     obtain ⟨m0, m1, m2, m3, m4, m5⟩ := hM
     replace g0 : wr.drew.cell? ⟨g, 6, none⟩ = some (.bool (s 1)) := g0
     replace g1 : wr.drew.cell? ⟨g, 7, none⟩ = some (.slice (a 1) (n 1) (c 1)) := g1
     replace g2 : wr.drew.cell? ⟨g, 8, none⟩ = some (.int .i64 (x 1)) := g2
     replace g3 : wr.drew.cell? ⟨g, 9, none⟩ = some (.bool (s' 1)) := g3
     replace g4 : wr.drew.cell? ⟨g, 10, none⟩ = some (.slice (a' 1) (n' 1) (c' 1)) := g4
     replace g5 : wr.drew.cell? ⟨g, 11, none⟩ = some (.int .i64 (x' 1)) := g5
     refine wp_region_held_drew (S := (fun w' => w'.cell? ⟨g, 6, none⟩ = some (.bool (s 1)) ∧ w'.cell? ⟨g, 7, none⟩ = some (.slice (a 1) (n 1) (c 1)) ∧ w'.cell? ⟨g, 8, none⟩ = some (.int .i64 (x 1)) ∧ w'.cell? ⟨g, 9, none⟩ = some (.bool (s' 1)) ∧ w'.cell? ⟨g, 10, none⟩ = some (.slice (a' 1) (n' 1) (c' 1)) ∧ w'.cell? ⟨g, 11, none⟩ = some (.int .i64 (x' 1)) ∧ w'.cell? ⟨w.heap.size + 1, 0, none⟩ = some (.bool (s b)) ∧ w'.cell? ⟨w.heap.size + 1, 1, none⟩ = some (.slice (a b) (n b) (c b)) ∧ w'.cell? ⟨w.heap.size + 1, 2, none⟩ = some (.int .i64 (x b)) ∧ w'.cell? ⟨w.heap.size + 1, 3, none⟩ = some (.bool (s' b)) ∧ w'.cell? ⟨w.heap.size + 1, 4, none⟩ = some (.slice (a' b) (n' b) (c' b)) ∧ w'.cell? ⟨w.heap.size + 1, 5, none⟩ = some (.int .i64 (x' b)))) (by kernel_rfl) ?_ (fun hH => ?_)
     ·exact ⟨g0, g1, g2, g3, g4, g5, m0, m1, m2, m3, m4, m5⟩
     generalize hwd : wr.drew = wd at *
     refine wT (i := 0) (v := .func (.func f) #[] #[]) rfl (Or.inl ⟨by rfl, ?_⟩) hH ?_
     ·intro wq hSw
      try dsimp only at hSw
      go_simp
     try simp only [Act.put, zq1, zq2, zq3, zq4, zq5, zq6]
     refine wT (i := 1) (v := .slice (some ⟨g, 0, none⟩) 4 cc) rfl (Or.inl ⟨by rfl, ?_⟩) hH ?_
     ·intro wq hSw
      try dsimp only at hSw
      go_simp
     try simp only [Act.put, zq1, zq2, zq3, zq4, zq5, zq6]
     refine wT (i := 2) (v := .int .i64 1) rfl (Or.inl ⟨by rfl, ?_⟩) hH ?_
     ·intro wq hSw
      try dsimp only at hSw
      go_simp
     try simp only [Act.put, zq1, zq2, zq3, zq4, zq5, zq6]
     refine wT (i := 3) (v := .pointer (some ⟨g, 6, none⟩)) rfl (Or.inl ⟨by rfl, ?_⟩) hH ?_
     ·intro wq hSw
      try dsimp only at hSw
      go_simp
     try simp only [Act.put, zq1, zq2, zq3, zq4, zq5, zq6]
     refine wT (i := 4) (v := .agg #[.bool (s 1), .slice (a 1) (n 1) (c 1), .int .i64 (x 1), .bool (s' 1), .slice (a' 1) (n' 1) (c' 1), .int .i64 (x' 1)]) rfl (Or.inl ⟨by rfl, ?_⟩) hH ?_
     ·intro wq hSw
      try dsimp only at hSw
      go_simp
     try simp only [Act.put, zq1, zq2, zq3, zq4, zq5, zq6]
     refine wT (i := 5) (v := .agg #[.bool (s b), .slice (a b) (n b) (c b), .int .i64 (x b), .bool (s' b), .slice (a' b) (n' b) (c' b), .int .i64 (x' b)]) rfl (Or.inl ⟨by rfl, ?_⟩) hH ?_
     ·intro wq hSw
      try dsimp only at hSw
      go_simp
     try simp only [Act.put, zq1, zq2, zq3, zq4, zq5, zq6]
     refine wR 6 (by kernel_rfl) rfl (fun KK hK => ?_)
     simp only [zq1, zq2, zq3]
     rw [if_pos (by rfl)]
     refine wpv2 f (.tmp 20) (.tmp 24) (.tmp 25) _ rfl rfl hcf (.agg #[.bool (s 1), .slice (a 1) (n 1) (c 1), .int .i64 (x 1), .bool (s' 1), .slice (a' 1) (n' 1) (c' 1), .int .i64 (x' 1)]) (.agg #[.bool (s b), .slice (a b) (n b) (c b), .int .i64 (x b), .bool (s' b), .slice (a' b) (n' b) (c' b), .int .i64 (x' b)]) rfl rfl (unhide H1 1 b _ K9) ?_
     rintro e w5 ⟨rfl, k5⟩
     refine ⟨_, rfl, ?_⟩
     replace g0 := k5.cell0 g0
     replace g1 := k5.cell0 g1
     replace g2 := k5.cell0 g2
     replace g3 := k5.cell0 g3
     replace g4 := k5.cell0 g4
     replace g5 := k5.cell0 g5
     replace m0 := k5.cell0 m0
     replace m1 := k5.cell0 m1
     replace m2 := k5.cell0 m2
     replace m3 := k5.cell0 m3
     replace m4 := k5.cell0 m4
     replace m5 := k5.cell0 m5
     clear hH
     refine hK.out _ _ ?_ (fun hH => ?_)
     ·exact ⟨g0, g1, g2, g3, g4, g5, m0, m1, m2, m3, m4, m5⟩
     clear hK KK
     try simp only [Act.put, zq1, zq2, zq3, zq4, zq5, zq6]
     have hd := unhide HD
     refine wT (i := 7) (v := .bool true) rfl (Or.inl ⟨by rfl, ?_⟩) hH ?_
     ·intro wq hSw
      try dsimp only at hSw
      go_simp
     try simp only [Act.put, zq1, zq2, zq3, zq4, zq5, zq6]
     refine wpAnyH_done (by kernel_rfl) ?_ _
     clear hH hd
     have kk := (show Kept 0 0 wr wd from hwd ▸ (Kept.refl 0 0 wr).drew).trans k5
     have z5 := kk.size
     replace F := hide ((unhide F).kept kk)
     replace BR := hide ((unhide BR).kept kk)
     replace BM := hide ((unhide BM).kept kk)
     skip
     have LR5 := hide (L6.kept (unhide LR) (by omega : w.heap.size < wr.heap.size) kk)
     have LM5 := hide (L6.kept (unhide LM) (by omega : w.heap.size + 1 < wr.heap.size) kk)
     have K5 := hide ((unhide K).trans kk)
     clear K9 hwd kk k5 LR LM K m0 m1 m2 m3 m4 m5
     have lm := fun o ho => unhide LM5 o ho
     have f0 := lm 0 (by decide)
     have f1 := lm 1 (by decide)
     have f2 := lm 2 (by decide)
     have f3 := lm 3 (by decide)
     have f4 := lm 4 (by decide)
     have f5 := lm 5 (by decide)
     have bm := unhide BM
     obtain ⟨m0, m1, m2, m3, m4, m5⟩ := bm
     have F6 := hide ((unhide F).set (M := w.heap.size + 1) (by omega) (.bool (s 1)) (.slice (a 1) (n 1) (c 1)) (.int .i64 (x 1)) (.bool (s' 1)) (.slice (a' 1) (n' 1) (c' 1)) (.int .i64 (x' 1)))
     have BR6 := hide ((unhide BR).aside (M := w.heap.size + 1) (by omega) (.bool (s 1)) (.slice (a 1) (n 1) (c 1)) (.int .i64 (x 1)) (.bool (s' 1)) (.slice (a' 1) (n' 1) (c' 1)) (.int .i64 (x' 1)))
     have BM6 := hide ((unhide BM).set (.bool (s 1)) (.slice (a 1) (n 1) (c 1)) (.int .i64 (x 1)) (.bool (s' 1)) (.slice (a' 1) (n' 1) (c' 1)) (.int .i64 (x' 1)))
     have LR6 := hide ((unhide LR5).set (M := w.heap.size + 1) (.bool (s 1)) (.slice (a 1) (n 1) (c 1)) (.int .i64 (x 1)) (.bool (s' 1)) (.slice (a' 1) (n' 1) (c' 1)) (.int .i64 (x' 1)))
     have LM6 := hide ((unhide LM5).set (M := w.heap.size + 1) (.bool (s 1)) (.slice (a 1) (n 1) (c 1)) (.int .i64 (x 1)) (.bool (s' 1)) (.slice (a' 1) (n' 1) (c' 1)) (.int .i64 (x' 1)))
     have K6 := hide (((((((unhide K5).setNew (p := ⟨w.heap.size + 1, 0, none⟩) (by simp) (.bool (s 1))).setNew (p := ⟨w.heap.size + 1, 1, none⟩) (by simp) (.slice (a 1) (n 1) (c 1))).setNew (p := ⟨w.heap.size + 1, 2, none⟩) (by simp) (.int .i64 (x 1))).setNew (p := ⟨w.heap.size + 1, 3, none⟩) (by simp) (.bool (s' 1))).setNew (p := ⟨w.heap.size + 1, 4, none⟩) (by simp) (.slice (a' 1) (n' 1) (c' 1))).setNew (p := ⟨w.heap.size + 1, 5, none⟩) (by simp) (.int .i64 (x' 1)))
     have z6 : w5.heap.size = ((((((w5.setCell ⟨w.heap.size + 1, 0, none⟩ (.bool (s 1))).setCell ⟨w.heap.size + 1, 1, none⟩ (.slice (a 1) (n 1) (c 1))).setCell ⟨w.heap.size + 1, 2, none⟩ (.int .i64 (x 1))).setCell ⟨w.heap.size + 1, 3, none⟩ (.bool (s' 1))).setCell ⟨w.heap.size + 1, 4, none⟩ (.slice (a' 1) (n' 1) (c' 1))).setCell ⟨w.heap.size + 1, 5, none⟩ (.int .i64 (x' 1))).heap.size := by simp [World.setCell]
     have hb2 : Hid (1 = selP (fun i j => decide (0 < C i j)) (1 + 1)) := by show _ = _; unfold selP; rw [← unhide hb, unhide HD]; rfl
     clear F BR BM LR5 LM5 K5 lm
     go_wp2
     go_roundw
     case rel => exact ⟨1 + 1, 1, rfl, by omega, by omega, hb2, F6, BR6, BM6, LR6, LM6, K6, by omega⟩
     case measure => simp [intOf]
   ·cases hd : decide (0 < C 2 b)
    ·have HD := hide hd
     clear hd
     go_wp2_with fail
     have hF := (unhide F).kept (Kept.refl 0 0 wr).drew
     have hM := (unhide BM).kept (Kept.refl 0 0 wr).drew
     have K9 := (unhide K).trans (Kept.refl 0 0 wr).drew
     obtain ⟨g0, g1, g2, g3, g4, g5⟩ := hF 2 (by decide)
     obtain ⟨m0, m1, m2, m3, m4, m5⟩ := hM
     replace g0 : wr.drew.cell? ⟨g, 12, none⟩ = some (.bool (s 2)) := g0
     replace g1 : wr.drew.cell? ⟨g, 13, none⟩ = some (.slice (a 2) (n 2) (c 2)) := g1
     replace g2 : wr.drew.cell? ⟨g, 14, none⟩ = some (.int .i64 (x 2)) := g2
     replace g3 : wr.drew.cell? ⟨g, 15, none⟩ = some (.bool (s' 2)) := g3
     replace g4 : wr.drew.cell? ⟨g, 16, none⟩ = some (.slice (a' 2) (n' 2) (c' 2)) := g4
     replace g5 : wr.drew.cell? ⟨g, 17, none⟩ = some (.int .i64 (x' 2)) := g5
     refine wp_region_held_drew (S := (fun w' => w'.cell? ⟨g, 12, none⟩ = some (.bool (s 2)) ∧ w'.cell? ⟨g, 13, none⟩ = some (.slice (a 2) (n 2) (c 2)) ∧ w'.cell? ⟨g, 14, none⟩ = some (.int .i64 (x 2)) ∧ w'.cell? ⟨g, 15, none⟩ = some (.bool (s' 2)) ∧ w'.cell? ⟨g, 16, none⟩ = some (.slice (a' 2) (n' 2) (c' 2)) ∧ w'.cell? ⟨g, 17, none⟩ = some (.int .i64 (x' 2)) ∧ w'.cell? ⟨w.heap.size + 1, 0, none⟩ = some (.bool (s b)) ∧ w'.cell? ⟨w.heap.size + 1, 1, none⟩ = some (.slice (a b) (n b) (c b)) ∧ w'.cell? ⟨w.heap.size + 1, 2, none⟩ = some (.int .i64 (x b)) ∧ w'.cell? ⟨w.heap.size + 1, 3, none⟩ = some (.bool (s' b)) ∧ w'.cell? ⟨w.heap.size + 1, 4, none⟩ = some (.slice (a' b) (n' b) (c' b)) ∧ w'.cell? ⟨w.heap.size + 1, 5, none⟩ = some (.int .i64 (x' b)))) (by kernel_rfl) ?_ (fun hH => ?_)
     ·exact ⟨g0, g1, g2, g3, g4, g5, m0, m1, m2, m3, m4, m5⟩
     generalize hwd : wr.drew = wd at *
     refine wT (i := 0) (v := .func (.func f) #[] #[]) rfl (Or.inl ⟨by rfl, ?_⟩) hH ?_
     ·intro wq hSw
      try dsimp only at hSw
      go_simp
     try simp only [Act.put, zq1, zq2, zq3, zq4, zq5, zq6]
     refine wT (i := 1) (v := .slice (some ⟨g, 0, none⟩) 4 cc) rfl (Or.inl ⟨by rfl, ?_⟩) hH ?_
     ·intro wq hSw
      try dsimp only at hSw
      go_simp
     try simp only [Act.put, zq1, zq2, zq3, zq4, zq5, zq6]
     refine wT (i := 2) (v := .int .i64 2) rfl (Or.inl ⟨by rfl, ?_⟩) hH ?_
     ·intro wq hSw
      try dsimp only at hSw
      go_simp
     try simp only [Act.put, zq1, zq2, zq3, zq4, zq5, zq6]
     refine wT (i := 3) (v := .pointer (some ⟨g, 12, none⟩)) rfl (Or.inl ⟨by rfl, ?_⟩) hH ?_
     ·intro wq hSw
      try dsimp only at hSw
      go_simp
     try simp only [Act.put, zq1, zq2, zq3, zq4, zq5, zq6]
     refine wT (i := 4) (v := .agg #[.bool (s 2), .slice (a 2) (n 2) (c 2), .int .i64 (x 2), .bool (s' 2), .slice (a' 2) (n' 2) (c' 2), .int .i64 (x' 2)]) rfl (Or.inl ⟨by rfl, ?_⟩) hH ?_
     ·intro wq hSw
      try dsimp only at hSw
      go_simp
     try simp only [Act.put, zq1, zq2, zq3, zq4, zq5, zq6]
     refine wT (i := 5) (v := .agg #[.bool (s b), .slice (a b) (n b) (c b), .int .i64 (x b), .bool (s' b), .slice (a' b) (n' b) (c' b), .int .i64 (x' b)]) rfl (Or.inl ⟨by rfl, ?_⟩) hH ?_
     ·intro wq hSw
      try dsimp only at hSw
      go_simp
     try simp only [Act.put, zq1, zq2, zq3, zq4, zq5, zq6]
     refine wR 6 (by kernel_rfl) rfl (fun KK hK => ?_)
     simp only [zq1, zq2, zq3]
     rw [if_pos (by rfl)]
     refine wpv2 f (.tmp 20) (.tmp 24) (.tmp 25) _ rfl rfl hcf (.agg #[.bool (s 2), .slice (a 2) (n 2) (c 2), .int .i64 (x 2), .bool (s' 2), .slice (a' 2) (n' 2) (c' 2), .int .i64 (x' 2)]) (.agg #[.bool (s b), .slice (a b) (n b) (c b), .int .i64 (x b), .bool (s' b), .slice (a' b) (n' b) (c' b), .int .i64 (x' b)]) rfl rfl (unhide H1 2 b _ K9) ?_
     rintro e w5 ⟨rfl, k5⟩
     refine ⟨_, rfl, ?_⟩
     replace g0 := k5.cell0 g0
     replace g1 := k5.cell0 g1
     replace g2 := k5.cell0 g2
     replace g3 := k5.cell0 g3
     replace g4 := k5.cell0 g4
     replace g5 := k5.cell0 g5
     replace m0 := k5.cell0 m0
     replace m1 := k5.cell0 m1
     replace m2 := k5.cell0 m2
     replace m3 := k5.cell0 m3
     replace m4 := k5.cell0 m4
     replace m5 := k5.cell0 m5
     clear hH
     refine hK.out _ _ ?_ (fun hH => ?_)
     ·exact ⟨g0, g1, g2, g3, g4, g5, m0, m1, m2, m3, m4, m5⟩
     clear hK KK
     try simp only [Act.put, zq1, zq2, zq3, zq4, zq5, zq6]
     have hd := unhide HD
     refine wT (i := 7) (v := .bool false) rfl (Or.inl ⟨by rfl, ?_⟩) hH ?_
     ·intro wq hSw
      try dsimp only at hSw
      go_simp
     try simp only [Act.put, zq1, zq2, zq3, zq4, zq5, zq6]
     refine wpAnyH_done (by kernel_rfl) ?_ _
     clear hH hd
     have kk := (show Kept 0 0 wr wd from hwd ▸ (Kept.refl 0 0 wr).drew).trans k5
     have z5 := kk.size
     replace F := hide ((unhide F).kept kk)
     replace BR := hide ((unhide BR).kept kk)
     replace BM := hide ((unhide BM).kept kk)
     skip
     have LR5 := hide (L6.kept (unhide LR) (by omega : w.heap.size < wr.heap.size) kk)
     have LM5 := hide (L6.kept (unhide LM) (by omega : w.heap.size + 1 < wr.heap.size) kk)
     have K5 := hide ((unhide K).trans kk)
     clear K9 hwd kk k5 LR LM K m0 m1 m2 m3 m4 m5
     clear g0 g1 g2 g3 g4 g5
     have hb2 : Hid (b = selP (fun i j => decide (0 < C i j)) (2 + 1)) := by show _ = _; unfold selP; rw [← unhide hb, unhide HD]; rfl
     go_wp2
     go_roundw
     case rel => exact ⟨2 + 1, b, rfl, by omega, by omega, hb2, F, BR, BM, LR5, LM5, K5, by omega⟩
     case measure => simp [intOf]
    ·have HD := hide hd
     clear hd
     go_wp2_with fail
     have hF := (unhide F).kept (Kept.refl 0 0 wr).drew
     have hM := (unhide BM).kept (Kept.refl 0 0 wr).drew
     have K9 := (unhide K).trans (Kept.refl 0 0 wr).drew
     obtain ⟨g0, g1, g2, g3, g4, g5⟩ := hF 2 (by decide)
     obtain ⟨m0, m1, m2, m3, m4, m5⟩ := hM
     replace g0 : wr.drew.cell? ⟨g, 12, none⟩ = some (.bool (s 2)) := g0
     replace g1 : wr.drew.cell? ⟨g, 13, none⟩ = some (.slice (a 2) (n 2) (c 2)) := g1
     replace g2 : wr.drew.cell? ⟨g, 14, none⟩ = some (.int .i64 (x 2)) := g2
     replace g3 : wr.drew.cell? ⟨g, 15, none⟩ = some (.bool (s' 2)) := g3
     replace g4 : wr.drew.cell? ⟨g, 16, none⟩ = some (.slice (a' 2) (n' 2) (c' 2)) := g4
     replace g5 : wr.drew.cell? ⟨g, 17, none⟩ = some (.int .i64 (x' 2)) := g5
     refine wp_region_held_drew (S := (fun w' => w'.cell? ⟨g, 12, none⟩ = some (.bool (s 2)) ∧ w'.cell? ⟨g, 13, none⟩ = some (.slice (a 2) (n 2) (c 2)) ∧ w'.cell? ⟨g, 14, none⟩ = some (.int .i64 (x 2)) ∧ w'.cell? ⟨g, 15, none⟩ = some (.bool (s' 2)) ∧ w'.cell? ⟨g, 16, none⟩ = some (.slice (a' 2) (n' 2) (c' 2)) ∧ w'.cell? ⟨g, 17, none⟩ = some (.int .i64 (x' 2)) ∧ w'.cell? ⟨w.heap.size + 1, 0, none⟩ = some (.bool (s b)) ∧ w'.cell? ⟨w.heap.size + 1, 1, none⟩ = some (.slice (a b) (n b) (c b)) ∧ w'.cell? ⟨w.heap.size + 1, 2, none⟩ = some (.int .i64 (x b)) ∧ w'.cell? ⟨w.heap.size + 1, 3, none⟩ = some (.bool (s' b)) ∧ w'.cell? ⟨w.heap.size + 1, 4, none⟩ = some (.slice (a' b) (n' b) (c' b)) ∧ w'.cell? ⟨w.heap.size + 1, 5, none⟩ = some (.int .i64 (x' b)))) (by kernel_rfl) ?_ (fun hH => ?_)
     ·exact ⟨g0, g1, g2, g3, g4, g5, m0, m1, m2, m3, m4, m5⟩
     generalize hwd : wr.drew = wd at *
     refine wT (i := 0) (v := .func (.func f) #[] #[]) rfl (Or.inl ⟨by rfl, ?_⟩) hH ?_
     ·intro wq hSw
      try dsimp only at hSw
      go_simp
     try simp only [Act.put, zq1, zq2, zq3, zq4, zq5, zq6]
     refine wT (i := 1) (v := .slice (some ⟨g, 0, none⟩) 4 cc) rfl (Or.inl ⟨by rfl, ?_⟩) hH ?_
     ·intro wq hSw
      try dsimp only at hSw
      go_simp
     try simp only [Act.put, zq1, zq2, zq3, zq4, zq5, zq6]
     refine wT (i := 2) (v := .int .i64 2) rfl (Or.inl ⟨by rfl, ?_⟩) hH ?_
     ·intro wq hSw
      try dsimp only at hSw
      go_simp
     try simp only [Act.put, zq1, zq2, zq3, zq4, zq5, zq6]
     refine wT (i := 3) (v := .pointer (some ⟨g, 12, none⟩)) rfl (Or.inl ⟨by rfl, ?_⟩) hH ?_
     ·intro wq hSw
      try dsimp only at hSw
      go_simp
     try simp only [Act.put, zq1, zq2, zq3, zq4, zq5, zq6]
     refine wT (i := 4) (v := .agg #[.bool (s 2), .slice (a 2) (n 2) (c 2), .int .i64 (x 2), .bool (s' 2), .slice (a' 2) (n' 2) (c' 2), .int .i64 (x' 2)]) rfl (Or.inl ⟨by rfl, ?_⟩) hH ?_
     ·intro wq hSw
      try dsimp only at hSw
      go_simp
     try simp only [Act.put, zq1, zq2, zq3, zq4, zq5, zq6]
     refine wT (i := 5) (v := .agg #[.bool (s b), .slice (a b) (n b) (c b), .int .i64 (x b), .bool (s' b), .slice (a' b) (n' b) (c' b), .int .i64 (x' b)]) rfl (Or.inl ⟨by rfl, ?_⟩) hH ?_
     ·intro wq hSw
      try dsimp only at hSw
      go_simp
     try simp only [Act.put, zq1, zq2, zq3, zq4, zq5, zq6]
     refine wR 6 (by kernel_rfl) rfl (fun KK hK => ?_)
     simp only [zq1, zq2, zq3]
     rw [if_pos (by rfl)]
     refine wpv2 f (.tmp 20) (.tmp 24) (.tmp 25) _ rfl rfl hcf (.agg #[.bool (s 2), .slice (a 2) (n 2) (c 2), .int .i64 (x 2), .bool (s' 2), .slice (a' 2) (n' 2) (c' 2), .int .i64 (x' 2)]) (.agg #[.bool (s b), .slice (a b) (n b) (c b), .int .i64 (x b), .bool (s' b), .slice (a' b) (n' b) (c' b), .int .i64 (x' b)]) rfl rfl (unhide H1 2 b _ K9) ?_
     rintro e w5 ⟨rfl, k5⟩
     refine ⟨_, rfl, ?_⟩
     replace g0 := k5.cell0 g0
     replace g1 := k5.cell0 g1
     replace g2 := k5.cell0 g2
     replace g3 := k5.cell0 g3
     replace g4 := k5.cell0 g4
     replace g5 := k5.cell0 g5
     replace m0 := k5.cell0 m0
     replace m1 := k5.cell0 m1
     replace m2 := k5.cell0 m2
     replace m3 := k5.cell0 m3
     replace m4 := k5.cell0 m4
     replace m5 := k5.cell0 m5
     clear hH
     refine hK.out _ _ ?_ (fun hH => ?_)
     ·exact ⟨g0, g1, g2, g3, g4, g5, m0, m1, m2, m3, m4, m5⟩
     clear hK KK
     try simp only [Act.put, zq1, zq2, zq3, zq4, zq5, zq6]
     have hd := unhide HD
     refine wT (i := 7) (v := .bool true) rfl (Or.inl ⟨by rfl, ?_⟩) hH ?_
     ·intro wq hSw
      try dsimp only at hSw
      go_simp
     try simp only [Act.put, zq1, zq2, zq3, zq4, zq5, zq6]
     refine wpAnyH_done (by kernel_rfl) ?_ _
     clear hH hd
     have kk := (show Kept 0 0 wr wd from hwd ▸ (Kept.refl 0 0 wr).drew).trans k5
     have z5 := kk.size
     replace F := hide ((unhide F).kept kk)
     replace BR := hide ((unhide BR).kept kk)
     replace BM := hide ((unhide BM).kept kk)
     skip
     have LR5 := hide (L6.kept (unhide LR) (by omega : w.heap.size < wr.heap.size) kk)
     have LM5 := hide (L6.kept (unhide LM) (by omega : w.heap.size + 1 < wr.heap.size) kk)
     have K5 := hide ((unhide K).trans kk)
     clear K9 hwd kk k5 LR LM K m0 m1 m2 m3 m4 m5
     have lm := fun o ho => unhide LM5 o ho
     have f0 := lm 0 (by decide)
     have f1 := lm 1 (by decide)
     have f2 := lm 2 (by decide)
     have f3 := lm 3 (by decide)
     have f4 := lm 4 (by decide)
     have f5 := lm 5 (by decide)
     have bm := unhide BM
     obtain ⟨m0, m1, m2, m3, m4, m5⟩ := bm
     have F6 := hide ((unhide F).set (M := w.heap.size + 1) (by omega) (.bool (s 2)) (.slice (a 2) (n 2) (c 2)) (.int .i64 (x 2)) (.bool (s' 2)) (.slice (a' 2) (n' 2) (c' 2)) (.int .i64 (x' 2)))
     have BR6 := hide ((unhide BR).aside (M := w.heap.size + 1) (by omega) (.bool (s 2)) (.slice (a 2) (n 2) (c 2)) (.int .i64 (x 2)) (.bool (s' 2)) (.slice (a' 2) (n' 2) (c' 2)) (.int .i64 (x' 2)))
     have BM6 := hide ((unhide BM).set (.bool (s 2)) (.slice (a 2) (n 2) (c 2)) (.int .i64 (x 2)) (.bool (s' 2)) (.slice (a' 2) (n' 2) (c' 2)) (.int .i64 (x' 2)))
     have LR6 := hide ((unhide LR5).set (M := w.heap.size + 1) (.bool (s 2)) (.slice (a 2) (n 2) (c 2)) (.int .i64 (x 2)) (.bool (s' 2)) (.slice (a' 2) (n' 2) (c' 2)) (.int .i64 (x' 2)))
     have LM6 := hide ((unhide LM5).set (M := w.heap.size + 1) (.bool (s 2)) (.slice (a 2) (n 2) (c 2)) (.int .i64 (x 2)) (.bool (s' 2)) (.slice (a' 2) (n' 2) (c' 2)) (.int .i64 (x' 2)))
     have K6 := hide (((((((unhide K5).setNew (p := ⟨w.heap.size + 1, 0, none⟩) (by simp) (.bool (s 2))).setNew (p := ⟨w.heap.size + 1, 1, none⟩) (by simp) (.slice (a 2) (n 2) (c 2))).setNew (p := ⟨w.heap.size + 1, 2, none⟩) (by simp) (.int .i64 (x 2))).setNew (p := ⟨w.heap.size + 1, 3, none⟩) (by simp) (.bool (s' 2))).setNew (p := ⟨w.heap.size + 1, 4, none⟩) (by simp) (.slice (a' 2) (n' 2) (c' 2))).setNew (p := ⟨w.heap.size + 1, 5, none⟩) (by simp) (.int .i64 (x' 2)))
     have z6 : w5.heap.size = ((((((w5.setCell ⟨w.heap.size + 1, 0, none⟩ (.bool (s 2))).setCell ⟨w.heap.size + 1, 1, none⟩ (.slice (a 2) (n 2) (c 2))).setCell ⟨w.heap.size + 1, 2, none⟩ (.int .i64 (x 2))).setCell ⟨w.heap.size + 1, 3, none⟩ (.bool (s' 2))).setCell ⟨w.heap.size + 1, 4, none⟩ (.slice (a' 2) (n' 2) (c' 2))).setCell ⟨w.heap.size + 1, 5, none⟩ (.int .i64 (x' 2))).heap.size := by simp [World.setCell]
     have hb2 : Hid (2 = selP (fun i j => decide (0 < C i j)) (2 + 1)) := by show _ = _; unfold selP; rw [← unhide hb, unhide HD]; rfl
     clear F BR BM LR5 LM5 K5 lm
     go_wp2
     go_roundw
     case rel => exact ⟨2 + 1, 2, rfl, by omega, by omega, hb2, F6, BR6, BM6, LR6, LM6, K6, by omega⟩
     case measure => simp [intOf]
   ·cases hd : decide (0 < C 3 b)
    ·have HD := hide hd
     clear hd
     go_wp2_with fail
     have hF := (unhide F).kept (Kept.refl 0 0 wr).drew
     have hM := (unhide BM).kept (Kept.refl 0 0 wr).drew
     have K9 := (unhide K).trans (Kept.refl 0 0 wr).drew
     obtain ⟨g0, g1, g2, g3, g4, g5⟩ := hF 3 (by decide)
     obtain ⟨m0, m1, m2, m3, m4, m5⟩ := hM
     replace g0 : wr.drew.cell? ⟨g, 18, none⟩ = some (.bool (s 3)) := g0
     replace g1 : wr.drew.cell? ⟨g, 19, none⟩ = some (.slice (a 3) (n 3) (c 3)) := g1
     replace g2 : wr.drew.cell? ⟨g, 20, none⟩ = some (.int .i64 (x 3)) := g2
     replace g3 : wr.drew.cell? ⟨g, 21, none⟩ = some (.bool (s' 3)) := g3
     replace g4 : wr.drew.cell? ⟨g, 22, none⟩ = some (.slice (a' 3) (n' 3) (c' 3)) := g4
     replace g5 : wr.drew.cell? ⟨g, 23, none⟩ = some (.int .i64 (x' 3)) := g5
     refine wp_region_held_drew (S := (fun w' => w'.cell? ⟨g, 18, none⟩ = some (.bool (s 3)) ∧ w'.cell? ⟨g, 19, none⟩ = some (.slice (a 3) (n 3) (c 3)) ∧ w'.cell? ⟨g, 20, none⟩ = some (.int .i64 (x 3)) ∧ w'.cell? ⟨g, 21, none⟩ = some (.bool (s' 3)) ∧ w'.cell? ⟨g, 22, none⟩ = some (.slice (a' 3) (n' 3) (c' 3)) ∧ w'.cell? ⟨g, 23, none⟩ = some (.int .i64 (x' 3)) ∧ w'.cell? ⟨w.heap.size + 1, 0, none⟩ = some (.bool (s b)) ∧ w'.cell? ⟨w.heap.size + 1, 1, none⟩ = some (.slice (a b) (n b) (c b)) ∧ w'.cell? ⟨w.heap.size + 1, 2, none⟩ = some (.int .i64 (x b)) ∧ w'.cell? ⟨w.heap.size + 1, 3, none⟩ = some (.bool (s' b)) ∧ w'.cell? ⟨w.heap.size + 1, 4, none⟩ = some (.slice (a' b) (n' b) (c' b)) ∧ w'.cell? ⟨w.heap.size + 1, 5, none⟩ = some (.int .i64 (x' b)))) (by kernel_rfl) ?_ (fun hH => ?_)
     ·exact ⟨g0, g1, g2, g3, g4, g5, m0, m1, m2, m3, m4, m5⟩
     generalize hwd : wr.drew = wd at *
     refine wT (i := 0) (v := .func (.func f) #[] #[]) rfl (Or.inl ⟨by rfl, ?_⟩) hH ?_
     ·intro wq hSw
      try dsimp only at hSw
      go_simp
     try simp only [Act.put, zq1, zq2, zq3, zq4, zq5, zq6]
     refine wT (i := 1) (v := .slice (some ⟨g, 0, none⟩) 4 cc) rfl (Or.inl ⟨by rfl, ?_⟩) hH ?_
     ·intro wq hSw
      try dsimp only at hSw
      go_simp
     try simp only [Act.put, zq1, zq2, zq3, zq4, zq5, zq6]
     refine wT (i := 2) (v := .int .i64 3) rfl (Or.inl ⟨by rfl, ?_⟩) hH ?_
     ·intro wq hSw
      try dsimp only at hSw
      go_simp
     try simp only [Act.put, zq1, zq2, zq3, zq4, zq5, zq6]
     refine wT (i := 3) (v := .pointer (some ⟨g, 18, none⟩)) rfl (Or.inl ⟨by rfl, ?_⟩) hH ?_
     ·intro wq hSw
      try dsimp only at hSw
      go_simp
     try simp only [Act.put, zq1, zq2, zq3, zq4, zq5, zq6]
     refine wT (i := 4) (v := .agg #[.bool (s 3), .slice (a 3) (n 3) (c 3), .int .i64 (x 3), .bool (s' 3), .slice (a' 3) (n' 3) (c' 3), .int .i64 (x' 3)]) rfl (Or.inl ⟨by rfl, ?_⟩) hH ?_
     ·intro wq hSw
      try dsimp only at hSw
      go_simp
     try simp only [Act.put, zq1, zq2, zq3, zq4, zq5, zq6]
     refine wT (i := 5) (v := .agg #[.bool (s b), .slice (a b) (n b) (c b), .int .i64 (x b), .bool (s' b), .slice (a' b) (n' b) (c' b), .int .i64 (x' b)]) rfl (Or.inl ⟨by rfl, ?_⟩) hH ?_
     ·intro wq hSw
      try dsimp only at hSw
      go_simp
     try simp only [Act.put, zq1, zq2, zq3, zq4, zq5, zq6]
     refine wR 6 (by kernel_rfl) rfl (fun KK hK => ?_)
     simp only [zq1, zq2, zq3]
     rw [if_pos (by rfl)]
     refine wpv2 f (.tmp 20) (.tmp 24) (.tmp 25) _ rfl rfl hcf (.agg #[.bool (s 3), .slice (a 3) (n 3) (c 3), .int .i64 (x 3), .bool (s' 3), .slice (a' 3) (n' 3) (c' 3), .int .i64 (x' 3)]) (.agg #[.bool (s b), .slice (a b) (n b) (c b), .int .i64 (x b), .bool (s' b), .slice (a' b) (n' b) (c' b), .int .i64 (x' b)]) rfl rfl (unhide H1 3 b _ K9) ?_
     rintro e w5 ⟨rfl, k5⟩
     refine ⟨_, rfl, ?_⟩
     replace g0 := k5.cell0 g0
     replace g1 := k5.cell0 g1
     replace g2 := k5.cell0 g2
     replace g3 := k5.cell0 g3
     replace g4 := k5.cell0 g4
     replace g5 := k5.cell0 g5
     replace m0 := k5.cell0 m0
     replace m1 := k5.cell0 m1
     replace m2 := k5.cell0 m2
     replace m3 := k5.cell0 m3
     replace m4 := k5.cell0 m4
     replace m5 := k5.cell0 m5
     clear hH
     refine hK.out _ _ ?_ (fun hH => ?_)
     ·exact ⟨g0, g1, g2, g3, g4, g5, m0, m1, m2, m3, m4, m5⟩
     clear hK KK
     try simp only [Act.put, zq1, zq2, zq3, zq4, zq5, zq6]
     have hd := unhide HD
     refine wT (i := 7) (v := .bool false) rfl (Or.inl ⟨by rfl, ?_⟩) hH ?_
     ·intro wq hSw
      try dsimp only at hSw
      go_simp
     try simp only [Act.put, zq1, zq2, zq3, zq4, zq5, zq6]
     refine wpAnyH_done (by kernel_rfl) ?_ _
     clear hH hd
     have kk := (show Kept 0 0 wr wd from hwd ▸ (Kept.refl 0 0 wr).drew).trans k5
     have z5 := kk.size
     replace F := hide ((unhide F).kept kk)
     replace BR := hide ((unhide BR).kept kk)
     replace BM := hide ((unhide BM).kept kk)
     skip
     have LR5 := hide (L6.kept (unhide LR) (by omega : w.heap.size < wr.heap.size) kk)
     have LM5 := hide (L6.kept (unhide LM) (by omega : w.heap.size + 1 < wr.heap.size) kk)
     have K5 := hide ((unhide K).trans kk)
     clear K9 hwd kk k5 LR LM K m0 m1 m2 m3 m4 m5
     clear g0 g1 g2 g3 g4 g5
     have hb2 : Hid (b = selP (fun i j => decide (0 < C i j)) (3 + 1)) := by show _ = _; unfold selP; rw [← unhide hb, unhide HD]; rfl
     go_wp2
     go_roundw
     case rel => exact ⟨3 + 1, b, rfl, by omega, by omega, hb2, F, BR, BM, LR5, LM5, K5, by omega⟩
     case measure => simp [intOf]
    ·have HD := hide hd
     clear hd
     go_wp2_with fail
     have hF := (unhide F).kept (Kept.refl 0 0 wr).drew
     have hM := (unhide BM).kept (Kept.refl 0 0 wr).drew
     have K9 := (unhide K).trans (Kept.refl 0 0 wr).drew
     obtain ⟨g0, g1, g2, g3, g4, g5⟩ := hF 3 (by decide)
     obtain ⟨m0, m1, m2, m3, m4, m5⟩ := hM
     replace g0 : wr.drew.cell? ⟨g, 18, none⟩ = some (.bool (s 3)) := g0
     replace g1 : wr.drew.cell? ⟨g, 19, none⟩ = some (.slice (a 3) (n 3) (c 3)) := g1
     replace g2 : wr.drew.cell? ⟨g, 20, none⟩ = some (.int .i64 (x 3)) := g2
     replace g3 : wr.drew.cell? ⟨g, 21, none⟩ = some (.bool (s' 3)) := g3
     replace g4 : wr.drew.cell? ⟨g, 22, none⟩ = some (.slice (a' 3) (n' 3) (c' 3)) := g4
     replace g5 : wr.drew.cell? ⟨g, 23, none⟩ = some (.int .i64 (x' 3)) := g5
     refine wp_region_held_drew (S := (fun w' => w'.cell? ⟨g, 18, none⟩ = some (.bool (s 3)) ∧ w'.cell? ⟨g, 19, none⟩ = some (.slice (a 3) (n 3) (c 3)) ∧ w'.cell? ⟨g, 20, none⟩ = some (.int .i64 (x 3)) ∧ w'.cell? ⟨g, 21, none⟩ = some (.bool (s' 3)) ∧ w'.cell? ⟨g, 22, none⟩ = some (.slice (a' 3) (n' 3) (c' 3)) ∧ w'.cell? ⟨g, 23, none⟩ = some (.int .i64 (x' 3)) ∧ w'.cell? ⟨w.heap.size + 1, 0, none⟩ = some (.bool (s b)) ∧ w'.cell? ⟨w.heap.size + 1, 1, none⟩ = some (.slice (a b) (n b) (c b)) ∧ w'.cell? ⟨w.heap.size + 1, 2, none⟩ = some (.int .i64 (x b)) ∧ w'.cell? ⟨w.heap.size + 1, 3, none⟩ = some (.bool (s' b)) ∧ w'.cell? ⟨w.heap.size + 1, 4, none⟩ = some (.slice (a' b) (n' b) (c' b)) ∧ w'.cell? ⟨w.heap.size + 1, 5, none⟩ = some (.int .i64 (x' b)))) (by kernel_rfl) ?_ (fun hH => ?_)
     ·exact ⟨g0, g1, g2, g3, g4, g5, m0, m1, m2, m3, m4, m5⟩
     generalize hwd : wr.drew = wd at *
     refine wT (i := 0) (v := .func (.func f) #[] #[]) rfl (Or.inl ⟨by rfl, ?_⟩) hH ?_
     ·intro wq hSw
      try dsimp only at hSw
      go_simp
     try simp only [Act.put, zq1, zq2, zq3, zq4, zq5, zq6]
     refine wT (i := 1) (v := .slice (some ⟨g, 0, none⟩) 4 cc) rfl (Or.inl ⟨by rfl, ?_⟩) hH ?_
     ·intro wq hSw
      try dsimp only at hSw
      go_simp
     try simp only [Act.put, zq1, zq2, zq3, zq4, zq5, zq6]
     refine wT (i := 2) (v := .int .i64 3) rfl (Or.inl ⟨by rfl, ?_⟩) hH ?_
     ·intro wq hSw
      try dsimp only at hSw
      go_simp
     try simp only [Act.put, zq1, zq2, zq3, zq4, zq5, zq6]
     refine wT (i := 3) (v := .pointer (some ⟨g, 18, none⟩)) rfl (Or.inl ⟨by rfl, ?_⟩) hH ?_
     ·intro wq hSw
      try dsimp only at hSw
      go_simp
     try simp only [Act.put, zq1, zq2, zq3, zq4, zq5, zq6]
     refine wT (i := 4) (v := .agg #[.bool (s 3), .slice (a 3) (n 3) (c 3), .int .i64 (x 3), .bool (s' 3), .slice (a' 3) (n' 3) (c' 3), .int .i64 (x' 3)]) rfl (Or.inl ⟨by rfl, ?_⟩) hH ?_
     ·intro wq hSw
      try dsimp only at hSw
      go_simp
     try simp only [Act.put, zq1, zq2, zq3, zq4, zq5, zq6]
     refine wT (i := 5) (v := .agg #[.bool (s b), .slice (a b) (n b) (c b), .int .i64 (x b), .bool (s' b), .slice (a' b) (n' b) (c' b), .int .i64 (x' b)]) rfl (Or.inl ⟨by rfl, ?_⟩) hH ?_
     ·intro wq hSw
      try dsimp only at hSw
      go_simp
     try simp only [Act.put, zq1, zq2, zq3, zq4, zq5, zq6]
     refine wR 6 (by kernel_rfl) rfl (fun KK hK => ?_)
     simp only [zq1, zq2, zq3]
     rw [if_pos (by rfl)]
     refine wpv2 f (.tmp 20) (.tmp 24) (.tmp 25) _ rfl rfl hcf (.agg #[.bool (s 3), .slice (a 3) (n 3) (c 3), .int .i64 (x 3), .bool (s' 3), .slice (a' 3) (n' 3) (c' 3), .int .i64 (x' 3)]) (.agg #[.bool (s b), .slice (a b) (n b) (c b), .int .i64 (x b), .bool (s' b), .slice (a' b) (n' b) (c' b), .int .i64 (x' b)]) rfl rfl (unhide H1 3 b _ K9) ?_
     rintro e w5 ⟨rfl, k5⟩
     refine ⟨_, rfl, ?_⟩
     replace g0 := k5.cell0 g0
     replace g1 := k5.cell0 g1
     replace g2 := k5.cell0 g2
     replace g3 := k5.cell0 g3
     replace g4 := k5.cell0 g4
     replace g5 := k5.cell0 g5
     replace m0 := k5.cell0 m0
     replace m1 := k5.cell0 m1
     replace m2 := k5.cell0 m2
     replace m3 := k5.cell0 m3
     replace m4 := k5.cell0 m4
     replace m5 := k5.cell0 m5
     clear hH
     refine hK.out _ _ ?_ (fun hH => ?_)
     ·exact ⟨g0, g1, g2, g3, g4, g5, m0, m1, m2, m3, m4, m5⟩
     clear hK KK
     try simp only [Act.put, zq1, zq2, zq3, zq4, zq5, zq6]
     have hd := unhide HD
     refine wT (i := 7) (v := .bool true) rfl (Or.inl ⟨by rfl, ?_⟩) hH ?_
     ·intro wq hSw
      try dsimp only at hSw
      go_simp
     try simp only [Act.put, zq1, zq2, zq3, zq4, zq5, zq6]
     refine wpAnyH_done (by kernel_rfl) ?_ _
     clear hH hd
     have kk := (show Kept 0 0 wr wd from hwd ▸ (Kept.refl 0 0 wr).drew).trans k5
     have z5 := kk.size
     replace F := hide ((unhide F).kept kk)
     replace BR := hide ((unhide BR).kept kk)
     replace BM := hide ((unhide BM).kept kk)
     skip
     have LR5 := hide (L6.kept (unhide LR) (by omega : w.heap.size < wr.heap.size) kk)
     have LM5 := hide (L6.kept (unhide LM) (by omega : w.heap.size + 1 < wr.heap.size) kk)
     have K5 := hide ((unhide K).trans kk)
     clear K9 hwd kk k5 LR LM K m0 m1 m2 m3 m4 m5
     have lm := fun o ho => unhide LM5 o ho
     have f0 := lm 0 (by decide)
     have f1 := lm 1 (by decide)
     have f2 := lm 2 (by decide)
     have f3 := lm 3 (by decide)
     have f4 := lm 4 (by decide)
     have f5 := lm 5 (by decide)
     have bm := unhide BM
     obtain ⟨m0, m1, m2, m3, m4, m5⟩ := bm
     have F6 := hide ((unhide F).set (M := w.heap.size + 1) (by omega) (.bool (s 3)) (.slice (a 3) (n 3) (c 3)) (.int .i64 (x 3)) (.bool (s' 3)) (.slice (a' 3) (n' 3) (c' 3)) (.int .i64 (x' 3)))
     have BR6 := hide ((unhide BR).aside (M := w.heap.size + 1) (by omega) (.bool (s 3)) (.slice (a 3) (n 3) (c 3)) (.int .i64 (x 3)) (.bool (s' 3)) (.slice (a' 3) (n' 3) (c' 3)) (.int .i64 (x' 3)))
     have BM6 := hide ((unhide BM).set (.bool (s 3)) (.slice (a 3) (n 3) (c 3)) (.int .i64 (x 3)) (.bool (s' 3)) (.slice (a' 3) (n' 3) (c' 3)) (.int .i64 (x' 3)))
     have LR6 := hide ((unhide LR5).set (M := w.heap.size + 1) (.bool (s 3)) (.slice (a 3) (n 3) (c 3)) (.int .i64 (x 3)) (.bool (s' 3)) (.slice (a' 3) (n' 3) (c' 3)) (.int .i64 (x' 3)))
     have LM6 := hide ((unhide LM5).set (M := w.heap.size + 1) (.bool (s 3)) (.slice (a 3) (n 3) (c 3)) (.int .i64 (x 3)) (.bool (s' 3)) (.slice (a' 3) (n' 3) (c' 3)) (.int .i64 (x' 3)))
     have K6 := hide (((((((unhide K5).setNew (p := ⟨w.heap.size + 1, 0, none⟩) (by simp) (.bool (s 3))).setNew (p := ⟨w.heap.size + 1, 1, none⟩) (by simp) (.slice (a 3) (n 3) (c 3))).setNew (p := ⟨w.heap.size + 1, 2, none⟩) (by simp) (.int .i64 (x 3))).setNew (p := ⟨w.heap.size + 1, 3, none⟩) (by simp) (.bool (s' 3))).setNew (p := ⟨w.heap.size + 1, 4, none⟩) (by simp) (.slice (a' 3) (n' 3) (c' 3))).setNew (p := ⟨w.heap.size + 1, 5, none⟩) (by simp) (.int .i64 (x' 3)))
     have z6 : w5.heap.size = ((((((w5.setCell ⟨w.heap.size + 1, 0, none⟩ (.bool (s 3))).setCell ⟨w.heap.size + 1, 1, none⟩ (.slice (a 3) (n 3) (c 3))).setCell ⟨w.heap.size + 1, 2, none⟩ (.int .i64 (x 3))).setCell ⟨w.heap.size + 1, 3, none⟩ (.bool (s' 3))).setCell ⟨w.heap.size + 1, 4, none⟩ (.slice (a' 3) (n' 3) (c' 3))).setCell ⟨w.heap.size + 1, 5, none⟩ (.int .i64 (x' 3))).heap.size := by simp [World.setCell]
     have hb2 : Hid (3 = selP (fun i j => decide (0 < C i j)) (3 + 1)) := by show _ = _; unfold selP; rw [← unhide hb, unhide HD]; rfl
     clear F BR BM LR5 LM5 K5 lm
     go_wp2
     go_roundw
     case rel => exact ⟨3 + 1, 3, rfl, by omega, by omega, hb2, F6, BR6, BM6, LR6, LM6, K6, by omega⟩
     case measure => simp [intOf]
   ·have lr := fun o ho => unhide LR o ho
    have f0 := lr 0 (by decide)
    have f1 := lr 1 (by decide)
    have f2 := lr 2 (by decide)
    have f3 := lr 3 (by decide)
    have f4 := lr 4 (by decide)
    have f5 := lr 5 (by decide)
    obtain ⟨m0, m1, m2, m3, m4, m5⟩ := unhide BM
    obtain ⟨R0, R1, R2, R3, R4, R5⟩ := unhide BR
    have K7 := hide (((((((unhide K).setNew (p := ⟨w.heap.size, 0, none⟩) (by simp) (.bool (s b))).setNew (p := ⟨w.heap.size, 1, none⟩) (by simp) (.slice (a b) (n b) (c b))).setNew (p := ⟨w.heap.size, 2, none⟩) (by simp) (.int .i64 (x b))).setNew (p := ⟨w.heap.size, 3, none⟩) (by simp) (.bool (s' b))).setNew (p := ⟨w.heap.size, 4, none⟩) (by simp) (.slice (a' b) (n' b) (c' b))).setNew (p := ⟨w.heap.size, 5, none⟩) (by simp) (.int .i64 (x' b)))
    have hk : Hid (m = b) := (unhide HM).symm.trans (unhide hb).symm
    clear K lr F BR BM LR LM
    go_wp2_with fail
    exact bodyPost_ret (v := .agg #[.bool (s b), .slice (a b) (n b) (c b), .int .i64 (x b), .bool (s' b), .slice (a' b) (n' b) (c' b), .int .i64 (x' b)]) (by simp [results, Tryd.results36, go_sem, R0, R1, R2, R3, R4, R5]) rfl ⟨by rw [unhide hk], unhide K7⟩

set_option maxHeartbeats 8000000 in
theorem minQ_impl {s s' : Nat → Bool} {a a' : Nat → Option Addr} {n c n' c' : Nat → Nat} {x x' : Nat → Int} {g cc : Nat} {C : Nat → Nat → Int} (f : FuncId) (hcf : ∀ (w : World) (args : Array Value), (callFunc f args).run Tryd.prog w = .ok (.enter f args) w) (w : World) (F : PL w g s s' a a' n c n' c' x x')
    (h1 : ∀ (i j : Nat) w1, Kept 0 0 w w1 → Calls Tryd.prog f #[.agg #[.bool (s i), .slice (a i) (n i) (c i), .int .i64 (x i), .bool (s' i), .slice (a' i) (n' i) (c' i), .int .i64 (x' i)], .agg #[.bool (s j), .slice (a j) (n j) (c j), .int .i64 (x j), .bool (s' j), .slice (a' j) (n' j) (c' j), .int .i64 (x' j)]] w1 (fun e w' => e = .returned (.int .i64 (C i j)) ∧ Kept 0 0 w1 w')) :
    Calls Tryd.prog 35 #[.slice (some ⟨g, 0, none⟩) 4 cc, .func (.func f) #[] #[]] w fun e w' => e = .returned (.agg #[.bool (s (selP (fun i j => decide (C i j < 0)) 4)), .slice (a (selP (fun i j => decide (C i j < 0)) 4)) (n (selP (fun i j => decide (C i j < 0)) 4)) (c (selP (fun i j => decide (C i j < 0)) 4)), .int .i64 (x (selP (fun i j => decide (C i j < 0)) 4)), .bool (s' (selP (fun i j => decide (C i j < 0)) 4)), .slice (a' (selP (fun i j => decide (C i j < 0)) 4)) (n' (selP (fun i j => decide (C i j < 0)) 4)) (c' (selP (fun i j => decide (C i j < 0)) 4)), .int .i64 (x' (selP (fun i j => decide (C i j < 0)) 4))]) ∧ Kept 0 0 w w' := by
  have H1 := hide h1
  clear h1
  have hgl := F.lt
  obtain ⟨m, hm⟩ : ∃ m, selP (fun i j => decide (C i j < 0)) 4 = m := ⟨_, rfl⟩
  rw [hm]
  have HM := hide hm
  clear hm
  have k0 : Kept 0 0 w ((w.alloc (.cells #[.bool false, .slice none 0 0, .int .i64 0, .bool false, .slice none 0 0, .int .i64 0] 51)).alloc (.cells #[.bool (s 0), .slice (a 0) (n 0) (c 0), .int .i64 (x 0), .bool (s' 0), .slice (a' 0) (n' 0) (c' 0), .int .i64 (x' 0)] 51)) := ((Kept.refl 0 0 w).alloc _).alloc _
  have kR : Kept 0 0 w (w.alloc (.cells #[.bool false, .slice none 0 0, .int .i64 0, .bool false, .slice none 0 0, .int .i64 0] 51)) := (Kept.refl 0 0 w).alloc _
  have F2 := F.kept k0
  have FR := F.kept kR
  have BR : P6 ((w.alloc (.cells #[.bool false, .slice none 0 0, .int .i64 0, .bool false, .slice none 0 0, .int .i64 0] 51)).alloc (.cells #[.bool (s 0), .slice (a 0) (n 0) (c 0), .int .i64 (x 0), .bool (s' 0), .slice (a' 0) (n' 0) (c' 0), .int .i64 (x' 0)] 51)) w.heap.size (.bool false) (.slice none 0 0) (.int .i64 0) (.bool false) (.slice none 0 0) (.int .i64 0) := P6.kept ⟨new_cell2 _ _ _ _ _ _ (by simp) rfl, new_cell2 _ _ _ _ _ _ (by simp) rfl, new_cell2 _ _ _ _ _ _ (by simp) rfl, new_cell2 _ _ _ _ _ _ (by simp) rfl, new_cell2 _ _ _ _ _ _ (by simp) rfl, new_cell2 _ _ _ _ _ _ (by simp) rfl⟩ ((Kept.refl 0 0 (w.alloc (.cells #[.bool false, .slice none 0 0, .int .i64 0, .bool false, .slice none 0 0, .int .i64 0] 51))).alloc _)
  have BM : P6 ((w.alloc (.cells #[.bool false, .slice none 0 0, .int .i64 0, .bool false, .slice none 0 0, .int .i64 0] 51)).alloc (.cells #[.bool (s 0), .slice (a 0) (n 0) (c 0), .int .i64 (x 0), .bool (s' 0), .slice (a' 0) (n' 0) (c' 0), .int .i64 (x' 0)] 51)) (w.heap.size + 1) (.bool (s 0)) (.slice (a 0) (n 0) (c 0)) (.int .i64 (x 0)) (.bool (s' 0)) (.slice (a' 0) (n' 0) (c' 0)) (.int .i64 (x' 0)) := ⟨new_cell2 _ _ _ _ _ _ (by simp) rfl, new_cell2 _ _ _ _ _ _ (by simp) rfl, new_cell2 _ _ _ _ _ _ (by simp) rfl, new_cell2 _ _ _ _ _ _ (by simp) rfl, new_cell2 _ _ _ _ _ _ (by simp) rfl, new_cell2 _ _ _ _ _ _ (by simp) rfl⟩
  have LR : L6 ((w.alloc (.cells #[.bool false, .slice none 0 0, .int .i64 0, .bool false, .slice none 0 0, .int .i64 0] 51)).alloc (.cells #[.bool (s 0), .slice (a 0) (n 0) (c 0), .int .i64 (x 0), .bool (s' 0), .slice (a' 0) (n' 0) (c' 0), .int .i64 (x' 0)] 51)) w.heap.size := fun o ho => loose_old (by simp <;> omega) (new_loose2 _ _ _ _ _ (by simp))
  have LM : L6 ((w.alloc (.cells #[.bool false, .slice none 0 0, .int .i64 0, .bool false, .slice none 0 0, .int .i64 0] 51)).alloc (.cells #[.bool (s 0), .slice (a 0) (n 0) (c 0), .int .i64 (x 0), .bool (s' 0), .slice (a' 0) (n' 0) (c' 0), .int .i64 (x' 0)] 51)) (w.heap.size + 1) := fun o ho => new_loose2 _ _ _ _ _ (by simp)
  have s0 : ((w.alloc (.cells #[.bool false, .slice none 0 0, .int .i64 0, .bool false, .slice none 0 0, .int .i64 0] 51)).alloc (.cells #[.bool (s 0), .slice (a 0) (n 0) (c 0), .int .i64 (x 0), .bool (s' 0), .slice (a' 0) (n' 0) (c' 0), .int .i64 (x' 0)] 51)).heap.size = w.heap.size + 2 := by simp
  obtain ⟨q0, q1, q2, q3, q4, q5⟩ := FR 0 (by decide)
  replace q0 : (w.alloc (.cells #[.bool false, .slice none 0 0, .int .i64 0, .bool false, .slice none 0 0, .int .i64 0] 51)).cell? ⟨g, 0, none⟩ = some (.bool (s 0)) := q0
  replace q1 : (w.alloc (.cells #[.bool false, .slice none 0 0, .int .i64 0, .bool false, .slice none 0 0, .int .i64 0] 51)).cell? ⟨g, 1, none⟩ = some (.slice (a 0) (n 0) (c 0)) := q1
  replace q2 : (w.alloc (.cells #[.bool false, .slice none 0 0, .int .i64 0, .bool false, .slice none 0 0, .int .i64 0] 51)).cell? ⟨g, 2, none⟩ = some (.int .i64 (x 0)) := q2
  replace q3 : (w.alloc (.cells #[.bool false, .slice none 0 0, .int .i64 0, .bool false, .slice none 0 0, .int .i64 0] 51)).cell? ⟨g, 3, none⟩ = some (.bool (s' 0)) := q3
  replace q4 : (w.alloc (.cells #[.bool false, .slice none 0 0, .int .i64 0, .bool false, .slice none 0 0, .int .i64 0] 51)).cell? ⟨g, 4, none⟩ = some (.slice (a' 0) (n' 0) (c' 0)) := q4
  replace q5 : (w.alloc (.cells #[.bool false, .slice none 0 0, .int .i64 0, .bool false, .slice none 0 0, .int .i64 0] 51)).cell? ⟨g, 5, none⟩ = some (.int .i64 (x' 0)) := q5
  have K := hide k0
  clear k0 kR FR F
  go_enter Tryd.func35, Tryd.ntmps35
  go_wp2_with fail
  clear q0 q1 q2 q3 q4 q5
  generalize ((w.alloc (.cells #[.bool false, .slice none 0 0, .int .i64 0, .bool false, .slice none 0 0, .int .i64 0] 51)).alloc (.cells #[.bool (s 0), .slice (a 0) (n 0) (c 0), .int .i64 (x 0), .bool (s' 0), .slice (a' 0) (n' 0) (c' 0), .int .i64 (x' 0)] 51)) = W at *
  have HF := hide F2
  have HBR := hide BR
  have HBM := hide BM
  have HLR := hide LR
  have HLM := hide LM
  clear F2 BR BM LR LM
  go_loopw [6] (fun ii wr => ∃ (i b : Nat), ii = .int .i64 (i : Int) ∧ 1 ≤ i ∧ i ≤ 4 ∧ Hid (b = selP (fun i j => decide (C i j < 0)) i) ∧ Hid (PL wr g s s' a a' n c n' c' x x') ∧ Hid (P6 wr w.heap.size (.bool false) (.slice none 0 0) (.int .i64 0) (.bool false) (.slice none 0 0) (.int .i64 0)) ∧ Hid (P6 wr (w.heap.size + 1) (.bool (s b)) (.slice (a b) (n b) (c b)) (.int .i64 (x b)) (.bool (s' b)) (.slice (a' b) (n' b) (c' b)) (.int .i64 (x' b))) ∧ Hid (L6 wr w.heap.size) ∧ Hid (L6 wr (w.heap.size + 1)) ∧ Hid (Kept 0 0 w wr) ∧ w.heap.size + 2 ≤ wr.heap.size) (fun ii _ => 4 - (intOf ii).toNat)
  case atStart => exact ⟨1, 0, rfl, by omega, by omega, rfl, HF, HBR, HBM, HLR, HLM, K, by omega⟩
  case round =>
   clear HF HBR HBM HLR HLM K
   obtain ⟨i, b, rfl, hi1, hi4, hb, F, BR, BM, LR, LM, K, hsz⟩ := hrel
   obtain rfl | rfl | rfl | rfl : i = 1 ∨ i = 2 ∨ i = 3 ∨ i = 4 := by omega
   ·cases hd : decide (C 1 b < 0)
    ·have HD := hide hd
     clear hd
     go_wp2_with fail
     have hF := (unhide F).kept (Kept.refl 0 0 wr).drew
     have hM := (unhide BM).kept (Kept.refl 0 0 wr).drew
     have K9 := (unhide K).trans (Kept.refl 0 0 wr).drew
     obtain ⟨g0, g1, g2, g3, g4, g5⟩ := hF 1 (by decide)
     obtain ⟨m0, m1, m2, m3, m4, m5⟩ := hM
     replace g0 : wr.drew.cell? ⟨g, 6, none⟩ = some (.bool (s 1)) := g0
     replace g1 : wr.drew.cell? ⟨g, 7, none⟩ = some (.slice (a 1) (n 1) (c 1)) := g1
     replace g2 : wr.drew.cell? ⟨g, 8, none⟩ = some (.int .i64 (x 1)) := g2
     replace g3 : wr.drew.cell? ⟨g, 9, none⟩ = some (.bool (s' 1)) := g3
     replace g4 : wr.drew.cell? ⟨g, 10, none⟩ = some (.slice (a' 1) (n' 1) (c' 1)) := g4
     replace g5 : wr.drew.cell? ⟨g, 11, none⟩ = some (.int .i64 (x' 1)) := g5
     refine wp_region_held_drew (S := (fun w' => w'.cell? ⟨g, 6, none⟩ = some (.bool (s 1)) ∧ w'.cell? ⟨g, 7, none⟩ = some (.slice (a 1) (n 1) (c 1)) ∧ w'.cell? ⟨g, 8, none⟩ = some (.int .i64 (x 1)) ∧ w'.cell? ⟨g, 9, none⟩ = some (.bool (s' 1)) ∧ w'.cell? ⟨g, 10, none⟩ = some (.slice (a' 1) (n' 1) (c' 1)) ∧ w'.cell? ⟨g, 11, none⟩ = some (.int .i64 (x' 1)) ∧ w'.cell? ⟨w.heap.size + 1, 0, none⟩ = some (.bool (s b)) ∧ w'.cell? ⟨w.heap.size + 1, 1, none⟩ = some (.slice (a b) (n b) (c b)) ∧ w'.cell? ⟨w.heap.size + 1, 2, none⟩ = some (.int .i64 (x b)) ∧ w'.cell? ⟨w.heap.size + 1, 3, none⟩ = some (.bool (s' b)) ∧ w'.cell? ⟨w.heap.size + 1, 4, none⟩ = some (.slice (a' b) (n' b) (c' b)) ∧ w'.cell? ⟨w.heap.size + 1, 5, none⟩ = some (.int .i64 (x' b)))) (by kernel_rfl) ?_ (fun hH => ?_)
     ·exact ⟨g0, g1, g2, g3, g4, g5, m0, m1, m2, m3, m4, m5⟩
     generalize hwd : wr.drew = wd at *
     refine wT (i := 0) (v := .func (.func f) #[] #[]) rfl (Or.inl ⟨by rfl, ?_⟩) hH ?_
     ·intro wq hSw
      try dsimp only at hSw
      go_simp
     try simp only [Act.put, zq1, zq2, zq3, zq4, zq5, zq6]
     refine wT (i := 1) (v := .slice (some ⟨g, 0, none⟩) 4 cc) rfl (Or.inl ⟨by rfl, ?_⟩) hH ?_
     ·intro wq hSw
      try dsimp only at hSw
      go_simp
     try simp only [Act.put, zq1, zq2, zq3, zq4, zq5, zq6]
     refine wT (i := 2) (v := .int .i64 1) rfl (Or.inl ⟨by rfl, ?_⟩) hH ?_
     ·intro wq hSw
      try dsimp only at hSw
      go_simp
     try simp only [Act.put, zq1, zq2, zq3, zq4, zq5, zq6]
     refine wT (i := 3) (v := .pointer (some ⟨g, 6, none⟩)) rfl (Or.inl ⟨by rfl, ?_⟩) hH ?_
     ·intro wq hSw
      try dsimp only at hSw
      go_simp
     try simp only [Act.put, zq1, zq2, zq3, zq4, zq5, zq6]
     refine wT (i := 4) (v := .agg #[.bool (s 1), .slice (a 1) (n 1) (c 1), .int .i64 (x 1), .bool (s' 1), .slice (a' 1) (n' 1) (c' 1), .int .i64 (x' 1)]) rfl (Or.inl ⟨by rfl, ?_⟩) hH ?_
     ·intro wq hSw
      try dsimp only at hSw
      go_simp
     try simp only [Act.put, zq1, zq2, zq3, zq4, zq5, zq6]
     refine wT (i := 5) (v := .agg #[.bool (s b), .slice (a b) (n b) (c b), .int .i64 (x b), .bool (s' b), .slice (a' b) (n' b) (c' b), .int .i64 (x' b)]) rfl (Or.inl ⟨by rfl, ?_⟩) hH ?_
     ·intro wq hSw
      try dsimp only at hSw
      go_simp
     try simp only [Act.put, zq1, zq2, zq3, zq4, zq5, zq6]
     refine wR 6 (by kernel_rfl) rfl (fun KK hK => ?_)
     simp only [zq1, zq2, zq3]
     rw [if_pos (by rfl)]
     refine wpv2 f (.tmp 20) (.tmp 24) (.tmp 25) _ rfl rfl hcf (.agg #[.bool (s 1), .slice (a 1) (n 1) (c 1), .int .i64 (x 1), .bool (s' 1), .slice (a' 1) (n' 1) (c' 1), .int .i64 (x' 1)]) (.agg #[.bool (s b), .slice (a b) (n b) (c b), .int .i64 (x b), .bool (s' b), .slice (a' b) (n' b) (c' b), .int .i64 (x' b)]) rfl rfl (unhide H1 1 b _ K9) ?_
     rintro e w5 ⟨rfl, k5⟩
     refine ⟨_, rfl, ?_⟩
     replace g0 := k5.cell0 g0
     replace g1 := k5.cell0 g1
     replace g2 := k5.cell0 g2
     replace g3 := k5.cell0 g3
     replace g4 := k5.cell0 g4
     replace g5 := k5.cell0 g5
     replace m0 := k5.cell0 m0
     replace m1 := k5.cell0 m1
     replace m2 := k5.cell0 m2
     replace m3 := k5.cell0 m3
     replace m4 := k5.cell0 m4
     replace m5 := k5.cell0 m5
     clear hH
     refine hK.out _ _ ?_ (fun hH => ?_)
     ·exact ⟨g0, g1, g2, g3, g4, g5, m0, m1, m2, m3, m4, m5⟩
     clear hK KK
     try simp only [Act.put, zq1, zq2, zq3, zq4, zq5, zq6]
     have hd := unhide HD
     refine wT (i := 7) (v := .bool false) rfl (Or.inl ⟨by rfl, ?_⟩) hH ?_
     ·intro wq hSw
      try dsimp only at hSw
      go_simp
     try simp only [Act.put, zq1, zq2, zq3, zq4, zq5, zq6]
     refine wpAnyH_done (by kernel_rfl) ?_ _
     clear hH hd
     have kk := (show Kept 0 0 wr wd from hwd ▸ (Kept.refl 0 0 wr).drew).trans k5
     have z5 := kk.size
     replace F := hide ((unhide F).kept kk)
     replace BR := hide ((unhide BR).kept kk)
     replace BM := hide ((unhide BM).kept kk)
     skip
     have LR5 := hide (L6.kept (unhide LR) (by omega : w.heap.size < wr.heap.size) kk)
     have LM5 := hide (L6.kept (unhide LM) (by omega : w.heap.size + 1 < wr.heap.size) kk)
     have K5 := hide ((unhide K).trans kk)
     clear K9 hwd kk k5 LR LM K m0 m1 m2 m3 m4 m5
     clear g0 g1 g2 g3 g4 g5
     have hb2 : Hid (b = selP (fun i j => decide (C i j < 0)) (1 + 1)) := by show _ = _; unfold selP; rw [← unhide hb, unhide HD]; rfl
     go_wp2
     go_roundw
     case rel => exact ⟨1 + 1, b, rfl, by omega, by omega, hb2, F, BR, BM, LR5, LM5, K5, by omega⟩
     case measure => simp [intOf]
    ·have HD := hide hd
     clear hd
     go_wp2_with fail
     have hF := (unhide F).kept (Kept.refl 0 0 wr).drew
     have hM := (unhide BM).kept (Kept.refl 0 0 wr).drew
     have K9 := (unhide K).trans (Kept.refl 0 0 wr).drew
     obtain ⟨g0, g1, g2, g3, g4, g5⟩ := hF 1 (by decide)
     obtain ⟨m0, m1, m2, m3, m4, m5⟩ := hM
     replace g0 : wr.drew.cell? ⟨g, 6, none⟩ = some (.bool (s 1)) := g0
     replace g1 : wr.drew.cell? ⟨g, 7, none⟩ = some (.slice (a 1) (n 1) (c 1)) := g1
     replace g2 : wr.drew.cell? ⟨g, 8, none⟩ = some (.int .i64 (x 1)) := g2
     replace g3 : wr.drew.cell? ⟨g, 9, none⟩ = some (.bool (s' 1)) := g3
     replace g4 : wr.drew.cell? ⟨g, 10, none⟩ = some (.slice (a' 1) (n' 1) (c' 1)) := g4
     replace g5 : wr.drew.cell? ⟨g, 11, none⟩ = some (.int .i64 (x' 1)) := g5
     refine wp_region_held_drew (S := (fun w' => w'.cell? ⟨g, 6, none⟩ = some (.bool (s 1)) ∧ w'.cell? ⟨g, 7, none⟩ = some (.slice (a 1) (n 1) (c 1)) ∧ w'.cell? ⟨g, 8, none⟩ = some (.int .i64 (x 1)) ∧ w'.cell? ⟨g, 9, none⟩ = some (.bool (s' 1)) ∧ w'.cell? ⟨g, 10, none⟩ = some (.slice (a' 1) (n' 1) (c' 1)) ∧ w'.cell? ⟨g, 11, none⟩ = some (.int .i64 (x' 1)) ∧ w'.cell? ⟨w.heap.size + 1, 0, none⟩ = some (.bool (s b)) ∧ w'.cell? ⟨w.heap.size + 1, 1, none⟩ = some (.slice (a b) (n b) (c b)) ∧ w'.cell? ⟨w.heap.size + 1, 2, none⟩ = some (.int .i64 (x b)) ∧ w'.cell? ⟨w.heap.size + 1, 3, none⟩ = some (.bool (s' b)) ∧ w'.cell? ⟨w.heap.size + 1, 4, none⟩ = some (.slice (a' b) (n' b) (c' b)) ∧ w'.cell? ⟨w.heap.size + 1, 5, none⟩ = some (.int .i64 (x' b)))) (by kernel_rfl) ?_ (fun hH => ?_)
     ·exact ⟨g0, g1, g2, g3, g4, g5, m0, m1, m2, m3, m4, m5⟩
     generalize hwd : wr.drew = wd at *
     refine wT (i := 0) (v := .func (.func f) #[] #[]) rfl (Or.inl ⟨by rfl, ?_⟩) hH ?_
     ·intro wq hSw
      try dsimp only at hSw
      go_simp
     try simp only [Act.put, zq1, zq2, zq3, zq4, zq5, zq6]
     refine wT (i := 1) (v := .slice (some ⟨g, 0, none⟩) 4 cc) rfl (Or.inl ⟨by rfl, ?_⟩) hH ?_
     ·intro wq hSw
      try dsimp only at hSw
      go_simp
     try simp only [Act.put, zq1, zq2, zq3, zq4, zq5, zq6]
     refine wT (i := 2) (v := .int .i64 1) rfl (Or.inl ⟨by rfl, ?_⟩) hH ?_
     ·intro wq hSw
      try dsimp only at hSw
      go_simp
     try simp only [Act.put, zq1, zq2, zq3, zq4, zq5, zq6]
     refine wT (i := 3) (v := .pointer (some ⟨g, 6, none⟩)) rfl (Or.inl ⟨by rfl, ?_⟩) hH ?_
     ·intro wq hSw
      try dsimp only at hSw
      go_simp
     try simp only [Act.put, zq1, zq2, zq3, zq4, zq5, zq6]
     refine wT (i := 4) (v := .agg #[.bool (s 1), .slice (a 1) (n 1) (c 1), .int .i64 (x 1), .bool (s' 1), .slice (a' 1) (n' 1) (c' 1), .int .i64 (x' 1)]) rfl (Or.inl ⟨by rfl, ?_⟩) hH ?_
     ·intro wq hSw
      try dsimp only at hSw
      go_simp
     try simp only [Act.put, zq1, zq2, zq3, zq4, zq5, zq6]
     refine wT (i := 5) (v := .agg #[.bool (s b), .slice (a b) (n b) (c b), .int .i64 (x b), .bool (s' b), .slice (a' b) (n' b) (c' b), .int .i64 (x' b)]) rfl (Or.inl ⟨by rfl, ?_⟩) hH ?_
     ·intro wq hSw
      try dsimp only at hSw
      go_simp
     try simp only [Act.put, zq1, zq2, zq3, zq4, zq5, zq6]
     refine wR 6 (by kernel_rfl) rfl (fun KK hK => ?_)
     simp only [zq1, zq2, zq3]
     rw [if_pos (by rfl)]
     refine wpv2 f (.tmp 20) (.tmp 24) (.tmp 25) _ rfl rfl hcf (.agg #[.bool (s 1), .slice (a 1) (n 1) (c 1), .int .i64 (x 1), .bool (s' 1), .slice (a' 1) (n' 1) (c' 1), .int .i64 (x' 1)]) (.agg #[.bool (s b), .slice (a b) (n b) (c b), .int .i64 (x b), .bool (s' b), .slice (a' b) (n' b) (c' b), .int .i64 (x' b)]) rfl rfl (unhide H1 1 b _ K9) ?_
     rintro e w5 ⟨rfl, k5⟩
     refine ⟨_, rfl, ?_⟩
     replace g0 := k5.cell0 g0
     replace g1 := k5.cell0 g1
     replace g2 := k5.cell0 g2
     replace g3 := k5.cell0 g3
     replace g4 := k5.cell0 g4
     replace g5 := k5.cell0 g5
     replace m0 := k5.cell0 m0
     replace m1 := k5.cell0 m1
     replace m2 := k5.cell0 m2
     replace m3 := k5.cell0 m3
     replace m4 := k5.cell0 m4
     replace m5 := k5.cell0 m5
     clear hH
     refine hK.out _ _ ?_ (fun hH => ?_)
     ·exact ⟨g0, g1, g2, g3, g4, g5, m0, m1, m2, m3, m4, m5⟩
     clear hK KK
     try simp only [Act.put, zq1, zq2, zq3, zq4, zq5, zq6]
     have hd := unhide HD
     refine wT (i := 7) (v := .bool true) rfl (Or.inl ⟨by rfl, ?_⟩) hH ?_
     ·intro wq hSw
      try dsimp only at hSw
      go_simp
     try simp only [Act.put, zq1, zq2, zq3, zq4, zq5, zq6]
     refine wpAnyH_done (by kernel_rfl) ?_ _
     clear hH hd
     have kk := (show Kept 0 0 wr wd from hwd ▸ (Kept.refl 0 0 wr).drew).trans k5
     have z5 := kk.size
     replace F := hide ((unhide F).kept kk)
     replace BR := hide ((unhide BR).kept kk)
     replace BM := hide ((unhide BM).kept kk)
     skip
     have LR5 := hide (L6.kept (unhide LR) (by omega : w.heap.size < wr.heap.size) kk)
     have LM5 := hide (L6.kept (unhide LM) (by omega : w.heap.size + 1 < wr.heap.size) kk)
     have K5 := hide ((unhide K).trans kk)
     clear K9 hwd kk k5 LR LM K m0 m1 m2 m3 m4 m5
     have lm := fun o ho => unhide LM5 o ho
     have f0 := lm 0 (by decide)
     have f1 := lm 1 (by decide)
     have f2 := lm 2 (by decide)
     have f3 := lm 3 (by decide)
     have f4 := lm 4 (by decide)
     have f5 := lm 5 (by decide)
     have bm := unhide BM
     obtain ⟨m0, m1, m2, m3, m4, m5⟩ := bm
     have F6 := hide ((unhide F).set (M := w.heap.size + 1) (by omega) (.bool (s 1)) (.slice (a 1) (n 1) (c 1)) (.int .i64 (x 1)) (.bool (s' 1)) (.slice (a' 1) (n' 1) (c' 1)) (.int .i64 (x' 1)))
     have BR6 := hide ((unhide BR).aside (M := w.heap.size + 1) (by omega) (.bool (s 1)) (.slice (a 1) (n 1) (c 1)) (.int .i64 (x 1)) (.bool (s' 1)) (.slice (a' 1) (n' 1) (c' 1)) (.int .i64 (x' 1)))
     have BM6 := hide ((unhide BM).set (.bool (s 1)) (.slice (a 1) (n 1) (c 1)) (.int .i64 (x 1)) (.bool (s' 1)) (.slice (a' 1) (n' 1) (c' 1)) (.int .i64 (x' 1)))
     have LR6 := hide ((unhide LR5).set (M := w.heap.size + 1) (.bool (s 1)) (.slice (a 1) (n 1) (c 1)) (.int .i64 (x 1)) (.bool (s' 1)) (.slice (a' 1) (n' 1) (c' 1)) (.int .i64 (x' 1)))
     have LM6 := hide ((unhide LM5).set (M := w.heap.size + 1) (.bool (s 1)) (.slice (a 1) (n 1) (c 1)) (.int .i64 (x 1)) (.bool (s' 1)) (.slice (a' 1) (n' 1) (c' 1)) (.int .i64 (x' 1)))
     have K6 := hide (((((((unhide K5).setNew (p := ⟨w.heap.size + 1, 0, none⟩) (by simp) (.bool (s 1))).setNew (p := ⟨w.heap.size + 1, 1, none⟩) (by simp) (.slice (a 1) (n 1) (c 1))).setNew (p := ⟨w.heap.size + 1, 2, none⟩) (by simp) (.int .i64 (x 1))).setNew (p := ⟨w.heap.size + 1, 3, none⟩) (by simp) (.bool (s' 1))).setNew (p := ⟨w.heap.size + 1, 4, none⟩) (by simp) (.slice (a' 1) (n' 1) (c' 1))).setNew (p := ⟨w.heap.size + 1, 5, none⟩) (by simp) (.int .i64 (x' 1)))
     have z6 : w5.heap.size = ((((((w5.setCell ⟨w.heap.size + 1, 0, none⟩ (.bool (s 1))).setCell ⟨w.heap.size + 1, 1, none⟩ (.slice (a 1) (n 1) (c 1))).setCell ⟨w.heap.size + 1, 2, none⟩ (.int .i64 (x 1))).setCell ⟨w.heap.size + 1, 3, none⟩ (.bool (s' 1))).setCell ⟨w.heap.size + 1, 4, none⟩ (.slice (a' 1) (n' 1) (c' 1))).setCell ⟨w.heap.size + 1, 5, none⟩ (.int .i64 (x' 1))).heap.size := by simp [World.setCell]
     have hb2 : Hid (1 = selP (fun i j => decide (C i j < 0)) (1 + 1)) := by show _ = _; unfold selP; rw [← unhide hb, unhide HD]; rfl
     clear F BR BM LR5 LM5 K5 lm
     go_wp2
     go_roundw
     case rel => exact ⟨1 + 1, 1, rfl, by omega, by omega, hb2, F6, BR6, BM6, LR6, LM6, K6, by omega⟩
     case measure => simp [intOf]
   ·cases hd : decide (C 2 b < 0)
    ·have HD := hide hd
     clear hd
     go_wp2_with fail
     have hF := (unhide F).kept (Kept.refl 0 0 wr).drew
     have hM := (unhide BM).kept (Kept.refl 0 0 wr).drew
     have K9 := (unhide K).trans (Kept.refl 0 0 wr).drew
     obtain ⟨g0, g1, g2, g3, g4, g5⟩ := hF 2 (by decide)
     obtain ⟨m0, m1, m2, m3, m4, m5⟩ := hM
     replace g0 : wr.drew.cell? ⟨g, 12, none⟩ = some (.bool (s 2)) := g0
     replace g1 : wr.drew.cell? ⟨g, 13, none⟩ = some (.slice (a 2) (n 2) (c 2)) := g1
     replace g2 : wr.drew.cell? ⟨g, 14, none⟩ = some (.int .i64 (x 2)) := g2
     replace g3 : wr.drew.cell? ⟨g, 15, none⟩ = some (.bool (s' 2)) := g3
     replace g4 : wr.drew.cell? ⟨g, 16, none⟩ = some (.slice (a' 2) (n' 2) (c' 2)) := g4
     replace g5 : wr.drew.cell? ⟨g, 17, none⟩ = some (.int .i64 (x' 2)) := g5
     refine wp_region_held_drew (S := (fun w' => w'.cell? ⟨g, 12, none⟩ = some (.bool (s 2)) ∧ w'.cell? ⟨g, 13, none⟩ = some (.slice (a 2) (n 2) (c 2)) ∧ w'.cell? ⟨g, 14, none⟩ = some (.int .i64 (x 2)) ∧ w'.cell? ⟨g, 15, none⟩ = some (.bool (s' 2)) ∧ w'.cell? ⟨g, 16, none⟩ = some (.slice (a' 2) (n' 2) (c' 2)) ∧ w'.cell? ⟨g, 17, none⟩ = some (.int .i64 (x' 2)) ∧ w'.cell? ⟨w.heap.size + 1, 0, none⟩ = some (.bool (s b)) ∧ w'.cell? ⟨w.heap.size + 1, 1, none⟩ = some (.slice (a b) (n b) (c b)) ∧ w'.cell? ⟨w.heap.size + 1, 2, none⟩ = some (.int .i64 (x b)) ∧ w'.cell? ⟨w.heap.size + 1, 3, none⟩ = some (.bool (s' b)) ∧ w'.cell? ⟨w.heap.size + 1, 4, none⟩ = some (.slice (a' b) (n' b) (c' b)) ∧ w'.cell? ⟨w.heap.size + 1, 5, none⟩ = some (.int .i64 (x' b)))) (by kernel_rfl) ?_ (fun hH => ?_)
     ·exact ⟨g0, g1, g2, g3, g4, g5, m0, m1, m2, m3, m4, m5⟩
     generalize hwd : wr.drew = wd at *
     refine wT (i := 0) (v := .func (.func f) #[] #[]) rfl (Or.inl ⟨by rfl, ?_⟩) hH ?_
     ·intro wq hSw
      try dsimp only at hSw
      go_simp
     try simp only [Act.put, zq1, zq2, zq3, zq4, zq5, zq6]
     refine wT (i := 1) (v := .slice (some ⟨g, 0, none⟩) 4 cc) rfl (Or.inl ⟨by rfl, ?_⟩) hH ?_
     ·intro wq hSw
      try dsimp only at hSw
      go_simp
     try simp only [Act.put, zq1, zq2, zq3, zq4, zq5, zq6]
     refine wT (i := 2) (v := .int .i64 2) rfl (Or.inl ⟨by rfl, ?_⟩) hH ?_
     ·intro wq hSw
      try dsimp only at hSw
      go_simp
     try simp only [Act.put, zq1, zq2, zq3, zq4, zq5, zq6]
     refine wT (i := 3) (v := .pointer (some ⟨g, 12, none⟩)) rfl (Or.inl ⟨by rfl, ?_⟩) hH ?_
     ·intro wq hSw
      try dsimp only at hSw
      go_simp
     try simp only [Act.put, zq1, zq2, zq3, zq4, zq5, zq6]
     refine wT (i := 4) (v := .agg #[.bool (s 2), .slice (a 2) (n 2) (c 2), .int .i64 (x 2), .bool (s' 2), .slice (a' 2) (n' 2) (c' 2), .int .i64 (x' 2)]) rfl (Or.inl ⟨by rfl, ?_⟩) hH ?_
     ·intro wq hSw
      try dsimp only at hSw
      go_simp
     try simp only [Act.put, zq1, zq2, zq3, zq4, zq5, zq6]
     refine wT (i := 5) (v := .agg #[.bool (s b), .slice (a b) (n b) (c b), .int .i64 (x b), .bool (s' b), .slice (a' b) (n' b) (c' b), .int .i64 (x' b)]) rfl (Or.inl ⟨by rfl, ?_⟩) hH ?_
     ·intro wq hSw
      try dsimp only at hSw
      go_simp
     try simp only [Act.put, zq1, zq2, zq3, zq4, zq5, zq6]
     refine wR 6 (by kernel_rfl) rfl (fun KK hK => ?_)
     simp only [zq1, zq2, zq3]
     rw [if_pos (by rfl)]
     refine wpv2 f (.tmp 20) (.tmp 24) (.tmp 25) _ rfl rfl hcf (.agg #[.bool (s 2), .slice (a 2) (n 2) (c 2), .int .i64 (x 2), .bool (s' 2), .slice (a' 2) (n' 2) (c' 2), .int .i64 (x' 2)]) (.agg #[.bool (s b), .slice (a b) (n b) (c b), .int .i64 (x b), .bool (s' b), .slice (a' b) (n' b) (c' b), .int .i64 (x' b)]) rfl rfl (unhide H1 2 b _ K9) ?_
     rintro e w5 ⟨rfl, k5⟩
     refine ⟨_, rfl, ?_⟩
     replace g0 := k5.cell0 g0
     replace g1 := k5.cell0 g1
     replace g2 := k5.cell0 g2
     replace g3 := k5.cell0 g3
     replace g4 := k5.cell0 g4
     replace g5 := k5.cell0 g5
     replace m0 := k5.cell0 m0
     replace m1 := k5.cell0 m1
     replace m2 := k5.cell0 m2
     replace m3 := k5.cell0 m3
     replace m4 := k5.cell0 m4
     replace m5 := k5.cell0 m5
     clear hH
     refine hK.out _ _ ?_ (fun hH => ?_)
     ·exact ⟨g0, g1, g2, g3, g4, g5, m0, m1, m2, m3, m4, m5⟩
     clear hK KK
     try simp only [Act.put, zq1, zq2, zq3, zq4, zq5, zq6]
     have hd := unhide HD
     refine wT (i := 7) (v := .bool false) rfl (Or.inl ⟨by rfl, ?_⟩) hH ?_
     ·intro wq hSw
      try dsimp only at hSw
      go_simp
     try simp only [Act.put, zq1, zq2, zq3, zq4, zq5, zq6]
     refine wpAnyH_done (by kernel_rfl) ?_ _
     clear hH hd
     have kk := (show Kept 0 0 wr wd from hwd ▸ (Kept.refl 0 0 wr).drew).trans k5
     have z5 := kk.size
     replace F := hide ((unhide F).kept kk)
     replace BR := hide ((unhide BR).kept kk)
     replace BM := hide ((unhide BM).kept kk)
     skip
     have LR5 := hide (L6.kept (unhide LR) (by omega : w.heap.size < wr.heap.size) kk)
     have LM5 := hide (L6.kept (unhide LM) (by omega : w.heap.size + 1 < wr.heap.size) kk)
     have K5 := hide ((unhide K).trans kk)
     clear K9 hwd kk k5 LR LM K m0 m1 m2 m3 m4 m5
     clear g0 g1 g2 g3 g4 g5
     have hb2 : Hid (b = selP (fun i j => decide (C i j < 0)) (2 + 1)) := by show _ = _; unfold selP; rw [← unhide hb, unhide HD]; rfl
     go_wp2
     go_roundw
     case rel => exact ⟨2 + 1, b, rfl, by omega, by omega, hb2, F, BR, BM, LR5, LM5, K5, by omega⟩
     case measure => simp [intOf]
    ·have HD := hide hd
     clear hd
     go_wp2_with fail
     have hF := (unhide F).kept (Kept.refl 0 0 wr).drew
     have hM := (unhide BM).kept (Kept.refl 0 0 wr).drew
     have K9 := (unhide K).trans (Kept.refl 0 0 wr).drew
     obtain ⟨g0, g1, g2, g3, g4, g5⟩ := hF 2 (by decide)
     obtain ⟨m0, m1, m2, m3, m4, m5⟩ := hM
     replace g0 : wr.drew.cell? ⟨g, 12, none⟩ = some (.bool (s 2)) := g0
     replace g1 : wr.drew.cell? ⟨g, 13, none⟩ = some (.slice (a 2) (n 2) (c 2)) := g1
     replace g2 : wr.drew.cell? ⟨g, 14, none⟩ = some (.int .i64 (x 2)) := g2
     replace g3 : wr.drew.cell? ⟨g, 15, none⟩ = some (.bool (s' 2)) := g3
     replace g4 : wr.drew.cell? ⟨g, 16, none⟩ = some (.slice (a' 2) (n' 2) (c' 2)) := g4
     replace g5 : wr.drew.cell? ⟨g, 17, none⟩ = some (.int .i64 (x' 2)) := g5
     refine wp_region_held_drew (S := (fun w' => w'.cell? ⟨g, 12, none⟩ = some (.bool (s 2)) ∧ w'.cell? ⟨g, 13, none⟩ = some (.slice (a 2) (n 2) (c 2)) ∧ w'.cell? ⟨g, 14, none⟩ = some (.int .i64 (x 2)) ∧ w'.cell? ⟨g, 15, none⟩ = some (.bool (s' 2)) ∧ w'.cell? ⟨g, 16, none⟩ = some (.slice (a' 2) (n' 2) (c' 2)) ∧ w'.cell? ⟨g, 17, none⟩ = some (.int .i64 (x' 2)) ∧ w'.cell? ⟨w.heap.size + 1, 0, none⟩ = some (.bool (s b)) ∧ w'.cell? ⟨w.heap.size + 1, 1, none⟩ = some (.slice (a b) (n b) (c b)) ∧ w'.cell? ⟨w.heap.size + 1, 2, none⟩ = some (.int .i64 (x b)) ∧ w'.cell? ⟨w.heap.size + 1, 3, none⟩ = some (.bool (s' b)) ∧ w'.cell? ⟨w.heap.size + 1, 4, none⟩ = some (.slice (a' b) (n' b) (c' b)) ∧ w'.cell? ⟨w.heap.size + 1, 5, none⟩ = some (.int .i64 (x' b)))) (by kernel_rfl) ?_ (fun hH => ?_)
     ·exact ⟨g0, g1, g2, g3, g4, g5, m0, m1, m2, m3, m4, m5⟩
     generalize hwd : wr.drew = wd at *
     refine wT (i := 0) (v := .func (.func f) #[] #[]) rfl (Or.inl ⟨by rfl, ?_⟩) hH ?_
     ·intro wq hSw
      try dsimp only at hSw
      go_simp
     try simp only [Act.put, zq1, zq2, zq3, zq4, zq5, zq6]
     refine wT (i := 1) (v := .slice (some ⟨g, 0, none⟩) 4 cc) rfl (Or.inl ⟨by rfl, ?_⟩) hH ?_
     ·intro wq hSw
      try dsimp only at hSw
      go_simp
     try simp only [Act.put, zq1, zq2, zq3, zq4, zq5, zq6]
     refine wT (i := 2) (v := .int .i64 2) rfl (Or.inl ⟨by rfl, ?_⟩) hH ?_
     ·intro wq hSw
      try dsimp only at hSw
      go_simp
     try simp only [Act.put, zq1, zq2, zq3, zq4, zq5, zq6]
     refine wT (i := 3) (v := .pointer (some ⟨g, 12, none⟩)) rfl (Or.inl ⟨by rfl, ?_⟩) hH ?_
     ·intro wq hSw
      try dsimp only at hSw
      go_simp
     try simp only [Act.put, zq1, zq2, zq3, zq4, zq5, zq6]
     refine wT (i := 4) (v := .agg #[.bool (s 2), .slice (a 2) (n 2) (c 2), .int .i64 (x 2), .bool (s' 2), .slice (a' 2) (n' 2) (c' 2), .int .i64 (x' 2)]) rfl (Or.inl ⟨by rfl, ?_⟩) hH ?_
     ·intro wq hSw
      try dsimp only at hSw
      go_simp
     try simp only [Act.put, zq1, zq2, zq3, zq4, zq5, zq6]
     refine wT (i := 5) (v := .agg #[.bool (s b), .slice (a b) (n b) (c b), .int .i64 (x b), .bool (s' b), .slice (a' b) (n' b) (c' b), .int .i64 (x' b)]) rfl (Or.inl ⟨by rfl, ?_⟩) hH ?_
     ·intro wq hSw
      try dsimp only at hSw
      go_simp
     try simp only [Act.put, zq1, zq2, zq3, zq4, zq5, zq6]
     refine wR 6 (by kernel_rfl) rfl (fun KK hK => ?_)
     simp only [zq1, zq2, zq3]
     rw [if_pos (by rfl)]
     refine wpv2 f (.tmp 20) (.tmp 24) (.tmp 25) _ rfl rfl hcf (.agg #[.bool (s 2), .slice (a 2) (n 2) (c 2), .int .i64 (x 2), .bool (s' 2), .slice (a' 2) (n' 2) (c' 2), .int .i64 (x' 2)]) (.agg #[.bool (s b), .slice (a b) (n b) (c b), .int .i64 (x b), .bool (s' b), .slice (a' b) (n' b) (c' b), .int .i64 (x' b)]) rfl rfl (unhide H1 2 b _ K9) ?_
     rintro e w5 ⟨rfl, k5⟩
     refine ⟨_, rfl, ?_⟩
     replace g0 := k5.cell0 g0
     replace g1 := k5.cell0 g1
     replace g2 := k5.cell0 g2
     replace g3 := k5.cell0 g3
     replace g4 := k5.cell0 g4
     replace g5 := k5.cell0 g5
     replace m0 := k5.cell0 m0
     replace m1 := k5.cell0 m1
     replace m2 := k5.cell0 m2
     replace m3 := k5.cell0 m3
     replace m4 := k5.cell0 m4
     replace m5 := k5.cell0 m5
     clear hH
     refine hK.out _ _ ?_ (fun hH => ?_)
     ·exact ⟨g0, g1, g2, g3, g4, g5, m0, m1, m2, m3, m4, m5⟩
     clear hK KK
     try simp only [Act.put, zq1, zq2, zq3, zq4, zq5, zq6]
     have hd := unhide HD
     refine wT (i := 7) (v := .bool true) rfl (Or.inl ⟨by rfl, ?_⟩) hH ?_
     ·intro wq hSw
      try dsimp only at hSw
      go_simp
     try simp only [Act.put, zq1, zq2, zq3, zq4, zq5, zq6]
     refine wpAnyH_done (by kernel_rfl) ?_ _
     clear hH hd
     have kk := (show Kept 0 0 wr wd from hwd ▸ (Kept.refl 0 0 wr).drew).trans k5
     have z5 := kk.size
     replace F := hide ((unhide F).kept kk)
     replace BR := hide ((unhide BR).kept kk)
     replace BM := hide ((unhide BM).kept kk)
     skip
     have LR5 := hide (L6.kept (unhide LR) (by omega : w.heap.size < wr.heap.size) kk)
     have LM5 := hide (L6.kept (unhide LM) (by omega : w.heap.size + 1 < wr.heap.size) kk)
     have K5 := hide ((unhide K).trans kk)
     clear K9 hwd kk k5 LR LM K m0 m1 m2 m3 m4 m5
     have lm := fun o ho => unhide LM5 o ho
     have f0 := lm 0 (by decide)
     have f1 := lm 1 (by decide)
     have f2 := lm 2 (by decide)
     have f3 := lm 3 (by decide)
     have f4 := lm 4 (by decide)
     have f5 := lm 5 (by decide)
     have bm := unhide BM
     obtain ⟨m0, m1, m2, m3, m4, m5⟩ := bm
     have F6 := hide ((unhide F).set (M := w.heap.size + 1) (by omega) (.bool (s 2)) (.slice (a 2) (n 2) (c 2)) (.int .i64 (x 2)) (.bool (s' 2)) (.slice (a' 2) (n' 2) (c' 2)) (.int .i64 (x' 2)))
     have BR6 := hide ((unhide BR).aside (M := w.heap.size + 1) (by omega) (.bool (s 2)) (.slice (a 2) (n 2) (c 2)) (.int .i64 (x 2)) (.bool (s' 2)) (.slice (a' 2) (n' 2) (c' 2)) (.int .i64 (x' 2)))
     have BM6 := hide ((unhide BM).set (.bool (s 2)) (.slice (a 2) (n 2) (c 2)) (.int .i64 (x 2)) (.bool (s' 2)) (.slice (a' 2) (n' 2) (c' 2)) (.int .i64 (x' 2)))
     have LR6 := hide ((unhide LR5).set (M := w.heap.size + 1) (.bool (s 2)) (.slice (a 2) (n 2) (c 2)) (.int .i64 (x 2)) (.bool (s' 2)) (.slice (a' 2) (n' 2) (c' 2)) (.int .i64 (x' 2)))
     have LM6 := hide ((unhide LM5).set (M := w.heap.size + 1) (.bool (s 2)) (.slice (a 2) (n 2) (c 2)) (.int .i64 (x 2)) (.bool (s' 2)) (.slice (a' 2) (n' 2) (c' 2)) (.int .i64 (x' 2)))
     have K6 := hide (((((((unhide K5).setNew (p := ⟨w.heap.size + 1, 0, none⟩) (by simp) (.bool (s 2))).setNew (p := ⟨w.heap.size + 1, 1, none⟩) (by simp) (.slice (a 2) (n 2) (c 2))).setNew (p := ⟨w.heap.size + 1, 2, none⟩) (by simp) (.int .i64 (x 2))).setNew (p := ⟨w.heap.size + 1, 3, none⟩) (by simp) (.bool (s' 2))).setNew (p := ⟨w.heap.size + 1, 4, none⟩) (by simp) (.slice (a' 2) (n' 2) (c' 2))).setNew (p := ⟨w.heap.size + 1, 5, none⟩) (by simp) (.int .i64 (x' 2)))
     have z6 : w5.heap.size = ((((((w5.setCell ⟨w.heap.size + 1, 0, none⟩ (.bool (s 2))).setCell ⟨w.heap.size + 1, 1, none⟩ (.slice (a 2) (n 2) (c 2))).setCell ⟨w.heap.size + 1, 2, none⟩ (.int .i64 (x 2))).setCell ⟨w.heap.size + 1, 3, none⟩ (.bool (s' 2))).setCell ⟨w.heap.size + 1, 4, none⟩ (.slice (a' 2) (n' 2) (c' 2))).setCell ⟨w.heap.size + 1, 5, none⟩ (.int .i64 (x' 2))).heap.size := by simp [World.setCell]
     have hb2 : Hid (2 = selP (fun i j => decide (C i j < 0)) (2 + 1)) := by show _ = _; unfold selP; rw [← unhide hb, unhide HD]; rfl
     clear F BR BM LR5 LM5 K5 lm
     go_wp2
     go_roundw
     case rel => exact ⟨2 + 1, 2, rfl, by omega, by omega, hb2, F6, BR6, BM6, LR6, LM6, K6, by omega⟩
     case measure => simp [intOf]
   ·cases hd : decide (C 3 b < 0)
    ·have HD := hide hd
     clear hd
     go_wp2_with fail
     have hF := (unhide F).kept (Kept.refl 0 0 wr).drew
     have hM := (unhide BM).kept (Kept.refl 0 0 wr).drew
     have K9 := (unhide K).trans (Kept.refl 0 0 wr).drew
     obtain ⟨g0, g1, g2, g3, g4, g5⟩ := hF 3 (by decide)
     obtain ⟨m0, m1, m2, m3, m4, m5⟩ := hM
     replace g0 : wr.drew.cell? ⟨g, 18, none⟩ = some (.bool (s 3)) := g0
     replace g1 : wr.drew.cell? ⟨g, 19, none⟩ = some (.slice (a 3) (n 3) (c 3)) := g1
     replace g2 : wr.drew.cell? ⟨g, 20, none⟩ = some (.int .i64 (x 3)) := g2
     replace g3 : wr.drew.cell? ⟨g, 21, none⟩ = some (.bool (s' 3)) := g3
     replace g4 : wr.drew.cell? ⟨g, 22, none⟩ = some (.slice (a' 3) (n' 3) (c' 3)) := g4
     replace g5 : wr.drew.cell? ⟨g, 23, none⟩ = some (.int .i64 (x' 3)) := g5
     refine wp_region_held_drew (S := (fun w' => w'.cell? ⟨g, 18, none⟩ = some (.bool (s 3)) ∧ w'.cell? ⟨g, 19, none⟩ = some (.slice (a 3) (n 3) (c 3)) ∧ w'.cell? ⟨g, 20, none⟩ = some (.int .i64 (x 3)) ∧ w'.cell? ⟨g, 21, none⟩ = some (.bool (s' 3)) ∧ w'.cell? ⟨g, 22, none⟩ = some (.slice (a' 3) (n' 3) (c' 3)) ∧ w'.cell? ⟨g, 23, none⟩ = some (.int .i64 (x' 3)) ∧ w'.cell? ⟨w.heap.size + 1, 0, none⟩ = some (.bool (s b)) ∧ w'.cell? ⟨w.heap.size + 1, 1, none⟩ = some (.slice (a b) (n b) (c b)) ∧ w'.cell? ⟨w.heap.size + 1, 2, none⟩ = some (.int .i64 (x b)) ∧ w'.cell? ⟨w.heap.size + 1, 3, none⟩ = some (.bool (s' b)) ∧ w'.cell? ⟨w.heap.size + 1, 4, none⟩ = some (.slice (a' b) (n' b) (c' b)) ∧ w'.cell? ⟨w.heap.size + 1, 5, none⟩ = some (.int .i64 (x' b)))) (by kernel_rfl) ?_ (fun hH => ?_)
     ·exact ⟨g0, g1, g2, g3, g4, g5, m0, m1, m2, m3, m4, m5⟩
     generalize hwd : wr.drew = wd at *
     refine wT (i := 0) (v := .func (.func f) #[] #[]) rfl (Or.inl ⟨by rfl, ?_⟩) hH ?_
     ·intro wq hSw
      try dsimp only at hSw
      go_simp
     try simp only [Act.put, zq1, zq2, zq3, zq4, zq5, zq6]
     refine wT (i := 1) (v := .slice (some ⟨g, 0, none⟩) 4 cc) rfl (Or.inl ⟨by rfl, ?_⟩) hH ?_
     ·intro wq hSw
      try dsimp only at hSw
      go_simp
     try simp only [Act.put, zq1, zq2, zq3, zq4, zq5, zq6]
     refine wT (i := 2) (v := .int .i64 3) rfl (Or.inl ⟨by rfl, ?_⟩) hH ?_
     ·intro wq hSw
      try dsimp only at hSw
      go_simp
     try simp only [Act.put, zq1, zq2, zq3, zq4, zq5, zq6]
     refine wT (i := 3) (v := .pointer (some ⟨g, 18, none⟩)) rfl (Or.inl ⟨by rfl, ?_⟩) hH ?_
     ·intro wq hSw
      try dsimp only at hSw
      go_simp
     try simp only [Act.put, zq1, zq2, zq3, zq4, zq5, zq6]
     refine wT (i := 4) (v := .agg #[.bool (s 3), .slice (a 3) (n 3) (c 3), .int .i64 (x 3), .bool (s' 3), .slice (a' 3) (n' 3) (c' 3), .int .i64 (x' 3)]) rfl (Or.inl ⟨by rfl, ?_⟩) hH ?_
     ·intro wq hSw
      try dsimp only at hSw
      go_simp
     try simp only [Act.put, zq1, zq2, zq3, zq4, zq5, zq6]
     refine wT (i := 5) (v := .agg #[.bool (s b), .slice (a b) (n b) (c b), .int .i64 (x b), .bool (s' b), .slice (a' b) (n' b) (c' b), .int .i64 (x' b)]) rfl (Or.inl ⟨by rfl, ?_⟩) hH ?_
     ·intro wq hSw
      try dsimp only at hSw
      go_simp
     try simp only [Act.put, zq1, zq2, zq3, zq4, zq5, zq6]
     refine wR 6 (by kernel_rfl) rfl (fun KK hK => ?_)
     simp only [zq1, zq2, zq3]
     rw [if_pos (by rfl)]
     refine wpv2 f (.tmp 20) (.tmp 24) (.tmp 25) _ rfl rfl hcf (.agg #[.bool (s 3), .slice (a 3) (n 3) (c 3), .int .i64 (x 3), .bool (s' 3), .slice (a' 3) (n' 3) (c' 3), .int .i64 (x' 3)]) (.agg #[.bool (s b), .slice (a b) (n b) (c b), .int .i64 (x b), .bool (s' b), .slice (a' b) (n' b) (c' b), .int .i64 (x' b)]) rfl rfl (unhide H1 3 b _ K9) ?_
     rintro e w5 ⟨rfl, k5⟩
     refine ⟨_, rfl, ?_⟩
     replace g0 := k5.cell0 g0
     replace g1 := k5.cell0 g1
     replace g2 := k5.cell0 g2
     replace g3 := k5.cell0 g3
     replace g4 := k5.cell0 g4
     replace g5 := k5.cell0 g5
     replace m0 := k5.cell0 m0
     replace m1 := k5.cell0 m1
     replace m2 := k5.cell0 m2
     replace m3 := k5.cell0 m3
     replace m4 := k5.cell0 m4
     replace m5 := k5.cell0 m5
     clear hH
     refine hK.out _ _ ?_ (fun hH => ?_)
     ·exact ⟨g0, g1, g2, g3, g4, g5, m0, m1, m2, m3, m4, m5⟩
     clear hK KK
     try simp only [Act.put, zq1, zq2, zq3, zq4, zq5, zq6]
     have hd := unhide HD
     refine wT (i := 7) (v := .bool false) rfl (Or.inl ⟨by rfl, ?_⟩) hH ?_
     ·intro wq hSw
      try dsimp only at hSw
      go_simp
     try simp only [Act.put, zq1, zq2, zq3, zq4, zq5, zq6]
     refine wpAnyH_done (by kernel_rfl) ?_ _
     clear hH hd
     have kk := (show Kept 0 0 wr wd from hwd ▸ (Kept.refl 0 0 wr).drew).trans k5
     have z5 := kk.size
     replace F := hide ((unhide F).kept kk)
     replace BR := hide ((unhide BR).kept kk)
     replace BM := hide ((unhide BM).kept kk)
     skip
     have LR5 := hide (L6.kept (unhide LR) (by omega : w.heap.size < wr.heap.size) kk)
     have LM5 := hide (L6.kept (unhide LM) (by omega : w.heap.size + 1 < wr.heap.size) kk)
     have K5 := hide ((unhide K).trans kk)
     clear K9 hwd kk k5 LR LM K m0 m1 m2 m3 m4 m5
     clear g0 g1 g2 g3 g4 g5
     have hb2 : Hid (b = selP (fun i j => decide (C i j < 0)) (3 + 1)) := by show _ = _; unfold selP; rw [← unhide hb, unhide HD]; rfl
     go_wp2
     go_roundw
     case rel => exact ⟨3 + 1, b, rfl, by omega, by omega, hb2, F, BR, BM, LR5, LM5, K5, by omega⟩
     case measure => simp [intOf]
    ·have HD := hide hd
     clear hd
     go_wp2_with fail
     have hF := (unhide F).kept (Kept.refl 0 0 wr).drew
     have hM := (unhide BM).kept (Kept.refl 0 0 wr).drew
     have K9 := (unhide K).trans (Kept.refl 0 0 wr).drew
     obtain ⟨g0, g1, g2, g3, g4, g5⟩ := hF 3 (by decide)
     obtain ⟨m0, m1, m2, m3, m4, m5⟩ := hM
     replace g0 : wr.drew.cell? ⟨g, 18, none⟩ = some (.bool (s 3)) := g0
     replace g1 : wr.drew.cell? ⟨g, 19, none⟩ = some (.slice (a 3) (n 3) (c 3)) := g1
     replace g2 : wr.drew.cell? ⟨g, 20, none⟩ = some (.int .i64 (x 3)) := g2
     replace g3 : wr.drew.cell? ⟨g, 21, none⟩ = some (.bool (s' 3)) := g3
     replace g4 : wr.drew.cell? ⟨g, 22, none⟩ = some (.slice (a' 3) (n' 3) (c' 3)) := g4
     replace g5 : wr.drew.cell? ⟨g, 23, none⟩ = some (.int .i64 (x' 3)) := g5
     refine wp_region_held_drew (S := (fun w' => w'.cell? ⟨g, 18, none⟩ = some (.bool (s 3)) ∧ w'.cell? ⟨g, 19, none⟩ = some (.slice (a 3) (n 3) (c 3)) ∧ w'.cell? ⟨g, 20, none⟩ = some (.int .i64 (x 3)) ∧ w'.cell? ⟨g, 21, none⟩ = some (.bool (s' 3)) ∧ w'.cell? ⟨g, 22, none⟩ = some (.slice (a' 3) (n' 3) (c' 3)) ∧ w'.cell? ⟨g, 23, none⟩ = some (.int .i64 (x' 3)) ∧ w'.cell? ⟨w.heap.size + 1, 0, none⟩ = some (.bool (s b)) ∧ w'.cell? ⟨w.heap.size + 1, 1, none⟩ = some (.slice (a b) (n b) (c b)) ∧ w'.cell? ⟨w.heap.size + 1, 2, none⟩ = some (.int .i64 (x b)) ∧ w'.cell? ⟨w.heap.size + 1, 3, none⟩ = some (.bool (s' b)) ∧ w'.cell? ⟨w.heap.size + 1, 4, none⟩ = some (.slice (a' b) (n' b) (c' b)) ∧ w'.cell? ⟨w.heap.size + 1, 5, none⟩ = some (.int .i64 (x' b)))) (by kernel_rfl) ?_ (fun hH => ?_)
     ·exact ⟨g0, g1, g2, g3, g4, g5, m0, m1, m2, m3, m4, m5⟩
     generalize hwd : wr.drew = wd at *
     refine wT (i := 0) (v := .func (.func f) #[] #[]) rfl (Or.inl ⟨by rfl, ?_⟩) hH ?_
     ·intro wq hSw
      try dsimp only at hSw
      go_simp
     try simp only [Act.put, zq1, zq2, zq3, zq4, zq5, zq6]
     refine wT (i := 1) (v := .slice (some ⟨g, 0, none⟩) 4 cc) rfl (Or.inl ⟨by rfl, ?_⟩) hH ?_
     ·intro wq hSw
      try dsimp only at hSw
      go_simp
     try simp only [Act.put, zq1, zq2, zq3, zq4, zq5, zq6]
     refine wT (i := 2) (v := .int .i64 3) rfl (Or.inl ⟨by rfl, ?_⟩) hH ?_
     ·intro wq hSw
      try dsimp only at hSw
      go_simp
     try simp only [Act.put, zq1, zq2, zq3, zq4, zq5, zq6]
     refine wT (i := 3) (v := .pointer (some ⟨g, 18, none⟩)) rfl (Or.inl ⟨by rfl, ?_⟩) hH ?_
     ·intro wq hSw
      try dsimp only at hSw
      go_simp
     try simp only [Act.put, zq1, zq2, zq3, zq4, zq5, zq6]
     refine wT (i := 4) (v := .agg #[.bool (s 3), .slice (a 3) (n 3) (c 3), .int .i64 (x 3), .bool (s' 3), .slice (a' 3) (n' 3) (c' 3), .int .i64 (x' 3)]) rfl (Or.inl ⟨by rfl, ?_⟩) hH ?_
     ·intro wq hSw
      try dsimp only at hSw
      go_simp
     try simp only [Act.put, zq1, zq2, zq3, zq4, zq5, zq6]
     refine wT (i := 5) (v := .agg #[.bool (s b), .slice (a b) (n b) (c b), .int .i64 (x b), .bool (s' b), .slice (a' b) (n' b) (c' b), .int .i64 (x' b)]) rfl (Or.inl ⟨by rfl, ?_⟩) hH ?_
     ·intro wq hSw
      try dsimp only at hSw
      go_simp
     try simp only [Act.put, zq1, zq2, zq3, zq4, zq5, zq6]
     refine wR 6 (by kernel_rfl) rfl (fun KK hK => ?_)
     simp only [zq1, zq2, zq3]
     rw [if_pos (by rfl)]
     refine wpv2 f (.tmp 20) (.tmp 24) (.tmp 25) _ rfl rfl hcf (.agg #[.bool (s 3), .slice (a 3) (n 3) (c 3), .int .i64 (x 3), .bool (s' 3), .slice (a' 3) (n' 3) (c' 3), .int .i64 (x' 3)]) (.agg #[.bool (s b), .slice (a b) (n b) (c b), .int .i64 (x b), .bool (s' b), .slice (a' b) (n' b) (c' b), .int .i64 (x' b)]) rfl rfl (unhide H1 3 b _ K9) ?_
     rintro e w5 ⟨rfl, k5⟩
     refine ⟨_, rfl, ?_⟩
     replace g0 := k5.cell0 g0
     replace g1 := k5.cell0 g1
     replace g2 := k5.cell0 g2
     replace g3 := k5.cell0 g3
     replace g4 := k5.cell0 g4
     replace g5 := k5.cell0 g5
     replace m0 := k5.cell0 m0
     replace m1 := k5.cell0 m1
     replace m2 := k5.cell0 m2
     replace m3 := k5.cell0 m3
     replace m4 := k5.cell0 m4
     replace m5 := k5.cell0 m5
     clear hH
     refine hK.out _ _ ?_ (fun hH => ?_)
     ·exact ⟨g0, g1, g2, g3, g4, g5, m0, m1, m2, m3, m4, m5⟩
     clear hK KK
     try simp only [Act.put, zq1, zq2, zq3, zq4, zq5, zq6]
     have hd := unhide HD
     refine wT (i := 7) (v := .bool true) rfl (Or.inl ⟨by rfl, ?_⟩) hH ?_
     ·intro wq hSw
      try dsimp only at hSw
      go_simp
     try simp only [Act.put, zq1, zq2, zq3, zq4, zq5, zq6]
     refine wpAnyH_done (by kernel_rfl) ?_ _
     clear hH hd
     have kk := (show Kept 0 0 wr wd from hwd ▸ (Kept.refl 0 0 wr).drew).trans k5
     have z5 := kk.size
     replace F := hide ((unhide F).kept kk)
     replace BR := hide ((unhide BR).kept kk)
     replace BM := hide ((unhide BM).kept kk)
     skip
     have LR5 := hide (L6.kept (unhide LR) (by omega : w.heap.size < wr.heap.size) kk)
     have LM5 := hide (L6.kept (unhide LM) (by omega : w.heap.size + 1 < wr.heap.size) kk)
     have K5 := hide ((unhide K).trans kk)
     clear K9 hwd kk k5 LR LM K m0 m1 m2 m3 m4 m5
     have lm := fun o ho => unhide LM5 o ho
     have f0 := lm 0 (by decide)
     have f1 := lm 1 (by decide)
     have f2 := lm 2 (by decide)
     have f3 := lm 3 (by decide)
     have f4 := lm 4 (by decide)
     have f5 := lm 5 (by decide)
     have bm := unhide BM
     obtain ⟨m0, m1, m2, m3, m4, m5⟩ := bm
     have F6 := hide ((unhide F).set (M := w.heap.size + 1) (by omega) (.bool (s 3)) (.slice (a 3) (n 3) (c 3)) (.int .i64 (x 3)) (.bool (s' 3)) (.slice (a' 3) (n' 3) (c' 3)) (.int .i64 (x' 3)))
     have BR6 := hide ((unhide BR).aside (M := w.heap.size + 1) (by omega) (.bool (s 3)) (.slice (a 3) (n 3) (c 3)) (.int .i64 (x 3)) (.bool (s' 3)) (.slice (a' 3) (n' 3) (c' 3)) (.int .i64 (x' 3)))
     have BM6 := hide ((unhide BM).set (.bool (s 3)) (.slice (a 3) (n 3) (c 3)) (.int .i64 (x 3)) (.bool (s' 3)) (.slice (a' 3) (n' 3) (c' 3)) (.int .i64 (x' 3)))
     have LR6 := hide ((unhide LR5).set (M := w.heap.size + 1) (.bool (s 3)) (.slice (a 3) (n 3) (c 3)) (.int .i64 (x 3)) (.bool (s' 3)) (.slice (a' 3) (n' 3) (c' 3)) (.int .i64 (x' 3)))
     have LM6 := hide ((unhide LM5).set (M := w.heap.size + 1) (.bool (s 3)) (.slice (a 3) (n 3) (c 3)) (.int .i64 (x 3)) (.bool (s' 3)) (.slice (a' 3) (n' 3) (c' 3)) (.int .i64 (x' 3)))
     have K6 := hide (((((((unhide K5).setNew (p := ⟨w.heap.size + 1, 0, none⟩) (by simp) (.bool (s 3))).setNew (p := ⟨w.heap.size + 1, 1, none⟩) (by simp) (.slice (a 3) (n 3) (c 3))).setNew (p := ⟨w.heap.size + 1, 2, none⟩) (by simp) (.int .i64 (x 3))).setNew (p := ⟨w.heap.size + 1, 3, none⟩) (by simp) (.bool (s' 3))).setNew (p := ⟨w.heap.size + 1, 4, none⟩) (by simp) (.slice (a' 3) (n' 3) (c' 3))).setNew (p := ⟨w.heap.size + 1, 5, none⟩) (by simp) (.int .i64 (x' 3)))
     have z6 : w5.heap.size = ((((((w5.setCell ⟨w.heap.size + 1, 0, none⟩ (.bool (s 3))).setCell ⟨w.heap.size + 1, 1, none⟩ (.slice (a 3) (n 3) (c 3))).setCell ⟨w.heap.size + 1, 2, none⟩ (.int .i64 (x 3))).setCell ⟨w.heap.size + 1, 3, none⟩ (.bool (s' 3))).setCell ⟨w.heap.size + 1, 4, none⟩ (.slice (a' 3) (n' 3) (c' 3))).setCell ⟨w.heap.size + 1, 5, none⟩ (.int .i64 (x' 3))).heap.size := by simp [World.setCell]
     have hb2 : Hid (3 = selP (fun i j => decide (C i j < 0)) (3 + 1)) := by show _ = _; unfold selP; rw [← unhide hb, unhide HD]; rfl
     clear F BR BM LR5 LM5 K5 lm
     go_wp2
     go_roundw
     case rel => exact ⟨3 + 1, 3, rfl, by omega, by omega, hb2, F6, BR6, BM6, LR6, LM6, K6, by omega⟩
     case measure => simp [intOf]
   ·have lr := fun o ho => unhide LR o ho
    have f0 := lr 0 (by decide)
    have f1 := lr 1 (by decide)
    have f2 := lr 2 (by decide)
    have f3 := lr 3 (by decide)
    have f4 := lr 4 (by decide)
    have f5 := lr 5 (by decide)
    obtain ⟨m0, m1, m2, m3, m4, m5⟩ := unhide BM
    obtain ⟨R0, R1, R2, R3, R4, R5⟩ := unhide BR
    have K7 := hide (((((((unhide K).setNew (p := ⟨w.heap.size, 0, none⟩) (by simp) (.bool (s b))).setNew (p := ⟨w.heap.size, 1, none⟩) (by simp) (.slice (a b) (n b) (c b))).setNew (p := ⟨w.heap.size, 2, none⟩) (by simp) (.int .i64 (x b))).setNew (p := ⟨w.heap.size, 3, none⟩) (by simp) (.bool (s' b))).setNew (p := ⟨w.heap.size, 4, none⟩) (by simp) (.slice (a' b) (n' b) (c' b))).setNew (p := ⟨w.heap.size, 5, none⟩) (by simp) (.int .i64 (x' b)))
    have hk : Hid (m = b) := (unhide HM).symm.trans (unhide hb).symm
    clear K lr F BR BM LR LM
    go_wp2_with fail
    exact bodyPost_ret (v := .agg #[.bool (s b), .slice (a b) (n b) (c b), .int .i64 (x b), .bool (s' b), .slice (a' b) (n' b) (c' b), .int .i64 (x' b)]) (by simp [results, Tryd.results35, go_sem, R0, R1, R2, R3, R4, R5]) rfl ⟨by rw [unhide hk], unhide K7⟩

end Go.Proofs.YtpognolidbgkkaaDoor

