/-
  Dyadic numbers: two of them that are worked on; the program's lowerTo and align.
-/
import Derived.Test.YtckaecmkidplhaaGreatDoorDy3
import Derived.Deep.DeepCutAuto
namespace Go.Proofs.YtckaecmkidplhaaGreatDoor
open Go.RowKit
set_option linter.unusedVariables false
set_option maxRecDepth 8000
set_option linter.unusedSimpArgs false

/-- Two dyadic numbers that are worked on, apart, newer than w0. -/
structure Dya2 (w0 w : World) (g1 g2 : Nat) (s1 : Bool) (xs : List Int) (x1 : Int) (s2 : Bool) (ys : List Int) (x2 : Int) : Prop where
  sg : Sig2 w0 w g1 g2 s1 xs s2 ys
  e1 : Ex w g1 x1
  e2 : Ex w g2 x2
theorem Sig2.kept {w0 w w' : World} {g1 g2 : Nat} {s1 s2 : Bool} {xs ys : List Int} (h : Sig2 w0 w g1 g2 s1 xs s2 ys) (k : Kept 0 0 w w') : Sig2 w0 w' g1 g2 s1 xs s2 ys := by
  obtain ⟨⟨u1, u2, t⟩, d1, d2⟩ := h
  exact ⟨⟨u1, u2, t.kept k⟩, d1.kept k, d2.kept k⟩
theorem Dya2.kept {w0 w w' : World} {g1 g2 : Nat} {s1 s2 : Bool} {xs ys : List Int} {x1 x2 : Int} (h : Dya2 w0 w g1 g2 s1 xs x1 s2 ys x2) (k : Kept 0 0 w w') : Dya2 w0 w' g1 g2 s1 xs x1 s2 ys x2 := ⟨h.sg.kept k, h.e1.kept k, h.e2.kept k⟩
theorem Ex.set {w : World} {g : Nat} {x : Int} (h : Ex w g x) (y : Int) : Ex (w.setCell ⟨g, 2, none⟩ (.int .i64 y)) g y :=
  ⟨cell_on _ _ _ _ _ h.1, by rw [frozen_set]; exact h.2⟩
theorem Num.set2 {b g : Nat} {w : World} {v : Value} {zs : List Int} (h : Num b w g v zs) (u : Value) : Num b (w.setCell ⟨g, 2, none⟩ u) g v zs :=
  ⟨(side_setAt w g 2 0 u (by decide)).trans h.cell, by rw [frozen_set]; exact h.loose, own_apart h.own (p := ⟨g, 2, none⟩) h.apart u, h.apart⟩
theorem Sd.set2 {w : World} {g : Nat} {s : Bool} (h : Sd w g s) (u : Value) : Sd (w.setCell ⟨g, 2, none⟩ u) g s :=
  ⟨(side_setAt w g 2 1 u (by decide)).trans h.1, by rw [frozen_set]; exact h.2⟩
theorem shiftUp_any {b g : Nat} {v : Value} {xs : List Int} (w : World) (h : Num b w g v xs) (hn : Nrm xs) (nx : xs.length ≤ 50000) (k : Nat) (hk : k ≤ 800000) :
    Calls Tryz.prog 145 #[.pointer (some ⟨g, 0, none⟩), .int .i64 (k : Int)] w fun e w' => (∃ r, e = .returned r) ∧ ∃ u, Num (min b w.heap.size) w' g u (limbs ((val xs).toNat * 2 ^ k)) ∧ Mod (fun i => i = g) w w' ∧ SameSide g w w' ∧ (∀ i, u.ownBlock = some i → v.ownBlock = some i ∨ w.heap.size ≤ i) := by
  by_cases h0 : xs = []
  · subst h0
    refine (shiftUp_zero w h k).mono ?_
    rintro e w' ⟨hr, rfl⟩
    refine ⟨hr, v, ?_, Mod.refl _ _, SameSide.refl _ _, fun i e => .inl e⟩
    rw [show limbs ((val ([] : List Int)).toNat * 2 ^ k) = [] by simp [val, limbs_zero]]
    exact h.less (Nat.min_le_left _ _)
  · refine (shiftUp_S w h hn.1 h0 nx k hk).mono ?_
    rintro e w' ⟨hr, u, n, m, sd⟩
    exact ⟨hr, u, n.less (Nat.min_le_right _ _), m, sd, fun i e => .inr (n.own.lt i e).1⟩

end Go.Proofs.YtckaecmkidplhaaGreatDoor

