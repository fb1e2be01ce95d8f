/-
  Two numbers that are copied to be worked on in one statement, whose order is open: what holds behind it, whatever the order.
-/
import Derived.Test.YtdhponfpikclhaaINat3
import Derived.Deep.RegionHeld3
namespace Go.Proofs.Ytdhponfpikclhaa
open Go.RowKit
set_option linter.unusedVariables false
set_option maxRecDepth 8000

theorem hold_alloc {w2 W : World} {p q : Addr} {u v : Value} (o : Obj) (h : W.cell? p = some u ∧ W.cell? q = some v ∧ Kept 0 0 w2 W) : (W.alloc o).cell? p = some u ∧ (W.alloc o).cell? q = some v ∧ Kept 0 0 w2 (W.alloc o) :=
  ⟨old_cell o h.1, old_cell o h.2.1, h.2.2.alloc o⟩
theorem hold_kept {w2 W w' : World} {p q : Addr} {u v : Value} (h : W.cell? p = some u ∧ W.cell? q = some v ∧ Kept 0 0 w2 W) (k : Kept 0 0 W w') : w'.cell? p = some u ∧ w'.cell? q = some v ∧ Kept 0 0 w2 w' :=
  ⟨k.cell0 h.1, k.cell0 h.2.1, h.2.2.trans k⟩
theorem hold_drew {w2 W : World} {p q : Addr} {u v : Value} (h : W.cell? p = some u ∧ W.cell? q = some v ∧ Kept 0 0 w2 W) : W.drew.cell? p = some u ∧ W.drew.cell? q = some v ∧ Kept 0 0 w2 W.drew := ⟨h.1, h.2.1, h.2.2.drew⟩
theorem drew_loose {W : World} {a : Addr} (h : W.frozen? a = false) : W.drew.frozen? a = false := h
theorem cell_aside {W : World} {p r : Addr} {u : Value} (x : Value) (hne : r.block ≠ p.block) (h : W.cell? p = some u) : (W.setCell r x).cell? p = some u := by
  rw [← h]
  exact World.cell?_of_block (Below.heap_setCell _ _ _ _ (Ne.symm hne))
theorem hold_set {w2 W : World} {p q r : Addr} {u v : Value} (x : Value) (h : W.cell? p = some u ∧ W.cell? q = some v ∧ Kept 0 0 w2 W) (hp : p.block < w2.heap.size) (hq : q.block < w2.heap.size) (hr : w2.heap.size ≤ r.block) :
    (W.setCell r x).cell? p = some u ∧ (W.setCell r x).cell? q = some v ∧ Kept 0 0 w2 (W.setCell r x) :=
  ⟨cell_aside x (by omega) h.1, cell_aside x (by omega) h.2.1, h.2.2.setNew hr x⟩
theorem hold_size {w2 W w' : World} {p q : Addr} {u v : Value} (h : W.cell? p = some u ∧ W.cell? q = some v ∧ Kept 0 0 w2 W) (k : Kept 0 0 W w') : w2.heap.size ≤ W.heap.size ∧ W.heap.size ≤ w'.heap.size := ⟨h.2.2.size, k.size⟩

theorem limbsOf_kept {bw : Bool} {lo hi : Nat} {v : Value} {zs : List Int} {w0 w : World} (r : Row .i64 bw lo hi w0 v zs) (hlen : zs.length ≤ 1000000) (k : Kept 0 0 w0 w) :
    Calls Try.prog 87 #[.agg #[v]] w fun e w' => ∃ v', e = .returned (.agg #[v']) ∧ w'.ownsRow w.heap.size 3 1 v' zs.length (zs.map (Value.int .i64)) ∧ Kept 0 0 w w' := limbsOf_impl w (r.kept k (by omega)) hlen

/-- Two numbers that lie apart, newer than w0. -/
structure Two (w0 wx : World) (g1 g2 : Nat) (u1 u2 : Value) (xs ys : List Int) : Prop where
  n1 : Num w0.heap.size wx g1 u1 xs
  n2 : Num w0.heap.size wx g2 u2 ys
  ne : g1 ≠ g2
  o12 : u1.ownBlock ≠ some g2
  o21 : u2.ownBlock ≠ some g1
  oo : ∀ k, u1.ownBlock = some k → u2.ownBlock ≠ some k
  k : Kept 0 0 w0 wx
  b1 : w0.heap.size ≤ g1
  b2 : w0.heap.size ≤ g2

theorem Two.swap {w0 wx : World} {g1 g2 : Nat} {u1 u2 : Value} {xs ys : List Int} (h : Two w0 wx g1 g2 u1 u2 xs ys) : Two w0 wx g2 g1 u2 u1 ys xs :=
  ⟨h.n2, h.n1, fun e => h.ne e.symm, h.o21, h.o12, fun k h1 h2 => h.oo k h2 h1, h.k, h.b2, h.b1⟩

section
variable {w0 w4 : World} {X Y b1 b2 : Nat} {u1 u2 z1 z2 : Value} {xs ys : List Int}
/-- Two cells that were there are set. -/
theorem two_set (hk : Kept 0 0 w0 w4) (O1 : w4.ownsRow b1 3 1 u1 xs.length (xs.map (Value.int .i64))) (O2 : w4.ownsRow b2 3 1 u2 ys.length (ys.map (Value.int .i64)))
    (cX : w4.cell? ⟨X, 0, none⟩ = some z1) (fX : w4.frozen? ⟨X, 0, none⟩ = false) (cY : w4.cell? ⟨Y, 0, none⟩ = some z2) (fY : w4.frozen? ⟨Y, 0, none⟩ = false)
    (hXY : X ≠ Y) (hX : w0.heap.size ≤ X) (hY : w0.heap.size ≤ Y) (hb1 : w0.heap.size ≤ b1) (hb2 : w0.heap.size ≤ b2)
    (h1X : u1.ownBlock ≠ some X) (h1Y : u1.ownBlock ≠ some Y) (h2X : u2.ownBlock ≠ some X) (h2Y : u2.ownBlock ≠ some Y) (h12 : ∀ k, u1.ownBlock = some k → u2.ownBlock ≠ some k) :
    Two w0 ((w4.setCell ⟨X, 0, none⟩ u1).setCell ⟨Y, 0, none⟩ u2) X Y u1 u2 xs ys := by
  have e1 : (w4.setCell ⟨X, 0, none⟩ u1).cell? ⟨X, 0, none⟩ = some u1 := by have := cell_set w4 X 0 0 u1 z1 cX; simpa using this
  have e2 : (w4.setCell ⟨X, 0, none⟩ u1).cell? ⟨Y, 0, none⟩ = some z2 := cell_aside u1 (p := ⟨Y, 0, none⟩) (r := ⟨X, 0, none⟩) hXY cY
  refine ⟨⟨cell_aside u2 (p := ⟨X, 0, none⟩) (r := ⟨Y, 0, none⟩) (fun e => hXY e.symm) e1, by rw [frozen_set, frozen_set]; exact fX, own_less (own_apart (own_apart O1 h1X u1) h1Y u2) hb1, h1X⟩,
    ⟨by have := cell_set (w4.setCell ⟨X, 0, none⟩ u1) Y 0 0 u2 z2 e2; simpa using this, by rw [frozen_set, frozen_set]; exact fY, own_less (own_apart (own_apart O2 h2X u1) h2Y u2) hb2, h2Y⟩,
    hXY, h1Y, h2X, h12, (hk.setNew (p := ⟨X, 0, none⟩) hX u1).setNew (p := ⟨Y, 0, none⟩) hY u2, hX, hY⟩
/-- One is set, one is new. -/
theorem two_new (hk : Kept 0 0 w0 w4) (O1 : w4.ownsRow b1 3 1 u1 xs.length (xs.map (Value.int .i64))) (O2 : w4.ownsRow b2 3 1 u2 ys.length (ys.map (Value.int .i64)))
    (cX : w4.cell? ⟨X, 0, none⟩ = some z1) (fX : w4.frozen? ⟨X, 0, none⟩ = false) (t : TypeId)
    (hX : w0.heap.size ≤ X) (hb1 : w0.heap.size ≤ b1) (hb2 : w0.heap.size ≤ b2)
    (h1X : u1.ownBlock ≠ some X) (h2X : u2.ownBlock ≠ some X) (h12 : ∀ k, u1.ownBlock = some k → u2.ownBlock ≠ some k) :
    Two w0 ((w4.setCell ⟨X, 0, none⟩ u1).alloc (.cells #[u2] t)) X w4.heap.size u1 u2 xs ys := by
  have lX : X < w4.heap.size := World.block_lt_of_cell? _ _ cX
  have e1 : (w4.setCell ⟨X, 0, none⟩ u1).cell? ⟨X, 0, none⟩ = some u1 := by have := cell_set w4 X 0 0 u1 z1 cX; simpa using this
  have hs : (w4.setCell ⟨X, 0, none⟩ u1).heap.size = w4.heap.size := by simp [World.setCell]
  have n2 := Num.new (w := w4.setCell ⟨X, 0, none⟩ u1) t (own_apart O2 h2X u1)
  rw [hs] at n2
  have kk := (Kept.refl 0 0 (w4.setCell ⟨X, 0, none⟩ u1)).alloc (.cells #[u2] t)
  exact ⟨⟨old_cell _ e1, loose_old (by rw [hs]; exact lX) (by rw [frozen_set]; exact fX), own_less (own_kept (own_apart O1 h1X u1) kk) hb1, h1X⟩, n2.less hb2,
    by omega, fun e => by have := (O1.lt _ e).2; omega, h2X, h12, (hk.setNew (p := ⟨X, 0, none⟩) hX u1).alloc _, hX, hk.size⟩
/-- Both are new. -/
theorem two_both (hk : Kept 0 0 w0 w4) (O1 : w4.ownsRow b1 3 1 u1 xs.length (xs.map (Value.int .i64))) (O2 : w4.ownsRow b2 3 1 u2 ys.length (ys.map (Value.int .i64))) (t t' : TypeId)
    (hb1 : w0.heap.size ≤ b1) (hb2 : w0.heap.size ≤ b2) (h12 : ∀ k, u1.ownBlock = some k → u2.ownBlock ≠ some k) :
    Two w0 ((w4.alloc (.cells #[u1] t)).alloc (.cells #[u2] t')) w4.heap.size (w4.heap.size + 1) u1 u2 xs ys := by
  have n1 := Num.new (w := w4) t O1
  have kk := (Kept.refl 0 0 w4).alloc (.cells #[u1] t)
  have n2 := Num.new (w := w4.alloc (.cells #[u1] t)) t' (own_kept O2 kk)
  have hs : (w4.alloc (.cells #[u1] t)).heap.size = w4.heap.size + 1 := by simp
  rw [hs] at n2
  have := hk.size
  exact ⟨(n1.kept ((Kept.refl 0 0 _).alloc _)).less hb1, n2.less hb2, by omega, fun e => by have := (O1.lt _ e).2; omega, fun e => by have := (O2.lt _ e).2; omega, h12, (hk.alloc _).alloc _, by omega, by omega⟩
end

end Go.Proofs.Ytdhponfpikclhaa
