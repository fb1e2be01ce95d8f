/-
  Two whole numbers that are copied to be worked on in one statement, whose order is open; the contract of the program's WholeAdd.
-/
import Derived.Test.YthglchilgjcloaaDoorIWh2
import Derived.Deep.DeepCutAuto
namespace Go.Proofs.YthglchilgjcloaaDoor
open Go.RowKit
set_option linter.unusedVariables false
set_option maxRecDepth 8000
set_option linter.unusedSimpArgs false

theorem put_sig {w : World} {X b : Nat} {u z p : Value} {xs : List Int} (s : Bool) (O : w.ownsRow b 3 1 u xs.length (xs.map (Value.int .i64)))
    (cX : w.cell? ⟨X, 0, none⟩ = some z) (dX : w.cell? ⟨X, 1, none⟩ = some p) (fX : w.frozen? ⟨X, 0, none⟩ = false) (gX : w.frozen? ⟨X, 1, none⟩ = false) (hu : u.ownBlock ≠ some X) :
    Num b ((w.setCell ⟨X, 0, none⟩ u).setCell ⟨X, 1, none⟩ (.bool s)) X u xs ∧ Sd ((w.setCell ⟨X, 0, none⟩ u).setCell ⟨X, 1, none⟩ (.bool s)) X s ∧ Mod (fun i => i = X) w ((w.setCell ⟨X, 0, none⟩ u).setCell ⟨X, 1, none⟩ (.bool s)) := by
  have a2 : (w.setCell ⟨X, 0, none⟩ u).cell? ⟨X, 1, none⟩ = some p := (side_set _ _ _).trans dX
  refine ⟨⟨(front_set _ _ _).trans (cell_on _ _ _ _ _ cX), by rw [frozen_set, frozen_set]; exact fX, own_apart (own_apart O (p := ⟨X, 0, none⟩) hu u) (p := ⟨X, 1, none⟩) hu _, hu⟩, ⟨by have := cell_set _ X 1 1 (.bool s) _ a2; simpa using this, by rw [frozen_set, frozen_set]; exact gX⟩, ?_⟩
  exact Mod.set (S := fun i => i = X) (Mod.set (S := fun i => i = X) (Mod.refl _ _) (p := ⟨X, 0, none⟩) (.inl rfl) _) (p := ⟨X, 1, none⟩) (.inl rfl) _
theorem sig_pair {w0 w4 : World} {X Y b1 b2 : Nat} {u1 u2 z1 z2 p1 p2 : Value} {xs ys : List Int} (s1 s2 : Bool) (hk : Kept 0 0 w0 w4) (O1 : w4.ownsRow b1 3 1 u1 xs.length (xs.map (Value.int .i64))) (O2 : w4.ownsRow b2 3 1 u2 ys.length (ys.map (Value.int .i64)))
    (cX : w4.cell? ⟨X, 0, none⟩ = some z1) (dX : w4.cell? ⟨X, 1, none⟩ = some p1) (fX : w4.frozen? ⟨X, 0, none⟩ = false) (gX : w4.frozen? ⟨X, 1, none⟩ = false)
    (cY : w4.cell? ⟨Y, 0, none⟩ = some z2) (dY : w4.cell? ⟨Y, 1, none⟩ = some p2) (fY : w4.frozen? ⟨Y, 0, none⟩ = false) (gY : w4.frozen? ⟨Y, 1, none⟩ = false)
    (hXY : X ≠ Y) (hX : w0.heap.size ≤ X) (hY : w0.heap.size ≤ Y) (hb1 : w0.heap.size ≤ b1) (hb2 : w0.heap.size ≤ b2)
    (h1X : u1.ownBlock ≠ some X) (h1Y : u1.ownBlock ≠ some Y) (h2X : u2.ownBlock ≠ some X) (h2Y : u2.ownBlock ≠ some Y) (h12 : ∀ k, u1.ownBlock = some k → u2.ownBlock ≠ some k) :
    Sig2 w0 ((((w4.setCell ⟨X, 0, none⟩ u1).setCell ⟨X, 1, none⟩ (.bool s1)).setCell ⟨Y, 0, none⟩ u2).setCell ⟨Y, 1, none⟩ (.bool s2)) X Y s1 xs s2 ys := by
  obtain ⟨n1, d1, m1⟩ := put_sig s1 O1 cX dX fX gX h1X
  have lY : Y < w4.heap.size := World.block_lt_of_cell? _ ⟨Y, 0, none⟩ cY
  obtain ⟨n2, d2, m2⟩ := put_sig s2 (m1.own O2 (fun i e e' => h2X (by rw [e, e']))) (m1.cellAt (fun e => hXY e.symm) cY) (m1.cellAt (fun e => hXY e.symm) dY) (m1.looseAt (fun e => hXY e.symm) lY fY) (m1.looseAt (fun e => hXY e.symm) lY gY) h2Y
  have n1' := n1.mod m2 hXY (fun i e e' => h1Y (by rw [e, e']))
  exact ⟨⟨u1, u2, n1'.less hb1, n2.less hb2, hXY, h1Y, h2X, h12, (hk.mod m1 (fun i e => by rw [e]; exact hX)).mod m2 (fun i e => by rw [e]; exact hY), hX, hY⟩, d1.same (m2.side d1.lt hXY), d2⟩

theorem in_signedOf : ∀ (w : World) (args : Array Value), (callFunc 33 args).run Tryd.prog w = .ok (.enter 33 args) w := enters Tryd.func33 (by decide) (fun h => by cases h)

theorem told_ans {c s : Bool} {x : Int} {zs : List Int} (hc : c = true) (hn : Nrm zs) (he : wval s zs = x) :
    (decide (zs.length ≤ 100) && (s && decide (0 < zs.length))) = ansWS c x ∧ decide (zs.length ≤ 100) = ansWB c x ∧ tell zs = ansWL c x := by
  have e1 : wlm x = zs := by rw [← he, wlm_wval s hn.1, ← nrm_limbs hn]
  have e2 : wsg x = (s && decide (0 < zs.length)) := by
    have := wsg_wval s (val zs).toNat
    rw [← nrm_limbs hn, he] at this
    exact this
  unfold ansWS ansWL
  rw [ansWB_yes hc, e1, e2]
  refine ⟨rfl, rfl, ?_⟩
  unfold tell
  by_cases h : zs.length ≤ 100
  · rw [if_pos h, decide_eq_true h, if_pos rfl]
  · rw [if_neg h, decide_eq_false h, if_neg (by simp)]

end Go.Proofs.YthglchilgjcloaaDoor
