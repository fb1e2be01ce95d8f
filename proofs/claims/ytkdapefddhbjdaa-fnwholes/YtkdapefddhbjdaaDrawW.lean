/-
  The draws of whole and of dyadic numbers: they return, whatever is drawn.
-/
import Derived.Test.YtkdapefddhbjdaaDrawN5
import Derived.Test.YtkdapefddhbjdaaBE
import Derived.Test.YtkdapefddhbjdaaBC
import Derived.Test.YtkdapefddhbjdaaBJ
import Derived.Deep.RegionHeld3
namespace Go.Proofs.Ytkdapefddhbjdaa
open Go.RowKit
set_option linter.unusedVariables false
set_option maxRecDepth 8000
set_option linter.unusedSimpArgs false

/-- What a draw of a whole number leaves: some sign, some limbs of the call's own. -/
def DrawnW (g lo : Nat) (w w' : World) (v : Value) : Prop := ∃ zs : List Int, Row .i64 true w.heap.size w'.heap.size w' v zs ∧ Drawn g lo w w'
theorem Drawn.set {g lo : Nat} {a w : World} (h : Drawn g lo a w) {p : Addr} (hg : g < p.block) (hp : a.heap.size ≤ p.block) (u : Value) : Drawn g lo a (w.setCell p u) := ⟨h.1.setFar hg u, h.2.setNew hp u⟩
theorem Drawn.alloc {g lo : Nat} {a w : World} (h : Drawn g lo a w) (ob : Obj) : Drawn g lo a (w.alloc ob) := h.keptR ((Kept.refl 0 0 w).alloc ob)
theorem Drawn.start {g lo : Nat} {w : World} (c : Cur g lo w) (ob : Obj) : Drawn g lo w (w.alloc ob) := ⟨c.kept ((Kept.refl 0 0 w).alloc ob) (by omega), ((Kept.refl 0 0 w).alloc ob).any⟩

set_option maxHeartbeats 4000000 in
theorem draw3_any (g lo : Nat) (w : World) (c : Cur g lo w) :
    Calls Try.prog 60 #[.pointer (some ⟨g, 0, none⟩)] w fun e w' => ∃ v s zs, e = .returned (.agg #[.bool s, v]) ∧ Row .i64 true w.heap.size w'.heap.size w' v zs ∧ WN s zs ∧ zs.length ≤ 100 ∧ Drawn g lo w w' := by
  have hg := c.1
  have D := Drawn.start c (.cells #[.bool false, .slice none 0 0] 36)
  have q0 : (w.alloc (.cells #[.bool false, .slice none 0 0] 36)).cell? ⟨w.heap.size, 0, none⟩ = some (.bool false) := new_cell2 _ _ _ _ _ _ rfl rfl
  have qf0 : (w.alloc (.cells #[.bool false, .slice none 0 0] 36)).frozen? ⟨w.heap.size, 0, none⟩ = false := new_loose2 _ _ _ _ _ rfl
  have q1 : (w.alloc (.cells #[.bool false, .slice none 0 0] 36)).cell? ⟨w.heap.size, 1, none⟩ = some (.slice none 0 0) := new_cell2 _ _ _ _ _ _ rfl rfl
  have qf1 : (w.alloc (.cells #[.bool false, .slice none 0 0] 36)).frozen? ⟨w.heap.size, 1, none⟩ = false := new_loose2 _ _ _ _ _ rfl
  have s0 : w.heap.size < (w.alloc (.cells #[.bool false, .slice none 0 0] 36)).heap.size := by simp
  clear c
  go_enter Try.func60, Try.ntmps60
  go_wp2_with fail
  generalize w.alloc (.cells #[.bool false, .slice none 0 0] 36) = W at *
  go_wp2_with fail
  refine (l1Once_any g lo _ D.1 2).mono ?_
  rintro e w1 ⟨b, rfl, hd⟩
  have kk := hd.kept
  replace D := D.trans hd.drawn
  replace qf0 := Kept.looseOut' kk (by dsimp only; omega) (World.block_lt_of_cell? _ _ q0) qf0
  replace qf1 := Kept.looseOut' kk (by dsimp only; omega) (World.block_lt_of_cell? _ _ q1) qf1
  replace q0 := Kept.cellOut kk (by dsimp only; omega) q0
  replace q1 := Kept.cellOut kk (by dsimp only; omega) q1
  have z2 := kk.size
  clear kk hd
  go_wp2_with fail
  refine (draw_any g lo _ D.1).mono ?_
  rintro e w3 ⟨v5, rfl, zs, own, hn, hl, hd⟩
  have kk := hd.2
  replace D := D.trans hd
  replace qf0 := Kept.looseOut' kk (by dsimp only; omega) (World.block_lt_of_cell? _ _ q0) qf0
  replace qf1 := Kept.looseOut' kk (by dsimp only; omega) (World.block_lt_of_cell? _ _ q1) qf1
  replace q0 := Kept.cellOut kk (by dsimp only; omega) q0
  replace q1 := Kept.cellOut kk (by dsimp only; omega) q1
  have z4 := kk.size
  clear kk hd
  have r5 := Row.own own
  clear own
  go_wp2_with fail
  refine (make_spec b _ r5 hn.1 (by omega)).mono ?_
  rintro e w5 ⟨v6, rfl, r6, kk⟩
  replace D := D.keptR kk
  replace r5 := r5.kept kk (by omega)
  replace qf0 := Kept.looseOut' kk (by dsimp only; omega) (World.block_lt_of_cell? _ _ q0) qf0
  replace qf1 := Kept.looseOut' kk (by dsimp only; omega) (World.block_lt_of_cell? _ _ q1) qf1
  replace q0 := Kept.cellOut kk (by dsimp only; omega) q0
  replace q1 := Kept.cellOut kk (by dsimp only; omega) q1
  have z6 := kk.size
  clear kk
  clear r5
  obtain ⟨zz, hzz⟩ : ∃ y, limbs (val zs).toNat = y := ⟨_, rfl⟩
  have hln : zz.length ≤ 100 := by rw [← hzz, ← nrm_limbs hn]; exact hl
  have wn : WN (b && decide (0 < zs.length)) zz := by rw [← hzz, ← nrm_limbs hn]; exact ⟨hn, fun h => by simp at h; exact List.length_pos_iff.2 (fun e => by simp [e] at h)⟩
  have WNN := hide wn
  rw [hzz] at r6
  clear hzz wn
  generalize (b && decide (0 < zs.length)) = sb at *
  obtain ⟨a6, c6, hv⟩ := Row.form' r6
  subst hv
  have R := hide (((r6.set_other (p := ⟨w.heap.size, 0, none⟩) (.inl (by dsimp only; omega)) (.bool sb)).set_other (p := ⟨w.heap.size, 1, none⟩) (.inl (by dsimp only; omega)) (.slice a6 zz.length c6)).tight.wider (lo' := w.heap.size) (by omega) (Nat.le_refl _))
  have DD := hide ((D.set (p := ⟨w.heap.size, 0, none⟩) hg (Nat.le_refl _) (.bool sb)).set (p := ⟨w.heap.size, 1, none⟩) hg (Nat.le_refl _) (.slice a6 zz.length c6))
  clear r6 D 
  go_wp2_with fail
  exact bodyPost_ret (v := .agg #[.bool sb, .slice a6 zz.length c6]) (by simp [results, Try.results60, go_sem, q0, q1]) rfl ⟨_, _, _, rfl, unhide R, unhide WNN, hln, unhide DD⟩

set_option maxHeartbeats 4000000 in
theorem bent3_len (g lo : Nat) (w : World) (c : Cur g lo w) :
    Calls Try.prog 51 #[.pointer (some ⟨g, 0, none⟩)] w fun e w' => ∃ v s zs, e = .returned (.agg #[.bool s, v]) ∧ Row .i64 true w.heap.size w'.heap.size w' v zs ∧ zs.length ≤ 1000 ∧ Drawn g lo w w' := by
  have hg := c.1
  have D := Drawn.start c (.cells #[.bool false, .slice none 0 0] 36)
  have q0 : (w.alloc (.cells #[.bool false, .slice none 0 0] 36)).cell? ⟨w.heap.size, 0, none⟩ = some (.bool false) := new_cell2 _ _ _ _ _ _ rfl rfl
  have qf0 : (w.alloc (.cells #[.bool false, .slice none 0 0] 36)).frozen? ⟨w.heap.size, 0, none⟩ = false := new_loose2 _ _ _ _ _ rfl
  have q1 : (w.alloc (.cells #[.bool false, .slice none 0 0] 36)).cell? ⟨w.heap.size, 1, none⟩ = some (.slice none 0 0) := new_cell2 _ _ _ _ _ _ rfl rfl
  have qf1 : (w.alloc (.cells #[.bool false, .slice none 0 0] 36)).frozen? ⟨w.heap.size, 1, none⟩ = false := new_loose2 _ _ _ _ _ rfl
  have s0 : w.heap.size < (w.alloc (.cells #[.bool false, .slice none 0 0] 36)).heap.size := by simp
  clear c
  go_enter Try.func51, Try.ntmps51
  go_wp2_with fail
  generalize w.alloc (.cells #[.bool false, .slice none 0 0] 36) = W at *
  go_wp2_with fail
  refine (draw3_any g lo _ D.1).mono ?_
  rintro e w1 ⟨v5, s5, zs, rfl, r5, -, hl5, hd⟩
  have kk := hd.2
  replace D := D.trans hd
  replace qf0 := Kept.looseOut' kk (by dsimp only; omega) (World.block_lt_of_cell? _ _ q0) qf0
  replace qf1 := Kept.looseOut' kk (by dsimp only; omega) (World.block_lt_of_cell? _ _ q1) qf1
  replace q0 := Kept.cellOut kk (by dsimp only; omega) q0
  replace q1 := Kept.cellOut kk (by dsimp only; omega) q1
  have z2 := kk.size
  clear kk hd
  obtain ⟨a5, c5, hv⟩ := Row.form' r5
  subst hv
  have kk := (Kept.refl 0 0 w1).alloc (.cells #[.bool s5, .slice a5 zs.length c5] 36)
  have y0 : (w1.alloc (.cells #[.bool s5, .slice a5 zs.length c5] 36)).cell? ⟨w1.heap.size, 0, none⟩ = some (.bool s5) := new_cell2 _ _ _ _ _ _ rfl rfl
  have yf0 : (w1.alloc (.cells #[.bool s5, .slice a5 zs.length c5] 36)).frozen? ⟨w1.heap.size, 0, none⟩ = false := new_loose2 _ _ _ _ _ rfl
  have y1 : (w1.alloc (.cells #[.bool s5, .slice a5 zs.length c5] 36)).cell? ⟨w1.heap.size, 1, none⟩ = some (.slice a5 zs.length c5) := new_cell2 _ _ _ _ _ _ rfl rfl
  have yf1 : (w1.alloc (.cells #[.bool s5, .slice a5 zs.length c5] 36)).frozen? ⟨w1.heap.size, 1, none⟩ = false := new_loose2 _ _ _ _ _ rfl
  replace D := D.keptR kk
  have yy : w1.heap.size < (w1.alloc (.cells #[.bool s5, .slice a5 zs.length c5] 36)).heap.size := by simp
  replace r5 := r5.kept kk (by omega)
  replace qf0 := Kept.looseOut' kk (by dsimp only; omega) (World.block_lt_of_cell? _ _ q0) qf0
  replace qf1 := Kept.looseOut' kk (by dsimp only; omega) (World.block_lt_of_cell? _ _ q1) qf1
  replace q0 := Kept.cellOut kk (by dsimp only; omega) q0
  replace q1 := Kept.cellOut kk (by dsimp only; omega) q1
  have z3 := kk.size
  clear kk
  go_wp2_with fail
  generalize w1.alloc (.cells #[.bool s5, .slice a5 zs.length c5] 36) = w4 at *
  refine (l1Once_any g lo _ D.1 9).mono ?_
  rintro e w5 ⟨b1, rfl, hd⟩
  have kk := hd.kept
  replace D := D.trans hd.drawn
  replace r5 := r5.kept kk (by omega)
  replace qf0 := Kept.looseOut' kk (by dsimp only; omega) (World.block_lt_of_cell? _ _ q0) qf0
  replace qf1 := Kept.looseOut' kk (by dsimp only; omega) (World.block_lt_of_cell? _ _ q1) qf1
  replace yf0 := Kept.looseOut' kk (by dsimp only; omega) (World.block_lt_of_cell? _ _ y0) yf0
  replace yf1 := Kept.looseOut' kk (by dsimp only; omega) (World.block_lt_of_cell? _ _ y1) yf1
  replace q0 := Kept.cellOut kk (by dsimp only; omega) q0
  replace q1 := Kept.cellOut kk (by dsimp only; omega) q1
  replace y0 := Kept.cellOut kk (by dsimp only; omega) y0
  replace y1 := Kept.cellOut kk (by dsimp only; omega) y1
  have z6 := kk.size
  clear kk hd
  cases b1
  · skip
    have R := hide (((r5.set_other (p := ⟨w.heap.size, 0, none⟩) (.inl (by dsimp only; omega)) (.bool s5)).set_other (p := ⟨w.heap.size, 1, none⟩) (.inl (by dsimp only; omega)) (.slice a5 zs.length c5)).tight.wider (lo' := w.heap.size) (by omega) (Nat.le_refl _))
    have DD := hide ((D.set (p := ⟨w.heap.size, 0, none⟩) hg (Nat.le_refl _) (.bool s5)).set (p := ⟨w.heap.size, 1, none⟩) hg (Nat.le_refl _) (.slice a5 zs.length c5))
    clear r5 D 
    go_wp2_with fail
    exact bodyPost_ret (v := .agg #[.bool s5, .slice a5 zs.length c5]) (by simp [results, Try.results51, go_sem, q0, q1]) rfl ⟨_, _, _, rfl, unhide R, by omega, unhide DD⟩
  go_wp2_with fail
  refine (l1Once_any g lo _ D.1 2).mono ?_
  rintro e w7 ⟨b2, rfl, hd⟩
  have kk := hd.kept
  replace D := D.trans hd.drawn
  replace r5 := r5.kept kk (by omega)
  replace qf0 := Kept.looseOut' kk (by dsimp only; omega) (World.block_lt_of_cell? _ _ q0) qf0
  replace qf1 := Kept.looseOut' kk (by dsimp only; omega) (World.block_lt_of_cell? _ _ q1) qf1
  replace yf0 := Kept.looseOut' kk (by dsimp only; omega) (World.block_lt_of_cell? _ _ y0) yf0
  replace yf1 := Kept.looseOut' kk (by dsimp only; omega) (World.block_lt_of_cell? _ _ y1) yf1
  replace q0 := Kept.cellOut kk (by dsimp only; omega) q0
  replace q1 := Kept.cellOut kk (by dsimp only; omega) q1
  replace y0 := Kept.cellOut kk (by dsimp only; omega) y0
  replace y1 := Kept.cellOut kk (by dsimp only; omega) y1
  have z8 := kk.size
  clear kk hd
  cases b2
  rotate_left
  · have DD := hide ((D.set (p := ⟨w.heap.size, 0, none⟩) hg (Nat.le_refl _) (.bool true)).set (p := ⟨w.heap.size, 1, none⟩) hg (Nat.le_refl _) (.slice none 0 0))
    clear r5 D 
    go_wp2_with fail
    exact bodyPost_ret (v := .agg #[.bool true, .slice none 0 0]) (by simp [results, Try.results51, go_sem, q0, q1]) rfl ⟨_, _, [], rfl, Row.nil _ _ _ _ _, by simp, unhide DD⟩
  go_wp2_with fail
  refine (bent_any g lo _ D.1).mono ?_
  rintro e w9 ⟨v7, rfl, z7, own, -, hl7, hd⟩
  have kk := hd.2
  replace D := D.trans hd
  replace r5 := r5.kept kk (by omega)
  replace qf0 := Kept.looseOut' kk (by dsimp only; omega) (World.block_lt_of_cell? _ _ q0) qf0
  replace qf1 := Kept.looseOut' kk (by dsimp only; omega) (World.block_lt_of_cell? _ _ q1) qf1
  replace yf0 := Kept.looseOut' kk (by dsimp only; omega) (World.block_lt_of_cell? _ _ y0) yf0
  replace yf1 := Kept.looseOut' kk (by dsimp only; omega) (World.block_lt_of_cell? _ _ y1) yf1
  replace q0 := Kept.cellOut kk (by dsimp only; omega) q0
  replace q1 := Kept.cellOut kk (by dsimp only; omega) q1
  replace y0 := Kept.cellOut kk (by dsimp only; omega) y0
  replace y1 := Kept.cellOut kk (by dsimp only; omega) y1
  have z10 := kk.size
  clear kk hd
  have r7 := Row.own own
  clear own
  obtain ⟨a7, c7, hv⟩ := Row.form' r7
  subst hv
  have D2 := D.set (p := ⟨w1.heap.size, 1, none⟩) (by dsimp only; omega) (by dsimp only; omega) (.slice a7 z7.length c7)
  have r8 := r7.set_other (p := ⟨w1.heap.size, 1, none⟩) (.inl (by dsimp only; omega)) (.slice a7 z7.length c7)
  have p0 := cell_aside (.slice a7 z7.length c7) (r := ⟨w1.heap.size, 1, none⟩) (by dsimp only; omega) q0
  have p1 := cell_aside (.slice a7 z7.length c7) (r := ⟨w1.heap.size, 1, none⟩) (by dsimp only; omega) q1
  have R := hide (((r8.set_other (p := ⟨w.heap.size, 0, none⟩) (.inl (by dsimp only; omega)) (.bool s5)).set_other (p := ⟨w.heap.size, 1, none⟩) (.inl (by dsimp only; omega)) (.slice a7 z7.length c7)).tight.wider (lo' := w.heap.size) (by omega) (Nat.le_refl _))
  have DD := hide ((D2.set (p := ⟨w.heap.size, 0, none⟩) hg (Nat.le_refl _) (.bool s5)).set (p := ⟨w.heap.size, 1, none⟩) hg (Nat.le_refl _) (.slice a7 z7.length c7))
  clear r5 r7 r8 D D2
  go_wp2_with fail
  exact bodyPost_ret (v := .agg #[.bool s5, .slice a7 z7.length c7]) (by simp [results, Try.results51, go_sem, q0, q1, p0, p1]) rfl ⟨_, _, _, rfl, unhide R, by omega, unhide DD⟩

theorem four_set {w4 : World} {p : Nat} {x0 x1 y0 y1 : Value} (u0 u1 z0 z1 : Value) (q0 : w4.cell? ⟨p, 0, none⟩ = some x0) (q1 : w4.cell? ⟨p, 1, none⟩ = some x1) (t0 : w4.cell? ⟨p + 1, 0, none⟩ = some y0) (t1 : w4.cell? ⟨p + 1, 1, none⟩ = some y1) :
    (((((w4.setCell ⟨p, 0, none⟩ u0).setCell ⟨p, 1, none⟩ u1).setCell ⟨p + 1, 0, none⟩ z0).setCell ⟨p + 1, 1, none⟩ z1)).cell? ⟨p, 0, none⟩ = some u0 ∧ (((((w4.setCell ⟨p, 0, none⟩ u0).setCell ⟨p, 1, none⟩ u1).setCell ⟨p + 1, 0, none⟩ z0).setCell ⟨p + 1, 1, none⟩ z1)).cell? ⟨p, 1, none⟩ = some u1 ∧ (((((w4.setCell ⟨p, 0, none⟩ u0).setCell ⟨p, 1, none⟩ u1).setCell ⟨p + 1, 0, none⟩ z0).setCell ⟨p + 1, 1, none⟩ z1)).cell? ⟨p + 1, 0, none⟩ = some z0 ∧ (((((w4.setCell ⟨p, 0, none⟩ u0).setCell ⟨p, 1, none⟩ u1).setCell ⟨p + 1, 0, none⟩ z0).setCell ⟨p + 1, 1, none⟩ z1)).cell? ⟨p + 1, 1, none⟩ = some z1 ∧ Kept p (p + 2) w4 (((((w4.setCell ⟨p, 0, none⟩ u0).setCell ⟨p, 1, none⟩ u1).setCell ⟨p + 1, 0, none⟩ z0).setCell ⟨p + 1, 1, none⟩ z1)) ∧ (((((w4.setCell ⟨p, 0, none⟩ u0).setCell ⟨p, 1, none⟩ u1).setCell ⟨p + 1, 0, none⟩ z0).setCell ⟨p + 1, 1, none⟩ z1)).heap.size = w4.heap.size := by
  have Q0 := cell_off _ _ _ 1 u1 _ (cell_on _ _ _ u0 _ q0) (show (0 : Nat) ≠ 1 by omega)
  have Q1 := cell_on _ _ _ u1 _ (cell_off _ _ _ 0 u0 _ q1 (show (1 : Nat) ≠ 0 by omega))
  have T0 : ((w4.setCell ⟨p, 0, none⟩ u0).setCell ⟨p, 1, none⟩ u1).cell? ⟨p + 1, 0, none⟩ = some y0 := cell_aside _ (by dsimp only; omega) (cell_aside _ (by dsimp only; omega) t0)
  have T1 : ((w4.setCell ⟨p, 0, none⟩ u0).setCell ⟨p, 1, none⟩ u1).cell? ⟨p + 1, 1, none⟩ = some y1 := cell_aside _ (by dsimp only; omega) (cell_aside _ (by dsimp only; omega) t1)
  refine ⟨cell_aside _ (by dsimp only; omega) (cell_aside _ (by dsimp only; omega) Q0), cell_aside _ (by dsimp only; omega) (cell_aside _ (by dsimp only; omega) Q1), cell_off _ _ _ 1 z1 _ (cell_on _ _ _ z0 _ T0) (show (0 : Nat) ≠ 1 by omega), cell_on _ _ _ z1 _ (cell_off _ _ _ 0 z0 _ T1 (show (1 : Nat) ≠ 0 by omega)), ?_, by rw [size_set, size_set, size_set, size_set]⟩
  exact ((((Kept.refl _ _ _).setCell (p := ⟨p, 0, none⟩) (by dsimp only; omega) (by dsimp only; omega) _).setCell (p := ⟨p, 1, none⟩) (by dsimp only; omega) (by dsimp only; omega) _).setCell (p := ⟨p + 1, 0, none⟩) (by dsimp only; omega) (by dsimp only; omega) _).setCell (p := ⟨p + 1, 1, none⟩) (by dsimp only; omega) (by dsimp only; omega) _

set_option maxHeartbeats 1000000 in
theorem make_free {bw : Bool} {lo hi : Nat} {v : Value} {zs : List Int} (b : Bool) (w : World) (r : Row .i64 bw lo hi w v zs) (hlen : zs.length ≤ 1000000) :
    Calls Try.prog 61 #[.bool b, .agg #[v]] w fun e w' => ∃ v' ys, e = .returned (.agg #[.bool (b && decide (0 < zs.length)), v']) ∧ Row .i64 true w.heap.size w'.heap.size w' v' ys ∧ ys.length ≤ zs.length ∧ Kept 0 0 w w' := by
  have k0 := ((Kept.refl 0 0 w).alloc (.cells #[v] 26)).alloc (.cells #[.bool false, .slice none 0 0] 36)
  have q := r.kept k0 (by omega)
  have c0 : ((w.alloc (.cells #[v] 26)).alloc (.cells #[.bool false, .slice none 0 0] 36)).cell? ⟨w.heap.size, 0, none⟩ = some v := old_cell _ (new_cell2 _ _ _ _ _ _ rfl rfl)
  have d0 : ((w.alloc (.cells #[v] 26)).alloc (.cells #[.bool false, .slice none 0 0] 36)).cell? ⟨w.heap.size + 1, 0, none⟩ = some (.bool false) := new_cell2 _ _ _ _ _ _ (by simp) rfl
  have d1 : ((w.alloc (.cells #[v] 26)).alloc (.cells #[.bool false, .slice none 0 0] 36)).cell? ⟨w.heap.size + 1, 1, none⟩ = some (.slice none 0 0) := new_cell2 _ _ _ _ _ _ (by simp) rfl
  have f0 : ((w.alloc (.cells #[v] 26)).alloc (.cells #[.bool false, .slice none 0 0] 36)).frozen? ⟨w.heap.size + 1, 0, none⟩ = false := new_loose2 _ _ _ _ _ (by simp)
  have f1 : ((w.alloc (.cells #[v] 26)).alloc (.cells #[.bool false, .slice none 0 0] 36)).frozen? ⟨w.heap.size + 1, 1, none⟩ = false := new_loose2 _ _ _ _ _ (by simp)
  obtain ⟨a, c, rfl⟩ := Row.form' r
  clear r
  cases b
  · go_enter Try.func61, Try.ntmps61
    go_wp2_with fail
    generalize (w.alloc (.cells #[.slice a zs.length c] 26)).alloc (.cells #[.bool false, .slice none 0 0] 36) = W at *
    have b0 := World.block_lt_of_cell? _ _ d0
    dsimp only at b0
    have qd := q.kept ((Kept.refl 0 0 _).drew) (by omega)
    have cd : W.drew.cell? ⟨w.heap.size, 0, none⟩ = some (.slice a zs.length c) := c0
    refine wp_region_held_drew (S := fun w' => w'.cell? ⟨w.heap.size, 0, none⟩ = some (.slice a zs.length c)) (by kernel_rfl) ?_ (fun hHeld => ?_)
    · exact cd
    refine wpAnyH_take (i := 0) (oi := _) (v := .bool false) rfl (by kernel_rfl) (by kernel_rfl) (by kernel_rfl) (fun _ _ _ h => h) (Or.inl ⟨by rfl, ?_⟩) hHeld ?_
    · intro w hSw
      try dsimp only at hSw
      go_simp
    try simp only [Act.put, List.getElem_toArray, List.getElem_cons_succ, List.getElem_cons_zero, List.setIfInBounds_toArray, List.set_cons_zero, List.set_cons_succ]
    refine wpAnyH_take (i := 1) (oi := _) (v := .bool false) rfl (by kernel_rfl) (by kernel_rfl) (by kernel_rfl) (fun _ _ _ h => h) (Or.inl ⟨by rfl, ?_⟩) hHeld ?_
    · intro w hSw
      try dsimp only at hSw
      go_simp
    try simp only [Act.put, List.getElem_toArray, List.getElem_cons_succ, List.getElem_cons_zero, List.setIfInBounds_toArray, List.set_cons_zero, List.set_cons_succ]
    refine wpAnyH_take (i := 2) (v := undef) rfl (by kernel_rfl) (by kernel_rfl) (by kernel_rfl) (fun _ _ _ h => h) (Or.inr ⟨by rfl, rfl⟩) hHeld ?_
    try simp only [Act.put, List.getElem_toArray, List.getElem_cons_succ, List.getElem_cons_zero, List.setIfInBounds_toArray, List.set_cons_zero, List.set_cons_succ]
    refine wpAnyH_take (i := 3) (v := undef) rfl (by kernel_rfl) (by kernel_rfl) (by kernel_rfl) (fun _ _ _ h => h) (Or.inr ⟨by rfl, rfl⟩) hHeld ?_
    try simp only [Act.put, List.getElem_toArray, List.getElem_cons_succ, List.getElem_cons_zero, List.setIfInBounds_toArray, List.set_cons_zero, List.set_cons_succ]
    refine wpAnyH_take (i := 4) (v := undef) rfl (by kernel_rfl) (by kernel_rfl) (by kernel_rfl) (fun _ _ _ h => h) (Or.inr ⟨by rfl, rfl⟩) hHeld ?_
    try simp only [Act.put, List.getElem_toArray, List.getElem_cons_succ, List.getElem_cons_zero, List.setIfInBounds_toArray, List.set_cons_zero, List.set_cons_succ]
    refine wpAnyH_take (i := 5) (v := undef) rfl (by kernel_rfl) (by kernel_rfl) (by kernel_rfl) (fun _ _ _ h => h) (Or.inr ⟨by rfl, rfl⟩) hHeld ?_
    try simp only [Act.put, List.getElem_toArray, List.getElem_cons_succ, List.getElem_cons_zero, List.setIfInBounds_toArray, List.set_cons_zero, List.set_cons_succ]
    refine wpAnyH_take (i := 6) (oi := _) (v := .bool false) rfl (by kernel_rfl) (by kernel_rfl) (by kernel_rfl) (fun _ _ _ h => h) (Or.inl ⟨by rfl, ?_⟩) hHeld ?_
    · intro w hSw
      try dsimp only at hSw
      go_simp
    try simp only [Act.put, List.getElem_toArray, List.getElem_cons_succ, List.getElem_cons_zero, List.setIfInBounds_toArray, List.set_cons_zero, List.set_cons_succ]
    refine wpAnyH_take (i := 7) (oi := _) (v := .pointer (some ⟨w.heap.size, 0, none⟩)) rfl (by kernel_rfl) (by kernel_rfl) (by kernel_rfl) (fun _ _ _ h => h) (Or.inl ⟨by rfl, ?_⟩) hHeld ?_
    · intro w hSw
      try dsimp only at hSw
      go_simp
    try simp only [Act.put, List.getElem_toArray, List.getElem_cons_succ, List.getElem_cons_zero, List.setIfInBounds_toArray, List.set_cons_zero, List.set_cons_succ]
    refine wpAnyH_take (i := 8) (oi := _) (v := .slice a zs.length c) rfl (by kernel_rfl) (by kernel_rfl) (by kernel_rfl) (fun _ _ _ h => h) (Or.inl ⟨by rfl, ?_⟩) hHeld ?_
    · intro w hSw
      try dsimp only at hSw
      go_simp
    try simp only [Act.put, List.getElem_toArray, List.getElem_cons_succ, List.getElem_cons_zero, List.setIfInBounds_toArray, List.set_cons_zero, List.set_cons_succ]
    refine wpAnyH_ready (rs := [9]) (by kernel_rfl) (by simp) ?_
    refine AllReadyH.cons rfl (fun K hK => ?_) AllReadyH.nil
    simp only [List.getElem_toArray, List.getElem_cons_succ, List.getElem_cons_zero]
    rw [if_pos (by rfl)]
    refine wps1 57 (.tmp 13) _ rfl in_l2norm (.slice a zs.length c) rfl (norm_own _ qd hlen) ?_
    rintro e w3 ⟨v3, rfl, nm, k3⟩
    obtain ⟨zz, ow, ⟨kz, hkz, hzk⟩, -⟩ := nm
    have r3 := Row.own ow
    have HL : Hid (zz.length ≤ zs.length) := by show _ ≤ _; rw [hzk, List.length_take]; omega
    clear ow hzk hkz
    refine ⟨_, rfl, ?_⟩
    refine hK.out _ _ ?_ (fun hHeld => ?_)
    · exact k3.cell0 cd
    clear hK K
    try simp only [Act.put, List.getElem_toArray, List.getElem_cons_succ, List.getElem_cons_zero, List.setIfInBounds_toArray, List.set_cons_zero, List.set_cons_succ]
    have d03 := k3.cell0 (drew_cell d0)
    have d13 := k3.cell0 (drew_cell d1)
    have f03 := k3.loose0 b0 (drew_loose f0)
    have f13 := k3.loose0 b0 (drew_loose f1)
    have s3 := k3.size
    obtain ⟨a3, e3, rfl⟩ := Row.form' r3
    refine wpAnyH_take (i := 10) (oi := _) (v := .agg #[.bool false, .slice a3 zz.length e3]) rfl (by kernel_rfl) (by kernel_rfl) (by kernel_rfl) (fun _ _ _ h => h) (Or.inl ⟨by rfl, ?_⟩) hHeld ?_
    · intro w hSw
      try dsimp only at hSw
      go_simp
    try simp only [Act.put, List.getElem_toArray, List.getElem_cons_succ, List.getElem_cons_zero, List.setIfInBounds_toArray, List.set_cons_zero, List.set_cons_succ]
    refine wpAnyH_ready (rs := [11]) (by kernel_rfl) (by simp) ?_
    refine AllReadyH.cons rfl (fun K hK => ?_) AllReadyH.nil
    simp only [List.getElem_toArray, List.getElem_cons_succ, List.getElem_cons_zero]
    rw [if_pos (by rfl)]
    go_simp
    refine hK.out _ _ ?_ (fun hHeld => ?_)
    · exact cell_aside _ (by simp) (cell_aside _ (by simp) (k3.cell0 cd))
    clear hK K
    try simp only [Act.put, List.getElem_toArray, List.getElem_cons_succ, List.getElem_cons_zero, List.setIfInBounds_toArray, List.set_cons_zero, List.set_cons_succ]
    refine wpAnyH_done (by kernel_rfl) ?_ _
    have R := hide (((r3.set_other (p := ⟨w.heap.size + 1, 0, none⟩) (.inl b0) (.bool false)).set_other (p := ⟨w.heap.size + 1, 1, none⟩) (.inl b0) (.slice a3 zz.length e3)).tight.wider (lo' := w.heap.size) (by have : W.drew.heap.size = W.heap.size := rfl; omega) (Nat.le_refl _))
    have K7 := hide ((((k0.drew).trans k3).setNew (p := ⟨w.heap.size + 1, 0, none⟩) (by simp) (.bool false)).setNew (p := ⟨w.heap.size + 1, 1, none⟩) (by simp) (.slice a3 zz.length e3))
    clear r3 k3 k0 q qd hHeld cd c0
    go_wp2
    exact bodyPost_ret (v := .agg #[.bool false, .slice a3 zz.length e3]) (by simp [results, Try.results61, go_sem, d03, d13]) rfl ⟨_, _, rfl, unhide R, unhide HL, unhide K7⟩
  · go_enter Try.func61, Try.ntmps61
    go_wp2_with fail
    generalize (w.alloc (.cells #[.slice a zs.length c] 26)).alloc (.cells #[.bool false, .slice none 0 0] 36) = W at *
    have b0 := World.block_lt_of_cell? _ _ d0
    dsimp only at b0
    have qd := q.kept ((Kept.refl 0 0 _).drew) (by omega)
    have cd : W.drew.cell? ⟨w.heap.size, 0, none⟩ = some (.slice a zs.length c) := c0
    refine wp_region_held_drew (S := fun w' => w'.cell? ⟨w.heap.size, 0, none⟩ = some (.slice a zs.length c)) (by kernel_rfl) ?_ (fun hHeld => ?_)
    · exact cd
    refine wpAnyH_take (i := 0) (oi := _) (v := .bool true) rfl (by kernel_rfl) (by kernel_rfl) (by kernel_rfl) (fun _ _ _ h => h) (Or.inl ⟨by rfl, ?_⟩) hHeld ?_
    · intro w hSw
      try dsimp only at hSw
      go_simp
    try simp only [Act.put, List.getElem_toArray, List.getElem_cons_succ, List.getElem_cons_zero, List.setIfInBounds_toArray, List.set_cons_zero, List.set_cons_succ]
    refine wpAnyH_take (i := 1) (oi := _) (v := .bool true) rfl (by kernel_rfl) (by kernel_rfl) (by kernel_rfl) (fun _ _ _ h => h) (Or.inl ⟨by rfl, ?_⟩) hHeld ?_
    · intro w hSw
      try dsimp only at hSw
      go_simp
    try simp only [Act.put, List.getElem_toArray, List.getElem_cons_succ, List.getElem_cons_zero, List.setIfInBounds_toArray, List.set_cons_zero, List.set_cons_succ]
    refine wpAnyH_take (i := 2) (oi := _) (v := .pointer (some ⟨w.heap.size, 0, none⟩)) rfl (by kernel_rfl) (by kernel_rfl) (by kernel_rfl) (fun _ _ _ h => h) (Or.inl ⟨by rfl, ?_⟩) hHeld ?_
    · intro w hSw
      try dsimp only at hSw
      go_simp
    try simp only [Act.put, List.getElem_toArray, List.getElem_cons_succ, List.getElem_cons_zero, List.setIfInBounds_toArray, List.set_cons_zero, List.set_cons_succ]
    refine wpAnyH_take (i := 3) (oi := _) (v := .slice a zs.length c) rfl (by kernel_rfl) (by kernel_rfl) (by kernel_rfl) (fun _ _ _ h => h) (Or.inl ⟨by rfl, ?_⟩) hHeld ?_
    · intro w hSw
      try dsimp only at hSw
      go_simp
    try simp only [Act.put, List.getElem_toArray, List.getElem_cons_succ, List.getElem_cons_zero, List.setIfInBounds_toArray, List.set_cons_zero, List.set_cons_succ]
    refine wpAnyH_take (i := 4) (oi := _) (v := .int .i64 zs.length) rfl (by kernel_rfl) (by kernel_rfl) (by kernel_rfl) (fun _ _ _ h => h) (Or.inl ⟨by rfl, ?_⟩) hHeld ?_
    · intro w hSw
      try dsimp only at hSw
      go_simp
    try simp only [Act.put, List.getElem_toArray, List.getElem_cons_succ, List.getElem_cons_zero, List.setIfInBounds_toArray, List.set_cons_zero, List.set_cons_succ]
    refine wpAnyH_take (i := 5) (oi := _) (v := .bool (decide (0 < zs.length))) rfl (by kernel_rfl) (by kernel_rfl) (by kernel_rfl) (fun _ _ _ h => h) (Or.inl ⟨by rfl, ?_⟩) hHeld ?_
    · intro w hSw
      try dsimp only at hSw
      go_simp
    try simp only [Act.put, List.getElem_toArray, List.getElem_cons_succ, List.getElem_cons_zero, List.setIfInBounds_toArray, List.set_cons_zero, List.set_cons_succ]
    refine wpAnyH_take (i := 6) (oi := _) (v := .bool (decide (0 < zs.length))) rfl (by kernel_rfl) (by kernel_rfl) (by kernel_rfl) (fun _ _ _ h => h) (Or.inl ⟨by rfl, ?_⟩) hHeld ?_
    · intro w hSw
      try dsimp only at hSw
      go_simp
    try simp only [Act.put, List.getElem_toArray, List.getElem_cons_succ, List.getElem_cons_zero, List.setIfInBounds_toArray, List.set_cons_zero, List.set_cons_succ]
    refine wpAnyH_take (i := 7) (oi := _) (v := .pointer (some ⟨w.heap.size, 0, none⟩)) rfl (by kernel_rfl) (by kernel_rfl) (by kernel_rfl) (fun _ _ _ h => h) (Or.inl ⟨by rfl, ?_⟩) hHeld ?_
    · intro w hSw
      try dsimp only at hSw
      go_simp
    try simp only [Act.put, List.getElem_toArray, List.getElem_cons_succ, List.getElem_cons_zero, List.setIfInBounds_toArray, List.set_cons_zero, List.set_cons_succ]
    refine wpAnyH_take (i := 8) (oi := _) (v := .slice a zs.length c) rfl (by kernel_rfl) (by kernel_rfl) (by kernel_rfl) (fun _ _ _ h => h) (Or.inl ⟨by rfl, ?_⟩) hHeld ?_
    · intro w hSw
      try dsimp only at hSw
      go_simp
    try simp only [Act.put, List.getElem_toArray, List.getElem_cons_succ, List.getElem_cons_zero, List.setIfInBounds_toArray, List.set_cons_zero, List.set_cons_succ]
    refine wpAnyH_ready (rs := [9]) (by kernel_rfl) (by simp) ?_
    refine AllReadyH.cons rfl (fun K hK => ?_) AllReadyH.nil
    simp only [List.getElem_toArray, List.getElem_cons_succ, List.getElem_cons_zero]
    rw [if_pos (by rfl)]
    refine wps1 57 (.tmp 13) _ rfl in_l2norm (.slice a zs.length c) rfl (norm_own _ qd hlen) ?_
    rintro e w3 ⟨v3, rfl, nm, k3⟩
    obtain ⟨zz, ow, ⟨kz, hkz, hzk⟩, -⟩ := nm
    have r3 := Row.own ow
    have HL : Hid (zz.length ≤ zs.length) := by show _ ≤ _; rw [hzk, List.length_take]; omega
    clear ow hzk hkz
    refine ⟨_, rfl, ?_⟩
    refine hK.out _ _ ?_ (fun hHeld => ?_)
    · exact k3.cell0 cd
    clear hK K
    try simp only [Act.put, List.getElem_toArray, List.getElem_cons_succ, List.getElem_cons_zero, List.setIfInBounds_toArray, List.set_cons_zero, List.set_cons_succ]
    have d03 := k3.cell0 (drew_cell d0)
    have d13 := k3.cell0 (drew_cell d1)
    have f03 := k3.loose0 b0 (drew_loose f0)
    have f13 := k3.loose0 b0 (drew_loose f1)
    have s3 := k3.size
    obtain ⟨a3, e3, rfl⟩ := Row.form' r3
    refine wpAnyH_take (i := 10) (oi := _) (v := .agg #[.bool (decide (0 < zs.length)), .slice a3 zz.length e3]) rfl (by kernel_rfl) (by kernel_rfl) (by kernel_rfl) (fun _ _ _ h => h) (Or.inl ⟨by rfl, ?_⟩) hHeld ?_
    · intro w hSw
      try dsimp only at hSw
      go_simp
    try simp only [Act.put, List.getElem_toArray, List.getElem_cons_succ, List.getElem_cons_zero, List.setIfInBounds_toArray, List.set_cons_zero, List.set_cons_succ]
    refine wpAnyH_ready (rs := [11]) (by kernel_rfl) (by simp) ?_
    refine AllReadyH.cons rfl (fun K hK => ?_) AllReadyH.nil
    simp only [List.getElem_toArray, List.getElem_cons_succ, List.getElem_cons_zero]
    rw [if_pos (by rfl)]
    go_simp
    refine hK.out _ _ ?_ (fun hHeld => ?_)
    · exact cell_aside _ (by simp) (cell_aside _ (by simp) (k3.cell0 cd))
    clear hK K
    try simp only [Act.put, List.getElem_toArray, List.getElem_cons_succ, List.getElem_cons_zero, List.setIfInBounds_toArray, List.set_cons_zero, List.set_cons_succ]
    refine wpAnyH_done (by kernel_rfl) ?_ _
    have R := hide (((r3.set_other (p := ⟨w.heap.size + 1, 0, none⟩) (.inl b0) (.bool (decide (0 < zs.length)))).set_other (p := ⟨w.heap.size + 1, 1, none⟩) (.inl b0) (.slice a3 zz.length e3)).tight.wider (lo' := w.heap.size) (by have : W.drew.heap.size = W.heap.size := rfl; omega) (Nat.le_refl _))
    have K7 := hide ((((k0.drew).trans k3).setNew (p := ⟨w.heap.size + 1, 0, none⟩) (by simp) (.bool (decide (0 < zs.length)))).setNew (p := ⟨w.heap.size + 1, 1, none⟩) (by simp) (.slice a3 zz.length e3))
    clear r3 k3 k0 q qd hHeld cd c0
    go_wp2
    exact bodyPost_ret (v := .agg #[.bool (decide (0 < zs.length)), .slice a3 zz.length e3]) (by simp [results, Try.results61, go_sem, d03, d13]) rfl ⟨_, _, rfl, unhide R, unhide HL, unhide K7⟩

set_option maxHeartbeats 1000000 in
theorem neg_free {bw : Bool} {lo hi : Nat} {v : Value} {zs : List Int} (b : Bool) (w : World) (r : Row .i64 bw lo hi w v zs) (hl : zs.length ≤ 1000000) :
    Calls Try.prog 52 #[.agg #[.bool b, v]] w fun e w' => ∃ v' ss zz, e = .returned (.agg #[.bool ss, v']) ∧ Row .i64 true w.heap.size w'.heap.size w' v' zz ∧ zz.length ≤ zs.length ∧ Kept 0 0 w w' := by
  have k0 : Kept 0 0 w ((w.alloc (.cells #[.bool b, v] 36)).alloc (.cells #[.bool false, .slice none 0 0] 36)) := (((Kept.refl 0 0 w).alloc (.cells #[.bool b, v] 36)).alloc (.cells #[.bool false, .slice none 0 0] 36))
  have p0 : ((w.alloc (.cells #[.bool b, v] 36)).alloc (.cells #[.bool false, .slice none 0 0] 36)).cell? ⟨w.heap.size, 0, none⟩ = some (.bool b) := old_cell _ (new_cell2 _ _ _ _ _ _ (by simp) rfl)
  have p1 : ((w.alloc (.cells #[.bool b, v] 36)).alloc (.cells #[.bool false, .slice none 0 0] 36)).cell? ⟨w.heap.size, 1, none⟩ = some (v) := old_cell _ (new_cell2 _ _ _ _ _ _ (by simp) rfl)
  have q0 : ((w.alloc (.cells #[.bool b, v] 36)).alloc (.cells #[.bool false, .slice none 0 0] 36)).cell? ⟨w.heap.size + 1, 0, none⟩ = some (.bool false) := new_cell2 _ _ _ _ _ _ (by simp) rfl
  have qf0 : ((w.alloc (.cells #[.bool b, v] 36)).alloc (.cells #[.bool false, .slice none 0 0] 36)).frozen? ⟨w.heap.size + 1, 0, none⟩ = false := new_loose2 _ _ _ _ _ (by simp)
  have q1 : ((w.alloc (.cells #[.bool b, v] 36)).alloc (.cells #[.bool false, .slice none 0 0] 36)).cell? ⟨w.heap.size + 1, 1, none⟩ = some (.slice none 0 0) := new_cell2 _ _ _ _ _ _ (by simp) rfl
  have qf1 : ((w.alloc (.cells #[.bool b, v] 36)).alloc (.cells #[.bool false, .slice none 0 0] 36)).frozen? ⟨w.heap.size + 1, 1, none⟩ = false := new_loose2 _ _ _ _ _ (by simp)
  replace r := r.kept k0 (by omega)
  have s0 : ((w.alloc (.cells #[.bool b, v] 36)).alloc (.cells #[.bool false, .slice none 0 0] 36)).heap.size = w.heap.size + 2 := by simp
  obtain ⟨a, c, hv⟩ := Row.form' r
  subst hv
  have K := hide (k0)
  clear k0
  have S0 := hide s0
  clear s0
  go_enter Try.func52, Try.ntmps52
  go_wp2_with fail
  generalize ((w.alloc (.cells #[.bool b, .slice a zs.length c] 36)).alloc (.cells #[.bool false, .slice none 0 0] 36)) = W at *
  have mk := make_free (!b) W r hl
  refine (mk).mono ?_
  rintro e w1 ⟨v3, zz, rfl, r3, hl3, k1⟩
  have HL := hide hl3
  clear hl3
  generalize ((!b) && decide (0 < zs.length)) = ss at *
  replace r := r.kept k1 (by omega)
  replace qf0 := k1.loose0 (World.block_lt_of_cell? _ _ q0) qf0
  replace qf1 := k1.loose0 (World.block_lt_of_cell? _ _ q1) qf1
  replace p0 := k1.cell0 p0
  replace p1 := k1.cell0 p1
  replace q0 := k1.cell0 q0
  replace q1 := k1.cell0 q1
  replace K := hide ((unhide K).trans k1)
  have z2 := k1.size
  clear k1
  clear mk
  obtain ⟨a3, c3, hv⟩ := Row.form' r3
  subst hv
  have bX : w.heap.size + 1 < w1.heap.size := World.block_lt_of_cell? _ _ q0
  have R := hide (((r3.set_other (p := ⟨w.heap.size + 1, 0, none⟩) (.inl (by have := unhide S0; dsimp only; omega)) (.bool ss)).set_other (p := ⟨w.heap.size + 1, 1, none⟩) (.inl (by have := unhide S0; dsimp only; omega)) (.slice a3 zz.length c3)).tight.wider (lo' := w.heap.size) (by have := unhide S0; omega) (Nat.le_refl _))
  have K7 := hide (((unhide K).setNew (p := ⟨w.heap.size + 1, 0, none⟩) (by simp) (.bool ss)).setNew (p := ⟨w.heap.size + 1, 1, none⟩) (by simp) (.slice a3 zz.length c3))
  clear r r3 K
  go_wp2_with fail
  exact bodyPost_ret (v := .agg #[.bool ss, .slice a3 zz.length c3]) (by simp [results, Try.results52, go_sem, q0, q1]) rfl ⟨_, _, _, rfl, unhide R, unhide HL, unhide K7⟩

theorem in_l3bent_c : ∀ (w : World) (args : Array Value), (callFunc 51 args).run Try.prog w = .ok (.enter 51 args) w := enters Try.func51 (by decide) (fun h => by cases h)

theorem in_l3neg_c : ∀ (w : World) (args : Array Value), (callFunc 52 args).run Try.prog w = .ok (.enter 52 args) w := enters Try.func52 (by decide) (fun h => by cases h)

set_option maxHeartbeats 8000000 in
theorem drawWC_any {bw : Bool} {lo hi : Nat} {v : Value} {bs : List Int} (w : World) (r : Row .u8 bw lo hi w v bs) (b : Bytes bs) :
    Calls Try.prog 32 #[v] w fun e w' => ∃ v1 s1 zs v2 s2 ys, e = .returned (.tuple #[.agg #[.bool s1, v1], .agg #[.bool s2, v2]]) ∧ Row .i64 true w.heap.size w'.heap.size w' v1 zs ∧ Row .i64 true w.heap.size w'.heap.size w' v2 ys ∧ Kept 0 0 w w' := by
  have k0 : Kept 0 0 w ((w.alloc (.cells #[.bool false, .slice none 0 0] 36)).alloc (.cells #[.bool false, .slice none 0 0] 36)) := (((Kept.refl 0 0 w).alloc (.cells #[.bool false, .slice none 0 0] 36)).alloc (.cells #[.bool false, .slice none 0 0] 36))
  have q0 : ((w.alloc (.cells #[.bool false, .slice none 0 0] 36)).alloc (.cells #[.bool false, .slice none 0 0] 36)).cell? ⟨w.heap.size, 0, none⟩ = some (.bool false) := old_cell _ (new_cell2 _ _ _ _ _ _ (by simp) rfl)
  have qf0 : ((w.alloc (.cells #[.bool false, .slice none 0 0] 36)).alloc (.cells #[.bool false, .slice none 0 0] 36)).frozen? ⟨w.heap.size, 0, none⟩ = false := loose_old (by simp <;> omega) (new_loose2 _ _ _ _ _ (by simp))
  have q1 : ((w.alloc (.cells #[.bool false, .slice none 0 0] 36)).alloc (.cells #[.bool false, .slice none 0 0] 36)).cell? ⟨w.heap.size, 1, none⟩ = some (.slice none 0 0) := old_cell _ (new_cell2 _ _ _ _ _ _ (by simp) rfl)
  have qf1 : ((w.alloc (.cells #[.bool false, .slice none 0 0] 36)).alloc (.cells #[.bool false, .slice none 0 0] 36)).frozen? ⟨w.heap.size, 1, none⟩ = false := loose_old (by simp <;> omega) (new_loose2 _ _ _ _ _ (by simp))
  have p0 : ((w.alloc (.cells #[.bool false, .slice none 0 0] 36)).alloc (.cells #[.bool false, .slice none 0 0] 36)).cell? ⟨w.heap.size + 1, 0, none⟩ = some (.bool false) := new_cell2 _ _ _ _ _ _ (by simp) rfl
  have pf0 : ((w.alloc (.cells #[.bool false, .slice none 0 0] 36)).alloc (.cells #[.bool false, .slice none 0 0] 36)).frozen? ⟨w.heap.size + 1, 0, none⟩ = false := new_loose2 _ _ _ _ _ (by simp)
  have p1 : ((w.alloc (.cells #[.bool false, .slice none 0 0] 36)).alloc (.cells #[.bool false, .slice none 0 0] 36)).cell? ⟨w.heap.size + 1, 1, none⟩ = some (.slice none 0 0) := new_cell2 _ _ _ _ _ _ (by simp) rfl
  have pf1 : ((w.alloc (.cells #[.bool false, .slice none 0 0] 36)).alloc (.cells #[.bool false, .slice none 0 0] 36)).frozen? ⟨w.heap.size + 1, 1, none⟩ = false := new_loose2 _ _ _ _ _ (by simp)
  have s0 : ((w.alloc (.cells #[.bool false, .slice none 0 0] 36)).alloc (.cells #[.bool false, .slice none 0 0] 36)).heap.size = w.heap.size + 2 := by simp
  have K := hide (k0)
  clear k0
  have S0 := hide s0
  clear s0
  replace r := r.kept (unhide K) (by omega)
  obtain ⟨a0, c0, hv⟩ := Row.form' r
  subst hv
  go_enter Try.func32, Try.ntmps32
  go_wp2_with fail
  generalize ((w.alloc (.cells #[.bool false, .slice none 0 0] 36)).alloc (.cells #[.bool false, .slice none 0 0] 36)) = W at *
  refine (l1New_any _ r b).mono ?_
  rintro e w1 ⟨g, rfl, hg, cu, k1⟩
  replace qf0 := k1.loose0 (World.block_lt_of_cell? _ _ q0) qf0
  replace qf1 := k1.loose0 (World.block_lt_of_cell? _ _ q1) qf1
  replace pf0 := k1.loose0 (World.block_lt_of_cell? _ _ p0) pf0
  replace pf1 := k1.loose0 (World.block_lt_of_cell? _ _ p1) pf1
  replace q0 := k1.cell0 q0
  replace q1 := k1.cell0 q1
  replace p0 := k1.cell0 p0
  replace p1 := k1.cell0 p1
  replace K := hide ((unhide K).trans k1)
  have z2 := k1.size
  clear k1
  have hg2 : w.heap.size + 2 ≤ g := by have := unhide S0; omega
  have hg1 := cu.1
  generalize W.heap.size = LO at *
  clear r hg
  go_wp2_with fail
  refine (bent3_len g LO _ cu).mono ?_
  rintro e w3 ⟨v5, s5, zs, rfl, r5, hl5, k3⟩
  first | have kk := k3.kept | have kk := k3.any (lo := g) (hi := g + 1) | have kk := k3.2
  first | replace cu := k3.drawn.1 | replace cu := cu.kept k3 (by omega) | replace cu := k3.1
  replace qf0 := Kept.looseOut' kk (by dsimp only; omega) (World.block_lt_of_cell? _ _ q0) qf0
  replace qf1 := Kept.looseOut' kk (by dsimp only; omega) (World.block_lt_of_cell? _ _ q1) qf1
  replace pf0 := Kept.looseOut' kk (by dsimp only; omega) (World.block_lt_of_cell? _ _ p0) pf0
  replace pf1 := Kept.looseOut' kk (by dsimp only; omega) (World.block_lt_of_cell? _ _ p1) pf1
  replace q0 := Kept.cellOut kk (by dsimp only; omega) q0
  replace q1 := Kept.cellOut kk (by dsimp only; omega) q1
  replace p0 := Kept.cellOut kk (by dsimp only; omega) p0
  replace p1 := Kept.cellOut kk (by dsimp only; omega) p1
  replace K := hide (Kept.newer' (unhide K) kk (by omega))
  have z4 := kk.size
  clear kk
  clear k3
  obtain ⟨a5, c5, hv⟩ := Row.form' r5
  subst hv
  have hgy := cu.1
  have kn := (Kept.refl 0 0 w3).alloc (.cells #[.bool s5, .slice a5 zs.length c5] 36)
  first | have kk := kn.kept | have kk := kn.any (lo := g) (hi := g + 1) | have kk := kn.2
  first | replace cu := kn.drawn.1 | replace cu := cu.kept kn (by omega) | replace cu := kn.1
  replace r5 := r5.kept kk (by omega)
  replace qf0 := Kept.looseOut' kk (by dsimp only; omega) (World.block_lt_of_cell? _ _ q0) qf0
  replace qf1 := Kept.looseOut' kk (by dsimp only; omega) (World.block_lt_of_cell? _ _ q1) qf1
  replace pf0 := Kept.looseOut' kk (by dsimp only; omega) (World.block_lt_of_cell? _ _ p0) pf0
  replace pf1 := Kept.looseOut' kk (by dsimp only; omega) (World.block_lt_of_cell? _ _ p1) pf1
  replace q0 := Kept.cellOut kk (by dsimp only; omega) q0
  replace q1 := Kept.cellOut kk (by dsimp only; omega) q1
  replace p0 := Kept.cellOut kk (by dsimp only; omega) p0
  replace p1 := Kept.cellOut kk (by dsimp only; omega) p1
  replace K := hide (Kept.newer' (unhide K) kk (by omega))
  have z5 := kk.size
  clear kk
  clear kn
  have y0 : (w3.alloc (.cells #[.bool s5, .slice a5 zs.length c5] 36)).cell? ⟨w3.heap.size, 0, none⟩ = some (.bool s5) := new_cell2 _ _ _ _ _ _ rfl rfl
  have y1 : (w3.alloc (.cells #[.bool s5, .slice a5 zs.length c5] 36)).cell? ⟨w3.heap.size, 1, none⟩ = some (.slice a5 zs.length c5) := new_cell2 _ _ _ _ _ _ rfl rfl
  go_wp2_with fail
  obtain ⟨Y, hY⟩ : ∃ Y, w3.heap.size = Y := ⟨_, rfl⟩
  rw [hY] at y0 y1 ⊢
  have hY1 := Nat.le_of_eq hY
  have hY2 := Nat.le_of_eq hY.symm
  clear hY
  generalize w3.alloc (.cells #[.bool s5, .slice a5 zs.length c5] 36) = wy at *
  refine (l1Once_any g LO _ cu 4).mono ?_
  rintro e w6 ⟨b1, rfl, k6⟩
  first | have kk := k6.kept | have kk := k6.any (lo := g) (hi := g + 1) | have kk := k6.2
  first | replace cu := k6.drawn.1 | replace cu := cu.kept k6 (by omega) | replace cu := k6.1
  replace r5 := r5.kept kk (by omega)
  replace qf0 := Kept.looseOut' kk (by dsimp only; omega) (World.block_lt_of_cell? _ _ q0) qf0
  replace qf1 := Kept.looseOut' kk (by dsimp only; omega) (World.block_lt_of_cell? _ _ q1) qf1
  replace pf0 := Kept.looseOut' kk (by dsimp only; omega) (World.block_lt_of_cell? _ _ p0) pf0
  replace pf1 := Kept.looseOut' kk (by dsimp only; omega) (World.block_lt_of_cell? _ _ p1) pf1
  replace q0 := Kept.cellOut kk (by dsimp only; omega) q0
  replace q1 := Kept.cellOut kk (by dsimp only; omega) q1
  replace p0 := Kept.cellOut kk (by dsimp only; omega) p0
  replace p1 := Kept.cellOut kk (by dsimp only; omega) p1
  replace y0 := Kept.cellOut kk (by dsimp only; omega) y0
  replace y1 := Kept.cellOut kk (by dsimp only; omega) y1
  replace K := hide (Kept.newer' (unhide K) kk (by omega))
  have z7 := kk.size
  clear kk
  clear k6
  cases b1
  · go_wp2_with fail
    have kd := (Kept.refl 0 0 w6).drew
    first | have kk := kd.kept | have kk := kd.any (lo := g) (hi := g + 1) | have kk := kd.2
    first | replace cu := kd.drawn.1 | replace cu := cu.kept kd (by omega) | replace cu := kd.1
    replace r5 := r5.kept kk (by omega)
    replace qf0 := Kept.looseOut' kk (by dsimp only; omega) (World.block_lt_of_cell? _ _ q0) qf0
    replace qf1 := Kept.looseOut' kk (by dsimp only; omega) (World.block_lt_of_cell? _ _ q1) qf1
    replace pf0 := Kept.looseOut' kk (by dsimp only; omega) (World.block_lt_of_cell? _ _ p0) pf0
    replace pf1 := Kept.looseOut' kk (by dsimp only; omega) (World.block_lt_of_cell? _ _ p1) pf1
    replace q0 := Kept.cellOut kk (by dsimp only; omega) q0
    replace q1 := Kept.cellOut kk (by dsimp only; omega) q1
    replace p0 := Kept.cellOut kk (by dsimp only; omega) p0
    replace p1 := Kept.cellOut kk (by dsimp only; omega) p1
    replace y0 := Kept.cellOut kk (by dsimp only; omega) y0
    replace y1 := Kept.cellOut kk (by dsimp only; omega) y1
    replace K := hide (Kept.newer' (unhide K) kk (by omega))
    have z8 := kk.size
    clear kk
    clear kd
    refine wp_region_held_drew (S := (fun w' => w'.cell? ⟨Y, 0, none⟩ = some (.bool s5) ∧ w'.cell? ⟨Y, 1, none⟩ = some (.slice a5 zs.length c5))) (by kernel_rfl) ?_ (fun hHeld => ?_)
    · exact ⟨y0, y1⟩
    generalize w6.drew = wd9 at *
    refine wpAnyH_take (i := 0) (oi := _) (v := .agg #[.bool s5, .slice a5 zs.length c5]) rfl (by kernel_rfl) (by kernel_rfl) (by kernel_rfl) (fun _ _ _ h => h) (Or.inl ⟨by rfl, ?_⟩) hHeld ?_
    · intro wq hSw
      try dsimp only at hSw
      go_simp
    try simp only [Act.put, List.getElem_toArray, List.getElem_cons_succ, List.getElem_cons_zero, List.setIfInBounds_toArray, List.set_cons_zero, List.set_cons_succ]
    refine wpAnyH_take (i := 1) (oi := _) (v := .pointer (some ⟨g, 0, none⟩)) rfl (by kernel_rfl) (by kernel_rfl) (by kernel_rfl) (fun _ _ _ h => h) (Or.inl ⟨by rfl, ?_⟩) hHeld ?_
    · intro wq hSw
      try dsimp only at hSw
      go_simp
    try simp only [Act.put, List.getElem_toArray, List.getElem_cons_succ, List.getElem_cons_zero, List.setIfInBounds_toArray, List.set_cons_zero, List.set_cons_succ]
    refine wpAnyH_ready (rs := [2]) (by kernel_rfl) (by simp) ?_
    refine AllReadyH.cons rfl (fun KK hK => ?_) AllReadyH.nil
    simp only [List.getElem_toArray, List.getElem_cons_succ, List.getElem_cons_zero]
    rw [if_pos (by rfl)]
    refine wps1 51 (.tmp 16) _ rfl in_l3bent_c (.pointer (some ⟨g, 0, none⟩)) rfl (bent3_len g LO _ cu) ?_
    rintro e w10 ⟨v6, s6, ys, rfl, r6, hl6, k10⟩
    refine ⟨_, rfl, ?_⟩
    first | have kk := k10.kept | have kk := k10.any (lo := g) (hi := g + 1) | have kk := k10.2
    first | replace cu := k10.drawn.1 | replace cu := cu.kept k10 (by omega) | replace cu := k10.1
    replace r5 := r5.kept kk (by omega)
    replace qf0 := Kept.looseOut' kk (by dsimp only; omega) (World.block_lt_of_cell? _ _ q0) qf0
    replace qf1 := Kept.looseOut' kk (by dsimp only; omega) (World.block_lt_of_cell? _ _ q1) qf1
    replace pf0 := Kept.looseOut' kk (by dsimp only; omega) (World.block_lt_of_cell? _ _ p0) pf0
    replace pf1 := Kept.looseOut' kk (by dsimp only; omega) (World.block_lt_of_cell? _ _ p1) pf1
    replace q0 := Kept.cellOut kk (by dsimp only; omega) q0
    replace q1 := Kept.cellOut kk (by dsimp only; omega) q1
    replace p0 := Kept.cellOut kk (by dsimp only; omega) p0
    replace p1 := Kept.cellOut kk (by dsimp only; omega) p1
    replace y0 := Kept.cellOut kk (by dsimp only; omega) y0
    replace y1 := Kept.cellOut kk (by dsimp only; omega) y1
    replace K := hide (Kept.newer' (unhide K) kk (by omega))
    have z11 := kk.size
    clear kk
    clear k10
    obtain ⟨a6, c6, hv⟩ := Row.form' r6
    subst hv
    clear hHeld
    refine hK.out _ _ ?_ (fun hHeld => ?_)
    · exact ⟨y0, y1⟩
    clear hK KK
    try simp only [Act.put, List.getElem_toArray, List.getElem_cons_succ, List.getElem_cons_zero, List.setIfInBounds_toArray, List.set_cons_zero, List.set_cons_succ]
    refine wpAnyH_ready (rs := [3]) (by kernel_rfl) (by simp) ?_
    refine AllReadyH.cons rfl (fun KK hK => ?_) AllReadyH.nil
    simp only [List.getElem_toArray, List.getElem_cons_succ, List.getElem_cons_zero]
    rw [if_pos (by rfl)]
    go_simp
    clear hHeld
    refine hK.out _ _ ?_ (fun hHeld => ?_)
    · exact ⟨(cell_aside _ (by dsimp only; omega) (cell_aside _ (by dsimp only; omega) y0)), (cell_aside _ (by dsimp only; omega) (cell_aside _ (by dsimp only; omega) y1))⟩
    clear hK KK
    try simp only [Act.put, List.getElem_toArray, List.getElem_cons_succ, List.getElem_cons_zero, List.setIfInBounds_toArray, List.set_cons_zero, List.set_cons_succ]
    refine wpAnyH_ready (rs := [4]) (by kernel_rfl) (by simp) ?_
    refine AllReadyH.cons rfl (fun KK hK => ?_) AllReadyH.nil
    simp only [List.getElem_toArray, List.getElem_cons_succ, List.getElem_cons_zero]
    rw [if_pos (by rfl)]
    go_simp
    clear hHeld
    refine hK.out _ _ ?_ (fun hHeld => ?_)
    · exact ⟨(cell_aside _ (by dsimp only; omega) (cell_aside _ (by dsimp only; omega) (cell_aside _ (by dsimp only; omega) (cell_aside _ (by dsimp only; omega) y0)))), (cell_aside _ (by dsimp only; omega) (cell_aside _ (by dsimp only; omega) (cell_aside _ (by dsimp only; omega) (cell_aside _ (by dsimp only; omega) y1))))⟩
    clear hK KK
    try simp only [Act.put, List.getElem_toArray, List.getElem_cons_succ, List.getElem_cons_zero, List.setIfInBounds_toArray, List.set_cons_zero, List.set_cons_succ]
    refine wpAnyH_done (by kernel_rfl) ?_ _
    clear hHeld
    have R1 := hide (((((r5.set_other (p := ⟨w.heap.size, 0, none⟩) (.inl (by dsimp only; omega)) (.bool s5)).set_other (p := ⟨w.heap.size, 1, none⟩) (.inl (by dsimp only; omega)) (.slice a5 zs.length c5)).set_other (p := ⟨w.heap.size + 1, 0, none⟩) (.inl (by dsimp only; omega)) (.bool s6)).set_other (p := ⟨w.heap.size + 1, 1, none⟩) (.inl (by dsimp only; omega)) (.slice a6 ys.length c6)).tight.wider (lo' := w.heap.size) (by omega) (Nat.le_refl _))
    have R2 := hide (((((r6.set_other (p := ⟨w.heap.size, 0, none⟩) (.inl (by dsimp only; omega)) (.bool s5)).set_other (p := ⟨w.heap.size, 1, none⟩) (.inl (by dsimp only; omega)) (.slice a5 zs.length c5)).set_other (p := ⟨w.heap.size + 1, 0, none⟩) (.inl (by dsimp only; omega)) (.bool s6)).set_other (p := ⟨w.heap.size + 1, 1, none⟩) (.inl (by dsimp only; omega)) (.slice a6 ys.length c6)).tight.wider (lo' := w.heap.size) (by omega) (Nat.le_refl _))
    have K7 := hide (((((unhide K).setNew (p := ⟨w.heap.size, 0, none⟩) (by simp) (.bool s5)).setNew (p := ⟨w.heap.size, 1, none⟩) (by simp) (.slice a5 zs.length c5)).setNew (p := ⟨w.heap.size + 1, 0, none⟩) (by simp) (.bool s6)).setNew (p := ⟨w.heap.size + 1, 1, none⟩) (by simp) (.slice a6 ys.length c6))
    have Gq0 := hide (cell_aside (r := ⟨w.heap.size + 1, 1, none⟩) (.slice a6 ys.length c6) (by dsimp only; omega) (cell_aside (r := ⟨w.heap.size + 1, 0, none⟩) (.bool s6) (by dsimp only; omega) (cell_off _ _ _ 1 (.slice a5 zs.length c5) _ (cell_on _ _ _ (.bool s5) _ q0) (by decide))))
    have Gq1 := hide (cell_aside (r := ⟨w.heap.size + 1, 1, none⟩) (.slice a6 ys.length c6) (by dsimp only; omega) (cell_aside (r := ⟨w.heap.size + 1, 0, none⟩) (.bool s6) (by dsimp only; omega) (cell_on _ _ _ (.slice a5 zs.length c5) _ (cell_off _ _ _ 0 (.bool s5) _ q1 (by decide)))))
    have Gp0 := hide (cell_off _ _ _ 1 (.slice a6 ys.length c6) _ (cell_on _ _ _ (.bool s6) _ (cell_aside (r := ⟨w.heap.size, 1, none⟩) (.slice a5 zs.length c5) (by dsimp only; omega) (cell_aside (r := ⟨w.heap.size, 0, none⟩) (.bool s5) (by dsimp only; omega) p0))) (by decide))
    have Gp1 := hide (cell_on _ _ _ (.slice a6 ys.length c6) _ (cell_off _ _ _ 0 (.bool s6) _ (cell_aside (r := ⟨w.heap.size, 1, none⟩) (.slice a5 zs.length c5) (by dsimp only; omega) (cell_aside (r := ⟨w.heap.size, 0, none⟩) (.bool s5) (by dsimp only; omega) p1)) (by decide)))
    clear r5 r6 K q0 q1 p0 p1 qf0 qf1 pf0 pf1 cu
    have q0 := unhide Gq0
    have q1 := unhide Gq1
    have p0 := unhide Gp0
    have p1 := unhide Gp1
    go_wp2_with fail
    exact bodyPost_ret (v := .tuple #[.agg #[.bool s5, .slice a5 zs.length c5], .agg #[.bool s6, .slice a6 ys.length c6]]) (by simp [results, Try.results32, go_sem, q0, q1, p0, p1]) rfl ⟨_, _, _, _, _, _, rfl, unhide R1, unhide R2, unhide K7⟩
  go_wp2_with fail
  have kd := (Kept.refl 0 0 w6).drew
  first | have kk := kd.kept | have kk := kd.any (lo := g) (hi := g + 1) | have kk := kd.2
  first | replace cu := kd.drawn.1 | replace cu := cu.kept kd (by omega) | replace cu := kd.1
  replace r5 := r5.kept kk (by omega)
  replace qf0 := Kept.looseOut' kk (by dsimp only; omega) (World.block_lt_of_cell? _ _ q0) qf0
  replace qf1 := Kept.looseOut' kk (by dsimp only; omega) (World.block_lt_of_cell? _ _ q1) qf1
  replace pf0 := Kept.looseOut' kk (by dsimp only; omega) (World.block_lt_of_cell? _ _ p0) pf0
  replace pf1 := Kept.looseOut' kk (by dsimp only; omega) (World.block_lt_of_cell? _ _ p1) pf1
  replace q0 := Kept.cellOut kk (by dsimp only; omega) q0
  replace q1 := Kept.cellOut kk (by dsimp only; omega) q1
  replace p0 := Kept.cellOut kk (by dsimp only; omega) p0
  replace p1 := Kept.cellOut kk (by dsimp only; omega) p1
  replace y0 := Kept.cellOut kk (by dsimp only; omega) y0
  replace y1 := Kept.cellOut kk (by dsimp only; omega) y1
  replace K := hide (Kept.newer' (unhide K) kk (by omega))
  have z8 := kk.size
  clear kk
  clear kd
  refine wp_region_held_drew (S := (fun w' => w'.cell? ⟨Y, 0, none⟩ = some (.bool s5) ∧ w'.cell? ⟨Y, 1, none⟩ = some (.slice a5 zs.length c5))) (by kernel_rfl) ?_ (fun hHeld => ?_)
  · exact ⟨y0, y1⟩
  generalize w6.drew = wd9 at *
  refine wpAnyH_take (i := 0) (oi := _) (v := .agg #[.bool s5, .slice a5 zs.length c5]) rfl (by kernel_rfl) (by kernel_rfl) (by kernel_rfl) (fun _ _ _ h => h) (Or.inl ⟨by rfl, ?_⟩) hHeld ?_
  · intro wq hSw
    try dsimp only at hSw
    go_simp
  try simp only [Act.put, List.getElem_toArray, List.getElem_cons_succ, List.getElem_cons_zero, List.setIfInBounds_toArray, List.set_cons_zero, List.set_cons_succ]
  refine wpAnyH_take (i := 1) (oi := _) (v := .agg #[.bool s5, .slice a5 zs.length c5]) rfl (by kernel_rfl) (by kernel_rfl) (by kernel_rfl) (fun _ _ _ h => h) (Or.inl ⟨by rfl, ?_⟩) hHeld ?_
  · intro wq hSw
    try dsimp only at hSw
    go_simp
  try simp only [Act.put, List.getElem_toArray, List.getElem_cons_succ, List.getElem_cons_zero, List.setIfInBounds_toArray, List.set_cons_zero, List.set_cons_succ]
  refine wpAnyH_ready (rs := [2]) (by kernel_rfl) (by simp) ?_
  refine AllReadyH.cons rfl (fun KK hK => ?_) AllReadyH.nil
  simp only [List.getElem_toArray, List.getElem_cons_succ, List.getElem_cons_zero]
  rw [if_pos (by rfl)]
  refine wps1 52 (.tmp 13) _ rfl in_l3neg_c (.agg #[.bool s5, .slice a5 zs.length c5]) rfl (neg_free s5 _ r5 (by omega)) ?_
  rintro e w10 ⟨v6, s6, ys, rfl, r6, hl6, k10⟩
  refine ⟨_, rfl, ?_⟩
  first | have kk := k10.kept | have kk := k10.any (lo := g) (hi := g + 1) | have kk := k10.2
  first | replace cu := k10.drawn.1 | replace cu := cu.kept k10 (by omega) | replace cu := k10.1
  replace r5 := r5.kept kk (by omega)
  replace qf0 := Kept.looseOut' kk (by dsimp only; omega) (World.block_lt_of_cell? _ _ q0) qf0
  replace qf1 := Kept.looseOut' kk (by dsimp only; omega) (World.block_lt_of_cell? _ _ q1) qf1
  replace pf0 := Kept.looseOut' kk (by dsimp only; omega) (World.block_lt_of_cell? _ _ p0) pf0
  replace pf1 := Kept.looseOut' kk (by dsimp only; omega) (World.block_lt_of_cell? _ _ p1) pf1
  replace q0 := Kept.cellOut kk (by dsimp only; omega) q0
  replace q1 := Kept.cellOut kk (by dsimp only; omega) q1
  replace p0 := Kept.cellOut kk (by dsimp only; omega) p0
  replace p1 := Kept.cellOut kk (by dsimp only; omega) p1
  replace y0 := Kept.cellOut kk (by dsimp only; omega) y0
  replace y1 := Kept.cellOut kk (by dsimp only; omega) y1
  replace K := hide (Kept.newer' (unhide K) kk (by omega))
  have z11 := kk.size
  clear kk
  clear k10
  obtain ⟨a6, c6, hv⟩ := Row.form' r6
  subst hv
  clear hHeld
  refine hK.out _ _ ?_ (fun hHeld => ?_)
  · exact ⟨y0, y1⟩
  clear hK KK
  try simp only [Act.put, List.getElem_toArray, List.getElem_cons_succ, List.getElem_cons_zero, List.setIfInBounds_toArray, List.set_cons_zero, List.set_cons_succ]
  refine wpAnyH_ready (rs := [3]) (by kernel_rfl) (by simp) ?_
  refine AllReadyH.cons rfl (fun KK hK => ?_) AllReadyH.nil
  simp only [List.getElem_toArray, List.getElem_cons_succ, List.getElem_cons_zero]
  rw [if_pos (by rfl)]
  go_simp
  clear hHeld
  refine hK.out _ _ ?_ (fun hHeld => ?_)
  · exact ⟨(cell_aside _ (by dsimp only; omega) (cell_aside _ (by dsimp only; omega) y0)), (cell_aside _ (by dsimp only; omega) (cell_aside _ (by dsimp only; omega) y1))⟩
  clear hK KK
  try simp only [Act.put, List.getElem_toArray, List.getElem_cons_succ, List.getElem_cons_zero, List.setIfInBounds_toArray, List.set_cons_zero, List.set_cons_succ]
  refine wpAnyH_ready (rs := [4]) (by kernel_rfl) (by simp) ?_
  refine AllReadyH.cons rfl (fun KK hK => ?_) AllReadyH.nil
  simp only [List.getElem_toArray, List.getElem_cons_succ, List.getElem_cons_zero]
  rw [if_pos (by rfl)]
  go_simp
  clear hHeld
  refine hK.out _ _ ?_ (fun hHeld => ?_)
  · exact ⟨(cell_aside _ (by dsimp only; omega) (cell_aside _ (by dsimp only; omega) (cell_aside _ (by dsimp only; omega) (cell_aside _ (by dsimp only; omega) y0)))), (cell_aside _ (by dsimp only; omega) (cell_aside _ (by dsimp only; omega) (cell_aside _ (by dsimp only; omega) (cell_aside _ (by dsimp only; omega) y1))))⟩
  clear hK KK
  try simp only [Act.put, List.getElem_toArray, List.getElem_cons_succ, List.getElem_cons_zero, List.setIfInBounds_toArray, List.set_cons_zero, List.set_cons_succ]
  refine wpAnyH_done (by kernel_rfl) ?_ _
  clear hHeld
  have R1 := hide (((((r5.set_other (p := ⟨w.heap.size, 0, none⟩) (.inl (by dsimp only; omega)) (.bool s5)).set_other (p := ⟨w.heap.size, 1, none⟩) (.inl (by dsimp only; omega)) (.slice a5 zs.length c5)).set_other (p := ⟨w.heap.size + 1, 0, none⟩) (.inl (by dsimp only; omega)) (.bool s6)).set_other (p := ⟨w.heap.size + 1, 1, none⟩) (.inl (by dsimp only; omega)) (.slice a6 ys.length c6)).tight.wider (lo' := w.heap.size) (by omega) (Nat.le_refl _))
  have R2 := hide (((((r6.set_other (p := ⟨w.heap.size, 0, none⟩) (.inl (by dsimp only; omega)) (.bool s5)).set_other (p := ⟨w.heap.size, 1, none⟩) (.inl (by dsimp only; omega)) (.slice a5 zs.length c5)).set_other (p := ⟨w.heap.size + 1, 0, none⟩) (.inl (by dsimp only; omega)) (.bool s6)).set_other (p := ⟨w.heap.size + 1, 1, none⟩) (.inl (by dsimp only; omega)) (.slice a6 ys.length c6)).tight.wider (lo' := w.heap.size) (by omega) (Nat.le_refl _))
  have K7 := hide (((((unhide K).setNew (p := ⟨w.heap.size, 0, none⟩) (by simp) (.bool s5)).setNew (p := ⟨w.heap.size, 1, none⟩) (by simp) (.slice a5 zs.length c5)).setNew (p := ⟨w.heap.size + 1, 0, none⟩) (by simp) (.bool s6)).setNew (p := ⟨w.heap.size + 1, 1, none⟩) (by simp) (.slice a6 ys.length c6))
  have Gq0 := hide (cell_aside (r := ⟨w.heap.size + 1, 1, none⟩) (.slice a6 ys.length c6) (by dsimp only; omega) (cell_aside (r := ⟨w.heap.size + 1, 0, none⟩) (.bool s6) (by dsimp only; omega) (cell_off _ _ _ 1 (.slice a5 zs.length c5) _ (cell_on _ _ _ (.bool s5) _ q0) (by decide))))
  have Gq1 := hide (cell_aside (r := ⟨w.heap.size + 1, 1, none⟩) (.slice a6 ys.length c6) (by dsimp only; omega) (cell_aside (r := ⟨w.heap.size + 1, 0, none⟩) (.bool s6) (by dsimp only; omega) (cell_on _ _ _ (.slice a5 zs.length c5) _ (cell_off _ _ _ 0 (.bool s5) _ q1 (by decide)))))
  have Gp0 := hide (cell_off _ _ _ 1 (.slice a6 ys.length c6) _ (cell_on _ _ _ (.bool s6) _ (cell_aside (r := ⟨w.heap.size, 1, none⟩) (.slice a5 zs.length c5) (by dsimp only; omega) (cell_aside (r := ⟨w.heap.size, 0, none⟩) (.bool s5) (by dsimp only; omega) p0))) (by decide))
  have Gp1 := hide (cell_on _ _ _ (.slice a6 ys.length c6) _ (cell_off _ _ _ 0 (.bool s6) _ (cell_aside (r := ⟨w.heap.size, 1, none⟩) (.slice a5 zs.length c5) (by dsimp only; omega) (cell_aside (r := ⟨w.heap.size, 0, none⟩) (.bool s5) (by dsimp only; omega) p1)) (by decide)))
  clear r5 r6 K q0 q1 p0 p1 qf0 qf1 pf0 pf1 cu
  have q0 := unhide Gq0
  have q1 := unhide Gq1
  have p0 := unhide Gp0
  have p1 := unhide Gp1
  go_wp2_with fail
  exact bodyPost_ret (v := .tuple #[.agg #[.bool s5, .slice a5 zs.length c5], .agg #[.bool s6, .slice a6 ys.length c6]]) (by simp [results, Try.results32, go_sem, q0, q1, p0, p1]) rfl ⟨_, _, _, _, _, _, rfl, unhide R1, unhide R2, unhide K7⟩

set_option maxHeartbeats 8000000 in
theorem drawWA_any {bw : Bool} {lo hi : Nat} {v : Value} {bs : List Int} (w : World) (r : Row .u8 bw lo hi w v bs) (b : Bytes bs) :
    Calls Try.prog 14 #[v] w fun e w' => ∃ v1 s1 zs v2 s2 ys, e = .returned (.tuple #[.agg #[.bool s1, v1], .agg #[.bool s2, v2]]) ∧ Row .i64 true w.heap.size w'.heap.size w' v1 zs ∧ Row .i64 true w.heap.size w'.heap.size w' v2 ys ∧ Kept 0 0 w w' := by
  have k0 : Kept 0 0 w ((w.alloc (.cells #[.bool false, .slice none 0 0] 36)).alloc (.cells #[.bool false, .slice none 0 0] 36)) := (((Kept.refl 0 0 w).alloc (.cells #[.bool false, .slice none 0 0] 36)).alloc (.cells #[.bool false, .slice none 0 0] 36))
  have q0 : ((w.alloc (.cells #[.bool false, .slice none 0 0] 36)).alloc (.cells #[.bool false, .slice none 0 0] 36)).cell? ⟨w.heap.size, 0, none⟩ = some (.bool false) := old_cell _ (new_cell2 _ _ _ _ _ _ (by simp) rfl)
  have qf0 : ((w.alloc (.cells #[.bool false, .slice none 0 0] 36)).alloc (.cells #[.bool false, .slice none 0 0] 36)).frozen? ⟨w.heap.size, 0, none⟩ = false := loose_old (by simp <;> omega) (new_loose2 _ _ _ _ _ (by simp))
  have q1 : ((w.alloc (.cells #[.bool false, .slice none 0 0] 36)).alloc (.cells #[.bool false, .slice none 0 0] 36)).cell? ⟨w.heap.size, 1, none⟩ = some (.slice none 0 0) := old_cell _ (new_cell2 _ _ _ _ _ _ (by simp) rfl)
  have qf1 : ((w.alloc (.cells #[.bool false, .slice none 0 0] 36)).alloc (.cells #[.bool false, .slice none 0 0] 36)).frozen? ⟨w.heap.size, 1, none⟩ = false := loose_old (by simp <;> omega) (new_loose2 _ _ _ _ _ (by simp))
  have p0 : ((w.alloc (.cells #[.bool false, .slice none 0 0] 36)).alloc (.cells #[.bool false, .slice none 0 0] 36)).cell? ⟨w.heap.size + 1, 0, none⟩ = some (.bool false) := new_cell2 _ _ _ _ _ _ (by simp) rfl
  have pf0 : ((w.alloc (.cells #[.bool false, .slice none 0 0] 36)).alloc (.cells #[.bool false, .slice none 0 0] 36)).frozen? ⟨w.heap.size + 1, 0, none⟩ = false := new_loose2 _ _ _ _ _ (by simp)
  have p1 : ((w.alloc (.cells #[.bool false, .slice none 0 0] 36)).alloc (.cells #[.bool false, .slice none 0 0] 36)).cell? ⟨w.heap.size + 1, 1, none⟩ = some (.slice none 0 0) := new_cell2 _ _ _ _ _ _ (by simp) rfl
  have pf1 : ((w.alloc (.cells #[.bool false, .slice none 0 0] 36)).alloc (.cells #[.bool false, .slice none 0 0] 36)).frozen? ⟨w.heap.size + 1, 1, none⟩ = false := new_loose2 _ _ _ _ _ (by simp)
  have s0 : ((w.alloc (.cells #[.bool false, .slice none 0 0] 36)).alloc (.cells #[.bool false, .slice none 0 0] 36)).heap.size = w.heap.size + 2 := by simp
  have K := hide (k0)
  clear k0
  have S0 := hide s0
  clear s0
  replace r := r.kept (unhide K) (by omega)
  obtain ⟨a0, c0, hv⟩ := Row.form' r
  subst hv
  go_enter Try.func14, Try.ntmps14
  go_wp2_with fail
  generalize ((w.alloc (.cells #[.bool false, .slice none 0 0] 36)).alloc (.cells #[.bool false, .slice none 0 0] 36)) = W at *
  refine (drawWC_any _ r b).mono ?_
  rintro e w1 ⟨v5, s5, zs, v6, s6, ys, rfl, r5, r6, k1⟩
  replace qf0 := k1.loose0 (World.block_lt_of_cell? _ _ q0) qf0
  replace qf1 := k1.loose0 (World.block_lt_of_cell? _ _ q1) qf1
  replace pf0 := k1.loose0 (World.block_lt_of_cell? _ _ p0) pf0
  replace pf1 := k1.loose0 (World.block_lt_of_cell? _ _ p1) pf1
  replace q0 := k1.cell0 q0
  replace q1 := k1.cell0 q1
  replace p0 := k1.cell0 p0
  replace p1 := k1.cell0 p1
  replace K := hide ((unhide K).trans k1)
  have z2 := k1.size
  clear k1
  clear r
  obtain ⟨a5, c5, hv⟩ := Row.form' r5
  subst hv
  obtain ⟨a6, c6, hv⟩ := Row.form' r6
  subst hv
  have R1 := hide (((((r5.set_other (p := ⟨w.heap.size, 0, none⟩) (.inl (by have := unhide S0; dsimp only; omega)) (.bool s5)).set_other (p := ⟨w.heap.size, 1, none⟩) (.inl (by have := unhide S0; dsimp only; omega)) (.slice a5 zs.length c5)).set_other (p := ⟨w.heap.size + 1, 0, none⟩) (.inl (by have := unhide S0; dsimp only; omega)) (.bool s6)).set_other (p := ⟨w.heap.size + 1, 1, none⟩) (.inl (by have := unhide S0; dsimp only; omega)) (.slice a6 ys.length c6)).tight.wider (lo' := w.heap.size) (by have := unhide S0; omega) (Nat.le_refl _))
  have R2 := hide (((((r6.set_other (p := ⟨w.heap.size, 0, none⟩) (.inl (by have := unhide S0; dsimp only; omega)) (.bool s5)).set_other (p := ⟨w.heap.size, 1, none⟩) (.inl (by have := unhide S0; dsimp only; omega)) (.slice a5 zs.length c5)).set_other (p := ⟨w.heap.size + 1, 0, none⟩) (.inl (by have := unhide S0; dsimp only; omega)) (.bool s6)).set_other (p := ⟨w.heap.size + 1, 1, none⟩) (.inl (by have := unhide S0; dsimp only; omega)) (.slice a6 ys.length c6)).tight.wider (lo' := w.heap.size) (by have := unhide S0; omega) (Nat.le_refl _))
  have K7 := hide (((((unhide K).setNew (p := ⟨w.heap.size, 0, none⟩) (by simp) (.bool s5)).setNew (p := ⟨w.heap.size, 1, none⟩) (by simp) (.slice a5 zs.length c5)).setNew (p := ⟨w.heap.size + 1, 0, none⟩) (by simp) (.bool s6)).setNew (p := ⟨w.heap.size + 1, 1, none⟩) (by simp) (.slice a6 ys.length c6))
  obtain ⟨A0, A1, B0, B1, ks, hs⟩ := four_set (.bool s5) (.slice a5 zs.length c5) (.bool s6) (.slice a6 ys.length c6) q0 q1 p0 p1
  clear ks hs r5 r6 K
  go_wp2_with fail
  exact bodyPost_ret (v := .tuple #[.agg #[.bool s5, .slice a5 zs.length c5], .agg #[.bool s6, .slice a6 ys.length c6]]) (by simp [results, Try.results14, go_sem, A0, A1, B0, B1]) rfl ⟨_, _, _, _, _, _, rfl, unhide R1, unhide R2, unhide K7⟩

end Go.Proofs.Ytkdapefddhbjdaa
