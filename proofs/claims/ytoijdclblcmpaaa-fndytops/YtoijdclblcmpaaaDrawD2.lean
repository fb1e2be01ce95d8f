/-
  The draws of dyadic numbers: they return, whatever is drawn.
-/
import Derived.Test.YtoijdclblcmpaaaDrawD
namespace Go.Proofs.Ytoijdclblcmpaaa
open Go.RowKit
set_option linter.unusedVariables false
set_option maxRecDepth 8000
set_option linter.unusedSimpArgs false

theorem ansDE_range (c : Bool) (m x : Int) : -3000 ≤ ansDE c m x ∧ ansDE c m x ≤ 3000 := by
  unfold ansDE
  split
  · rename_i h
    unfold ansDB at h
    rw [Bool.and_eq_true] at h
    have := dok_parts h.2
    exact ⟨this.2.1, this.2.2.1⟩
  · omega

set_option maxHeartbeats 8000000 in
theorem draw4_any (g lo : Nat) (w : World) (c : Cur g lo w) :
    Calls Try.prog 139 #[.pointer (some ⟨g, 0, none⟩)] w fun e w' => ∃ v s x zs, e = .returned (.agg #[.bool s, v, .int .i64 x]) ∧ Row .i64 true w.heap.size w'.heap.size w' v zs ∧ -3000 ≤ x ∧ x ≤ 3000 ∧ Drawn g lo w w' := by
  have hg := c.1
  have D := Drawn.start c (.cells #[.bool false, .slice none 0 0, .int .i64 0] 56)
  have q0 : (w.alloc (.cells #[.bool false, .slice none 0 0, .int .i64 0] 56)).cell? ⟨w.heap.size, 0, none⟩ = some (.bool false) := new_cell2 _ _ _ _ _ _ rfl rfl
  have qf0 : (w.alloc (.cells #[.bool false, .slice none 0 0, .int .i64 0] 56)).frozen? ⟨w.heap.size, 0, none⟩ = false := new_loose2 _ _ _ _ _ rfl
  have q1 : (w.alloc (.cells #[.bool false, .slice none 0 0, .int .i64 0] 56)).cell? ⟨w.heap.size, 1, none⟩ = some (.slice none 0 0) := new_cell2 _ _ _ _ _ _ rfl rfl
  have qf1 : (w.alloc (.cells #[.bool false, .slice none 0 0, .int .i64 0] 56)).frozen? ⟨w.heap.size, 1, none⟩ = false := new_loose2 _ _ _ _ _ rfl
  have q2 : (w.alloc (.cells #[.bool false, .slice none 0 0, .int .i64 0] 56)).cell? ⟨w.heap.size, 2, none⟩ = some (.int .i64 0) := new_cell2 _ _ _ _ _ _ rfl rfl
  have qf2 : (w.alloc (.cells #[.bool false, .slice none 0 0, .int .i64 0] 56)).frozen? ⟨w.heap.size, 2, none⟩ = false := new_loose2 _ _ _ _ _ rfl
  have s0 : w.heap.size < (w.alloc (.cells #[.bool false, .slice none 0 0, .int .i64 0] 56)).heap.size := by simp
  clear c
  go_enter Try.func139, Try.ntmps139
  go_wp2_with fail
  generalize w.alloc (.cells #[.bool false, .slice none 0 0, .int .i64 0] 56) = W at *
  go_wp2_with fail
  refine (draw3_any g lo _ D.1).mono ?_
  rintro e w1 ⟨v5, s5, zs, rfl, r5, -, -, hd⟩
  have kk := hd.2
  replace D := D.trans hd
  replace qf0 := Kept.looseOut' kk (by dsimp only; omega) (World.block_lt_of_cell? _ _ q0) qf0
  replace qf1 := Kept.looseOut' kk (by dsimp only; omega) (World.block_lt_of_cell? _ _ q1) qf1
  replace qf2 := Kept.looseOut' kk (by dsimp only; omega) (World.block_lt_of_cell? _ _ q2) qf2
  replace q0 := Kept.cellOut kk (by dsimp only; omega) q0
  replace q1 := Kept.cellOut kk (by dsimp only; omega) q1
  replace q2 := Kept.cellOut kk (by dsimp only; omega) q2
  have z2 := kk.size
  clear kk hd
  obtain ⟨a5, c5, hv⟩ := Row.form' r5
  subst hv
  have kk := (Kept.refl 0 0 w1).alloc (.cells #[.bool s5, .slice a5 zs.length c5] 42)
  have y0 : (w1.alloc (.cells #[.bool s5, .slice a5 zs.length c5] 42)).cell? ⟨w1.heap.size, 0, none⟩ = some (.bool s5) := new_cell2 _ _ _ _ _ _ rfl rfl
  have yf0 : (w1.alloc (.cells #[.bool s5, .slice a5 zs.length c5] 42)).frozen? ⟨w1.heap.size, 0, none⟩ = false := new_loose2 _ _ _ _ _ rfl
  have y1 : (w1.alloc (.cells #[.bool s5, .slice a5 zs.length c5] 42)).cell? ⟨w1.heap.size, 1, none⟩ = some (.slice a5 zs.length c5) := new_cell2 _ _ _ _ _ _ rfl rfl
  have yf1 : (w1.alloc (.cells #[.bool s5, .slice a5 zs.length c5] 42)).frozen? ⟨w1.heap.size, 1, none⟩ = false := new_loose2 _ _ _ _ _ rfl
  replace D := D.keptR kk
  have yy : w1.heap.size < (w1.alloc (.cells #[.bool s5, .slice a5 zs.length c5] 42)).heap.size := by simp
  replace r5 := r5.kept kk (by omega)
  replace qf0 := Kept.looseOut' kk (by dsimp only; omega) (World.block_lt_of_cell? _ _ q0) qf0
  replace qf1 := Kept.looseOut' kk (by dsimp only; omega) (World.block_lt_of_cell? _ _ q1) qf1
  replace qf2 := Kept.looseOut' kk (by dsimp only; omega) (World.block_lt_of_cell? _ _ q2) qf2
  replace q0 := Kept.cellOut kk (by dsimp only; omega) q0
  replace q1 := Kept.cellOut kk (by dsimp only; omega) q1
  replace q2 := Kept.cellOut kk (by dsimp only; omega) q2
  have z3 := kk.size
  clear kk
  go_wp2_with fail
  generalize w1.alloc (.cells #[.bool s5, .slice a5 zs.length c5] 42) = w4 at *
  refine (l1Once_any g lo _ D.1 3).mono ?_
  rintro e w5 ⟨b1, rfl, hd⟩
  have kk := hd.kept
  replace D := D.trans hd.drawn
  replace r5 := r5.kept kk (by omega)
  replace qf0 := Kept.looseOut' kk (by dsimp only; omega) (World.block_lt_of_cell? _ _ q0) qf0
  replace qf1 := Kept.looseOut' kk (by dsimp only; omega) (World.block_lt_of_cell? _ _ q1) qf1
  replace qf2 := Kept.looseOut' kk (by dsimp only; omega) (World.block_lt_of_cell? _ _ q2) qf2
  replace yf0 := Kept.looseOut' kk (by dsimp only; omega) (World.block_lt_of_cell? _ _ y0) yf0
  replace yf1 := Kept.looseOut' kk (by dsimp only; omega) (World.block_lt_of_cell? _ _ y1) yf1
  replace q0 := Kept.cellOut kk (by dsimp only; omega) q0
  replace q1 := Kept.cellOut kk (by dsimp only; omega) q1
  replace q2 := Kept.cellOut kk (by dsimp only; omega) q2
  replace y0 := Kept.cellOut kk (by dsimp only; omega) y0
  replace y1 := Kept.cellOut kk (by dsimp only; omega) y1
  have z6 := kk.size
  clear kk hd
  cases b1
  · go_wp2_with fail
    refine (l1Below_any g lo _ D.1 24).mono ?_
    rintro e w7 ⟨x, rfl, -, hbx, hd⟩
    have kk := hd.kept
    replace D := D.trans hd.drawn
    replace hbx := hbx (by decide)
    replace r5 := r5.kept kk (by omega)
    replace qf0 := Kept.looseOut' kk (by dsimp only; omega) (World.block_lt_of_cell? _ _ q0) qf0
    replace qf1 := Kept.looseOut' kk (by dsimp only; omega) (World.block_lt_of_cell? _ _ q1) qf1
    replace qf2 := Kept.looseOut' kk (by dsimp only; omega) (World.block_lt_of_cell? _ _ q2) qf2
    replace yf0 := Kept.looseOut' kk (by dsimp only; omega) (World.block_lt_of_cell? _ _ y0) yf0
    replace yf1 := Kept.looseOut' kk (by dsimp only; omega) (World.block_lt_of_cell? _ _ y1) yf1
    replace q0 := Kept.cellOut kk (by dsimp only; omega) q0
    replace q1 := Kept.cellOut kk (by dsimp only; omega) q1
    replace q2 := Kept.cellOut kk (by dsimp only; omega) q2
    replace y0 := Kept.cellOut kk (by dsimp only; omega) y0
    replace y1 := Kept.cellOut kk (by dsimp only; omega) y1
    have z8 := kk.size
    clear kk hd
    have hwx : IntKind.i64.wrap (x - 12) = x - 12 := w64 _ (by omega) (by omega)
    go_wp2_with fail
    refine (l1Once_any g lo _ D.1 6).mono ?_
    rintro e w9 ⟨b3, rfl, hd⟩
    have kk := hd.kept
    replace D := D.trans hd.drawn
    replace r5 := r5.kept kk (by omega)
    replace qf0 := Kept.looseOut' kk (by dsimp only; omega) (World.block_lt_of_cell? _ _ q0) qf0
    replace qf1 := Kept.looseOut' kk (by dsimp only; omega) (World.block_lt_of_cell? _ _ q1) qf1
    replace qf2 := Kept.looseOut' kk (by dsimp only; omega) (World.block_lt_of_cell? _ _ q2) qf2
    replace yf0 := Kept.looseOut' kk (by dsimp only; omega) (World.block_lt_of_cell? _ _ y0) yf0
    replace yf1 := Kept.looseOut' kk (by dsimp only; omega) (World.block_lt_of_cell? _ _ y1) yf1
    replace q0 := Kept.cellOut kk (by dsimp only; omega) q0
    replace q1 := Kept.cellOut kk (by dsimp only; omega) q1
    replace q2 := Kept.cellOut kk (by dsimp only; omega) q2
    replace y0 := Kept.cellOut kk (by dsimp only; omega) y0
    replace y1 := Kept.cellOut kk (by dsimp only; omega) y1
    have z10 := kk.size
    clear kk hd
    cases b3
    · go_wp2_with fail
      refine (dof_spec s5 (x - 12) _ r5).mono ?_
      rintro e w11 ⟨v9, rfl, r9, kk⟩
      have gr := ansDE_range (wokB s5 zs && l4eB (x - 12)) (wval s5 zs) (x - 12)
      replace D := D.keptR kk
      replace r5 := r5.kept kk (by omega)
      replace qf0 := Kept.looseOut' kk (by dsimp only; omega) (World.block_lt_of_cell? _ _ q0) qf0
      replace qf1 := Kept.looseOut' kk (by dsimp only; omega) (World.block_lt_of_cell? _ _ q1) qf1
      replace qf2 := Kept.looseOut' kk (by dsimp only; omega) (World.block_lt_of_cell? _ _ q2) qf2
      replace yf0 := Kept.looseOut' kk (by dsimp only; omega) (World.block_lt_of_cell? _ _ y0) yf0
      replace yf1 := Kept.looseOut' kk (by dsimp only; omega) (World.block_lt_of_cell? _ _ y1) yf1
      replace q0 := Kept.cellOut kk (by dsimp only; omega) q0
      replace q1 := Kept.cellOut kk (by dsimp only; omega) q1
      replace q2 := Kept.cellOut kk (by dsimp only; omega) q2
      replace y0 := Kept.cellOut kk (by dsimp only; omega) y0
      replace y1 := Kept.cellOut kk (by dsimp only; omega) y1
      have z12 := kk.size
      clear kk
      generalize ansDS (wokB s5 zs && l4eB (x - 12)) (wval s5 zs) (x - 12) = GS at *
      generalize ansDL (wokB s5 zs && l4eB (x - 12)) (wval s5 zs) (x - 12) = GL at *
      generalize ansDE (wokB s5 zs && l4eB (x - 12)) (wval s5 zs) (x - 12) = GE at *
      generalize ansDB (wokB s5 zs && l4eB (x - 12)) (wval s5 zs) (x - 12) = GB at *
      obtain ⟨a9, c9, hv⟩ := Row.form' r9
      subst hv
      cases GB
      · have kk := (Kept.refl 0 0 w11).alloc (.cells #[.bool GS, .slice a9 GL.length c9, .int .i64 GE] 56)
        have u0 : (w11.alloc (.cells #[.bool GS, .slice a9 GL.length c9, .int .i64 GE] 56)).cell? ⟨w11.heap.size, 0, none⟩ = some (.bool GS) := new_cell2 _ _ _ _ _ _ rfl rfl
        have u1 : (w11.alloc (.cells #[.bool GS, .slice a9 GL.length c9, .int .i64 GE] 56)).cell? ⟨w11.heap.size, 1, none⟩ = some (.slice a9 GL.length c9) := new_cell2 _ _ _ _ _ _ rfl rfl
        have u2 : (w11.alloc (.cells #[.bool GS, .slice a9 GL.length c9, .int .i64 GE] 56)).cell? ⟨w11.heap.size, 2, none⟩ = some (.int .i64 GE) := new_cell2 _ _ _ _ _ _ rfl rfl
        replace D := D.keptR kk
        replace r5 := r5.kept kk (by omega)
        replace r9 := r9.kept kk (by omega)
        replace qf0 := Kept.looseOut' kk (by dsimp only; omega) (World.block_lt_of_cell? _ _ q0) qf0
        replace qf1 := Kept.looseOut' kk (by dsimp only; omega) (World.block_lt_of_cell? _ _ q1) qf1
        replace qf2 := Kept.looseOut' kk (by dsimp only; omega) (World.block_lt_of_cell? _ _ q2) qf2
        replace yf0 := Kept.looseOut' kk (by dsimp only; omega) (World.block_lt_of_cell? _ _ y0) yf0
        replace yf1 := Kept.looseOut' kk (by dsimp only; omega) (World.block_lt_of_cell? _ _ y1) yf1
        replace q0 := Kept.cellOut kk (by dsimp only; omega) q0
        replace q1 := Kept.cellOut kk (by dsimp only; omega) q1
        replace q2 := Kept.cellOut kk (by dsimp only; omega) q2
        replace y0 := Kept.cellOut kk (by dsimp only; omega) y0
        replace y1 := Kept.cellOut kk (by dsimp only; omega) y1
        have z13 := kk.size
        clear kk
        have DD := hide (((D.set (p := ⟨w.heap.size, 0, none⟩) hg (Nat.le_refl _) (.bool false)).set (p := ⟨w.heap.size, 1, none⟩) hg (Nat.le_refl _) (.slice none 0 0)).set (p := ⟨w.heap.size, 2, none⟩) hg (Nat.le_refl _) (.int .i64 0))
        clear r5 r9 D 
        go_wp2_with fail
        exact bodyPost_ret (v := .agg #[.bool false, .slice none 0 0, .int .i64 0]) (by simp [results, Try.results139, go_sem, q0, q1, q2]) rfl ⟨_, _, _, [], rfl, Row.nil _ _ _ _ _, by omega, by omega, unhide DD⟩
      · have kk := (Kept.refl 0 0 w11).alloc (.cells #[.bool GS, .slice a9 GL.length c9, .int .i64 GE] 56)
        have u0 : (w11.alloc (.cells #[.bool GS, .slice a9 GL.length c9, .int .i64 GE] 56)).cell? ⟨w11.heap.size, 0, none⟩ = some (.bool GS) := new_cell2 _ _ _ _ _ _ rfl rfl
        have u1 : (w11.alloc (.cells #[.bool GS, .slice a9 GL.length c9, .int .i64 GE] 56)).cell? ⟨w11.heap.size, 1, none⟩ = some (.slice a9 GL.length c9) := new_cell2 _ _ _ _ _ _ rfl rfl
        have u2 : (w11.alloc (.cells #[.bool GS, .slice a9 GL.length c9, .int .i64 GE] 56)).cell? ⟨w11.heap.size, 2, none⟩ = some (.int .i64 GE) := new_cell2 _ _ _ _ _ _ rfl rfl
        replace D := D.keptR kk
        replace r5 := r5.kept kk (by omega)
        replace r9 := r9.kept kk (by omega)
        replace qf0 := Kept.looseOut' kk (by dsimp only; omega) (World.block_lt_of_cell? _ _ q0) qf0
        replace qf1 := Kept.looseOut' kk (by dsimp only; omega) (World.block_lt_of_cell? _ _ q1) qf1
        replace qf2 := Kept.looseOut' kk (by dsimp only; omega) (World.block_lt_of_cell? _ _ q2) qf2
        replace yf0 := Kept.looseOut' kk (by dsimp only; omega) (World.block_lt_of_cell? _ _ y0) yf0
        replace yf1 := Kept.looseOut' kk (by dsimp only; omega) (World.block_lt_of_cell? _ _ y1) yf1
        replace q0 := Kept.cellOut kk (by dsimp only; omega) q0
        replace q1 := Kept.cellOut kk (by dsimp only; omega) q1
        replace q2 := Kept.cellOut kk (by dsimp only; omega) q2
        replace y0 := Kept.cellOut kk (by dsimp only; omega) y0
        replace y1 := Kept.cellOut kk (by dsimp only; omega) y1
        have z13 := kk.size
        clear kk
        have R := hide ((((r9.set_other (p := ⟨w.heap.size, 0, none⟩) (.inl (by dsimp only; omega)) (.bool GS)).set_other (p := ⟨w.heap.size, 1, none⟩) (.inl (by dsimp only; omega)) (.slice a9 GL.length c9)).set_other (p := ⟨w.heap.size, 2, none⟩) (.inl (by dsimp only; omega)) (.int .i64 GE)).tight.wider (lo' := w.heap.size) (by omega) (Nat.le_refl _))
        have DD := hide (((D.set (p := ⟨w.heap.size, 0, none⟩) hg (Nat.le_refl _) (.bool GS)).set (p := ⟨w.heap.size, 1, none⟩) hg (Nat.le_refl _) (.slice a9 GL.length c9)).set (p := ⟨w.heap.size, 2, none⟩) hg (Nat.le_refl _) (.int .i64 GE))
        clear r5 r9 D 
        go_wp2_with fail
        exact bodyPost_ret (v := .agg #[.bool GS, .slice a9 GL.length c9, .int .i64 GE]) (by simp [results, Try.results139, go_sem, q0, q1, q2]) rfl ⟨_, _, _, _, rfl, unhide R, by omega, by omega, unhide DD⟩
    · go_wp2_with fail
      have hr := Row.lit .i64 w9 3 [0, -60, 60, -1074, 900, -2990, 2990, -100] (by simp [maxLen])
      have gW : g < w9.heap.size := D.1.1
      refine (l1PickInt_any g lo _ (D.1.kept ((Kept.refl 0 0 w9).alloc _) (by omega)) hr (by simp) (by omega)).mono ?_
      rintro e w11 ⟨x2, rfl, hxx2, hd⟩
      have hbx2 : -2990 ≤ x2 ∧ x2 ≤ 2990 := by
        simp only [List.mem_cons, List.not_mem_nil, or_false] at hxx2
        omega
      have kk := (((Kept.refl 0 0 w9).alloc (.cells ([0, -60, 60, -1074, 900, -2990, 2990, -100].map (Value.int .i64)).toArray 3)).any (lo := g) (hi := g + 1)).trans hd.2.1
      replace D : Drawn g lo w w11 := ⟨hd.1, D.2.trans kk⟩
      replace r5 := r5.kept kk (by omega)
      replace qf0 := Kept.looseOut' kk (by dsimp only; omega) (World.block_lt_of_cell? _ _ q0) qf0
      replace qf1 := Kept.looseOut' kk (by dsimp only; omega) (World.block_lt_of_cell? _ _ q1) qf1
      replace qf2 := Kept.looseOut' kk (by dsimp only; omega) (World.block_lt_of_cell? _ _ q2) qf2
      replace yf0 := Kept.looseOut' kk (by dsimp only; omega) (World.block_lt_of_cell? _ _ y0) yf0
      replace yf1 := Kept.looseOut' kk (by dsimp only; omega) (World.block_lt_of_cell? _ _ y1) yf1
      replace q0 := Kept.cellOut kk (by dsimp only; omega) q0
      replace q1 := Kept.cellOut kk (by dsimp only; omega) q1
      replace q2 := Kept.cellOut kk (by dsimp only; omega) q2
      replace y0 := Kept.cellOut kk (by dsimp only; omega) y0
      replace y1 := Kept.cellOut kk (by dsimp only; omega) y1
      have z12 := kk.size
      clear kk hd hr gW hxx2
      go_wp2_with fail
      refine (dof_spec s5 (x2) _ r5).mono ?_
      rintro e w13 ⟨v9, rfl, r9, kk⟩
      have gr := ansDE_range (wokB s5 zs && l4eB (x2)) (wval s5 zs) (x2)
      replace D := D.keptR kk
      replace r5 := r5.kept kk (by omega)
      replace qf0 := Kept.looseOut' kk (by dsimp only; omega) (World.block_lt_of_cell? _ _ q0) qf0
      replace qf1 := Kept.looseOut' kk (by dsimp only; omega) (World.block_lt_of_cell? _ _ q1) qf1
      replace qf2 := Kept.looseOut' kk (by dsimp only; omega) (World.block_lt_of_cell? _ _ q2) qf2
      replace yf0 := Kept.looseOut' kk (by dsimp only; omega) (World.block_lt_of_cell? _ _ y0) yf0
      replace yf1 := Kept.looseOut' kk (by dsimp only; omega) (World.block_lt_of_cell? _ _ y1) yf1
      replace q0 := Kept.cellOut kk (by dsimp only; omega) q0
      replace q1 := Kept.cellOut kk (by dsimp only; omega) q1
      replace q2 := Kept.cellOut kk (by dsimp only; omega) q2
      replace y0 := Kept.cellOut kk (by dsimp only; omega) y0
      replace y1 := Kept.cellOut kk (by dsimp only; omega) y1
      have z14 := kk.size
      clear kk
      generalize ansDS (wokB s5 zs && l4eB (x2)) (wval s5 zs) (x2) = GS at *
      generalize ansDL (wokB s5 zs && l4eB (x2)) (wval s5 zs) (x2) = GL at *
      generalize ansDE (wokB s5 zs && l4eB (x2)) (wval s5 zs) (x2) = GE at *
      generalize ansDB (wokB s5 zs && l4eB (x2)) (wval s5 zs) (x2) = GB at *
      obtain ⟨a9, c9, hv⟩ := Row.form' r9
      subst hv
      cases GB
      · have kk := (Kept.refl 0 0 w13).alloc (.cells #[.bool GS, .slice a9 GL.length c9, .int .i64 GE] 56)
        have u0 : (w13.alloc (.cells #[.bool GS, .slice a9 GL.length c9, .int .i64 GE] 56)).cell? ⟨w13.heap.size, 0, none⟩ = some (.bool GS) := new_cell2 _ _ _ _ _ _ rfl rfl
        have u1 : (w13.alloc (.cells #[.bool GS, .slice a9 GL.length c9, .int .i64 GE] 56)).cell? ⟨w13.heap.size, 1, none⟩ = some (.slice a9 GL.length c9) := new_cell2 _ _ _ _ _ _ rfl rfl
        have u2 : (w13.alloc (.cells #[.bool GS, .slice a9 GL.length c9, .int .i64 GE] 56)).cell? ⟨w13.heap.size, 2, none⟩ = some (.int .i64 GE) := new_cell2 _ _ _ _ _ _ rfl rfl
        replace D := D.keptR kk
        replace r5 := r5.kept kk (by omega)
        replace r9 := r9.kept kk (by omega)
        replace qf0 := Kept.looseOut' kk (by dsimp only; omega) (World.block_lt_of_cell? _ _ q0) qf0
        replace qf1 := Kept.looseOut' kk (by dsimp only; omega) (World.block_lt_of_cell? _ _ q1) qf1
        replace qf2 := Kept.looseOut' kk (by dsimp only; omega) (World.block_lt_of_cell? _ _ q2) qf2
        replace yf0 := Kept.looseOut' kk (by dsimp only; omega) (World.block_lt_of_cell? _ _ y0) yf0
        replace yf1 := Kept.looseOut' kk (by dsimp only; omega) (World.block_lt_of_cell? _ _ y1) yf1
        replace q0 := Kept.cellOut kk (by dsimp only; omega) q0
        replace q1 := Kept.cellOut kk (by dsimp only; omega) q1
        replace q2 := Kept.cellOut kk (by dsimp only; omega) q2
        replace y0 := Kept.cellOut kk (by dsimp only; omega) y0
        replace y1 := Kept.cellOut kk (by dsimp only; omega) y1
        have z15 := kk.size
        clear kk
        have DD := hide (((D.set (p := ⟨w.heap.size, 0, none⟩) hg (Nat.le_refl _) (.bool false)).set (p := ⟨w.heap.size, 1, none⟩) hg (Nat.le_refl _) (.slice none 0 0)).set (p := ⟨w.heap.size, 2, none⟩) hg (Nat.le_refl _) (.int .i64 0))
        clear r5 r9 D 
        go_wp2_with fail
        exact bodyPost_ret (v := .agg #[.bool false, .slice none 0 0, .int .i64 0]) (by simp [results, Try.results139, go_sem, q0, q1, q2]) rfl ⟨_, _, _, [], rfl, Row.nil _ _ _ _ _, by omega, by omega, unhide DD⟩
      · have kk := (Kept.refl 0 0 w13).alloc (.cells #[.bool GS, .slice a9 GL.length c9, .int .i64 GE] 56)
        have u0 : (w13.alloc (.cells #[.bool GS, .slice a9 GL.length c9, .int .i64 GE] 56)).cell? ⟨w13.heap.size, 0, none⟩ = some (.bool GS) := new_cell2 _ _ _ _ _ _ rfl rfl
        have u1 : (w13.alloc (.cells #[.bool GS, .slice a9 GL.length c9, .int .i64 GE] 56)).cell? ⟨w13.heap.size, 1, none⟩ = some (.slice a9 GL.length c9) := new_cell2 _ _ _ _ _ _ rfl rfl
        have u2 : (w13.alloc (.cells #[.bool GS, .slice a9 GL.length c9, .int .i64 GE] 56)).cell? ⟨w13.heap.size, 2, none⟩ = some (.int .i64 GE) := new_cell2 _ _ _ _ _ _ rfl rfl
        replace D := D.keptR kk
        replace r5 := r5.kept kk (by omega)
        replace r9 := r9.kept kk (by omega)
        replace qf0 := Kept.looseOut' kk (by dsimp only; omega) (World.block_lt_of_cell? _ _ q0) qf0
        replace qf1 := Kept.looseOut' kk (by dsimp only; omega) (World.block_lt_of_cell? _ _ q1) qf1
        replace qf2 := Kept.looseOut' kk (by dsimp only; omega) (World.block_lt_of_cell? _ _ q2) qf2
        replace yf0 := Kept.looseOut' kk (by dsimp only; omega) (World.block_lt_of_cell? _ _ y0) yf0
        replace yf1 := Kept.looseOut' kk (by dsimp only; omega) (World.block_lt_of_cell? _ _ y1) yf1
        replace q0 := Kept.cellOut kk (by dsimp only; omega) q0
        replace q1 := Kept.cellOut kk (by dsimp only; omega) q1
        replace q2 := Kept.cellOut kk (by dsimp only; omega) q2
        replace y0 := Kept.cellOut kk (by dsimp only; omega) y0
        replace y1 := Kept.cellOut kk (by dsimp only; omega) y1
        have z15 := kk.size
        clear kk
        have R := hide ((((r9.set_other (p := ⟨w.heap.size, 0, none⟩) (.inl (by dsimp only; omega)) (.bool GS)).set_other (p := ⟨w.heap.size, 1, none⟩) (.inl (by dsimp only; omega)) (.slice a9 GL.length c9)).set_other (p := ⟨w.heap.size, 2, none⟩) (.inl (by dsimp only; omega)) (.int .i64 GE)).tight.wider (lo' := w.heap.size) (by omega) (Nat.le_refl _))
        have DD := hide (((D.set (p := ⟨w.heap.size, 0, none⟩) hg (Nat.le_refl _) (.bool GS)).set (p := ⟨w.heap.size, 1, none⟩) hg (Nat.le_refl _) (.slice a9 GL.length c9)).set (p := ⟨w.heap.size, 2, none⟩) hg (Nat.le_refl _) (.int .i64 GE))
        clear r5 r9 D 
        go_wp2_with fail
        exact bodyPost_ret (v := .agg #[.bool GS, .slice a9 GL.length c9, .int .i64 GE]) (by simp [results, Try.results139, go_sem, q0, q1, q2]) rfl ⟨_, _, _, _, rfl, unhide R, by omega, by omega, unhide DD⟩
  · go_wp2_with fail
    refine (l1Below_any g lo _ D.1 40).mono ?_
    rintro e w7 ⟨n, rfl, -, hbn, hd⟩
    have kk := hd.kept
    replace D := D.trans hd.drawn
    replace hbn := hbn (by decide)
    replace r5 := r5.kept kk (by omega)
    replace qf0 := Kept.looseOut' kk (by dsimp only; omega) (World.block_lt_of_cell? _ _ q0) qf0
    replace qf1 := Kept.looseOut' kk (by dsimp only; omega) (World.block_lt_of_cell? _ _ q1) qf1
    replace qf2 := Kept.looseOut' kk (by dsimp only; omega) (World.block_lt_of_cell? _ _ q2) qf2
    replace yf0 := Kept.looseOut' kk (by dsimp only; omega) (World.block_lt_of_cell? _ _ y0) yf0
    replace yf1 := Kept.looseOut' kk (by dsimp only; omega) (World.block_lt_of_cell? _ _ y1) yf1
    replace q0 := Kept.cellOut kk (by dsimp only; omega) q0
    replace q1 := Kept.cellOut kk (by dsimp only; omega) q1
    replace q2 := Kept.cellOut kk (by dsimp only; omega) q2
    replace y0 := Kept.cellOut kk (by dsimp only; omega) y0
    replace y1 := Kept.cellOut kk (by dsimp only; omega) y1
    have z8 := kk.size
    clear kk hd
    have hwn : IntKind.i64.wrap (n - 20) = n - 20 := w64 _ (by omega) (by omega)
    go_wp2_with fail
    refine (of3_spec (n - 20) (by omega) (by omega) _).mono ?_
    rintro e w9 ⟨v6, rfl, r6, kk⟩
    replace D := D.keptR kk
    replace r5 := r5.kept kk (by omega)
    replace qf0 := Kept.looseOut' kk (by dsimp only; omega) (World.block_lt_of_cell? _ _ q0) qf0
    replace qf1 := Kept.looseOut' kk (by dsimp only; omega) (World.block_lt_of_cell? _ _ q1) qf1
    replace qf2 := Kept.looseOut' kk (by dsimp only; omega) (World.block_lt_of_cell? _ _ q2) qf2
    replace yf0 := Kept.looseOut' kk (by dsimp only; omega) (World.block_lt_of_cell? _ _ y0) yf0
    replace yf1 := Kept.looseOut' kk (by dsimp only; omega) (World.block_lt_of_cell? _ _ y1) yf1
    replace q0 := Kept.cellOut kk (by dsimp only; omega) q0
    replace q1 := Kept.cellOut kk (by dsimp only; omega) q1
    replace q2 := Kept.cellOut kk (by dsimp only; omega) q2
    replace y0 := Kept.cellOut kk (by dsimp only; omega) y0
    replace y1 := Kept.cellOut kk (by dsimp only; omega) y1
    have z10 := kk.size
    clear kk
    generalize wlm (n - 20) = zn at *
    generalize wsg (n - 20) = sn at *
    obtain ⟨a6, c6, hv⟩ := Row.form' r6
    subst hv
    go_wp2_with fail
    replace D := D.set (p := ⟨w1.heap.size, 0, none⟩) (by dsimp only; omega) (by dsimp only; omega) (.bool sn)
    replace r5 := r5.set_other (p := ⟨w1.heap.size, 0, none⟩) (by dsimp only; omega) (.bool sn)
    replace r6 := r6.set_other (p := ⟨w1.heap.size, 0, none⟩) (by dsimp only; omega) (.bool sn)
    replace q0 := cell_aside (.bool sn) (r := ⟨w1.heap.size, 0, none⟩) (by dsimp only; omega) q0
    replace q1 := cell_aside (.bool sn) (r := ⟨w1.heap.size, 0, none⟩) (by dsimp only; omega) q1
    replace q2 := cell_aside (.bool sn) (r := ⟨w1.heap.size, 0, none⟩) (by dsimp only; omega) q2
    replace y0 : (w9.setCell ⟨w1.heap.size, 0, none⟩ (.bool sn)).cell? ⟨w1.heap.size, 0, none⟩ = some (.bool sn) := cell_on _ _ _ _ _ y0
    replace y1 := cell_off _ _ _ 0 (.bool sn) _ y1 (by decide)
    replace qf0 : (w9.setCell ⟨w1.heap.size, 0, none⟩ (.bool sn)).frozen? _ = false := (frozen_set _ _ _ _ _).trans qf0
    replace qf1 : (w9.setCell ⟨w1.heap.size, 0, none⟩ (.bool sn)).frozen? _ = false := (frozen_set _ _ _ _ _).trans qf1
    replace qf2 : (w9.setCell ⟨w1.heap.size, 0, none⟩ (.bool sn)).frozen? _ = false := (frozen_set _ _ _ _ _).trans qf2
    replace yf0 : (w9.setCell ⟨w1.heap.size, 0, none⟩ (.bool sn)).frozen? _ = false := (frozen_set _ _ _ _ _).trans yf0
    replace yf1 : (w9.setCell ⟨w1.heap.size, 0, none⟩ (.bool sn)).frozen? _ = false := (frozen_set _ _ _ _ _).trans yf1
    have z11 : (w9.setCell ⟨w1.heap.size, 0, none⟩ (.bool sn)).heap.size = w9.heap.size := size_set _ _ _
    replace z11 := Nat.le_of_eq z11.symm
    replace D := D.set (p := ⟨w1.heap.size, 1, none⟩) (by dsimp only; omega) (by dsimp only; omega) (.slice a6 zn.length c6)
    replace r5 := r5.set_other (p := ⟨w1.heap.size, 1, none⟩) (by dsimp only; omega) (.slice a6 zn.length c6)
    replace r6 := r6.set_other (p := ⟨w1.heap.size, 1, none⟩) (by dsimp only; omega) (.slice a6 zn.length c6)
    replace q0 := cell_aside (.slice a6 zn.length c6) (r := ⟨w1.heap.size, 1, none⟩) (by dsimp only; omega) q0
    replace q1 := cell_aside (.slice a6 zn.length c6) (r := ⟨w1.heap.size, 1, none⟩) (by dsimp only; omega) q1
    replace q2 := cell_aside (.slice a6 zn.length c6) (r := ⟨w1.heap.size, 1, none⟩) (by dsimp only; omega) q2
    replace y0 := cell_off _ _ _ 1 (.slice a6 zn.length c6) _ y0 (by decide)
    replace y1 : ((w9.setCell ⟨w1.heap.size, 0, none⟩ (.bool sn)).setCell ⟨w1.heap.size, 1, none⟩ (.slice a6 zn.length c6)).cell? ⟨w1.heap.size, 1, none⟩ = some (.slice a6 zn.length c6) := cell_on _ _ _ _ _ y1
    replace qf0 : ((w9.setCell ⟨w1.heap.size, 0, none⟩ (.bool sn)).setCell ⟨w1.heap.size, 1, none⟩ (.slice a6 zn.length c6)).frozen? _ = false := (frozen_set _ _ _ _ _).trans qf0
    replace qf1 : ((w9.setCell ⟨w1.heap.size, 0, none⟩ (.bool sn)).setCell ⟨w1.heap.size, 1, none⟩ (.slice a6 zn.length c6)).frozen? _ = false := (frozen_set _ _ _ _ _).trans qf1
    replace qf2 : ((w9.setCell ⟨w1.heap.size, 0, none⟩ (.bool sn)).setCell ⟨w1.heap.size, 1, none⟩ (.slice a6 zn.length c6)).frozen? _ = false := (frozen_set _ _ _ _ _).trans qf2
    replace yf0 : ((w9.setCell ⟨w1.heap.size, 0, none⟩ (.bool sn)).setCell ⟨w1.heap.size, 1, none⟩ (.slice a6 zn.length c6)).frozen? _ = false := (frozen_set _ _ _ _ _).trans yf0
    replace yf1 : ((w9.setCell ⟨w1.heap.size, 0, none⟩ (.bool sn)).setCell ⟨w1.heap.size, 1, none⟩ (.slice a6 zn.length c6)).frozen? _ = false := (frozen_set _ _ _ _ _).trans yf1
    have z12 : ((w9.setCell ⟨w1.heap.size, 0, none⟩ (.bool sn)).setCell ⟨w1.heap.size, 1, none⟩ (.slice a6 zn.length c6)).heap.size = (w9.setCell ⟨w1.heap.size, 0, none⟩ (.bool sn)).heap.size := size_set _ _ _
    replace z12 := Nat.le_of_eq z12.symm
    generalize ((w9.setCell ⟨w1.heap.size, 0, none⟩ (.bool sn)).setCell ⟨w1.heap.size, 1, none⟩ (.slice a6 zn.length c6)) = w13 at *
    refine (l1Below_any g lo _ D.1 24).mono ?_
    rintro e w14 ⟨x, rfl, -, hbx, hd⟩
    have kk := hd.kept
    replace D := D.trans hd.drawn
    replace hbx := hbx (by decide)
    replace r5 := r5.kept kk (by omega)
    replace r6 := r6.kept kk (by omega)
    replace qf0 := Kept.looseOut' kk (by dsimp only; omega) (World.block_lt_of_cell? _ _ q0) qf0
    replace qf1 := Kept.looseOut' kk (by dsimp only; omega) (World.block_lt_of_cell? _ _ q1) qf1
    replace qf2 := Kept.looseOut' kk (by dsimp only; omega) (World.block_lt_of_cell? _ _ q2) qf2
    replace yf0 := Kept.looseOut' kk (by dsimp only; omega) (World.block_lt_of_cell? _ _ y0) yf0
    replace yf1 := Kept.looseOut' kk (by dsimp only; omega) (World.block_lt_of_cell? _ _ y1) yf1
    replace q0 := Kept.cellOut kk (by dsimp only; omega) q0
    replace q1 := Kept.cellOut kk (by dsimp only; omega) q1
    replace q2 := Kept.cellOut kk (by dsimp only; omega) q2
    replace y0 := Kept.cellOut kk (by dsimp only; omega) y0
    replace y1 := Kept.cellOut kk (by dsimp only; omega) y1
    have z15 := kk.size
    clear kk hd
    have hwx : IntKind.i64.wrap (x - 12) = x - 12 := w64 _ (by omega) (by omega)
    go_wp2_with fail
    refine (l1Once_any g lo _ D.1 6).mono ?_
    rintro e w16 ⟨b3, rfl, hd⟩
    have kk := hd.kept
    replace D := D.trans hd.drawn
    replace r5 := r5.kept kk (by omega)
    replace r6 := r6.kept kk (by omega)
    replace qf0 := Kept.looseOut' kk (by dsimp only; omega) (World.block_lt_of_cell? _ _ q0) qf0
    replace qf1 := Kept.looseOut' kk (by dsimp only; omega) (World.block_lt_of_cell? _ _ q1) qf1
    replace qf2 := Kept.looseOut' kk (by dsimp only; omega) (World.block_lt_of_cell? _ _ q2) qf2
    replace yf0 := Kept.looseOut' kk (by dsimp only; omega) (World.block_lt_of_cell? _ _ y0) yf0
    replace yf1 := Kept.looseOut' kk (by dsimp only; omega) (World.block_lt_of_cell? _ _ y1) yf1
    replace q0 := Kept.cellOut kk (by dsimp only; omega) q0
    replace q1 := Kept.cellOut kk (by dsimp only; omega) q1
    replace q2 := Kept.cellOut kk (by dsimp only; omega) q2
    replace y0 := Kept.cellOut kk (by dsimp only; omega) y0
    replace y1 := Kept.cellOut kk (by dsimp only; omega) y1
    have z17 := kk.size
    clear kk hd
    cases b3
    · go_wp2_with fail
      refine (dof_spec sn (x - 12) _ r6).mono ?_
      rintro e w18 ⟨v9, rfl, r9, kk⟩
      have gr := ansDE_range (wokB sn zn && l4eB (x - 12)) (wval sn zn) (x - 12)
      replace D := D.keptR kk
      replace r5 := r5.kept kk (by omega)
      replace r6 := r6.kept kk (by omega)
      replace qf0 := Kept.looseOut' kk (by dsimp only; omega) (World.block_lt_of_cell? _ _ q0) qf0
      replace qf1 := Kept.looseOut' kk (by dsimp only; omega) (World.block_lt_of_cell? _ _ q1) qf1
      replace qf2 := Kept.looseOut' kk (by dsimp only; omega) (World.block_lt_of_cell? _ _ q2) qf2
      replace yf0 := Kept.looseOut' kk (by dsimp only; omega) (World.block_lt_of_cell? _ _ y0) yf0
      replace yf1 := Kept.looseOut' kk (by dsimp only; omega) (World.block_lt_of_cell? _ _ y1) yf1
      replace q0 := Kept.cellOut kk (by dsimp only; omega) q0
      replace q1 := Kept.cellOut kk (by dsimp only; omega) q1
      replace q2 := Kept.cellOut kk (by dsimp only; omega) q2
      replace y0 := Kept.cellOut kk (by dsimp only; omega) y0
      replace y1 := Kept.cellOut kk (by dsimp only; omega) y1
      have z19 := kk.size
      clear kk
      generalize ansDS (wokB sn zn && l4eB (x - 12)) (wval sn zn) (x - 12) = GS at *
      generalize ansDL (wokB sn zn && l4eB (x - 12)) (wval sn zn) (x - 12) = GL at *
      generalize ansDE (wokB sn zn && l4eB (x - 12)) (wval sn zn) (x - 12) = GE at *
      generalize ansDB (wokB sn zn && l4eB (x - 12)) (wval sn zn) (x - 12) = GB at *
      obtain ⟨a9, c9, hv⟩ := Row.form' r9
      subst hv
      cases GB
      · have kk := (Kept.refl 0 0 w18).alloc (.cells #[.bool GS, .slice a9 GL.length c9, .int .i64 GE] 56)
        have u0 : (w18.alloc (.cells #[.bool GS, .slice a9 GL.length c9, .int .i64 GE] 56)).cell? ⟨w18.heap.size, 0, none⟩ = some (.bool GS) := new_cell2 _ _ _ _ _ _ rfl rfl
        have u1 : (w18.alloc (.cells #[.bool GS, .slice a9 GL.length c9, .int .i64 GE] 56)).cell? ⟨w18.heap.size, 1, none⟩ = some (.slice a9 GL.length c9) := new_cell2 _ _ _ _ _ _ rfl rfl
        have u2 : (w18.alloc (.cells #[.bool GS, .slice a9 GL.length c9, .int .i64 GE] 56)).cell? ⟨w18.heap.size, 2, none⟩ = some (.int .i64 GE) := new_cell2 _ _ _ _ _ _ rfl rfl
        replace D := D.keptR kk
        replace r5 := r5.kept kk (by omega)
        replace r6 := r6.kept kk (by omega)
        replace r9 := r9.kept kk (by omega)
        replace qf0 := Kept.looseOut' kk (by dsimp only; omega) (World.block_lt_of_cell? _ _ q0) qf0
        replace qf1 := Kept.looseOut' kk (by dsimp only; omega) (World.block_lt_of_cell? _ _ q1) qf1
        replace qf2 := Kept.looseOut' kk (by dsimp only; omega) (World.block_lt_of_cell? _ _ q2) qf2
        replace yf0 := Kept.looseOut' kk (by dsimp only; omega) (World.block_lt_of_cell? _ _ y0) yf0
        replace yf1 := Kept.looseOut' kk (by dsimp only; omega) (World.block_lt_of_cell? _ _ y1) yf1
        replace q0 := Kept.cellOut kk (by dsimp only; omega) q0
        replace q1 := Kept.cellOut kk (by dsimp only; omega) q1
        replace q2 := Kept.cellOut kk (by dsimp only; omega) q2
        replace y0 := Kept.cellOut kk (by dsimp only; omega) y0
        replace y1 := Kept.cellOut kk (by dsimp only; omega) y1
        have z20 := kk.size
        clear kk
        have DD := hide (((D.set (p := ⟨w.heap.size, 0, none⟩) hg (Nat.le_refl _) (.bool false)).set (p := ⟨w.heap.size, 1, none⟩) hg (Nat.le_refl _) (.slice none 0 0)).set (p := ⟨w.heap.size, 2, none⟩) hg (Nat.le_refl _) (.int .i64 0))
        clear r5 r6 r9 D 
        go_wp2_with fail
        exact bodyPost_ret (v := .agg #[.bool false, .slice none 0 0, .int .i64 0]) (by simp [results, Try.results139, go_sem, q0, q1, q2]) rfl ⟨_, _, _, [], rfl, Row.nil _ _ _ _ _, by omega, by omega, unhide DD⟩
      · have kk := (Kept.refl 0 0 w18).alloc (.cells #[.bool GS, .slice a9 GL.length c9, .int .i64 GE] 56)
        have u0 : (w18.alloc (.cells #[.bool GS, .slice a9 GL.length c9, .int .i64 GE] 56)).cell? ⟨w18.heap.size, 0, none⟩ = some (.bool GS) := new_cell2 _ _ _ _ _ _ rfl rfl
        have u1 : (w18.alloc (.cells #[.bool GS, .slice a9 GL.length c9, .int .i64 GE] 56)).cell? ⟨w18.heap.size, 1, none⟩ = some (.slice a9 GL.length c9) := new_cell2 _ _ _ _ _ _ rfl rfl
        have u2 : (w18.alloc (.cells #[.bool GS, .slice a9 GL.length c9, .int .i64 GE] 56)).cell? ⟨w18.heap.size, 2, none⟩ = some (.int .i64 GE) := new_cell2 _ _ _ _ _ _ rfl rfl
        replace D := D.keptR kk
        replace r5 := r5.kept kk (by omega)
        replace r6 := r6.kept kk (by omega)
        replace r9 := r9.kept kk (by omega)
        replace qf0 := Kept.looseOut' kk (by dsimp only; omega) (World.block_lt_of_cell? _ _ q0) qf0
        replace qf1 := Kept.looseOut' kk (by dsimp only; omega) (World.block_lt_of_cell? _ _ q1) qf1
        replace qf2 := Kept.looseOut' kk (by dsimp only; omega) (World.block_lt_of_cell? _ _ q2) qf2
        replace yf0 := Kept.looseOut' kk (by dsimp only; omega) (World.block_lt_of_cell? _ _ y0) yf0
        replace yf1 := Kept.looseOut' kk (by dsimp only; omega) (World.block_lt_of_cell? _ _ y1) yf1
        replace q0 := Kept.cellOut kk (by dsimp only; omega) q0
        replace q1 := Kept.cellOut kk (by dsimp only; omega) q1
        replace q2 := Kept.cellOut kk (by dsimp only; omega) q2
        replace y0 := Kept.cellOut kk (by dsimp only; omega) y0
        replace y1 := Kept.cellOut kk (by dsimp only; omega) y1
        have z20 := kk.size
        clear kk
        have R := hide ((((r9.set_other (p := ⟨w.heap.size, 0, none⟩) (.inl (by dsimp only; omega)) (.bool GS)).set_other (p := ⟨w.heap.size, 1, none⟩) (.inl (by dsimp only; omega)) (.slice a9 GL.length c9)).set_other (p := ⟨w.heap.size, 2, none⟩) (.inl (by dsimp only; omega)) (.int .i64 GE)).tight.wider (lo' := w.heap.size) (by omega) (Nat.le_refl _))
        have DD := hide (((D.set (p := ⟨w.heap.size, 0, none⟩) hg (Nat.le_refl _) (.bool GS)).set (p := ⟨w.heap.size, 1, none⟩) hg (Nat.le_refl _) (.slice a9 GL.length c9)).set (p := ⟨w.heap.size, 2, none⟩) hg (Nat.le_refl _) (.int .i64 GE))
        clear r5 r6 r9 D 
        go_wp2_with fail
        exact bodyPost_ret (v := .agg #[.bool GS, .slice a9 GL.length c9, .int .i64 GE]) (by simp [results, Try.results139, go_sem, q0, q1, q2]) rfl ⟨_, _, _, _, rfl, unhide R, by omega, by omega, unhide DD⟩
    · go_wp2_with fail
      have hr := Row.lit .i64 w16 3 [0, -60, 60, -1074, 900, -2990, 2990, -100] (by simp [maxLen])
      have gW : g < w16.heap.size := D.1.1
      refine (l1PickInt_any g lo _ (D.1.kept ((Kept.refl 0 0 w16).alloc _) (by omega)) hr (by simp) (by omega)).mono ?_
      rintro e w18 ⟨x2, rfl, hxx2, hd⟩
      have hbx2 : -2990 ≤ x2 ∧ x2 ≤ 2990 := by
        simp only [List.mem_cons, List.not_mem_nil, or_false] at hxx2
        omega
      have kk := (((Kept.refl 0 0 w16).alloc (.cells ([0, -60, 60, -1074, 900, -2990, 2990, -100].map (Value.int .i64)).toArray 3)).any (lo := g) (hi := g + 1)).trans hd.2.1
      replace D : Drawn g lo w w18 := ⟨hd.1, D.2.trans kk⟩
      replace r5 := r5.kept kk (by omega)
      replace r6 := r6.kept kk (by omega)
      replace qf0 := Kept.looseOut' kk (by dsimp only; omega) (World.block_lt_of_cell? _ _ q0) qf0
      replace qf1 := Kept.looseOut' kk (by dsimp only; omega) (World.block_lt_of_cell? _ _ q1) qf1
      replace qf2 := Kept.looseOut' kk (by dsimp only; omega) (World.block_lt_of_cell? _ _ q2) qf2
      replace yf0 := Kept.looseOut' kk (by dsimp only; omega) (World.block_lt_of_cell? _ _ y0) yf0
      replace yf1 := Kept.looseOut' kk (by dsimp only; omega) (World.block_lt_of_cell? _ _ y1) yf1
      replace q0 := Kept.cellOut kk (by dsimp only; omega) q0
      replace q1 := Kept.cellOut kk (by dsimp only; omega) q1
      replace q2 := Kept.cellOut kk (by dsimp only; omega) q2
      replace y0 := Kept.cellOut kk (by dsimp only; omega) y0
      replace y1 := Kept.cellOut kk (by dsimp only; omega) y1
      have z19 := kk.size
      clear kk hd hr gW hxx2
      go_wp2_with fail
      refine (dof_spec sn (x2) _ r6).mono ?_
      rintro e w20 ⟨v9, rfl, r9, kk⟩
      have gr := ansDE_range (wokB sn zn && l4eB (x2)) (wval sn zn) (x2)
      replace D := D.keptR kk
      replace r5 := r5.kept kk (by omega)
      replace r6 := r6.kept kk (by omega)
      replace qf0 := Kept.looseOut' kk (by dsimp only; omega) (World.block_lt_of_cell? _ _ q0) qf0
      replace qf1 := Kept.looseOut' kk (by dsimp only; omega) (World.block_lt_of_cell? _ _ q1) qf1
      replace qf2 := Kept.looseOut' kk (by dsimp only; omega) (World.block_lt_of_cell? _ _ q2) qf2
      replace yf0 := Kept.looseOut' kk (by dsimp only; omega) (World.block_lt_of_cell? _ _ y0) yf0
      replace yf1 := Kept.looseOut' kk (by dsimp only; omega) (World.block_lt_of_cell? _ _ y1) yf1
      replace q0 := Kept.cellOut kk (by dsimp only; omega) q0
      replace q1 := Kept.cellOut kk (by dsimp only; omega) q1
      replace q2 := Kept.cellOut kk (by dsimp only; omega) q2
      replace y0 := Kept.cellOut kk (by dsimp only; omega) y0
      replace y1 := Kept.cellOut kk (by dsimp only; omega) y1
      have z21 := kk.size
      clear kk
      generalize ansDS (wokB sn zn && l4eB (x2)) (wval sn zn) (x2) = GS at *
      generalize ansDL (wokB sn zn && l4eB (x2)) (wval sn zn) (x2) = GL at *
      generalize ansDE (wokB sn zn && l4eB (x2)) (wval sn zn) (x2) = GE at *
      generalize ansDB (wokB sn zn && l4eB (x2)) (wval sn zn) (x2) = GB at *
      obtain ⟨a9, c9, hv⟩ := Row.form' r9
      subst hv
      cases GB
      · have kk := (Kept.refl 0 0 w20).alloc (.cells #[.bool GS, .slice a9 GL.length c9, .int .i64 GE] 56)
        have u0 : (w20.alloc (.cells #[.bool GS, .slice a9 GL.length c9, .int .i64 GE] 56)).cell? ⟨w20.heap.size, 0, none⟩ = some (.bool GS) := new_cell2 _ _ _ _ _ _ rfl rfl
        have u1 : (w20.alloc (.cells #[.bool GS, .slice a9 GL.length c9, .int .i64 GE] 56)).cell? ⟨w20.heap.size, 1, none⟩ = some (.slice a9 GL.length c9) := new_cell2 _ _ _ _ _ _ rfl rfl
        have u2 : (w20.alloc (.cells #[.bool GS, .slice a9 GL.length c9, .int .i64 GE] 56)).cell? ⟨w20.heap.size, 2, none⟩ = some (.int .i64 GE) := new_cell2 _ _ _ _ _ _ rfl rfl
        replace D := D.keptR kk
        replace r5 := r5.kept kk (by omega)
        replace r6 := r6.kept kk (by omega)
        replace r9 := r9.kept kk (by omega)
        replace qf0 := Kept.looseOut' kk (by dsimp only; omega) (World.block_lt_of_cell? _ _ q0) qf0
        replace qf1 := Kept.looseOut' kk (by dsimp only; omega) (World.block_lt_of_cell? _ _ q1) qf1
        replace qf2 := Kept.looseOut' kk (by dsimp only; omega) (World.block_lt_of_cell? _ _ q2) qf2
        replace yf0 := Kept.looseOut' kk (by dsimp only; omega) (World.block_lt_of_cell? _ _ y0) yf0
        replace yf1 := Kept.looseOut' kk (by dsimp only; omega) (World.block_lt_of_cell? _ _ y1) yf1
        replace q0 := Kept.cellOut kk (by dsimp only; omega) q0
        replace q1 := Kept.cellOut kk (by dsimp only; omega) q1
        replace q2 := Kept.cellOut kk (by dsimp only; omega) q2
        replace y0 := Kept.cellOut kk (by dsimp only; omega) y0
        replace y1 := Kept.cellOut kk (by dsimp only; omega) y1
        have z22 := kk.size
        clear kk
        have DD := hide (((D.set (p := ⟨w.heap.size, 0, none⟩) hg (Nat.le_refl _) (.bool false)).set (p := ⟨w.heap.size, 1, none⟩) hg (Nat.le_refl _) (.slice none 0 0)).set (p := ⟨w.heap.size, 2, none⟩) hg (Nat.le_refl _) (.int .i64 0))
        clear r5 r6 r9 D 
        go_wp2_with fail
        exact bodyPost_ret (v := .agg #[.bool false, .slice none 0 0, .int .i64 0]) (by simp [results, Try.results139, go_sem, q0, q1, q2]) rfl ⟨_, _, _, [], rfl, Row.nil _ _ _ _ _, by omega, by omega, unhide DD⟩
      · have kk := (Kept.refl 0 0 w20).alloc (.cells #[.bool GS, .slice a9 GL.length c9, .int .i64 GE] 56)
        have u0 : (w20.alloc (.cells #[.bool GS, .slice a9 GL.length c9, .int .i64 GE] 56)).cell? ⟨w20.heap.size, 0, none⟩ = some (.bool GS) := new_cell2 _ _ _ _ _ _ rfl rfl
        have u1 : (w20.alloc (.cells #[.bool GS, .slice a9 GL.length c9, .int .i64 GE] 56)).cell? ⟨w20.heap.size, 1, none⟩ = some (.slice a9 GL.length c9) := new_cell2 _ _ _ _ _ _ rfl rfl
        have u2 : (w20.alloc (.cells #[.bool GS, .slice a9 GL.length c9, .int .i64 GE] 56)).cell? ⟨w20.heap.size, 2, none⟩ = some (.int .i64 GE) := new_cell2 _ _ _ _ _ _ rfl rfl
        replace D := D.keptR kk
        replace r5 := r5.kept kk (by omega)
        replace r6 := r6.kept kk (by omega)
        replace r9 := r9.kept kk (by omega)
        replace qf0 := Kept.looseOut' kk (by dsimp only; omega) (World.block_lt_of_cell? _ _ q0) qf0
        replace qf1 := Kept.looseOut' kk (by dsimp only; omega) (World.block_lt_of_cell? _ _ q1) qf1
        replace qf2 := Kept.looseOut' kk (by dsimp only; omega) (World.block_lt_of_cell? _ _ q2) qf2
        replace yf0 := Kept.looseOut' kk (by dsimp only; omega) (World.block_lt_of_cell? _ _ y0) yf0
        replace yf1 := Kept.looseOut' kk (by dsimp only; omega) (World.block_lt_of_cell? _ _ y1) yf1
        replace q0 := Kept.cellOut kk (by dsimp only; omega) q0
        replace q1 := Kept.cellOut kk (by dsimp only; omega) q1
        replace q2 := Kept.cellOut kk (by dsimp only; omega) q2
        replace y0 := Kept.cellOut kk (by dsimp only; omega) y0
        replace y1 := Kept.cellOut kk (by dsimp only; omega) y1
        have z22 := kk.size
        clear kk
        have R := hide ((((r9.set_other (p := ⟨w.heap.size, 0, none⟩) (.inl (by dsimp only; omega)) (.bool GS)).set_other (p := ⟨w.heap.size, 1, none⟩) (.inl (by dsimp only; omega)) (.slice a9 GL.length c9)).set_other (p := ⟨w.heap.size, 2, none⟩) (.inl (by dsimp only; omega)) (.int .i64 GE)).tight.wider (lo' := w.heap.size) (by omega) (Nat.le_refl _))
        have DD := hide (((D.set (p := ⟨w.heap.size, 0, none⟩) hg (Nat.le_refl _) (.bool GS)).set (p := ⟨w.heap.size, 1, none⟩) hg (Nat.le_refl _) (.slice a9 GL.length c9)).set (p := ⟨w.heap.size, 2, none⟩) hg (Nat.le_refl _) (.int .i64 GE))
        clear r5 r6 r9 D 
        go_wp2_with fail
        exact bodyPost_ret (v := .agg #[.bool GS, .slice a9 GL.length c9, .int .i64 GE]) (by simp [results, Try.results139, go_sem, q0, q1, q2]) rfl ⟨_, _, _, _, rfl, unhide R, by omega, by omega, unhide DD⟩

set_option maxHeartbeats 8000000 in
theorem bent4_any (g lo : Nat) (w : World) (c : Cur g lo w) :
    Calls Try.prog 99 #[.pointer (some ⟨g, 0, none⟩)] w fun e w' => ∃ v s x zs, e = .returned (.agg #[.bool s, v, .int .i64 x]) ∧ Row .i64 true w.heap.size w'.heap.size w' v zs ∧ -9223372036854775808 ≤ x ∧ x ≤ 9223372036854775807 ∧ Drawn g lo w w' := by
  have hg := c.1
  have D := Drawn.start c (.cells #[.bool false, .slice none 0 0, .int .i64 0] 56)
  have q0 : (w.alloc (.cells #[.bool false, .slice none 0 0, .int .i64 0] 56)).cell? ⟨w.heap.size, 0, none⟩ = some (.bool false) := new_cell2 _ _ _ _ _ _ rfl rfl
  have qf0 : (w.alloc (.cells #[.bool false, .slice none 0 0, .int .i64 0] 56)).frozen? ⟨w.heap.size, 0, none⟩ = false := new_loose2 _ _ _ _ _ rfl
  have q1 : (w.alloc (.cells #[.bool false, .slice none 0 0, .int .i64 0] 56)).cell? ⟨w.heap.size, 1, none⟩ = some (.slice none 0 0) := new_cell2 _ _ _ _ _ _ rfl rfl
  have qf1 : (w.alloc (.cells #[.bool false, .slice none 0 0, .int .i64 0] 56)).frozen? ⟨w.heap.size, 1, none⟩ = false := new_loose2 _ _ _ _ _ rfl
  have q2 : (w.alloc (.cells #[.bool false, .slice none 0 0, .int .i64 0] 56)).cell? ⟨w.heap.size, 2, none⟩ = some (.int .i64 0) := new_cell2 _ _ _ _ _ _ rfl rfl
  have qf2 : (w.alloc (.cells #[.bool false, .slice none 0 0, .int .i64 0] 56)).frozen? ⟨w.heap.size, 2, none⟩ = false := new_loose2 _ _ _ _ _ rfl
  have s0 : w.heap.size < (w.alloc (.cells #[.bool false, .slice none 0 0, .int .i64 0] 56)).heap.size := by simp
  clear c
  go_enter Try.func99, Try.ntmps99
  go_wp2_with fail
  generalize w.alloc (.cells #[.bool false, .slice none 0 0, .int .i64 0] 56) = W at *
  go_wp2_with fail
  refine (draw4_any g lo _ D.1).mono ?_
  rintro e w1 ⟨v5, s5, x5, zs, rfl, r5, f5, f6, hd⟩
  have kk := hd.2
  replace D := D.trans hd
  replace qf0 := Kept.looseOut' kk (by dsimp only; omega) (World.block_lt_of_cell? _ _ q0) qf0
  replace qf1 := Kept.looseOut' kk (by dsimp only; omega) (World.block_lt_of_cell? _ _ q1) qf1
  replace qf2 := Kept.looseOut' kk (by dsimp only; omega) (World.block_lt_of_cell? _ _ q2) qf2
  replace q0 := Kept.cellOut kk (by dsimp only; omega) q0
  replace q1 := Kept.cellOut kk (by dsimp only; omega) q1
  replace q2 := Kept.cellOut kk (by dsimp only; omega) q2
  have z2 := kk.size
  clear kk hd
  obtain ⟨a5, c5, hv⟩ := Row.form' r5
  subst hv
  have kk := (Kept.refl 0 0 w1).alloc (.cells #[.bool s5, .slice a5 zs.length c5, .int .i64 x5] 56)
  have y0 : (w1.alloc (.cells #[.bool s5, .slice a5 zs.length c5, .int .i64 x5] 56)).cell? ⟨w1.heap.size, 0, none⟩ = some (.bool s5) := new_cell2 _ _ _ _ _ _ rfl rfl
  have yf0 : (w1.alloc (.cells #[.bool s5, .slice a5 zs.length c5, .int .i64 x5] 56)).frozen? ⟨w1.heap.size, 0, none⟩ = false := new_loose2 _ _ _ _ _ rfl
  have y1 : (w1.alloc (.cells #[.bool s5, .slice a5 zs.length c5, .int .i64 x5] 56)).cell? ⟨w1.heap.size, 1, none⟩ = some (.slice a5 zs.length c5) := new_cell2 _ _ _ _ _ _ rfl rfl
  have yf1 : (w1.alloc (.cells #[.bool s5, .slice a5 zs.length c5, .int .i64 x5] 56)).frozen? ⟨w1.heap.size, 1, none⟩ = false := new_loose2 _ _ _ _ _ rfl
  have y2 : (w1.alloc (.cells #[.bool s5, .slice a5 zs.length c5, .int .i64 x5] 56)).cell? ⟨w1.heap.size, 2, none⟩ = some (.int .i64 x5) := new_cell2 _ _ _ _ _ _ rfl rfl
  have yf2 : (w1.alloc (.cells #[.bool s5, .slice a5 zs.length c5, .int .i64 x5] 56)).frozen? ⟨w1.heap.size, 2, none⟩ = false := new_loose2 _ _ _ _ _ rfl
  replace D := D.keptR kk
  have yy : w1.heap.size < (w1.alloc (.cells #[.bool s5, .slice a5 zs.length c5, .int .i64 x5] 56)).heap.size := by simp
  replace r5 := r5.kept kk (by omega)
  replace qf0 := Kept.looseOut' kk (by dsimp only; omega) (World.block_lt_of_cell? _ _ q0) qf0
  replace qf1 := Kept.looseOut' kk (by dsimp only; omega) (World.block_lt_of_cell? _ _ q1) qf1
  replace qf2 := Kept.looseOut' kk (by dsimp only; omega) (World.block_lt_of_cell? _ _ q2) qf2
  replace q0 := Kept.cellOut kk (by dsimp only; omega) q0
  replace q1 := Kept.cellOut kk (by dsimp only; omega) q1
  replace q2 := Kept.cellOut kk (by dsimp only; omega) q2
  have z3 := kk.size
  clear kk
  go_wp2_with fail
  generalize w1.alloc (.cells #[.bool s5, .slice a5 zs.length c5, .int .i64 x5] 56) = w4 at *
  refine (l1Once_any g lo _ D.1 9).mono ?_
  rintro e w5 ⟨b1, rfl, hd⟩
  have kk := hd.kept
  replace D := D.trans hd.drawn
  replace r5 := r5.kept kk (by omega)
  replace qf0 := Kept.looseOut' kk (by dsimp only; omega) (World.block_lt_of_cell? _ _ q0) qf0
  replace qf1 := Kept.looseOut' kk (by dsimp only; omega) (World.block_lt_of_cell? _ _ q1) qf1
  replace qf2 := Kept.looseOut' kk (by dsimp only; omega) (World.block_lt_of_cell? _ _ q2) qf2
  replace yf0 := Kept.looseOut' kk (by dsimp only; omega) (World.block_lt_of_cell? _ _ y0) yf0
  replace yf1 := Kept.looseOut' kk (by dsimp only; omega) (World.block_lt_of_cell? _ _ y1) yf1
  replace yf2 := Kept.looseOut' kk (by dsimp only; omega) (World.block_lt_of_cell? _ _ y2) yf2
  replace q0 := Kept.cellOut kk (by dsimp only; omega) q0
  replace q1 := Kept.cellOut kk (by dsimp only; omega) q1
  replace q2 := Kept.cellOut kk (by dsimp only; omega) q2
  replace y0 := Kept.cellOut kk (by dsimp only; omega) y0
  replace y1 := Kept.cellOut kk (by dsimp only; omega) y1
  replace y2 := Kept.cellOut kk (by dsimp only; omega) y2
  have z6 := kk.size
  clear kk hd
  cases b1
  · have R := hide ((((r5.set_other (p := ⟨w.heap.size, 0, none⟩) (.inl (by dsimp only; omega)) (.bool s5)).set_other (p := ⟨w.heap.size, 1, none⟩) (.inl (by dsimp only; omega)) (.slice a5 zs.length c5)).set_other (p := ⟨w.heap.size, 2, none⟩) (.inl (by dsimp only; omega)) (.int .i64 x5)).tight.wider (lo' := w.heap.size) (by omega) (Nat.le_refl _))
    have DD := hide (((D.set (p := ⟨w.heap.size, 0, none⟩) hg (Nat.le_refl _) (.bool s5)).set (p := ⟨w.heap.size, 1, none⟩) hg (Nat.le_refl _) (.slice a5 zs.length c5)).set (p := ⟨w.heap.size, 2, none⟩) hg (Nat.le_refl _) (.int .i64 x5))
    clear r5 D 
    go_wp2_with fail
    exact bodyPost_ret (v := .agg #[.bool s5, .slice a5 zs.length c5, .int .i64 x5]) (by simp [results, Try.results99, go_sem, q0, q1, q2]) rfl ⟨_, _, _, _, rfl, unhide R, by omega, by omega, unhide DD⟩
  go_wp2_with fail
  refine (l1Below_any g lo _ D.1 3).mono ?_
  rintro e w7 ⟨n, rfl, -, hbn, hd⟩
  have kk := hd.kept
  replace D := D.trans hd.drawn
  replace hbn := hbn (by decide)
  replace r5 := r5.kept kk (by omega)
  replace qf0 := Kept.looseOut' kk (by dsimp only; omega) (World.block_lt_of_cell? _ _ q0) qf0
  replace qf1 := Kept.looseOut' kk (by dsimp only; omega) (World.block_lt_of_cell? _ _ q1) qf1
  replace qf2 := Kept.looseOut' kk (by dsimp only; omega) (World.block_lt_of_cell? _ _ q2) qf2
  replace yf0 := Kept.looseOut' kk (by dsimp only; omega) (World.block_lt_of_cell? _ _ y0) yf0
  replace yf1 := Kept.looseOut' kk (by dsimp only; omega) (World.block_lt_of_cell? _ _ y1) yf1
  replace yf2 := Kept.looseOut' kk (by dsimp only; omega) (World.block_lt_of_cell? _ _ y2) yf2
  replace q0 := Kept.cellOut kk (by dsimp only; omega) q0
  replace q1 := Kept.cellOut kk (by dsimp only; omega) q1
  replace q2 := Kept.cellOut kk (by dsimp only; omega) q2
  replace y0 := Kept.cellOut kk (by dsimp only; omega) y0
  replace y1 := Kept.cellOut kk (by dsimp only; omega) y1
  replace y2 := Kept.cellOut kk (by dsimp only; omega) y2
  have z8 := kk.size
  clear kk hd
  obtain rfl | rfl | rfl : n = 0 ∨ n = 1 ∨ n = 2 := by omega
  · go_wp2_with fail
    have hr := Row.lit .i64 w7 3 [-3001, 3001, 3000, 4611686018427387904] (by simp [maxLen])
    have gW : g < w7.heap.size := D.1.1
    refine (l1PickInt_any g lo _ (D.1.kept ((Kept.refl 0 0 w7).alloc _) (by omega)) hr (by simp) (by omega)).mono ?_
    rintro e w9 ⟨x2, rfl, hxx2, hd⟩
    have hbx2 : -3001 ≤ x2 ∧ x2 ≤ 4611686018427387904 := by
      simp only [List.mem_cons, List.not_mem_nil, or_false] at hxx2
      omega
    have kk := (((Kept.refl 0 0 w7).alloc (.cells ([-3001, 3001, 3000, 4611686018427387904].map (Value.int .i64)).toArray 3)).any (lo := g) (hi := g + 1)).trans hd.2.1
    replace D : Drawn g lo w w9 := ⟨hd.1, D.2.trans kk⟩
    replace r5 := r5.kept kk (by omega)
    replace qf0 := Kept.looseOut' kk (by dsimp only; omega) (World.block_lt_of_cell? _ _ q0) qf0
    replace qf1 := Kept.looseOut' kk (by dsimp only; omega) (World.block_lt_of_cell? _ _ q1) qf1
    replace qf2 := Kept.looseOut' kk (by dsimp only; omega) (World.block_lt_of_cell? _ _ q2) qf2
    replace yf0 := Kept.looseOut' kk (by dsimp only; omega) (World.block_lt_of_cell? _ _ y0) yf0
    replace yf1 := Kept.looseOut' kk (by dsimp only; omega) (World.block_lt_of_cell? _ _ y1) yf1
    replace yf2 := Kept.looseOut' kk (by dsimp only; omega) (World.block_lt_of_cell? _ _ y2) yf2
    replace q0 := Kept.cellOut kk (by dsimp only; omega) q0
    replace q1 := Kept.cellOut kk (by dsimp only; omega) q1
    replace q2 := Kept.cellOut kk (by dsimp only; omega) q2
    replace y0 := Kept.cellOut kk (by dsimp only; omega) y0
    replace y1 := Kept.cellOut kk (by dsimp only; omega) y1
    replace y2 := Kept.cellOut kk (by dsimp only; omega) y2
    have z10 := kk.size
    clear kk hd hr gW hxx2
    go_wp2_with fail
    replace D := D.set (p := ⟨w1.heap.size, 2, none⟩) (by dsimp only; omega) (by dsimp only; omega) (.int .i64 x2)
    replace r5 := r5.set_other (p := ⟨w1.heap.size, 2, none⟩) (by dsimp only; omega) (.int .i64 x2)
    replace q0 := cell_aside (.int .i64 x2) (r := ⟨w1.heap.size, 2, none⟩) (by dsimp only; omega) q0
    replace q1 := cell_aside (.int .i64 x2) (r := ⟨w1.heap.size, 2, none⟩) (by dsimp only; omega) q1
    replace q2 := cell_aside (.int .i64 x2) (r := ⟨w1.heap.size, 2, none⟩) (by dsimp only; omega) q2
    replace y0 := cell_off _ _ _ 2 (.int .i64 x2) _ y0 (by decide)
    replace y1 := cell_off _ _ _ 2 (.int .i64 x2) _ y1 (by decide)
    replace y2 : (w9.setCell ⟨w1.heap.size, 2, none⟩ (.int .i64 x2)).cell? ⟨w1.heap.size, 2, none⟩ = some (.int .i64 x2) := cell_on _ _ _ _ _ y2
    replace qf0 : (w9.setCell ⟨w1.heap.size, 2, none⟩ (.int .i64 x2)).frozen? _ = false := (frozen_set _ _ _ _ _).trans qf0
    replace qf1 : (w9.setCell ⟨w1.heap.size, 2, none⟩ (.int .i64 x2)).frozen? _ = false := (frozen_set _ _ _ _ _).trans qf1
    replace qf2 : (w9.setCell ⟨w1.heap.size, 2, none⟩ (.int .i64 x2)).frozen? _ = false := (frozen_set _ _ _ _ _).trans qf2
    replace yf0 : (w9.setCell ⟨w1.heap.size, 2, none⟩ (.int .i64 x2)).frozen? _ = false := (frozen_set _ _ _ _ _).trans yf0
    replace yf1 : (w9.setCell ⟨w1.heap.size, 2, none⟩ (.int .i64 x2)).frozen? _ = false := (frozen_set _ _ _ _ _).trans yf1
    replace yf2 : (w9.setCell ⟨w1.heap.size, 2, none⟩ (.int .i64 x2)).frozen? _ = false := (frozen_set _ _ _ _ _).trans yf2
    have z11 : (w9.setCell ⟨w1.heap.size, 2, none⟩ (.int .i64 x2)).heap.size = w9.heap.size := size_set _ _ _
    replace z11 := Nat.le_of_eq z11.symm
    generalize (w9.setCell ⟨w1.heap.size, 2, none⟩ (.int .i64 x2)) = w12 at *
    have R := hide ((((r5.set_other (p := ⟨w.heap.size, 0, none⟩) (.inl (by dsimp only; omega)) (.bool s5)).set_other (p := ⟨w.heap.size, 1, none⟩) (.inl (by dsimp only; omega)) (.slice a5 zs.length c5)).set_other (p := ⟨w.heap.size, 2, none⟩) (.inl (by dsimp only; omega)) (.int .i64 x2)).tight.wider (lo' := w.heap.size) (by omega) (Nat.le_refl _))
    have DD := hide (((D.set (p := ⟨w.heap.size, 0, none⟩) hg (Nat.le_refl _) (.bool s5)).set (p := ⟨w.heap.size, 1, none⟩) hg (Nat.le_refl _) (.slice a5 zs.length c5)).set (p := ⟨w.heap.size, 2, none⟩) hg (Nat.le_refl _) (.int .i64 x2))
    clear r5 D 
    exact bodyPost_ret (v := .agg #[.bool s5, .slice a5 zs.length c5, .int .i64 x2]) (by simp [results, Try.results99, go_sem, q0, q1, q2]) rfl ⟨_, _, _, _, rfl, unhide R, by omega, by omega, unhide DD⟩
  · go_wp2_with fail
    refine (bent3_any g lo _ D.1).mono ?_
    rintro e w9 ⟨v7, s7, z7, rfl, r7, hd⟩
    have kk := hd.2
    replace D := D.trans hd
    replace r5 := r5.kept kk (by omega)
    replace qf0 := Kept.looseOut' kk (by dsimp only; omega) (World.block_lt_of_cell? _ _ q0) qf0
    replace qf1 := Kept.looseOut' kk (by dsimp only; omega) (World.block_lt_of_cell? _ _ q1) qf1
    replace qf2 := Kept.looseOut' kk (by dsimp only; omega) (World.block_lt_of_cell? _ _ q2) qf2
    replace yf0 := Kept.looseOut' kk (by dsimp only; omega) (World.block_lt_of_cell? _ _ y0) yf0
    replace yf1 := Kept.looseOut' kk (by dsimp only; omega) (World.block_lt_of_cell? _ _ y1) yf1
    replace yf2 := Kept.looseOut' kk (by dsimp only; omega) (World.block_lt_of_cell? _ _ y2) yf2
    replace q0 := Kept.cellOut kk (by dsimp only; omega) q0
    replace q1 := Kept.cellOut kk (by dsimp only; omega) q1
    replace q2 := Kept.cellOut kk (by dsimp only; omega) q2
    replace y0 := Kept.cellOut kk (by dsimp only; omega) y0
    replace y1 := Kept.cellOut kk (by dsimp only; omega) y1
    replace y2 := Kept.cellOut kk (by dsimp only; omega) y2
    have z10 := kk.size
    clear kk hd
    obtain ⟨a7, c7, hv⟩ := Row.form' r7
    subst hv
    go_wp2_with fail
    replace D := D.set (p := ⟨w1.heap.size, 0, none⟩) (by dsimp only; omega) (by dsimp only; omega) (.bool s7)
    replace r5 := r5.set_other (p := ⟨w1.heap.size, 0, none⟩) (by dsimp only; omega) (.bool s7)
    replace r7 := r7.set_other (p := ⟨w1.heap.size, 0, none⟩) (by dsimp only; omega) (.bool s7)
    replace q0 := cell_aside (.bool s7) (r := ⟨w1.heap.size, 0, none⟩) (by dsimp only; omega) q0
    replace q1 := cell_aside (.bool s7) (r := ⟨w1.heap.size, 0, none⟩) (by dsimp only; omega) q1
    replace q2 := cell_aside (.bool s7) (r := ⟨w1.heap.size, 0, none⟩) (by dsimp only; omega) q2
    replace y0 : (w9.setCell ⟨w1.heap.size, 0, none⟩ (.bool s7)).cell? ⟨w1.heap.size, 0, none⟩ = some (.bool s7) := cell_on _ _ _ _ _ y0
    replace y1 := cell_off _ _ _ 0 (.bool s7) _ y1 (by decide)
    replace y2 := cell_off _ _ _ 0 (.bool s7) _ y2 (by decide)
    replace qf0 : (w9.setCell ⟨w1.heap.size, 0, none⟩ (.bool s7)).frozen? _ = false := (frozen_set _ _ _ _ _).trans qf0
    replace qf1 : (w9.setCell ⟨w1.heap.size, 0, none⟩ (.bool s7)).frozen? _ = false := (frozen_set _ _ _ _ _).trans qf1
    replace qf2 : (w9.setCell ⟨w1.heap.size, 0, none⟩ (.bool s7)).frozen? _ = false := (frozen_set _ _ _ _ _).trans qf2
    replace yf0 : (w9.setCell ⟨w1.heap.size, 0, none⟩ (.bool s7)).frozen? _ = false := (frozen_set _ _ _ _ _).trans yf0
    replace yf1 : (w9.setCell ⟨w1.heap.size, 0, none⟩ (.bool s7)).frozen? _ = false := (frozen_set _ _ _ _ _).trans yf1
    replace yf2 : (w9.setCell ⟨w1.heap.size, 0, none⟩ (.bool s7)).frozen? _ = false := (frozen_set _ _ _ _ _).trans yf2
    have z11 : (w9.setCell ⟨w1.heap.size, 0, none⟩ (.bool s7)).heap.size = w9.heap.size := size_set _ _ _
    replace z11 := Nat.le_of_eq z11.symm
    replace D := D.set (p := ⟨w1.heap.size, 1, none⟩) (by dsimp only; omega) (by dsimp only; omega) (.slice a7 z7.length c7)
    replace r5 := r5.set_other (p := ⟨w1.heap.size, 1, none⟩) (by dsimp only; omega) (.slice a7 z7.length c7)
    replace r7 := r7.set_other (p := ⟨w1.heap.size, 1, none⟩) (by dsimp only; omega) (.slice a7 z7.length c7)
    replace q0 := cell_aside (.slice a7 z7.length c7) (r := ⟨w1.heap.size, 1, none⟩) (by dsimp only; omega) q0
    replace q1 := cell_aside (.slice a7 z7.length c7) (r := ⟨w1.heap.size, 1, none⟩) (by dsimp only; omega) q1
    replace q2 := cell_aside (.slice a7 z7.length c7) (r := ⟨w1.heap.size, 1, none⟩) (by dsimp only; omega) q2
    replace y0 := cell_off _ _ _ 1 (.slice a7 z7.length c7) _ y0 (by decide)
    replace y1 : ((w9.setCell ⟨w1.heap.size, 0, none⟩ (.bool s7)).setCell ⟨w1.heap.size, 1, none⟩ (.slice a7 z7.length c7)).cell? ⟨w1.heap.size, 1, none⟩ = some (.slice a7 z7.length c7) := cell_on _ _ _ _ _ y1
    replace y2 := cell_off _ _ _ 1 (.slice a7 z7.length c7) _ y2 (by decide)
    replace qf0 : ((w9.setCell ⟨w1.heap.size, 0, none⟩ (.bool s7)).setCell ⟨w1.heap.size, 1, none⟩ (.slice a7 z7.length c7)).frozen? _ = false := (frozen_set _ _ _ _ _).trans qf0
    replace qf1 : ((w9.setCell ⟨w1.heap.size, 0, none⟩ (.bool s7)).setCell ⟨w1.heap.size, 1, none⟩ (.slice a7 z7.length c7)).frozen? _ = false := (frozen_set _ _ _ _ _).trans qf1
    replace qf2 : ((w9.setCell ⟨w1.heap.size, 0, none⟩ (.bool s7)).setCell ⟨w1.heap.size, 1, none⟩ (.slice a7 z7.length c7)).frozen? _ = false := (frozen_set _ _ _ _ _).trans qf2
    replace yf0 : ((w9.setCell ⟨w1.heap.size, 0, none⟩ (.bool s7)).setCell ⟨w1.heap.size, 1, none⟩ (.slice a7 z7.length c7)).frozen? _ = false := (frozen_set _ _ _ _ _).trans yf0
    replace yf1 : ((w9.setCell ⟨w1.heap.size, 0, none⟩ (.bool s7)).setCell ⟨w1.heap.size, 1, none⟩ (.slice a7 z7.length c7)).frozen? _ = false := (frozen_set _ _ _ _ _).trans yf1
    replace yf2 : ((w9.setCell ⟨w1.heap.size, 0, none⟩ (.bool s7)).setCell ⟨w1.heap.size, 1, none⟩ (.slice a7 z7.length c7)).frozen? _ = false := (frozen_set _ _ _ _ _).trans yf2
    have z12 : ((w9.setCell ⟨w1.heap.size, 0, none⟩ (.bool s7)).setCell ⟨w1.heap.size, 1, none⟩ (.slice a7 z7.length c7)).heap.size = (w9.setCell ⟨w1.heap.size, 0, none⟩ (.bool s7)).heap.size := size_set _ _ _
    replace z12 := Nat.le_of_eq z12.symm
    generalize ((w9.setCell ⟨w1.heap.size, 0, none⟩ (.bool s7)).setCell ⟨w1.heap.size, 1, none⟩ (.slice a7 z7.length c7)) = w13 at *
    have R := hide ((((r7.set_other (p := ⟨w.heap.size, 0, none⟩) (.inl (by dsimp only; omega)) (.bool s7)).set_other (p := ⟨w.heap.size, 1, none⟩) (.inl (by dsimp only; omega)) (.slice a7 z7.length c7)).set_other (p := ⟨w.heap.size, 2, none⟩) (.inl (by dsimp only; omega)) (.int .i64 x5)).tight.wider (lo' := w.heap.size) (by omega) (Nat.le_refl _))
    have DD := hide (((D.set (p := ⟨w.heap.size, 0, none⟩) hg (Nat.le_refl _) (.bool s7)).set (p := ⟨w.heap.size, 1, none⟩) hg (Nat.le_refl _) (.slice a7 z7.length c7)).set (p := ⟨w.heap.size, 2, none⟩) hg (Nat.le_refl _) (.int .i64 x5))
    clear r5 r7 D 
    exact bodyPost_ret (v := .agg #[.bool s7, .slice a7 z7.length c7, .int .i64 x5]) (by simp [results, Try.results99, go_sem, q0, q1, q2]) rfl ⟨_, _, _, _, rfl, unhide R, by omega, by omega, unhide DD⟩
  · go_wp2_with fail
    replace D := D.set (p := ⟨w1.heap.size, 0, none⟩) (by dsimp only; omega) (by dsimp only; omega) (.bool (!s5))
    replace r5 := r5.set_other (p := ⟨w1.heap.size, 0, none⟩) (by dsimp only; omega) (.bool (!s5))
    replace q0 := cell_aside (.bool (!s5)) (r := ⟨w1.heap.size, 0, none⟩) (by dsimp only; omega) q0
    replace q1 := cell_aside (.bool (!s5)) (r := ⟨w1.heap.size, 0, none⟩) (by dsimp only; omega) q1
    replace q2 := cell_aside (.bool (!s5)) (r := ⟨w1.heap.size, 0, none⟩) (by dsimp only; omega) q2
    replace y0 : (w7.setCell ⟨w1.heap.size, 0, none⟩ (.bool (!s5))).cell? ⟨w1.heap.size, 0, none⟩ = some (.bool (!s5)) := cell_on _ _ _ _ _ y0
    replace y1 := cell_off _ _ _ 0 (.bool (!s5)) _ y1 (by decide)
    replace y2 := cell_off _ _ _ 0 (.bool (!s5)) _ y2 (by decide)
    replace qf0 : (w7.setCell ⟨w1.heap.size, 0, none⟩ (.bool (!s5))).frozen? _ = false := (frozen_set _ _ _ _ _).trans qf0
    replace qf1 : (w7.setCell ⟨w1.heap.size, 0, none⟩ (.bool (!s5))).frozen? _ = false := (frozen_set _ _ _ _ _).trans qf1
    replace qf2 : (w7.setCell ⟨w1.heap.size, 0, none⟩ (.bool (!s5))).frozen? _ = false := (frozen_set _ _ _ _ _).trans qf2
    replace yf0 : (w7.setCell ⟨w1.heap.size, 0, none⟩ (.bool (!s5))).frozen? _ = false := (frozen_set _ _ _ _ _).trans yf0
    replace yf1 : (w7.setCell ⟨w1.heap.size, 0, none⟩ (.bool (!s5))).frozen? _ = false := (frozen_set _ _ _ _ _).trans yf1
    replace yf2 : (w7.setCell ⟨w1.heap.size, 0, none⟩ (.bool (!s5))).frozen? _ = false := (frozen_set _ _ _ _ _).trans yf2
    have z9 : (w7.setCell ⟨w1.heap.size, 0, none⟩ (.bool (!s5))).heap.size = w7.heap.size := size_set _ _ _
    replace z9 := Nat.le_of_eq z9.symm
    generalize (w7.setCell ⟨w1.heap.size, 0, none⟩ (.bool (!s5))) = w10 at *
    have R := hide ((((r5.set_other (p := ⟨w.heap.size, 0, none⟩) (.inl (by dsimp only; omega)) (.bool (!s5))).set_other (p := ⟨w.heap.size, 1, none⟩) (.inl (by dsimp only; omega)) (.slice a5 zs.length c5)).set_other (p := ⟨w.heap.size, 2, none⟩) (.inl (by dsimp only; omega)) (.int .i64 x5)).tight.wider (lo' := w.heap.size) (by omega) (Nat.le_refl _))
    have DD := hide (((D.set (p := ⟨w.heap.size, 0, none⟩) hg (Nat.le_refl _) (.bool (!s5))).set (p := ⟨w.heap.size, 1, none⟩) hg (Nat.le_refl _) (.slice a5 zs.length c5)).set (p := ⟨w.heap.size, 2, none⟩) hg (Nat.le_refl _) (.int .i64 x5))
    clear r5 D 
    exact bodyPost_ret (v := .agg #[.bool (!s5), .slice a5 zs.length c5, .int .i64 x5]) (by simp [results, Try.results99, go_sem, q0, q1, q2]) rfl ⟨_, _, _, _, rfl, unhide R, by omega, by omega, unhide DD⟩

set_option maxHeartbeats 4000000 in
theorem drawTop_any {bw : Bool} {lo hi : Nat} {v : Value} {bs : List Int} (w : World) (r : Row .u8 bw lo hi w v bs) (b : Bytes bs) :
    Calls Try.prog 43 #[v] w fun e w' => ∃ v' s x zs, e = .returned (.agg #[.bool s, v', .int .i64 x]) ∧ Row .i64 true w.heap.size w'.heap.size w' v' zs ∧ -9223372036854775808 ≤ x ∧ x ≤ 9223372036854775807 ∧ Kept 0 0 w w' := by
  have k0 : Kept 0 0 w (w.alloc (.cells #[.bool false, .slice none 0 0, .int .i64 0] 56)) := ((Kept.refl 0 0 w).alloc (.cells #[.bool false, .slice none 0 0, .int .i64 0] 56))
  have q0 : (w.alloc (.cells #[.bool false, .slice none 0 0, .int .i64 0] 56)).cell? ⟨w.heap.size, 0, none⟩ = some (.bool false) := new_cell2 _ _ _ _ _ _ (by simp) rfl
  have qf0 : (w.alloc (.cells #[.bool false, .slice none 0 0, .int .i64 0] 56)).frozen? ⟨w.heap.size, 0, none⟩ = false := new_loose2 _ _ _ _ _ (by simp)
  have q1 : (w.alloc (.cells #[.bool false, .slice none 0 0, .int .i64 0] 56)).cell? ⟨w.heap.size, 1, none⟩ = some (.slice none 0 0) := new_cell2 _ _ _ _ _ _ (by simp) rfl
  have qf1 : (w.alloc (.cells #[.bool false, .slice none 0 0, .int .i64 0] 56)).frozen? ⟨w.heap.size, 1, none⟩ = false := new_loose2 _ _ _ _ _ (by simp)
  have q2 : (w.alloc (.cells #[.bool false, .slice none 0 0, .int .i64 0] 56)).cell? ⟨w.heap.size, 2, none⟩ = some (.int .i64 0) := new_cell2 _ _ _ _ _ _ (by simp) rfl
  have qf2 : (w.alloc (.cells #[.bool false, .slice none 0 0, .int .i64 0] 56)).frozen? ⟨w.heap.size, 2, none⟩ = false := new_loose2 _ _ _ _ _ (by simp)
  have s0 : (w.alloc (.cells #[.bool false, .slice none 0 0, .int .i64 0] 56)).heap.size = w.heap.size + 1 := by simp
  have K := hide (k0)
  clear k0
  have S0 := hide s0
  clear s0
  replace r := r.kept (unhide K) (by omega)
  obtain ⟨a0, c0, hv⟩ := Row.form' r
  subst hv
  go_enter Try.func43, Try.ntmps43
  go_wp2_with fail
  generalize (w.alloc (.cells #[.bool false, .slice none 0 0, .int .i64 0] 56)) = W at *
  refine (l1New_any _ r b).mono ?_
  rintro e w1 ⟨g, rfl, hg, cu, k1⟩
  replace qf0 := k1.loose0 (World.block_lt_of_cell? _ _ q0) qf0
  replace qf1 := k1.loose0 (World.block_lt_of_cell? _ _ q1) qf1
  replace qf2 := k1.loose0 (World.block_lt_of_cell? _ _ q2) qf2
  replace q0 := k1.cell0 q0
  replace q1 := k1.cell0 q1
  replace q2 := k1.cell0 q2
  replace K := hide ((unhide K).trans k1)
  have z2 := k1.size
  clear k1
  clear r
  go_wp2_with fail
  refine (bent4_any g _ _ cu).mono ?_
  rintro e w3 ⟨v5, s5, x5, zs, rfl, r5, f5, f6, hd⟩
  have kk := hd.2
  have sS := unhide S0
  replace qf0 := Kept.looseOut' kk (by dsimp only; omega) (World.block_lt_of_cell? _ _ q0) qf0
  replace qf1 := Kept.looseOut' kk (by dsimp only; omega) (World.block_lt_of_cell? _ _ q1) qf1
  replace qf2 := Kept.looseOut' kk (by dsimp only; omega) (World.block_lt_of_cell? _ _ q2) qf2
  replace q0 := Kept.cellOut kk (by dsimp only; omega) q0
  replace q1 := Kept.cellOut kk (by dsimp only; omega) q1
  replace q2 := Kept.cellOut kk (by dsimp only; omega) q2
  replace K := hide (Kept.newer' (unhide K) kk (by omega))
  have z5 := kk.size
  clear kk hd cu sS
  obtain ⟨a5, c5, hv⟩ := Row.form' r5
  subst hv
  have R := hide ((((r5.set_other (p := ⟨w.heap.size, 0, none⟩) (.inl (by have := unhide S0; dsimp only; omega)) (.bool s5)).set_other (p := ⟨w.heap.size, 1, none⟩) (.inl (by have := unhide S0; dsimp only; omega)) (.slice a5 zs.length c5)).set_other (p := ⟨w.heap.size, 2, none⟩) (.inl (by have := unhide S0; dsimp only; omega)) (.int .i64 x5)).tight.wider (lo' := w.heap.size) (by have := unhide S0; omega) (Nat.le_refl _))
  have K7 := hide ((((unhide K).setNew (p := ⟨w.heap.size, 0, none⟩) (by simp) (.bool s5)).setNew (p := ⟨w.heap.size, 1, none⟩) (by simp) (.slice a5 zs.length c5)).setNew (p := ⟨w.heap.size, 2, none⟩) (by simp) (.int .i64 x5))
  clear r5 K
  go_wp2_with fail
  exact bodyPost_ret (v := .agg #[.bool s5, .slice a5 zs.length c5, .int .i64 x5]) (by simp [results, Try.results43, go_sem, q0, q1, q2]) rfl ⟨_, _, _, _, rfl, unhide R, f5, f6, unhide K7⟩

end Go.Proofs.Ytoijdclblcmpaaa
