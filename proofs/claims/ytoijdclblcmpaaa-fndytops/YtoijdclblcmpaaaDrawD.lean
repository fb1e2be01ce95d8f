/-
  The draws of whole and of dyadic numbers: they return, whatever is drawn.
-/
import Derived.Test.YtoijdclblcmpaaaDrawN5
import Derived.Test.YtoijdclblcmpaaaDy9
namespace Go.Proofs.Ytoijdclblcmpaaa
open Go.RowKit
set_option linter.unusedVariables false
set_option maxRecDepth 8000
set_option linter.unusedSimpArgs false

/-- What a draw of a whole number leaves: some sign, some limbs of the call's own. -/
def DrawnW (g lo : Nat) (w w' : World) (v : Value) : Prop := ∃ zs : List Int, Row .i64 true w.heap.size w'.heap.size w' v zs ∧ Drawn g lo w w'
theorem Drawn.set {g lo : Nat} {a w : World} (h : Drawn g lo a w) {p : Addr} (hg : g < p.block) (hp : a.heap.size ≤ p.block) (u : Value) : Drawn g lo a (w.setCell p u) := ⟨h.1.setFar hg u, h.2.setNew hp u⟩
theorem Drawn.alloc {g lo : Nat} {a w : World} (h : Drawn g lo a w) (ob : Obj) : Drawn g lo a (w.alloc ob) := h.keptR ((Kept.refl 0 0 w).alloc ob)
theorem Drawn.start {g lo : Nat} {w : World} (c : Cur g lo w) (ob : Obj) : Drawn g lo w (w.alloc ob) := ⟨c.kept ((Kept.refl 0 0 w).alloc ob) (by omega), ((Kept.refl 0 0 w).alloc ob).any⟩

set_option maxHeartbeats 4000000 in
theorem draw3_any (g lo : Nat) (w : World) (c : Cur g lo w) :
    Calls Try.prog 166 #[.pointer (some ⟨g, 0, none⟩)] w fun e w' => ∃ v s zs, e = .returned (.agg #[.bool s, v]) ∧ Row .i64 true w.heap.size w'.heap.size w' v zs ∧ WN s zs ∧ zs.length ≤ 100 ∧ Drawn g lo w w' := by
  have hg := c.1
  have D := Drawn.start c (.cells #[.bool false, .slice none 0 0] 42)
  have q0 : (w.alloc (.cells #[.bool false, .slice none 0 0] 42)).cell? ⟨w.heap.size, 0, none⟩ = some (.bool false) := new_cell2 _ _ _ _ _ _ rfl rfl
  have qf0 : (w.alloc (.cells #[.bool false, .slice none 0 0] 42)).frozen? ⟨w.heap.size, 0, none⟩ = false := new_loose2 _ _ _ _ _ rfl
  have q1 : (w.alloc (.cells #[.bool false, .slice none 0 0] 42)).cell? ⟨w.heap.size, 1, none⟩ = some (.slice none 0 0) := new_cell2 _ _ _ _ _ _ rfl rfl
  have qf1 : (w.alloc (.cells #[.bool false, .slice none 0 0] 42)).frozen? ⟨w.heap.size, 1, none⟩ = false := new_loose2 _ _ _ _ _ rfl
  have s0 : w.heap.size < (w.alloc (.cells #[.bool false, .slice none 0 0] 42)).heap.size := by simp
  clear c
  go_enter Try.func166, Try.ntmps166
  go_wp2_with fail
  generalize w.alloc (.cells #[.bool false, .slice none 0 0] 42) = W at *
  go_wp2_with fail
  refine (l1Once_any g lo _ D.1 2).mono ?_
  rintro e w1 ⟨b, rfl, hd⟩
  have kk := hd.kept
  replace D := D.trans hd.drawn
  replace qf0 := Kept.looseOut' kk (by dsimp only; omega) (World.block_lt_of_cell? _ _ q0) qf0
  replace qf1 := Kept.looseOut' kk (by dsimp only; omega) (World.block_lt_of_cell? _ _ q1) qf1
  replace q0 := Kept.cellOut kk (by dsimp only; omega) q0
  replace q1 := Kept.cellOut kk (by dsimp only; omega) q1
  have z2 := kk.size
  clear kk hd
  go_wp2_with fail
  refine (draw_any g lo _ D.1).mono ?_
  rintro e w3 ⟨v5, rfl, zs, own, hn, hl, hd⟩
  have kk := hd.2
  replace D := D.trans hd
  replace qf0 := Kept.looseOut' kk (by dsimp only; omega) (World.block_lt_of_cell? _ _ q0) qf0
  replace qf1 := Kept.looseOut' kk (by dsimp only; omega) (World.block_lt_of_cell? _ _ q1) qf1
  replace q0 := Kept.cellOut kk (by dsimp only; omega) q0
  replace q1 := Kept.cellOut kk (by dsimp only; omega) q1
  have z4 := kk.size
  clear kk hd
  have r5 := Row.own own
  clear own
  go_wp2_with fail
  refine (make_spec b _ r5 hn.1 (by omega)).mono ?_
  rintro e w5 ⟨v6, rfl, r6, kk⟩
  replace D := D.keptR kk
  replace r5 := r5.kept kk (by omega)
  replace qf0 := Kept.looseOut' kk (by dsimp only; omega) (World.block_lt_of_cell? _ _ q0) qf0
  replace qf1 := Kept.looseOut' kk (by dsimp only; omega) (World.block_lt_of_cell? _ _ q1) qf1
  replace q0 := Kept.cellOut kk (by dsimp only; omega) q0
  replace q1 := Kept.cellOut kk (by dsimp only; omega) q1
  have z6 := kk.size
  clear kk
  clear r5
  obtain ⟨zz, hzz⟩ : ∃ y, limbs (val zs).toNat = y := ⟨_, rfl⟩
  have hln : zz.length ≤ 100 := by rw [← hzz, ← nrm_limbs hn]; exact hl
  have wn : WN (b && decide (0 < zs.length)) zz := by rw [← hzz, ← nrm_limbs hn]; exact ⟨hn, fun h => by simp at h; exact List.length_pos_iff.2 (fun e => by simp [e] at h)⟩
  have WNN := hide wn
  rw [hzz] at r6
  clear hzz wn
  generalize (b && decide (0 < zs.length)) = sb at *
  obtain ⟨a6, c6, hv⟩ := Row.form' r6
  subst hv
  have R := hide (((r6.set_other (p := ⟨w.heap.size, 0, none⟩) (.inl (by dsimp only; omega)) (.bool sb)).set_other (p := ⟨w.heap.size, 1, none⟩) (.inl (by dsimp only; omega)) (.slice a6 zz.length c6)).tight.wider (lo' := w.heap.size) (by omega) (Nat.le_refl _))
  have DD := hide ((D.set (p := ⟨w.heap.size, 0, none⟩) hg (Nat.le_refl _) (.bool sb)).set (p := ⟨w.heap.size, 1, none⟩) hg (Nat.le_refl _) (.slice a6 zz.length c6))
  clear r6 D 
  go_wp2_with fail
  exact bodyPost_ret (v := .agg #[.bool sb, .slice a6 zz.length c6]) (by simp [results, Try.results166, go_sem, q0, q1]) rfl ⟨_, _, _, rfl, unhide R, unhide WNN, hln, unhide DD⟩

set_option maxHeartbeats 4000000 in
theorem bent3_any (g lo : Nat) (w : World) (c : Cur g lo w) :
    Calls Try.prog 134 #[.pointer (some ⟨g, 0, none⟩)] w fun e w' => ∃ v s zs, e = .returned (.agg #[.bool s, v]) ∧ Row .i64 true w.heap.size w'.heap.size w' v zs ∧ Drawn g lo w w' := by
  have hg := c.1
  have D := Drawn.start c (.cells #[.bool false, .slice none 0 0] 42)
  have q0 : (w.alloc (.cells #[.bool false, .slice none 0 0] 42)).cell? ⟨w.heap.size, 0, none⟩ = some (.bool false) := new_cell2 _ _ _ _ _ _ rfl rfl
  have qf0 : (w.alloc (.cells #[.bool false, .slice none 0 0] 42)).frozen? ⟨w.heap.size, 0, none⟩ = false := new_loose2 _ _ _ _ _ rfl
  have q1 : (w.alloc (.cells #[.bool false, .slice none 0 0] 42)).cell? ⟨w.heap.size, 1, none⟩ = some (.slice none 0 0) := new_cell2 _ _ _ _ _ _ rfl rfl
  have qf1 : (w.alloc (.cells #[.bool false, .slice none 0 0] 42)).frozen? ⟨w.heap.size, 1, none⟩ = false := new_loose2 _ _ _ _ _ rfl
  have s0 : w.heap.size < (w.alloc (.cells #[.bool false, .slice none 0 0] 42)).heap.size := by simp
  clear c
  go_enter Try.func134, Try.ntmps134
  go_wp2_with fail
  generalize w.alloc (.cells #[.bool false, .slice none 0 0] 42) = W at *
  go_wp2_with fail
  refine (draw3_any g lo _ D.1).mono ?_
  rintro e w1 ⟨v5, s5, zs, rfl, r5, -, -, hd⟩
  have kk := hd.2
  replace D := D.trans hd
  replace qf0 := Kept.looseOut' kk (by dsimp only; omega) (World.block_lt_of_cell? _ _ q0) qf0
  replace qf1 := Kept.looseOut' kk (by dsimp only; omega) (World.block_lt_of_cell? _ _ q1) qf1
  replace q0 := Kept.cellOut kk (by dsimp only; omega) q0
  replace q1 := Kept.cellOut kk (by dsimp only; omega) q1
  have z2 := kk.size
  clear kk hd
  obtain ⟨a5, c5, hv⟩ := Row.form' r5
  subst hv
  have kk := (Kept.refl 0 0 w1).alloc (.cells #[.bool s5, .slice a5 zs.length c5] 42)
  have y0 : (w1.alloc (.cells #[.bool s5, .slice a5 zs.length c5] 42)).cell? ⟨w1.heap.size, 0, none⟩ = some (.bool s5) := new_cell2 _ _ _ _ _ _ rfl rfl
  have yf0 : (w1.alloc (.cells #[.bool s5, .slice a5 zs.length c5] 42)).frozen? ⟨w1.heap.size, 0, none⟩ = false := new_loose2 _ _ _ _ _ rfl
  have y1 : (w1.alloc (.cells #[.bool s5, .slice a5 zs.length c5] 42)).cell? ⟨w1.heap.size, 1, none⟩ = some (.slice a5 zs.length c5) := new_cell2 _ _ _ _ _ _ rfl rfl
  have yf1 : (w1.alloc (.cells #[.bool s5, .slice a5 zs.length c5] 42)).frozen? ⟨w1.heap.size, 1, none⟩ = false := new_loose2 _ _ _ _ _ rfl
  replace D := D.keptR kk
  have yy : w1.heap.size < (w1.alloc (.cells #[.bool s5, .slice a5 zs.length c5] 42)).heap.size := by simp
  replace r5 := r5.kept kk (by omega)
  replace qf0 := Kept.looseOut' kk (by dsimp only; omega) (World.block_lt_of_cell? _ _ q0) qf0
  replace qf1 := Kept.looseOut' kk (by dsimp only; omega) (World.block_lt_of_cell? _ _ q1) qf1
  replace q0 := Kept.cellOut kk (by dsimp only; omega) q0
  replace q1 := Kept.cellOut kk (by dsimp only; omega) q1
  have z3 := kk.size
  clear kk
  go_wp2_with fail
  generalize w1.alloc (.cells #[.bool s5, .slice a5 zs.length c5] 42) = w4 at *
  refine (l1Once_any g lo _ D.1 9).mono ?_
  rintro e w5 ⟨b1, rfl, hd⟩
  have kk := hd.kept
  replace D := D.trans hd.drawn
  replace r5 := r5.kept kk (by omega)
  replace qf0 := Kept.looseOut' kk (by dsimp only; omega) (World.block_lt_of_cell? _ _ q0) qf0
  replace qf1 := Kept.looseOut' kk (by dsimp only; omega) (World.block_lt_of_cell? _ _ q1) qf1
  replace yf0 := Kept.looseOut' kk (by dsimp only; omega) (World.block_lt_of_cell? _ _ y0) yf0
  replace yf1 := Kept.looseOut' kk (by dsimp only; omega) (World.block_lt_of_cell? _ _ y1) yf1
  replace q0 := Kept.cellOut kk (by dsimp only; omega) q0
  replace q1 := Kept.cellOut kk (by dsimp only; omega) q1
  replace y0 := Kept.cellOut kk (by dsimp only; omega) y0
  replace y1 := Kept.cellOut kk (by dsimp only; omega) y1
  have z6 := kk.size
  clear kk hd
  cases b1
  · skip
    have R := hide (((r5.set_other (p := ⟨w.heap.size, 0, none⟩) (.inl (by dsimp only; omega)) (.bool s5)).set_other (p := ⟨w.heap.size, 1, none⟩) (.inl (by dsimp only; omega)) (.slice a5 zs.length c5)).tight.wider (lo' := w.heap.size) (by omega) (Nat.le_refl _))
    have DD := hide ((D.set (p := ⟨w.heap.size, 0, none⟩) hg (Nat.le_refl _) (.bool s5)).set (p := ⟨w.heap.size, 1, none⟩) hg (Nat.le_refl _) (.slice a5 zs.length c5))
    clear r5 D 
    go_wp2_with fail
    exact bodyPost_ret (v := .agg #[.bool s5, .slice a5 zs.length c5]) (by simp [results, Try.results134, go_sem, q0, q1]) rfl ⟨_, _, _, rfl, unhide R, unhide DD⟩
  go_wp2_with fail
  refine (l1Once_any g lo _ D.1 2).mono ?_
  rintro e w7 ⟨b2, rfl, hd⟩
  have kk := hd.kept
  replace D := D.trans hd.drawn
  replace r5 := r5.kept kk (by omega)
  replace qf0 := Kept.looseOut' kk (by dsimp only; omega) (World.block_lt_of_cell? _ _ q0) qf0
  replace qf1 := Kept.looseOut' kk (by dsimp only; omega) (World.block_lt_of_cell? _ _ q1) qf1
  replace yf0 := Kept.looseOut' kk (by dsimp only; omega) (World.block_lt_of_cell? _ _ y0) yf0
  replace yf1 := Kept.looseOut' kk (by dsimp only; omega) (World.block_lt_of_cell? _ _ y1) yf1
  replace q0 := Kept.cellOut kk (by dsimp only; omega) q0
  replace q1 := Kept.cellOut kk (by dsimp only; omega) q1
  replace y0 := Kept.cellOut kk (by dsimp only; omega) y0
  replace y1 := Kept.cellOut kk (by dsimp only; omega) y1
  have z8 := kk.size
  clear kk hd
  cases b2
  rotate_left
  · have DD := hide ((D.set (p := ⟨w.heap.size, 0, none⟩) hg (Nat.le_refl _) (.bool true)).set (p := ⟨w.heap.size, 1, none⟩) hg (Nat.le_refl _) (.slice none 0 0))
    clear r5 D 
    go_wp2_with fail
    exact bodyPost_ret (v := .agg #[.bool true, .slice none 0 0]) (by simp [results, Try.results134, go_sem, q0, q1]) rfl ⟨_, _, [], rfl, Row.nil _ _ _ _ _, unhide DD⟩
  go_wp2_with fail
  refine (bent_any g lo _ D.1).mono ?_
  rintro e w9 ⟨v7, rfl, z7, own, -, -, hd⟩
  have kk := hd.2
  replace D := D.trans hd
  replace r5 := r5.kept kk (by omega)
  replace qf0 := Kept.looseOut' kk (by dsimp only; omega) (World.block_lt_of_cell? _ _ q0) qf0
  replace qf1 := Kept.looseOut' kk (by dsimp only; omega) (World.block_lt_of_cell? _ _ q1) qf1
  replace yf0 := Kept.looseOut' kk (by dsimp only; omega) (World.block_lt_of_cell? _ _ y0) yf0
  replace yf1 := Kept.looseOut' kk (by dsimp only; omega) (World.block_lt_of_cell? _ _ y1) yf1
  replace q0 := Kept.cellOut kk (by dsimp only; omega) q0
  replace q1 := Kept.cellOut kk (by dsimp only; omega) q1
  replace y0 := Kept.cellOut kk (by dsimp only; omega) y0
  replace y1 := Kept.cellOut kk (by dsimp only; omega) y1
  have z10 := kk.size
  clear kk hd
  have r7 := Row.own own
  clear own
  obtain ⟨a7, c7, hv⟩ := Row.form' r7
  subst hv
  have D2 := D.set (p := ⟨w1.heap.size, 1, none⟩) (by dsimp only; omega) (by dsimp only; omega) (.slice a7 z7.length c7)
  have r8 := r7.set_other (p := ⟨w1.heap.size, 1, none⟩) (.inl (by dsimp only; omega)) (.slice a7 z7.length c7)
  have p0 := cell_aside (.slice a7 z7.length c7) (r := ⟨w1.heap.size, 1, none⟩) (by dsimp only; omega) q0
  have p1 := cell_aside (.slice a7 z7.length c7) (r := ⟨w1.heap.size, 1, none⟩) (by dsimp only; omega) q1
  have R := hide (((r8.set_other (p := ⟨w.heap.size, 0, none⟩) (.inl (by dsimp only; omega)) (.bool s5)).set_other (p := ⟨w.heap.size, 1, none⟩) (.inl (by dsimp only; omega)) (.slice a7 z7.length c7)).tight.wider (lo' := w.heap.size) (by omega) (Nat.le_refl _))
  have DD := hide ((D2.set (p := ⟨w.heap.size, 0, none⟩) hg (Nat.le_refl _) (.bool s5)).set (p := ⟨w.heap.size, 1, none⟩) hg (Nat.le_refl _) (.slice a7 z7.length c7))
  clear r5 r7 r8 D D2
  go_wp2_with fail
  exact bodyPost_ret (v := .agg #[.bool s5, .slice a7 z7.length c7]) (by simp [results, Try.results134, go_sem, q0, q1, p0, p1]) rfl ⟨_, _, _, rfl, unhide R, unhide DD⟩

end Go.Proofs.Ytoijdclblcmpaaa
