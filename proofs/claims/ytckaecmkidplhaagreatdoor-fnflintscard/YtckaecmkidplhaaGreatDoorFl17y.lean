/-
  The draws of floats, bent, in pairs, and of bits: they return, whatever is drawn.
-/
import Derived.Test.YtckaecmkidplhaaGreatDoorFl16y
import Derived.Test.YtckaecmkidplhaaGreatDoorBC
import Derived.Deep.RegionHeld3
import Derived.Deep.DeepCutAuto
namespace Go.Proofs.YtckaecmkidplhaaGreatDoor
open Go.RowKit
set_option linter.unusedVariables false
set_option maxRecDepth 8000
set_option linter.unusedSimpArgs false

set_option maxHeartbeats 8000000 in
theorem bent5_any (g lo : Nat) (w : World) (c : Cur g lo w) :
    Calls Tryz.prog 49 #[.pointer (some ⟨g, 0, none⟩)] w fun e' w' => ∃ fk fn fm fe, e' = .returned (flv fk fn fm fe) ∧ Drawn g lo w w' := by
  have hg := c.1
  have D := Drawn.start c (.cells #[.int .i64 0, .bool false, .int .i64 0, .int .i64 0] 25)
  have q0 : (w.alloc (.cells #[.int .i64 0, .bool false, .int .i64 0, .int .i64 0] 25)).cell? ⟨w.heap.size, 0, none⟩ = some (.int .i64 0) := new_cell2 _ _ _ _ _ _ rfl rfl
  have qf0 : (w.alloc (.cells #[.int .i64 0, .bool false, .int .i64 0, .int .i64 0] 25)).frozen? ⟨w.heap.size, 0, none⟩ = false := new_loose2 _ _ _ _ _ rfl
  have q1 : (w.alloc (.cells #[.int .i64 0, .bool false, .int .i64 0, .int .i64 0] 25)).cell? ⟨w.heap.size, 1, none⟩ = some (.bool false) := new_cell2 _ _ _ _ _ _ rfl rfl
  have qf1 : (w.alloc (.cells #[.int .i64 0, .bool false, .int .i64 0, .int .i64 0] 25)).frozen? ⟨w.heap.size, 1, none⟩ = false := new_loose2 _ _ _ _ _ rfl
  have q2 : (w.alloc (.cells #[.int .i64 0, .bool false, .int .i64 0, .int .i64 0] 25)).cell? ⟨w.heap.size, 2, none⟩ = some (.int .i64 0) := new_cell2 _ _ _ _ _ _ rfl rfl
  have qf2 : (w.alloc (.cells #[.int .i64 0, .bool false, .int .i64 0, .int .i64 0] 25)).frozen? ⟨w.heap.size, 2, none⟩ = false := new_loose2 _ _ _ _ _ rfl
  have q3 : (w.alloc (.cells #[.int .i64 0, .bool false, .int .i64 0, .int .i64 0] 25)).cell? ⟨w.heap.size, 3, none⟩ = some (.int .i64 0) := new_cell2 _ _ _ _ _ _ rfl rfl
  have qf3 : (w.alloc (.cells #[.int .i64 0, .bool false, .int .i64 0, .int .i64 0] 25)).frozen? ⟨w.heap.size, 3, none⟩ = false := new_loose2 _ _ _ _ _ rfl
  have s0 : w.heap.size < (w.alloc (.cells #[.int .i64 0, .bool false, .int .i64 0, .int .i64 0] 25)).heap.size := by simp
  clear c
  go_enter Tryz.func49, Tryz.ntmps49
  go_wp2_with fail
  generalize w.alloc (.cells #[.int .i64 0, .bool false, .int .i64 0, .int .i64 0] 25) = W at *
  go_wp2_with fail
  refine (draw5_any g lo _ D.1).mono ?_
  rintro e w1 ⟨fk, fn, fm, fe, rfl, hd⟩
  have kk := hd.2
  replace D := D.trans hd
  replace qf0 := Kept.looseOut' kk (by dsimp only; omega) (World.block_lt_of_cell? _ _ q0) qf0
  replace qf1 := Kept.looseOut' kk (by dsimp only; omega) (World.block_lt_of_cell? _ _ q1) qf1
  replace qf2 := Kept.looseOut' kk (by dsimp only; omega) (World.block_lt_of_cell? _ _ q2) qf2
  replace qf3 := Kept.looseOut' kk (by dsimp only; omega) (World.block_lt_of_cell? _ _ q3) qf3
  replace q0 := Kept.cellOut kk (by dsimp only; omega) q0
  replace q1 := Kept.cellOut kk (by dsimp only; omega) q1
  replace q2 := Kept.cellOut kk (by dsimp only; omega) q2
  replace q3 := Kept.cellOut kk (by dsimp only; omega) q3
  have z2 := kk.size
  clear kk hd
  have kk := (Kept.refl 0 0 w1).alloc (.cells #[.int .i64 fk, .bool fn, .int .i64 fm, .int .i64 fe] 25)
  have y0 : (w1.alloc (.cells #[.int .i64 fk, .bool fn, .int .i64 fm, .int .i64 fe] 25)).cell? ⟨w1.heap.size, 0, none⟩ = some (.int .i64 fk) := new_cell2 _ _ _ _ _ _ rfl rfl
  have yf0 : (w1.alloc (.cells #[.int .i64 fk, .bool fn, .int .i64 fm, .int .i64 fe] 25)).frozen? ⟨w1.heap.size, 0, none⟩ = false := new_loose2 _ _ _ _ _ rfl
  have y1 : (w1.alloc (.cells #[.int .i64 fk, .bool fn, .int .i64 fm, .int .i64 fe] 25)).cell? ⟨w1.heap.size, 1, none⟩ = some (.bool fn) := new_cell2 _ _ _ _ _ _ rfl rfl
  have yf1 : (w1.alloc (.cells #[.int .i64 fk, .bool fn, .int .i64 fm, .int .i64 fe] 25)).frozen? ⟨w1.heap.size, 1, none⟩ = false := new_loose2 _ _ _ _ _ rfl
  have y2 : (w1.alloc (.cells #[.int .i64 fk, .bool fn, .int .i64 fm, .int .i64 fe] 25)).cell? ⟨w1.heap.size, 2, none⟩ = some (.int .i64 fm) := new_cell2 _ _ _ _ _ _ rfl rfl
  have yf2 : (w1.alloc (.cells #[.int .i64 fk, .bool fn, .int .i64 fm, .int .i64 fe] 25)).frozen? ⟨w1.heap.size, 2, none⟩ = false := new_loose2 _ _ _ _ _ rfl
  have y3 : (w1.alloc (.cells #[.int .i64 fk, .bool fn, .int .i64 fm, .int .i64 fe] 25)).cell? ⟨w1.heap.size, 3, none⟩ = some (.int .i64 fe) := new_cell2 _ _ _ _ _ _ rfl rfl
  have yf3 : (w1.alloc (.cells #[.int .i64 fk, .bool fn, .int .i64 fm, .int .i64 fe] 25)).frozen? ⟨w1.heap.size, 3, none⟩ = false := new_loose2 _ _ _ _ _ rfl
  replace D := D.keptR kk
  have yy : w1.heap.size < (w1.alloc (.cells #[.int .i64 fk, .bool fn, .int .i64 fm, .int .i64 fe] 25)).heap.size := by simp
  replace qf0 := Kept.looseOut' kk (by dsimp only; omega) (World.block_lt_of_cell? _ _ q0) qf0
  replace qf1 := Kept.looseOut' kk (by dsimp only; omega) (World.block_lt_of_cell? _ _ q1) qf1
  replace qf2 := Kept.looseOut' kk (by dsimp only; omega) (World.block_lt_of_cell? _ _ q2) qf2
  replace qf3 := Kept.looseOut' kk (by dsimp only; omega) (World.block_lt_of_cell? _ _ q3) qf3
  replace q0 := Kept.cellOut kk (by dsimp only; omega) q0
  replace q1 := Kept.cellOut kk (by dsimp only; omega) q1
  replace q2 := Kept.cellOut kk (by dsimp only; omega) q2
  replace q3 := Kept.cellOut kk (by dsimp only; omega) q3
  have z3 := kk.size
  clear kk
  go_wp2_with fail
  generalize w1.alloc (.cells #[.int .i64 fk, .bool fn, .int .i64 fm, .int .i64 fe] 25) = w4 at *
  refine (l1Once_any g lo _ D.1 12).mono ?_
  rintro e w5 ⟨b1, rfl, hd⟩
  have kk := hd.kept
  replace D := D.trans hd.drawn
  replace qf0 := Kept.looseOut' kk (by dsimp only; omega) (World.block_lt_of_cell? _ _ q0) qf0
  replace qf1 := Kept.looseOut' kk (by dsimp only; omega) (World.block_lt_of_cell? _ _ q1) qf1
  replace qf2 := Kept.looseOut' kk (by dsimp only; omega) (World.block_lt_of_cell? _ _ q2) qf2
  replace qf3 := Kept.looseOut' kk (by dsimp only; omega) (World.block_lt_of_cell? _ _ q3) qf3
  replace yf0 := Kept.looseOut' kk (by dsimp only; omega) (World.block_lt_of_cell? _ _ y0) yf0
  replace yf1 := Kept.looseOut' kk (by dsimp only; omega) (World.block_lt_of_cell? _ _ y1) yf1
  replace yf2 := Kept.looseOut' kk (by dsimp only; omega) (World.block_lt_of_cell? _ _ y2) yf2
  replace yf3 := Kept.looseOut' kk (by dsimp only; omega) (World.block_lt_of_cell? _ _ y3) yf3
  replace q0 := Kept.cellOut kk (by dsimp only; omega) q0
  replace q1 := Kept.cellOut kk (by dsimp only; omega) q1
  replace q2 := Kept.cellOut kk (by dsimp only; omega) q2
  replace q3 := Kept.cellOut kk (by dsimp only; omega) q3
  replace y0 := Kept.cellOut kk (by dsimp only; omega) y0
  replace y1 := Kept.cellOut kk (by dsimp only; omega) y1
  replace y2 := Kept.cellOut kk (by dsimp only; omega) y2
  replace y3 := Kept.cellOut kk (by dsimp only; omega) y3
  have z6 := kk.size
  clear kk hd
  cases b1
  · have DD := hide ((((D.set (p := ⟨w.heap.size, 0, none⟩) hg (Nat.le_refl _) (.int .i64 fk)).set (p := ⟨w.heap.size, 1, none⟩) hg (Nat.le_refl _) (.bool fn)).set (p := ⟨w.heap.size, 2, none⟩) hg (Nat.le_refl _) (.int .i64 fm)).set (p := ⟨w.heap.size, 3, none⟩) hg (Nat.le_refl _) (.int .i64 fe))
    clear  D 
    go_wp2_with fail
    exact bodyPost_ret (v := .agg #[.int .i64 fk, .bool fn, .int .i64 fm, .int .i64 fe]) (by simp [results, Tryz.results49, go_sem, q0, q1, q2, q3]) rfl ⟨_, _, _, _, rfl, unhide DD⟩
  go_wp2_with fail
  refine (l1Below_any g lo _ D.1 4).mono ?_
  rintro e w7 ⟨n, rfl, -, hbn, hd⟩
  have kk := hd.kept
  replace D := D.trans hd.drawn
  replace hbn := hbn (by decide)
  replace qf0 := Kept.looseOut' kk (by dsimp only; omega) (World.block_lt_of_cell? _ _ q0) qf0
  replace qf1 := Kept.looseOut' kk (by dsimp only; omega) (World.block_lt_of_cell? _ _ q1) qf1
  replace qf2 := Kept.looseOut' kk (by dsimp only; omega) (World.block_lt_of_cell? _ _ q2) qf2
  replace qf3 := Kept.looseOut' kk (by dsimp only; omega) (World.block_lt_of_cell? _ _ q3) qf3
  replace yf0 := Kept.looseOut' kk (by dsimp only; omega) (World.block_lt_of_cell? _ _ y0) yf0
  replace yf1 := Kept.looseOut' kk (by dsimp only; omega) (World.block_lt_of_cell? _ _ y1) yf1
  replace yf2 := Kept.looseOut' kk (by dsimp only; omega) (World.block_lt_of_cell? _ _ y2) yf2
  replace yf3 := Kept.looseOut' kk (by dsimp only; omega) (World.block_lt_of_cell? _ _ y3) yf3
  replace q0 := Kept.cellOut kk (by dsimp only; omega) q0
  replace q1 := Kept.cellOut kk (by dsimp only; omega) q1
  replace q2 := Kept.cellOut kk (by dsimp only; omega) q2
  replace q3 := Kept.cellOut kk (by dsimp only; omega) q3
  replace y0 := Kept.cellOut kk (by dsimp only; omega) y0
  replace y1 := Kept.cellOut kk (by dsimp only; omega) y1
  replace y2 := Kept.cellOut kk (by dsimp only; omega) y2
  replace y3 := Kept.cellOut kk (by dsimp only; omega) y3
  have z8 := kk.size
  clear kk hd
  obtain rfl | rfl | rfl | rfl : n = 0 ∨ n = 1 ∨ n = 2 ∨ n = 3 := by omega
  · go_wp2_with fail
    refine (l1Below_any g lo _ D.1 6).mono ?_
    rintro e w9 ⟨n2, rfl, -, hbn2, hd⟩
    have kk := hd.kept
    replace D := D.trans hd.drawn
    replace hbn2 := hbn2 (by decide)
    replace qf0 := Kept.looseOut' kk (by dsimp only; omega) (World.block_lt_of_cell? _ _ q0) qf0
    replace qf1 := Kept.looseOut' kk (by dsimp only; omega) (World.block_lt_of_cell? _ _ q1) qf1
    replace qf2 := Kept.looseOut' kk (by dsimp only; omega) (World.block_lt_of_cell? _ _ q2) qf2
    replace qf3 := Kept.looseOut' kk (by dsimp only; omega) (World.block_lt_of_cell? _ _ q3) qf3
    replace yf0 := Kept.looseOut' kk (by dsimp only; omega) (World.block_lt_of_cell? _ _ y0) yf0
    replace yf1 := Kept.looseOut' kk (by dsimp only; omega) (World.block_lt_of_cell? _ _ y1) yf1
    replace yf2 := Kept.looseOut' kk (by dsimp only; omega) (World.block_lt_of_cell? _ _ y2) yf2
    replace yf3 := Kept.looseOut' kk (by dsimp only; omega) (World.block_lt_of_cell? _ _ y3) yf3
    replace q0 := Kept.cellOut kk (by dsimp only; omega) q0
    replace q1 := Kept.cellOut kk (by dsimp only; omega) q1
    replace q2 := Kept.cellOut kk (by dsimp only; omega) q2
    replace q3 := Kept.cellOut kk (by dsimp only; omega) q3
    replace y0 := Kept.cellOut kk (by dsimp only; omega) y0
    replace y1 := Kept.cellOut kk (by dsimp only; omega) y1
    replace y2 := Kept.cellOut kk (by dsimp only; omega) y2
    replace y3 := Kept.cellOut kk (by dsimp only; omega) y3
    have z10 := kk.size
    clear kk hd
    have hw2 : IntKind.i64.wrap (n2 - 1) = n2 - 1 := by rw [IntKind.wrap_i64]; omega
    go_wp2_with fail
    replace D := D.set (p := ⟨w1.heap.size, 0, none⟩) (by dsimp only; omega) (by dsimp only; omega) (.int .i64 (n2 - 1))
    replace q0 := cell_aside (.int .i64 (n2 - 1)) (r := ⟨w1.heap.size, 0, none⟩) (by dsimp only; omega) q0
    replace q1 := cell_aside (.int .i64 (n2 - 1)) (r := ⟨w1.heap.size, 0, none⟩) (by dsimp only; omega) q1
    replace q2 := cell_aside (.int .i64 (n2 - 1)) (r := ⟨w1.heap.size, 0, none⟩) (by dsimp only; omega) q2
    replace q3 := cell_aside (.int .i64 (n2 - 1)) (r := ⟨w1.heap.size, 0, none⟩) (by dsimp only; omega) q3
    replace y0 : (w9.setCell ⟨w1.heap.size, 0, none⟩ (.int .i64 (n2 - 1))).cell? ⟨w1.heap.size, 0, none⟩ = some (.int .i64 (n2 - 1)) := cell_on _ _ _ _ _ y0
    replace y1 := cell_off _ _ _ 0 (.int .i64 (n2 - 1)) _ y1 (by decide)
    replace y2 := cell_off _ _ _ 0 (.int .i64 (n2 - 1)) _ y2 (by decide)
    replace y3 := cell_off _ _ _ 0 (.int .i64 (n2 - 1)) _ y3 (by decide)
    replace qf0 : (w9.setCell ⟨w1.heap.size, 0, none⟩ (.int .i64 (n2 - 1))).frozen? _ = false := (frozen_set _ _ _ _ _).trans qf0
    replace qf1 : (w9.setCell ⟨w1.heap.size, 0, none⟩ (.int .i64 (n2 - 1))).frozen? _ = false := (frozen_set _ _ _ _ _).trans qf1
    replace qf2 : (w9.setCell ⟨w1.heap.size, 0, none⟩ (.int .i64 (n2 - 1))).frozen? _ = false := (frozen_set _ _ _ _ _).trans qf2
    replace qf3 : (w9.setCell ⟨w1.heap.size, 0, none⟩ (.int .i64 (n2 - 1))).frozen? _ = false := (frozen_set _ _ _ _ _).trans qf3
    replace yf0 : (w9.setCell ⟨w1.heap.size, 0, none⟩ (.int .i64 (n2 - 1))).frozen? _ = false := (frozen_set _ _ _ _ _).trans yf0
    replace yf1 : (w9.setCell ⟨w1.heap.size, 0, none⟩ (.int .i64 (n2 - 1))).frozen? _ = false := (frozen_set _ _ _ _ _).trans yf1
    replace yf2 : (w9.setCell ⟨w1.heap.size, 0, none⟩ (.int .i64 (n2 - 1))).frozen? _ = false := (frozen_set _ _ _ _ _).trans yf2
    replace yf3 : (w9.setCell ⟨w1.heap.size, 0, none⟩ (.int .i64 (n2 - 1))).frozen? _ = false := (frozen_set _ _ _ _ _).trans yf3
    have z11 : (w9.setCell ⟨w1.heap.size, 0, none⟩ (.int .i64 (n2 - 1))).heap.size = w9.heap.size := size_set _ _ _
    replace z11 := Nat.le_of_eq z11.symm
    generalize (w9.setCell ⟨w1.heap.size, 0, none⟩ (.int .i64 (n2 - 1))) = w12 at *
    have DD := hide ((((D.set (p := ⟨w.heap.size, 0, none⟩) hg (Nat.le_refl _) (.int .i64 (n2 - 1))).set (p := ⟨w.heap.size, 1, none⟩) hg (Nat.le_refl _) (.bool fn)).set (p := ⟨w.heap.size, 2, none⟩) hg (Nat.le_refl _) (.int .i64 fm)).set (p := ⟨w.heap.size, 3, none⟩) hg (Nat.le_refl _) (.int .i64 fe))
    clear  D 
    exact bodyPost_ret (v := .agg #[.int .i64 (n2 - 1), .bool fn, .int .i64 fm, .int .i64 fe]) (by simp [results, Tryz.results49, go_sem, q0, q1, q2, q3]) rfl ⟨_, _, _, _, rfl, unhide DD⟩
  · go_wp2_with fail
    have hr := Row.lit .i64 w7 3 [0, -1, 1, 9007199254740992] (by simp [maxLen])
    have gW : g < w7.heap.size := D.1.1
    refine (l1PickInt_any g lo _ (D.1.kept ((Kept.refl 0 0 w7).alloc _) (by omega)) hr (by simp) (by omega)).mono ?_
    rintro e w9 ⟨x2, rfl, hxx2, hd⟩
    have hbx2 : -1 ≤ x2 ∧ x2 ≤ 9007199254740992 := by
      simp only [List.mem_cons, List.not_mem_nil, or_false] at hxx2
      omega
    have kk := (((Kept.refl 0 0 w7).alloc (.cells ([0, -1, 1, 9007199254740992].map (Value.int .i64)).toArray 3)).any (lo := g) (hi := g + 1)).trans hd.2.1
    replace D : Drawn g lo w w9 := ⟨hd.1, D.2.trans kk⟩
    replace qf0 := Kept.looseOut' kk (by dsimp only; omega) (World.block_lt_of_cell? _ _ q0) qf0
    replace qf1 := Kept.looseOut' kk (by dsimp only; omega) (World.block_lt_of_cell? _ _ q1) qf1
    replace qf2 := Kept.looseOut' kk (by dsimp only; omega) (World.block_lt_of_cell? _ _ q2) qf2
    replace qf3 := Kept.looseOut' kk (by dsimp only; omega) (World.block_lt_of_cell? _ _ q3) qf3
    replace yf0 := Kept.looseOut' kk (by dsimp only; omega) (World.block_lt_of_cell? _ _ y0) yf0
    replace yf1 := Kept.looseOut' kk (by dsimp only; omega) (World.block_lt_of_cell? _ _ y1) yf1
    replace yf2 := Kept.looseOut' kk (by dsimp only; omega) (World.block_lt_of_cell? _ _ y2) yf2
    replace yf3 := Kept.looseOut' kk (by dsimp only; omega) (World.block_lt_of_cell? _ _ y3) yf3
    replace q0 := Kept.cellOut kk (by dsimp only; omega) q0
    replace q1 := Kept.cellOut kk (by dsimp only; omega) q1
    replace q2 := Kept.cellOut kk (by dsimp only; omega) q2
    replace q3 := Kept.cellOut kk (by dsimp only; omega) q3
    replace y0 := Kept.cellOut kk (by dsimp only; omega) y0
    replace y1 := Kept.cellOut kk (by dsimp only; omega) y1
    replace y2 := Kept.cellOut kk (by dsimp only; omega) y2
    replace y3 := Kept.cellOut kk (by dsimp only; omega) y3
    have z10 := kk.size
    clear kk hd hr gW hxx2
    go_wp2_with fail
    replace D := D.set (p := ⟨w1.heap.size, 2, none⟩) (by dsimp only; omega) (by dsimp only; omega) (.int .i64 x2)
    replace q0 := cell_aside (.int .i64 x2) (r := ⟨w1.heap.size, 2, none⟩) (by dsimp only; omega) q0
    replace q1 := cell_aside (.int .i64 x2) (r := ⟨w1.heap.size, 2, none⟩) (by dsimp only; omega) q1
    replace q2 := cell_aside (.int .i64 x2) (r := ⟨w1.heap.size, 2, none⟩) (by dsimp only; omega) q2
    replace q3 := cell_aside (.int .i64 x2) (r := ⟨w1.heap.size, 2, none⟩) (by dsimp only; omega) q3
    replace y0 := cell_off _ _ _ 2 (.int .i64 x2) _ y0 (by decide)
    replace y1 := cell_off _ _ _ 2 (.int .i64 x2) _ y1 (by decide)
    replace y2 : (w9.setCell ⟨w1.heap.size, 2, none⟩ (.int .i64 x2)).cell? ⟨w1.heap.size, 2, none⟩ = some (.int .i64 x2) := cell_on _ _ _ _ _ y2
    replace y3 := cell_off _ _ _ 2 (.int .i64 x2) _ y3 (by decide)
    replace qf0 : (w9.setCell ⟨w1.heap.size, 2, none⟩ (.int .i64 x2)).frozen? _ = false := (frozen_set _ _ _ _ _).trans qf0
    replace qf1 : (w9.setCell ⟨w1.heap.size, 2, none⟩ (.int .i64 x2)).frozen? _ = false := (frozen_set _ _ _ _ _).trans qf1
    replace qf2 : (w9.setCell ⟨w1.heap.size, 2, none⟩ (.int .i64 x2)).frozen? _ = false := (frozen_set _ _ _ _ _).trans qf2
    replace qf3 : (w9.setCell ⟨w1.heap.size, 2, none⟩ (.int .i64 x2)).frozen? _ = false := (frozen_set _ _ _ _ _).trans qf3
    replace yf0 : (w9.setCell ⟨w1.heap.size, 2, none⟩ (.int .i64 x2)).frozen? _ = false := (frozen_set _ _ _ _ _).trans yf0
    replace yf1 : (w9.setCell ⟨w1.heap.size, 2, none⟩ (.int .i64 x2)).frozen? _ = false := (frozen_set _ _ _ _ _).trans yf1
    replace yf2 : (w9.setCell ⟨w1.heap.size, 2, none⟩ (.int .i64 x2)).frozen? _ = false := (frozen_set _ _ _ _ _).trans yf2
    replace yf3 : (w9.setCell ⟨w1.heap.size, 2, none⟩ (.int .i64 x2)).frozen? _ = false := (frozen_set _ _ _ _ _).trans yf3
    have z11 : (w9.setCell ⟨w1.heap.size, 2, none⟩ (.int .i64 x2)).heap.size = w9.heap.size := size_set _ _ _
    replace z11 := Nat.le_of_eq z11.symm
    generalize (w9.setCell ⟨w1.heap.size, 2, none⟩ (.int .i64 x2)) = w12 at *
    have DD := hide ((((D.set (p := ⟨w.heap.size, 0, none⟩) hg (Nat.le_refl _) (.int .i64 fk)).set (p := ⟨w.heap.size, 1, none⟩) hg (Nat.le_refl _) (.bool fn)).set (p := ⟨w.heap.size, 2, none⟩) hg (Nat.le_refl _) (.int .i64 x2)).set (p := ⟨w.heap.size, 3, none⟩) hg (Nat.le_refl _) (.int .i64 fe))
    clear  D 
    exact bodyPost_ret (v := .agg #[.int .i64 fk, .bool fn, .int .i64 x2, .int .i64 fe]) (by simp [results, Tryz.results49, go_sem, q0, q1, q2, q3]) rfl ⟨_, _, _, _, rfl, unhide DD⟩
  · go_wp2_with fail
    have hr := Row.lit .i64 w7 3 [-1075, 972, 0] (by simp [maxLen])
    have gW : g < w7.heap.size := D.1.1
    refine (l1PickInt_any g lo _ (D.1.kept ((Kept.refl 0 0 w7).alloc _) (by omega)) hr (by simp) (by omega)).mono ?_
    rintro e w9 ⟨x2, rfl, hxx2, hd⟩
    have hbx2 : -1075 ≤ x2 ∧ x2 ≤ 972 := by
      simp only [List.mem_cons, List.not_mem_nil, or_false] at hxx2
      omega
    have kk := (((Kept.refl 0 0 w7).alloc (.cells ([-1075, 972, 0].map (Value.int .i64)).toArray 3)).any (lo := g) (hi := g + 1)).trans hd.2.1
    replace D : Drawn g lo w w9 := ⟨hd.1, D.2.trans kk⟩
    replace qf0 := Kept.looseOut' kk (by dsimp only; omega) (World.block_lt_of_cell? _ _ q0) qf0
    replace qf1 := Kept.looseOut' kk (by dsimp only; omega) (World.block_lt_of_cell? _ _ q1) qf1
    replace qf2 := Kept.looseOut' kk (by dsimp only; omega) (World.block_lt_of_cell? _ _ q2) qf2
    replace qf3 := Kept.looseOut' kk (by dsimp only; omega) (World.block_lt_of_cell? _ _ q3) qf3
    replace yf0 := Kept.looseOut' kk (by dsimp only; omega) (World.block_lt_of_cell? _ _ y0) yf0
    replace yf1 := Kept.looseOut' kk (by dsimp only; omega) (World.block_lt_of_cell? _ _ y1) yf1
    replace yf2 := Kept.looseOut' kk (by dsimp only; omega) (World.block_lt_of_cell? _ _ y2) yf2
    replace yf3 := Kept.looseOut' kk (by dsimp only; omega) (World.block_lt_of_cell? _ _ y3) yf3
    replace q0 := Kept.cellOut kk (by dsimp only; omega) q0
    replace q1 := Kept.cellOut kk (by dsimp only; omega) q1
    replace q2 := Kept.cellOut kk (by dsimp only; omega) q2
    replace q3 := Kept.cellOut kk (by dsimp only; omega) q3
    replace y0 := Kept.cellOut kk (by dsimp only; omega) y0
    replace y1 := Kept.cellOut kk (by dsimp only; omega) y1
    replace y2 := Kept.cellOut kk (by dsimp only; omega) y2
    replace y3 := Kept.cellOut kk (by dsimp only; omega) y3
    have z10 := kk.size
    clear kk hd hr gW hxx2
    go_wp2_with fail
    replace D := D.set (p := ⟨w1.heap.size, 3, none⟩) (by dsimp only; omega) (by dsimp only; omega) (.int .i64 x2)
    replace q0 := cell_aside (.int .i64 x2) (r := ⟨w1.heap.size, 3, none⟩) (by dsimp only; omega) q0
    replace q1 := cell_aside (.int .i64 x2) (r := ⟨w1.heap.size, 3, none⟩) (by dsimp only; omega) q1
    replace q2 := cell_aside (.int .i64 x2) (r := ⟨w1.heap.size, 3, none⟩) (by dsimp only; omega) q2
    replace q3 := cell_aside (.int .i64 x2) (r := ⟨w1.heap.size, 3, none⟩) (by dsimp only; omega) q3
    replace y0 := cell_off _ _ _ 3 (.int .i64 x2) _ y0 (by decide)
    replace y1 := cell_off _ _ _ 3 (.int .i64 x2) _ y1 (by decide)
    replace y2 := cell_off _ _ _ 3 (.int .i64 x2) _ y2 (by decide)
    replace y3 : (w9.setCell ⟨w1.heap.size, 3, none⟩ (.int .i64 x2)).cell? ⟨w1.heap.size, 3, none⟩ = some (.int .i64 x2) := cell_on _ _ _ _ _ y3
    replace qf0 : (w9.setCell ⟨w1.heap.size, 3, none⟩ (.int .i64 x2)).frozen? _ = false := (frozen_set _ _ _ _ _).trans qf0
    replace qf1 : (w9.setCell ⟨w1.heap.size, 3, none⟩ (.int .i64 x2)).frozen? _ = false := (frozen_set _ _ _ _ _).trans qf1
    replace qf2 : (w9.setCell ⟨w1.heap.size, 3, none⟩ (.int .i64 x2)).frozen? _ = false := (frozen_set _ _ _ _ _).trans qf2
    replace qf3 : (w9.setCell ⟨w1.heap.size, 3, none⟩ (.int .i64 x2)).frozen? _ = false := (frozen_set _ _ _ _ _).trans qf3
    replace yf0 : (w9.setCell ⟨w1.heap.size, 3, none⟩ (.int .i64 x2)).frozen? _ = false := (frozen_set _ _ _ _ _).trans yf0
    replace yf1 : (w9.setCell ⟨w1.heap.size, 3, none⟩ (.int .i64 x2)).frozen? _ = false := (frozen_set _ _ _ _ _).trans yf1
    replace yf2 : (w9.setCell ⟨w1.heap.size, 3, none⟩ (.int .i64 x2)).frozen? _ = false := (frozen_set _ _ _ _ _).trans yf2
    replace yf3 : (w9.setCell ⟨w1.heap.size, 3, none⟩ (.int .i64 x2)).frozen? _ = false := (frozen_set _ _ _ _ _).trans yf3
    have z11 : (w9.setCell ⟨w1.heap.size, 3, none⟩ (.int .i64 x2)).heap.size = w9.heap.size := size_set _ _ _
    replace z11 := Nat.le_of_eq z11.symm
    generalize (w9.setCell ⟨w1.heap.size, 3, none⟩ (.int .i64 x2)) = w12 at *
    have DD := hide ((((D.set (p := ⟨w.heap.size, 0, none⟩) hg (Nat.le_refl _) (.int .i64 fk)).set (p := ⟨w.heap.size, 1, none⟩) hg (Nat.le_refl _) (.bool fn)).set (p := ⟨w.heap.size, 2, none⟩) hg (Nat.le_refl _) (.int .i64 fm)).set (p := ⟨w.heap.size, 3, none⟩) hg (Nat.le_refl _) (.int .i64 x2))
    clear  D 
    exact bodyPost_ret (v := .agg #[.int .i64 fk, .bool fn, .int .i64 fm, .int .i64 x2]) (by simp [results, Tryz.results49, go_sem, q0, q1, q2, q3]) rfl ⟨_, _, _, _, rfl, unhide DD⟩
  · go_wp2_with fail
    replace D := D.set (p := ⟨w1.heap.size, 1, none⟩) (by dsimp only; omega) (by dsimp only; omega) (.bool (!fn))
    replace q0 := cell_aside (.bool (!fn)) (r := ⟨w1.heap.size, 1, none⟩) (by dsimp only; omega) q0
    replace q1 := cell_aside (.bool (!fn)) (r := ⟨w1.heap.size, 1, none⟩) (by dsimp only; omega) q1
    replace q2 := cell_aside (.bool (!fn)) (r := ⟨w1.heap.size, 1, none⟩) (by dsimp only; omega) q2
    replace q3 := cell_aside (.bool (!fn)) (r := ⟨w1.heap.size, 1, none⟩) (by dsimp only; omega) q3
    replace y0 := cell_off _ _ _ 1 (.bool (!fn)) _ y0 (by decide)
    replace y1 : (w7.setCell ⟨w1.heap.size, 1, none⟩ (.bool (!fn))).cell? ⟨w1.heap.size, 1, none⟩ = some (.bool (!fn)) := cell_on _ _ _ _ _ y1
    replace y2 := cell_off _ _ _ 1 (.bool (!fn)) _ y2 (by decide)
    replace y3 := cell_off _ _ _ 1 (.bool (!fn)) _ y3 (by decide)
    replace qf0 : (w7.setCell ⟨w1.heap.size, 1, none⟩ (.bool (!fn))).frozen? _ = false := (frozen_set _ _ _ _ _).trans qf0
    replace qf1 : (w7.setCell ⟨w1.heap.size, 1, none⟩ (.bool (!fn))).frozen? _ = false := (frozen_set _ _ _ _ _).trans qf1
    replace qf2 : (w7.setCell ⟨w1.heap.size, 1, none⟩ (.bool (!fn))).frozen? _ = false := (frozen_set _ _ _ _ _).trans qf2
    replace qf3 : (w7.setCell ⟨w1.heap.size, 1, none⟩ (.bool (!fn))).frozen? _ = false := (frozen_set _ _ _ _ _).trans qf3
    replace yf0 : (w7.setCell ⟨w1.heap.size, 1, none⟩ (.bool (!fn))).frozen? _ = false := (frozen_set _ _ _ _ _).trans yf0
    replace yf1 : (w7.setCell ⟨w1.heap.size, 1, none⟩ (.bool (!fn))).frozen? _ = false := (frozen_set _ _ _ _ _).trans yf1
    replace yf2 : (w7.setCell ⟨w1.heap.size, 1, none⟩ (.bool (!fn))).frozen? _ = false := (frozen_set _ _ _ _ _).trans yf2
    replace yf3 : (w7.setCell ⟨w1.heap.size, 1, none⟩ (.bool (!fn))).frozen? _ = false := (frozen_set _ _ _ _ _).trans yf3
    have z9 : (w7.setCell ⟨w1.heap.size, 1, none⟩ (.bool (!fn))).heap.size = w7.heap.size := size_set _ _ _
    replace z9 := Nat.le_of_eq z9.symm
    generalize (w7.setCell ⟨w1.heap.size, 1, none⟩ (.bool (!fn))) = w10 at *
    have DD := hide ((((D.set (p := ⟨w.heap.size, 0, none⟩) hg (Nat.le_refl _) (.int .i64 fk)).set (p := ⟨w.heap.size, 1, none⟩) hg (Nat.le_refl _) (.bool (!fn))).set (p := ⟨w.heap.size, 2, none⟩) hg (Nat.le_refl _) (.int .i64 fm)).set (p := ⟨w.heap.size, 3, none⟩) hg (Nat.le_refl _) (.int .i64 fe))
    clear  D 
    exact bodyPost_ret (v := .agg #[.int .i64 fk, .bool (!fn), .int .i64 fm, .int .i64 fe]) (by simp [results, Tryz.results49, go_sem, q0, q1, q2, q3]) rfl ⟨_, _, _, _, rfl, unhide DD⟩

end Go.Proofs.YtckaecmkidplhaaGreatDoor

