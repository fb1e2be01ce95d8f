/-
  The draws of floats, bent, in pairs, and of bits: they return, whatever is drawn.
-/
import Derived.Test.YtckaecmkidplhaaGreatDoorFl16y
import Derived.Test.YtckaecmkidplhaaGreatDoorBC
import Derived.Deep.RegionHeld3
import Derived.Deep.DeepCutAuto
namespace Go.Proofs.YtckaecmkidplhaaGreatDoor
open Go.RowKit
set_option linter.unusedVariables false
set_option maxRecDepth 8000
set_option linter.unusedSimpArgs false

theorem in_FlNext_d : ∀ (w : World) (args : Array Value), (callFunc 90 args).run Tryz.prog w = .ok (.enter 90 args) w := enters Tryz.func90 (by decide) (fun h => by cases h)

theorem in_l5neg_d : ∀ (w : World) (args : Array Value), (callFunc 89 args).run Tryz.prog w = .ok (.enter 89 args) w := enters Tryz.func89 (by decide) (fun h => by cases h)

theorem in_l5bent_d : ∀ (w : World) (args : Array Value), (callFunc 49 args).run Tryz.prog w = .ok (.enter 49 args) w := enters Tryz.func49 (by decide) (fun h => by cases h)

set_option maxHeartbeats 1000000 in
theorem l5neg_some (k : Int) (n : Bool) (m e : Int) (w : World) :
    Calls Tryz.prog 89 #[flv k n m e] w fun r w' => ∃ n', r = .returned (flv k n' m e) ∧ Kept 0 0 w w' := by
  by_cases h : k = 3
  · subst h
    go_enter Tryz.func89, Tryz.ntmps89
    go_wp2
    exact bodyPost_ret (v := flv 3 n m e) (by simp [results, Tryz.results89, go_sem]) rfl ⟨_, rfl, by repeat first | exact Kept.refl 0 0 _ | apply Kept.alloc⟩
  · refine (l5neg_not k n m e (by simpa using h) w).mono ?_
    rintro r w' ⟨rfl, rfl⟩
    exact ⟨_, rfl, by repeat first | exact Kept.refl 0 0 _ | apply Kept.alloc⟩

set_option maxHeartbeats 8000000 in
theorem bent5_any (g lo : Nat) (w : World) (c : Cur g lo w) :
    Calls Tryz.prog 49 #[.pointer (some ⟨g, 0, none⟩)] w fun e' w' => ∃ fk fn fm fe, e' = .returned (flv fk fn fm fe) ∧ Drawn g lo w w' := by
  have hg := c.1
  have D := Drawn.start c (.cells #[.int .i64 0, .bool false, .int .i64 0, .int .i64 0] 25)
  have q0 : (w.alloc (.cells #[.int .i64 0, .bool false, .int .i64 0, .int .i64 0] 25)).cell? ⟨w.heap.size, 0, none⟩ = some (.int .i64 0) := new_cell2 _ _ _ _ _ _ rfl rfl
  have qf0 : (w.alloc (.cells #[.int .i64 0, .bool false, .int .i64 0, .int .i64 0] 25)).frozen? ⟨w.heap.size, 0, none⟩ = false := new_loose2 _ _ _ _ _ rfl
  have q1 : (w.alloc (.cells #[.int .i64 0, .bool false, .int .i64 0, .int .i64 0] 25)).cell? ⟨w.heap.size, 1, none⟩ = some (.bool false) := new_cell2 _ _ _ _ _ _ rfl rfl
  have qf1 : (w.alloc (.cells #[.int .i64 0, .bool false, .int .i64 0, .int .i64 0] 25)).frozen? ⟨w.heap.size, 1, none⟩ = false := new_loose2 _ _ _ _ _ rfl
  have q2 : (w.alloc (.cells #[.int .i64 0, .bool false, .int .i64 0, .int .i64 0] 25)).cell? ⟨w.heap.size, 2, none⟩ = some (.int .i64 0) := new_cell2 _ _ _ _ _ _ rfl rfl
  have qf2 : (w.alloc (.cells #[.int .i64 0, .bool false, .int .i64 0, .int .i64 0] 25)).frozen? ⟨w.heap.size, 2, none⟩ = false := new_loose2 _ _ _ _ _ rfl
  have q3 : (w.alloc (.cells #[.int .i64 0, .bool false, .int .i64 0, .int .i64 0] 25)).cell? ⟨w.heap.size, 3, none⟩ = some (.int .i64 0) := new_cell2 _ _ _ _ _ _ rfl rfl
  have qf3 : (w.alloc (.cells #[.int .i64 0, .bool false, .int .i64 0, .int .i64 0] 25)).frozen? ⟨w.heap.size, 3, none⟩ = false := new_loose2 _ _ _ _ _ rfl
  have s0 : w.heap.size < (w.alloc (.cells #[.int .i64 0, .bool false, .int .i64 0, .int .i64 0] 25)).heap.size := by simp
  clear c
  go_enter Tryz.func49, Tryz.ntmps49
  go_wp2_with fail
  generalize w.alloc (.cells #[.int .i64 0, .bool false, .int .i64 0, .int .i64 0] 25) = W at *
  go_wp2_with fail
  refine (draw5_any g lo _ D.1).mono ?_
  rintro e w1 ⟨fk, fn, fm, fe, rfl, hd⟩
  have kk := hd.2
  replace D := D.trans hd
  replace qf0 := Kept.looseOut' kk (by dsimp only; omega) (World.block_lt_of_cell? _ _ q0) qf0
  replace qf1 := Kept.looseOut' kk (by dsimp only; omega) (World.block_lt_of_cell? _ _ q1) qf1
  replace qf2 := Kept.looseOut' kk (by dsimp only; omega) (World.block_lt_of_cell? _ _ q2) qf2
  replace qf3 := Kept.looseOut' kk (by dsimp only; omega) (World.block_lt_of_cell? _ _ q3) qf3
  replace q0 := Kept.cellOut kk (by dsimp only; omega) q0
  replace q1 := Kept.cellOut kk (by dsimp only; omega) q1
  replace q2 := Kept.cellOut kk (by dsimp only; omega) q2
  replace q3 := Kept.cellOut kk (by dsimp only; omega) q3
  have z2 := kk.size
  clear kk hd
  have kk := (Kept.refl 0 0 w1).alloc (.cells #[.int .i64 fk, .bool fn, .int .i64 fm, .int .i64 fe] 25)
  have y0 : (w1.alloc (.cells #[.int .i64 fk, .bool fn, .int .i64 fm, .int .i64 fe] 25)).cell? ⟨w1.heap.size, 0, none⟩ = some (.int .i64 fk) := new_cell2 _ _ _ _ _ _ rfl rfl
  have yf0 : (w1.alloc (.cells #[.int .i64 fk, .bool fn, .int .i64 fm, .int .i64 fe] 25)).frozen? ⟨w1.heap.size, 0, none⟩ = false := new_loose2 _ _ _ _ _ rfl
  have y1 : (w1.alloc (.cells #[.int .i64 fk, .bool fn, .int .i64 fm, .int .i64 fe] 25)).cell? ⟨w1.heap.size, 1, none⟩ = some (.bool fn) := new_cell2 _ _ _ _ _ _ rfl rfl
  have yf1 : (w1.alloc (.cells #[.int .i64 fk, .bool fn, .int .i64 fm, .int .i64 fe] 25)).frozen? ⟨w1.heap.size, 1, none⟩ = false := new_loose2 _ _ _ _ _ rfl
  have y2 : (w1.alloc (.cells #[.int .i64 fk, .bool fn, .int .i64 fm, .int .i64 fe] 25)).cell? ⟨w1.heap.size, 2, none⟩ = some (.int .i64 fm) := new_cell2 _ _ _ _ _ _ rfl rfl
  have yf2 : (w1.alloc (.cells #[.int .i64 fk, .bool fn, .int .i64 fm, .int .i64 fe] 25)).frozen? ⟨w1.heap.size, 2, none⟩ = false := new_loose2 _ _ _ _ _ rfl
  have y3 : (w1.alloc (.cells #[.int .i64 fk, .bool fn, .int .i64 fm, .int .i64 fe] 25)).cell? ⟨w1.heap.size, 3, none⟩ = some (.int .i64 fe) := new_cell2 _ _ _ _ _ _ rfl rfl
  have yf3 : (w1.alloc (.cells #[.int .i64 fk, .bool fn, .int .i64 fm, .int .i64 fe] 25)).frozen? ⟨w1.heap.size, 3, none⟩ = false := new_loose2 _ _ _ _ _ rfl
  replace D := D.keptR kk
  have yy : w1.heap.size < (w1.alloc (.cells #[.int .i64 fk, .bool fn, .int .i64 fm, .int .i64 fe] 25)).heap.size := by simp
  replace qf0 := Kept.looseOut' kk (by dsimp only; omega) (World.block_lt_of_cell? _ _ q0) qf0
  replace qf1 := Kept.looseOut' kk (by dsimp only; omega) (World.block_lt_of_cell? _ _ q1) qf1
  replace qf2 := Kept.looseOut' kk (by dsimp only; omega) (World.block_lt_of_cell? _ _ q2) qf2
  replace qf3 := Kept.looseOut' kk (by dsimp only; omega) (World.block_lt_of_cell? _ _ q3) qf3
  replace q0 := Kept.cellOut kk (by dsimp only; omega) q0
  replace q1 := Kept.cellOut kk (by dsimp only; omega) q1
  replace q2 := Kept.cellOut kk (by dsimp only; omega) q2
  replace q3 := Kept.cellOut kk (by dsimp only; omega) q3
  have z3 := kk.size
  clear kk
  go_wp2_with fail
  generalize w1.alloc (.cells #[.int .i64 fk, .bool fn, .int .i64 fm, .int .i64 fe] 25) = w4 at *
  refine (l1Once_any g lo _ D.1 12).mono ?_
  rintro e w5 ⟨b1, rfl, hd⟩
  have kk := hd.kept
  replace D := D.trans hd.drawn
  replace qf0 := Kept.looseOut' kk (by dsimp only; omega) (World.block_lt_of_cell? _ _ q0) qf0
  replace qf1 := Kept.looseOut' kk (by dsimp only; omega) (World.block_lt_of_cell? _ _ q1) qf1
  replace qf2 := Kept.looseOut' kk (by dsimp only; omega) (World.block_lt_of_cell? _ _ q2) qf2
  replace qf3 := Kept.looseOut' kk (by dsimp only; omega) (World.block_lt_of_cell? _ _ q3) qf3
  replace yf0 := Kept.looseOut' kk (by dsimp only; omega) (World.block_lt_of_cell? _ _ y0) yf0
  replace yf1 := Kept.looseOut' kk (by dsimp only; omega) (World.block_lt_of_cell? _ _ y1) yf1
  replace yf2 := Kept.looseOut' kk (by dsimp only; omega) (World.block_lt_of_cell? _ _ y2) yf2
  replace yf3 := Kept.looseOut' kk (by dsimp only; omega) (World.block_lt_of_cell? _ _ y3) yf3
  replace q0 := Kept.cellOut kk (by dsimp only; omega) q0
  replace q1 := Kept.cellOut kk (by dsimp only; omega) q1
  replace q2 := Kept.cellOut kk (by dsimp only; omega) q2
  replace q3 := Kept.cellOut kk (by dsimp only; omega) q3
  replace y0 := Kept.cellOut kk (by dsimp only; omega) y0
  replace y1 := Kept.cellOut kk (by dsimp only; omega) y1
  replace y2 := Kept.cellOut kk (by dsimp only; omega) y2
  replace y3 := Kept.cellOut kk (by dsimp only; omega) y3
  have z6 := kk.size
  clear kk hd
  cases b1
  · have DD := hide ((((D.set (p := ⟨w.heap.size, 0, none⟩) hg (Nat.le_refl _) (.int .i64 fk)).set (p := ⟨w.heap.size, 1, none⟩) hg (Nat.le_refl _) (.bool fn)).set (p := ⟨w.heap.size, 2, none⟩) hg (Nat.le_refl _) (.int .i64 fm)).set (p := ⟨w.heap.size, 3, none⟩) hg (Nat.le_refl _) (.int .i64 fe))
    clear  D 
    go_wp2_with fail
    exact bodyPost_ret (v := .agg #[.int .i64 fk, .bool fn, .int .i64 fm, .int .i64 fe]) (by simp [results, Tryz.results49, go_sem, q0, q1, q2, q3]) rfl ⟨_, _, _, _, rfl, unhide DD⟩
  go_wp2_with fail
  refine (l1Below_any g lo _ D.1 4).mono ?_
  rintro e w7 ⟨n, rfl, -, hbn, hd⟩
  have kk := hd.kept
  replace D := D.trans hd.drawn
  replace hbn := hbn (by decide)
  replace qf0 := Kept.looseOut' kk (by dsimp only; omega) (World.block_lt_of_cell? _ _ q0) qf0
  replace qf1 := Kept.looseOut' kk (by dsimp only; omega) (World.block_lt_of_cell? _ _ q1) qf1
  replace qf2 := Kept.looseOut' kk (by dsimp only; omega) (World.block_lt_of_cell? _ _ q2) qf2
  replace qf3 := Kept.looseOut' kk (by dsimp only; omega) (World.block_lt_of_cell? _ _ q3) qf3
  replace yf0 := Kept.looseOut' kk (by dsimp only; omega) (World.block_lt_of_cell? _ _ y0) yf0
  replace yf1 := Kept.looseOut' kk (by dsimp only; omega) (World.block_lt_of_cell? _ _ y1) yf1
  replace yf2 := Kept.looseOut' kk (by dsimp only; omega) (World.block_lt_of_cell? _ _ y2) yf2
  replace yf3 := Kept.looseOut' kk (by dsimp only; omega) (World.block_lt_of_cell? _ _ y3) yf3
  replace q0 := Kept.cellOut kk (by dsimp only; omega) q0
  replace q1 := Kept.cellOut kk (by dsimp only; omega) q1
  replace q2 := Kept.cellOut kk (by dsimp only; omega) q2
  replace q3 := Kept.cellOut kk (by dsimp only; omega) q3
  replace y0 := Kept.cellOut kk (by dsimp only; omega) y0
  replace y1 := Kept.cellOut kk (by dsimp only; omega) y1
  replace y2 := Kept.cellOut kk (by dsimp only; omega) y2
  replace y3 := Kept.cellOut kk (by dsimp only; omega) y3
  have z8 := kk.size
  clear kk hd
  obtain rfl | rfl | rfl | rfl : n = 0 ∨ n = 1 ∨ n = 2 ∨ n = 3 := by omega
  · go_wp2_with fail
    refine (l1Below_any g lo _ D.1 6).mono ?_
    rintro e w9 ⟨n2, rfl, -, hbn2, hd⟩
    have kk := hd.kept
    replace D := D.trans hd.drawn
    replace hbn2 := hbn2 (by decide)
    replace qf0 := Kept.looseOut' kk (by dsimp only; omega) (World.block_lt_of_cell? _ _ q0) qf0
    replace qf1 := Kept.looseOut' kk (by dsimp only; omega) (World.block_lt_of_cell? _ _ q1) qf1
    replace qf2 := Kept.looseOut' kk (by dsimp only; omega) (World.block_lt_of_cell? _ _ q2) qf2
    replace qf3 := Kept.looseOut' kk (by dsimp only; omega) (World.block_lt_of_cell? _ _ q3) qf3
    replace yf0 := Kept.looseOut' kk (by dsimp only; omega) (World.block_lt_of_cell? _ _ y0) yf0
    replace yf1 := Kept.looseOut' kk (by dsimp only; omega) (World.block_lt_of_cell? _ _ y1) yf1
    replace yf2 := Kept.looseOut' kk (by dsimp only; omega) (World.block_lt_of_cell? _ _ y2) yf2
    replace yf3 := Kept.looseOut' kk (by dsimp only; omega) (World.block_lt_of_cell? _ _ y3) yf3
    replace q0 := Kept.cellOut kk (by dsimp only; omega) q0
    replace q1 := Kept.cellOut kk (by dsimp only; omega) q1
    replace q2 := Kept.cellOut kk (by dsimp only; omega) q2
    replace q3 := Kept.cellOut kk (by dsimp only; omega) q3
    replace y0 := Kept.cellOut kk (by dsimp only; omega) y0
    replace y1 := Kept.cellOut kk (by dsimp only; omega) y1
    replace y2 := Kept.cellOut kk (by dsimp only; omega) y2
    replace y3 := Kept.cellOut kk (by dsimp only; omega) y3
    have z10 := kk.size
    clear kk hd
    have hw2 : IntKind.i64.wrap (n2 - 1) = n2 - 1 := by rw [IntKind.wrap_i64]; omega
    go_wp2_with fail
    replace D := D.set (p := ⟨w1.heap.size, 0, none⟩) (by dsimp only; omega) (by dsimp only; omega) (.int .i64 (n2 - 1))
    replace q0 := cell_aside (.int .i64 (n2 - 1)) (r := ⟨w1.heap.size, 0, none⟩) (by dsimp only; omega) q0
    replace q1 := cell_aside (.int .i64 (n2 - 1)) (r := ⟨w1.heap.size, 0, none⟩) (by dsimp only; omega) q1
    replace q2 := cell_aside (.int .i64 (n2 - 1)) (r := ⟨w1.heap.size, 0, none⟩) (by dsimp only; omega) q2
    replace q3 := cell_aside (.int .i64 (n2 - 1)) (r := ⟨w1.heap.size, 0, none⟩) (by dsimp only; omega) q3
    replace y0 : (w9.setCell ⟨w1.heap.size, 0, none⟩ (.int .i64 (n2 - 1))).cell? ⟨w1.heap.size, 0, none⟩ = some (.int .i64 (n2 - 1)) := cell_on _ _ _ _ _ y0
    replace y1 := cell_off _ _ _ 0 (.int .i64 (n2 - 1)) _ y1 (by decide)
    replace y2 := cell_off _ _ _ 0 (.int .i64 (n2 - 1)) _ y2 (by decide)
    replace y3 := cell_off _ _ _ 0 (.int .i64 (n2 - 1)) _ y3 (by decide)
    replace qf0 : (w9.setCell ⟨w1.heap.size, 0, none⟩ (.int .i64 (n2 - 1))).frozen? _ = false := (frozen_set _ _ _ _ _).trans qf0
    replace qf1 : (w9.setCell ⟨w1.heap.size, 0, none⟩ (.int .i64 (n2 - 1))).frozen? _ = false := (frozen_set _ _ _ _ _).trans qf1
    replace qf2 : (w9.setCell ⟨w1.heap.size, 0, none⟩ (.int .i64 (n2 - 1))).frozen? _ = false := (frozen_set _ _ _ _ _).trans qf2
    replace qf3 : (w9.setCell ⟨w1.heap.size, 0, none⟩ (.int .i64 (n2 - 1))).frozen? _ = false := (frozen_set _ _ _ _ _).trans qf3
    replace yf0 : (w9.setCell ⟨w1.heap.size, 0, none⟩ (.int .i64 (n2 - 1))).frozen? _ = false := (frozen_set _ _ _ _ _).trans yf0
    replace yf1 : (w9.setCell ⟨w1.heap.size, 0, none⟩ (.int .i64 (n2 - 1))).frozen? _ = false := (frozen_set _ _ _ _ _).trans yf1
    replace yf2 : (w9.setCell ⟨w1.heap.size, 0, none⟩ (.int .i64 (n2 - 1))).frozen? _ = false := (frozen_set _ _ _ _ _).trans yf2
    replace yf3 : (w9.setCell ⟨w1.heap.size, 0, none⟩ (.int .i64 (n2 - 1))).frozen? _ = false := (frozen_set _ _ _ _ _).trans yf3
    have z11 : (w9.setCell ⟨w1.heap.size, 0, none⟩ (.int .i64 (n2 - 1))).heap.size = w9.heap.size := size_set _ _ _
    replace z11 := Nat.le_of_eq z11.symm
    generalize (w9.setCell ⟨w1.heap.size, 0, none⟩ (.int .i64 (n2 - 1))) = w12 at *
    have DD := hide ((((D.set (p := ⟨w.heap.size, 0, none⟩) hg (Nat.le_refl _) (.int .i64 (n2 - 1))).set (p := ⟨w.heap.size, 1, none⟩) hg (Nat.le_refl _) (.bool fn)).set (p := ⟨w.heap.size, 2, none⟩) hg (Nat.le_refl _) (.int .i64 fm)).set (p := ⟨w.heap.size, 3, none⟩) hg (Nat.le_refl _) (.int .i64 fe))
    clear  D 
    exact bodyPost_ret (v := .agg #[.int .i64 (n2 - 1), .bool fn, .int .i64 fm, .int .i64 fe]) (by simp [results, Tryz.results49, go_sem, q0, q1, q2, q3]) rfl ⟨_, _, _, _, rfl, unhide DD⟩
  · go_wp2_with fail
    have hr := Row.lit .i64 w7 3 [0, -1, 1, 9007199254740992] (by simp [maxLen])
    have gW : g < w7.heap.size := D.1.1
    refine (l1PickInt_any g lo _ (D.1.kept ((Kept.refl 0 0 w7).alloc _) (by omega)) hr (by simp) (by omega)).mono ?_
    rintro e w9 ⟨x2, rfl, hxx2, hd⟩
    have hbx2 : -1 ≤ x2 ∧ x2 ≤ 9007199254740992 := by
      simp only [List.mem_cons, List.not_mem_nil, or_false] at hxx2
      omega
    have kk := (((Kept.refl 0 0 w7).alloc (.cells ([0, -1, 1, 9007199254740992].map (Value.int .i64)).toArray 3)).any (lo := g) (hi := g + 1)).trans hd.2.1
    replace D : Drawn g lo w w9 := ⟨hd.1, D.2.trans kk⟩
    replace qf0 := Kept.looseOut' kk (by dsimp only; omega) (World.block_lt_of_cell? _ _ q0) qf0
    replace qf1 := Kept.looseOut' kk (by dsimp only; omega) (World.block_lt_of_cell? _ _ q1) qf1
    replace qf2 := Kept.looseOut' kk (by dsimp only; omega) (World.block_lt_of_cell? _ _ q2) qf2
    replace qf3 := Kept.looseOut' kk (by dsimp only; omega) (World.block_lt_of_cell? _ _ q3) qf3
    replace yf0 := Kept.looseOut' kk (by dsimp only; omega) (World.block_lt_of_cell? _ _ y0) yf0
    replace yf1 := Kept.looseOut' kk (by dsimp only; omega) (World.block_lt_of_cell? _ _ y1) yf1
    replace yf2 := Kept.looseOut' kk (by dsimp only; omega) (World.block_lt_of_cell? _ _ y2) yf2
    replace yf3 := Kept.looseOut' kk (by dsimp only; omega) (World.block_lt_of_cell? _ _ y3) yf3
    replace q0 := Kept.cellOut kk (by dsimp only; omega) q0
    replace q1 := Kept.cellOut kk (by dsimp only; omega) q1
    replace q2 := Kept.cellOut kk (by dsimp only; omega) q2
    replace q3 := Kept.cellOut kk (by dsimp only; omega) q3
    replace y0 := Kept.cellOut kk (by dsimp only; omega) y0
    replace y1 := Kept.cellOut kk (by dsimp only; omega) y1
    replace y2 := Kept.cellOut kk (by dsimp only; omega) y2
    replace y3 := Kept.cellOut kk (by dsimp only; omega) y3
    have z10 := kk.size
    clear kk hd hr gW hxx2
    go_wp2_with fail
    replace D := D.set (p := ⟨w1.heap.size, 2, none⟩) (by dsimp only; omega) (by dsimp only; omega) (.int .i64 x2)
    replace q0 := cell_aside (.int .i64 x2) (r := ⟨w1.heap.size, 2, none⟩) (by dsimp only; omega) q0
    replace q1 := cell_aside (.int .i64 x2) (r := ⟨w1.heap.size, 2, none⟩) (by dsimp only; omega) q1
    replace q2 := cell_aside (.int .i64 x2) (r := ⟨w1.heap.size, 2, none⟩) (by dsimp only; omega) q2
    replace q3 := cell_aside (.int .i64 x2) (r := ⟨w1.heap.size, 2, none⟩) (by dsimp only; omega) q3
    replace y0 := cell_off _ _ _ 2 (.int .i64 x2) _ y0 (by decide)
    replace y1 := cell_off _ _ _ 2 (.int .i64 x2) _ y1 (by decide)
    replace y2 : (w9.setCell ⟨w1.heap.size, 2, none⟩ (.int .i64 x2)).cell? ⟨w1.heap.size, 2, none⟩ = some (.int .i64 x2) := cell_on _ _ _ _ _ y2
    replace y3 := cell_off _ _ _ 2 (.int .i64 x2) _ y3 (by decide)
    replace qf0 : (w9.setCell ⟨w1.heap.size, 2, none⟩ (.int .i64 x2)).frozen? _ = false := (frozen_set _ _ _ _ _).trans qf0
    replace qf1 : (w9.setCell ⟨w1.heap.size, 2, none⟩ (.int .i64 x2)).frozen? _ = false := (frozen_set _ _ _ _ _).trans qf1
    replace qf2 : (w9.setCell ⟨w1.heap.size, 2, none⟩ (.int .i64 x2)).frozen? _ = false := (frozen_set _ _ _ _ _).trans qf2
    replace qf3 : (w9.setCell ⟨w1.heap.size, 2, none⟩ (.int .i64 x2)).frozen? _ = false := (frozen_set _ _ _ _ _).trans qf3
    replace yf0 : (w9.setCell ⟨w1.heap.size, 2, none⟩ (.int .i64 x2)).frozen? _ = false := (frozen_set _ _ _ _ _).trans yf0
    replace yf1 : (w9.setCell ⟨w1.heap.size, 2, none⟩ (.int .i64 x2)).frozen? _ = false := (frozen_set _ _ _ _ _).trans yf1
    replace yf2 : (w9.setCell ⟨w1.heap.size, 2, none⟩ (.int .i64 x2)).frozen? _ = false := (frozen_set _ _ _ _ _).trans yf2
    replace yf3 : (w9.setCell ⟨w1.heap.size, 2, none⟩ (.int .i64 x2)).frozen? _ = false := (frozen_set _ _ _ _ _).trans yf3
    have z11 : (w9.setCell ⟨w1.heap.size, 2, none⟩ (.int .i64 x2)).heap.size = w9.heap.size := size_set _ _ _
    replace z11 := Nat.le_of_eq z11.symm
    generalize (w9.setCell ⟨w1.heap.size, 2, none⟩ (.int .i64 x2)) = w12 at *
    have DD := hide ((((D.set (p := ⟨w.heap.size, 0, none⟩) hg (Nat.le_refl _) (.int .i64 fk)).set (p := ⟨w.heap.size, 1, none⟩) hg (Nat.le_refl _) (.bool fn)).set (p := ⟨w.heap.size, 2, none⟩) hg (Nat.le_refl _) (.int .i64 x2)).set (p := ⟨w.heap.size, 3, none⟩) hg (Nat.le_refl _) (.int .i64 fe))
    clear  D 
    exact bodyPost_ret (v := .agg #[.int .i64 fk, .bool fn, .int .i64 x2, .int .i64 fe]) (by simp [results, Tryz.results49, go_sem, q0, q1, q2, q3]) rfl ⟨_, _, _, _, rfl, unhide DD⟩
  · go_wp2_with fail
    have hr := Row.lit .i64 w7 3 [-1075, 972, 0] (by simp [maxLen])
    have gW : g < w7.heap.size := D.1.1
    refine (l1PickInt_any g lo _ (D.1.kept ((Kept.refl 0 0 w7).alloc _) (by omega)) hr (by simp) (by omega)).mono ?_
    rintro e w9 ⟨x2, rfl, hxx2, hd⟩
    have hbx2 : -1075 ≤ x2 ∧ x2 ≤ 972 := by
      simp only [List.mem_cons, List.not_mem_nil, or_false] at hxx2
      omega
    have kk := (((Kept.refl 0 0 w7).alloc (.cells ([-1075, 972, 0].map (Value.int .i64)).toArray 3)).any (lo := g) (hi := g + 1)).trans hd.2.1
    replace D : Drawn g lo w w9 := ⟨hd.1, D.2.trans kk⟩
    replace qf0 := Kept.looseOut' kk (by dsimp only; omega) (World.block_lt_of_cell? _ _ q0) qf0
    replace qf1 := Kept.looseOut' kk (by dsimp only; omega) (World.block_lt_of_cell? _ _ q1) qf1
    replace qf2 := Kept.looseOut' kk (by dsimp only; omega) (World.block_lt_of_cell? _ _ q2) qf2
    replace qf3 := Kept.looseOut' kk (by dsimp only; omega) (World.block_lt_of_cell? _ _ q3) qf3
    replace yf0 := Kept.looseOut' kk (by dsimp only; omega) (World.block_lt_of_cell? _ _ y0) yf0
    replace yf1 := Kept.looseOut' kk (by dsimp only; omega) (World.block_lt_of_cell? _ _ y1) yf1
    replace yf2 := Kept.looseOut' kk (by dsimp only; omega) (World.block_lt_of_cell? _ _ y2) yf2
    replace yf3 := Kept.looseOut' kk (by dsimp only; omega) (World.block_lt_of_cell? _ _ y3) yf3
    replace q0 := Kept.cellOut kk (by dsimp only; omega) q0
    replace q1 := Kept.cellOut kk (by dsimp only; omega) q1
    replace q2 := Kept.cellOut kk (by dsimp only; omega) q2
    replace q3 := Kept.cellOut kk (by dsimp only; omega) q3
    replace y0 := Kept.cellOut kk (by dsimp only; omega) y0
    replace y1 := Kept.cellOut kk (by dsimp only; omega) y1
    replace y2 := Kept.cellOut kk (by dsimp only; omega) y2
    replace y3 := Kept.cellOut kk (by dsimp only; omega) y3
    have z10 := kk.size
    clear kk hd hr gW hxx2
    go_wp2_with fail
    replace D := D.set (p := ⟨w1.heap.size, 3, none⟩) (by dsimp only; omega) (by dsimp only; omega) (.int .i64 x2)
    replace q0 := cell_aside (.int .i64 x2) (r := ⟨w1.heap.size, 3, none⟩) (by dsimp only; omega) q0
    replace q1 := cell_aside (.int .i64 x2) (r := ⟨w1.heap.size, 3, none⟩) (by dsimp only; omega) q1
    replace q2 := cell_aside (.int .i64 x2) (r := ⟨w1.heap.size, 3, none⟩) (by dsimp only; omega) q2
    replace q3 := cell_aside (.int .i64 x2) (r := ⟨w1.heap.size, 3, none⟩) (by dsimp only; omega) q3
    replace y0 := cell_off _ _ _ 3 (.int .i64 x2) _ y0 (by decide)
    replace y1 := cell_off _ _ _ 3 (.int .i64 x2) _ y1 (by decide)
    replace y2 := cell_off _ _ _ 3 (.int .i64 x2) _ y2 (by decide)
    replace y3 : (w9.setCell ⟨w1.heap.size, 3, none⟩ (.int .i64 x2)).cell? ⟨w1.heap.size, 3, none⟩ = some (.int .i64 x2) := cell_on _ _ _ _ _ y3
    replace qf0 : (w9.setCell ⟨w1.heap.size, 3, none⟩ (.int .i64 x2)).frozen? _ = false := (frozen_set _ _ _ _ _).trans qf0
    replace qf1 : (w9.setCell ⟨w1.heap.size, 3, none⟩ (.int .i64 x2)).frozen? _ = false := (frozen_set _ _ _ _ _).trans qf1
    replace qf2 : (w9.setCell ⟨w1.heap.size, 3, none⟩ (.int .i64 x2)).frozen? _ = false := (frozen_set _ _ _ _ _).trans qf2
    replace qf3 : (w9.setCell ⟨w1.heap.size, 3, none⟩ (.int .i64 x2)).frozen? _ = false := (frozen_set _ _ _ _ _).trans qf3
    replace yf0 : (w9.setCell ⟨w1.heap.size, 3, none⟩ (.int .i64 x2)).frozen? _ = false := (frozen_set _ _ _ _ _).trans yf0
    replace yf1 : (w9.setCell ⟨w1.heap.size, 3, none⟩ (.int .i64 x2)).frozen? _ = false := (frozen_set _ _ _ _ _).trans yf1
    replace yf2 : (w9.setCell ⟨w1.heap.size, 3, none⟩ (.int .i64 x2)).frozen? _ = false := (frozen_set _ _ _ _ _).trans yf2
    replace yf3 : (w9.setCell ⟨w1.heap.size, 3, none⟩ (.int .i64 x2)).frozen? _ = false := (frozen_set _ _ _ _ _).trans yf3
    have z11 : (w9.setCell ⟨w1.heap.size, 3, none⟩ (.int .i64 x2)).heap.size = w9.heap.size := size_set _ _ _
    replace z11 := Nat.le_of_eq z11.symm
    generalize (w9.setCell ⟨w1.heap.size, 3, none⟩ (.int .i64 x2)) = w12 at *
    have DD := hide ((((D.set (p := ⟨w.heap.size, 0, none⟩) hg (Nat.le_refl _) (.int .i64 fk)).set (p := ⟨w.heap.size, 1, none⟩) hg (Nat.le_refl _) (.bool fn)).set (p := ⟨w.heap.size, 2, none⟩) hg (Nat.le_refl _) (.int .i64 fm)).set (p := ⟨w.heap.size, 3, none⟩) hg (Nat.le_refl _) (.int .i64 x2))
    clear  D 
    exact bodyPost_ret (v := .agg #[.int .i64 fk, .bool fn, .int .i64 fm, .int .i64 x2]) (by simp [results, Tryz.results49, go_sem, q0, q1, q2, q3]) rfl ⟨_, _, _, _, rfl, unhide DD⟩
  · go_wp2_with fail
    replace D := D.set (p := ⟨w1.heap.size, 1, none⟩) (by dsimp only; omega) (by dsimp only; omega) (.bool (!fn))
    replace q0 := cell_aside (.bool (!fn)) (r := ⟨w1.heap.size, 1, none⟩) (by dsimp only; omega) q0
    replace q1 := cell_aside (.bool (!fn)) (r := ⟨w1.heap.size, 1, none⟩) (by dsimp only; omega) q1
    replace q2 := cell_aside (.bool (!fn)) (r := ⟨w1.heap.size, 1, none⟩) (by dsimp only; omega) q2
    replace q3 := cell_aside (.bool (!fn)) (r := ⟨w1.heap.size, 1, none⟩) (by dsimp only; omega) q3
    replace y0 := cell_off _ _ _ 1 (.bool (!fn)) _ y0 (by decide)
    replace y1 : (w7.setCell ⟨w1.heap.size, 1, none⟩ (.bool (!fn))).cell? ⟨w1.heap.size, 1, none⟩ = some (.bool (!fn)) := cell_on _ _ _ _ _ y1
    replace y2 := cell_off _ _ _ 1 (.bool (!fn)) _ y2 (by decide)
    replace y3 := cell_off _ _ _ 1 (.bool (!fn)) _ y3 (by decide)
    replace qf0 : (w7.setCell ⟨w1.heap.size, 1, none⟩ (.bool (!fn))).frozen? _ = false := (frozen_set _ _ _ _ _).trans qf0
    replace qf1 : (w7.setCell ⟨w1.heap.size, 1, none⟩ (.bool (!fn))).frozen? _ = false := (frozen_set _ _ _ _ _).trans qf1
    replace qf2 : (w7.setCell ⟨w1.heap.size, 1, none⟩ (.bool (!fn))).frozen? _ = false := (frozen_set _ _ _ _ _).trans qf2
    replace qf3 : (w7.setCell ⟨w1.heap.size, 1, none⟩ (.bool (!fn))).frozen? _ = false := (frozen_set _ _ _ _ _).trans qf3
    replace yf0 : (w7.setCell ⟨w1.heap.size, 1, none⟩ (.bool (!fn))).frozen? _ = false := (frozen_set _ _ _ _ _).trans yf0
    replace yf1 : (w7.setCell ⟨w1.heap.size, 1, none⟩ (.bool (!fn))).frozen? _ = false := (frozen_set _ _ _ _ _).trans yf1
    replace yf2 : (w7.setCell ⟨w1.heap.size, 1, none⟩ (.bool (!fn))).frozen? _ = false := (frozen_set _ _ _ _ _).trans yf2
    replace yf3 : (w7.setCell ⟨w1.heap.size, 1, none⟩ (.bool (!fn))).frozen? _ = false := (frozen_set _ _ _ _ _).trans yf3
    have z9 : (w7.setCell ⟨w1.heap.size, 1, none⟩ (.bool (!fn))).heap.size = w7.heap.size := size_set _ _ _
    replace z9 := Nat.le_of_eq z9.symm
    generalize (w7.setCell ⟨w1.heap.size, 1, none⟩ (.bool (!fn))) = w10 at *
    have DD := hide ((((D.set (p := ⟨w.heap.size, 0, none⟩) hg (Nat.le_refl _) (.int .i64 fk)).set (p := ⟨w.heap.size, 1, none⟩) hg (Nat.le_refl _) (.bool (!fn))).set (p := ⟨w.heap.size, 2, none⟩) hg (Nat.le_refl _) (.int .i64 fm)).set (p := ⟨w.heap.size, 3, none⟩) hg (Nat.le_refl _) (.int .i64 fe))
    clear  D 
    exact bodyPost_ret (v := .agg #[.int .i64 fk, .bool (!fn), .int .i64 fm, .int .i64 fe]) (by simp [results, Tryz.results49, go_sem, q0, q1, q2, q3]) rfl ⟨_, _, _, _, rfl, unhide DD⟩

set_option maxHeartbeats 8000000 in
theorem pair5_any (g lo : Nat) (w : World) (c : Cur g lo w) :
    Calls Tryz.prog 41 #[.pointer (some ⟨g, 0, none⟩)] w fun e' w' => ∃ fk fn fm fe hk hn hm he, e' = .returned (.tuple #[flv fk fn fm fe, flv hk hn hm he]) ∧ Drawn g lo w w' := by
  have hg := c.1
  have D := (Drawn.start c (.cells #[.int .i64 0, .bool false, .int .i64 0, .int .i64 0] 25)).keptR ((Kept.refl 0 0 _).alloc (.cells #[.int .i64 0, .bool false, .int .i64 0, .int .i64 0] 25))
  have q0 : ((w.alloc (.cells #[.int .i64 0, .bool false, .int .i64 0, .int .i64 0] 25)).alloc (.cells #[.int .i64 0, .bool false, .int .i64 0, .int .i64 0] 25)).cell? ⟨w.heap.size, 0, none⟩ = some (.int .i64 0) := old_cell _ (new_cell2 _ _ _ _ _ _ (by simp) rfl)
  have qf0 : ((w.alloc (.cells #[.int .i64 0, .bool false, .int .i64 0, .int .i64 0] 25)).alloc (.cells #[.int .i64 0, .bool false, .int .i64 0, .int .i64 0] 25)).frozen? ⟨w.heap.size, 0, none⟩ = false := loose_old (by simp) (new_loose2 _ _ _ _ _ (by simp))
  have q1 : ((w.alloc (.cells #[.int .i64 0, .bool false, .int .i64 0, .int .i64 0] 25)).alloc (.cells #[.int .i64 0, .bool false, .int .i64 0, .int .i64 0] 25)).cell? ⟨w.heap.size, 1, none⟩ = some (.bool false) := old_cell _ (new_cell2 _ _ _ _ _ _ (by simp) rfl)
  have qf1 : ((w.alloc (.cells #[.int .i64 0, .bool false, .int .i64 0, .int .i64 0] 25)).alloc (.cells #[.int .i64 0, .bool false, .int .i64 0, .int .i64 0] 25)).frozen? ⟨w.heap.size, 1, none⟩ = false := loose_old (by simp) (new_loose2 _ _ _ _ _ (by simp))
  have q2 : ((w.alloc (.cells #[.int .i64 0, .bool false, .int .i64 0, .int .i64 0] 25)).alloc (.cells #[.int .i64 0, .bool false, .int .i64 0, .int .i64 0] 25)).cell? ⟨w.heap.size, 2, none⟩ = some (.int .i64 0) := old_cell _ (new_cell2 _ _ _ _ _ _ (by simp) rfl)
  have qf2 : ((w.alloc (.cells #[.int .i64 0, .bool false, .int .i64 0, .int .i64 0] 25)).alloc (.cells #[.int .i64 0, .bool false, .int .i64 0, .int .i64 0] 25)).frozen? ⟨w.heap.size, 2, none⟩ = false := loose_old (by simp) (new_loose2 _ _ _ _ _ (by simp))
  have q3 : ((w.alloc (.cells #[.int .i64 0, .bool false, .int .i64 0, .int .i64 0] 25)).alloc (.cells #[.int .i64 0, .bool false, .int .i64 0, .int .i64 0] 25)).cell? ⟨w.heap.size, 3, none⟩ = some (.int .i64 0) := old_cell _ (new_cell2 _ _ _ _ _ _ (by simp) rfl)
  have qf3 : ((w.alloc (.cells #[.int .i64 0, .bool false, .int .i64 0, .int .i64 0] 25)).alloc (.cells #[.int .i64 0, .bool false, .int .i64 0, .int .i64 0] 25)).frozen? ⟨w.heap.size, 3, none⟩ = false := loose_old (by simp) (new_loose2 _ _ _ _ _ (by simp))
  have u0 : ((w.alloc (.cells #[.int .i64 0, .bool false, .int .i64 0, .int .i64 0] 25)).alloc (.cells #[.int .i64 0, .bool false, .int .i64 0, .int .i64 0] 25)).cell? ⟨w.heap.size + 1, 0, none⟩ = some (.int .i64 0) := new_cell2 _ _ _ _ _ _ (by simp) rfl
  have uf0 : ((w.alloc (.cells #[.int .i64 0, .bool false, .int .i64 0, .int .i64 0] 25)).alloc (.cells #[.int .i64 0, .bool false, .int .i64 0, .int .i64 0] 25)).frozen? ⟨w.heap.size + 1, 0, none⟩ = false := new_loose2 _ _ _ _ _ (by simp)
  have u1 : ((w.alloc (.cells #[.int .i64 0, .bool false, .int .i64 0, .int .i64 0] 25)).alloc (.cells #[.int .i64 0, .bool false, .int .i64 0, .int .i64 0] 25)).cell? ⟨w.heap.size + 1, 1, none⟩ = some (.bool false) := new_cell2 _ _ _ _ _ _ (by simp) rfl
  have uf1 : ((w.alloc (.cells #[.int .i64 0, .bool false, .int .i64 0, .int .i64 0] 25)).alloc (.cells #[.int .i64 0, .bool false, .int .i64 0, .int .i64 0] 25)).frozen? ⟨w.heap.size + 1, 1, none⟩ = false := new_loose2 _ _ _ _ _ (by simp)
  have u2 : ((w.alloc (.cells #[.int .i64 0, .bool false, .int .i64 0, .int .i64 0] 25)).alloc (.cells #[.int .i64 0, .bool false, .int .i64 0, .int .i64 0] 25)).cell? ⟨w.heap.size + 1, 2, none⟩ = some (.int .i64 0) := new_cell2 _ _ _ _ _ _ (by simp) rfl
  have uf2 : ((w.alloc (.cells #[.int .i64 0, .bool false, .int .i64 0, .int .i64 0] 25)).alloc (.cells #[.int .i64 0, .bool false, .int .i64 0, .int .i64 0] 25)).frozen? ⟨w.heap.size + 1, 2, none⟩ = false := new_loose2 _ _ _ _ _ (by simp)
  have u3 : ((w.alloc (.cells #[.int .i64 0, .bool false, .int .i64 0, .int .i64 0] 25)).alloc (.cells #[.int .i64 0, .bool false, .int .i64 0, .int .i64 0] 25)).cell? ⟨w.heap.size + 1, 3, none⟩ = some (.int .i64 0) := new_cell2 _ _ _ _ _ _ (by simp) rfl
  have uf3 : ((w.alloc (.cells #[.int .i64 0, .bool false, .int .i64 0, .int .i64 0] 25)).alloc (.cells #[.int .i64 0, .bool false, .int .i64 0, .int .i64 0] 25)).frozen? ⟨w.heap.size + 1, 3, none⟩ = false := new_loose2 _ _ _ _ _ (by simp)
  have s0 : w.heap.size + 1 < ((w.alloc (.cells #[.int .i64 0, .bool false, .int .i64 0, .int .i64 0] 25)).alloc (.cells #[.int .i64 0, .bool false, .int .i64 0, .int .i64 0] 25)).heap.size := by simp
  clear c
  go_enter Tryz.func41, Tryz.ntmps41
  go_wp2_with fail
  generalize ((w.alloc (.cells #[.int .i64 0, .bool false, .int .i64 0, .int .i64 0] 25)).alloc (.cells #[.int .i64 0, .bool false, .int .i64 0, .int .i64 0] 25)) = W at *
  go_wp2_with fail
  refine (bent5_any g lo _ D.1).mono ?_
  rintro e w1 ⟨fk, fn, fm, fe, rfl, hd⟩
  have kk := hd.2
  replace D := D.trans hd
  replace qf0 := Kept.looseOut' kk (by dsimp only; omega) (World.block_lt_of_cell? _ _ q0) qf0
  replace qf1 := Kept.looseOut' kk (by dsimp only; omega) (World.block_lt_of_cell? _ _ q1) qf1
  replace qf2 := Kept.looseOut' kk (by dsimp only; omega) (World.block_lt_of_cell? _ _ q2) qf2
  replace qf3 := Kept.looseOut' kk (by dsimp only; omega) (World.block_lt_of_cell? _ _ q3) qf3
  replace uf0 := Kept.looseOut' kk (by dsimp only; omega) (World.block_lt_of_cell? _ _ u0) uf0
  replace uf1 := Kept.looseOut' kk (by dsimp only; omega) (World.block_lt_of_cell? _ _ u1) uf1
  replace uf2 := Kept.looseOut' kk (by dsimp only; omega) (World.block_lt_of_cell? _ _ u2) uf2
  replace uf3 := Kept.looseOut' kk (by dsimp only; omega) (World.block_lt_of_cell? _ _ u3) uf3
  replace q0 := Kept.cellOut kk (by dsimp only; omega) q0
  replace q1 := Kept.cellOut kk (by dsimp only; omega) q1
  replace q2 := Kept.cellOut kk (by dsimp only; omega) q2
  replace q3 := Kept.cellOut kk (by dsimp only; omega) q3
  replace u0 := Kept.cellOut kk (by dsimp only; omega) u0
  replace u1 := Kept.cellOut kk (by dsimp only; omega) u1
  replace u2 := Kept.cellOut kk (by dsimp only; omega) u2
  replace u3 := Kept.cellOut kk (by dsimp only; omega) u3
  have z2 := kk.size
  clear kk hd
  have kk := (Kept.refl 0 0 w1).alloc (.cells #[.int .i64 fk, .bool fn, .int .i64 fm, .int .i64 fe] 25)
  have y0 : (w1.alloc (.cells #[.int .i64 fk, .bool fn, .int .i64 fm, .int .i64 fe] 25)).cell? ⟨w1.heap.size, 0, none⟩ = some (.int .i64 fk) := new_cell2 _ _ _ _ _ _ rfl rfl
  have yf0 : (w1.alloc (.cells #[.int .i64 fk, .bool fn, .int .i64 fm, .int .i64 fe] 25)).frozen? ⟨w1.heap.size, 0, none⟩ = false := new_loose2 _ _ _ _ _ rfl
  have y1 : (w1.alloc (.cells #[.int .i64 fk, .bool fn, .int .i64 fm, .int .i64 fe] 25)).cell? ⟨w1.heap.size, 1, none⟩ = some (.bool fn) := new_cell2 _ _ _ _ _ _ rfl rfl
  have yf1 : (w1.alloc (.cells #[.int .i64 fk, .bool fn, .int .i64 fm, .int .i64 fe] 25)).frozen? ⟨w1.heap.size, 1, none⟩ = false := new_loose2 _ _ _ _ _ rfl
  have y2 : (w1.alloc (.cells #[.int .i64 fk, .bool fn, .int .i64 fm, .int .i64 fe] 25)).cell? ⟨w1.heap.size, 2, none⟩ = some (.int .i64 fm) := new_cell2 _ _ _ _ _ _ rfl rfl
  have yf2 : (w1.alloc (.cells #[.int .i64 fk, .bool fn, .int .i64 fm, .int .i64 fe] 25)).frozen? ⟨w1.heap.size, 2, none⟩ = false := new_loose2 _ _ _ _ _ rfl
  have y3 : (w1.alloc (.cells #[.int .i64 fk, .bool fn, .int .i64 fm, .int .i64 fe] 25)).cell? ⟨w1.heap.size, 3, none⟩ = some (.int .i64 fe) := new_cell2 _ _ _ _ _ _ rfl rfl
  have yf3 : (w1.alloc (.cells #[.int .i64 fk, .bool fn, .int .i64 fm, .int .i64 fe] 25)).frozen? ⟨w1.heap.size, 3, none⟩ = false := new_loose2 _ _ _ _ _ rfl
  replace D := D.keptR kk
  have yy : w1.heap.size < (w1.alloc (.cells #[.int .i64 fk, .bool fn, .int .i64 fm, .int .i64 fe] 25)).heap.size := by simp
  replace qf0 := Kept.looseOut' kk (by dsimp only; omega) (World.block_lt_of_cell? _ _ q0) qf0
  replace qf1 := Kept.looseOut' kk (by dsimp only; omega) (World.block_lt_of_cell? _ _ q1) qf1
  replace qf2 := Kept.looseOut' kk (by dsimp only; omega) (World.block_lt_of_cell? _ _ q2) qf2
  replace qf3 := Kept.looseOut' kk (by dsimp only; omega) (World.block_lt_of_cell? _ _ q3) qf3
  replace uf0 := Kept.looseOut' kk (by dsimp only; omega) (World.block_lt_of_cell? _ _ u0) uf0
  replace uf1 := Kept.looseOut' kk (by dsimp only; omega) (World.block_lt_of_cell? _ _ u1) uf1
  replace uf2 := Kept.looseOut' kk (by dsimp only; omega) (World.block_lt_of_cell? _ _ u2) uf2
  replace uf3 := Kept.looseOut' kk (by dsimp only; omega) (World.block_lt_of_cell? _ _ u3) uf3
  replace q0 := Kept.cellOut kk (by dsimp only; omega) q0
  replace q1 := Kept.cellOut kk (by dsimp only; omega) q1
  replace q2 := Kept.cellOut kk (by dsimp only; omega) q2
  replace q3 := Kept.cellOut kk (by dsimp only; omega) q3
  replace u0 := Kept.cellOut kk (by dsimp only; omega) u0
  replace u1 := Kept.cellOut kk (by dsimp only; omega) u1
  replace u2 := Kept.cellOut kk (by dsimp only; omega) u2
  replace u3 := Kept.cellOut kk (by dsimp only; omega) u3
  have z3 := kk.size
  clear kk
  go_wp2_with fail
  generalize w1.alloc (.cells #[.int .i64 fk, .bool fn, .int .i64 fm, .int .i64 fe] 25) = w4 at *
  refine (l1Once_any g lo _ D.1 4).mono ?_
  rintro e w5 ⟨b1, rfl, hd⟩
  have kk := hd.kept
  replace D := D.trans hd.drawn
  replace qf0 := Kept.looseOut' kk (by dsimp only; omega) (World.block_lt_of_cell? _ _ q0) qf0
  replace qf1 := Kept.looseOut' kk (by dsimp only; omega) (World.block_lt_of_cell? _ _ q1) qf1
  replace qf2 := Kept.looseOut' kk (by dsimp only; omega) (World.block_lt_of_cell? _ _ q2) qf2
  replace qf3 := Kept.looseOut' kk (by dsimp only; omega) (World.block_lt_of_cell? _ _ q3) qf3
  replace uf0 := Kept.looseOut' kk (by dsimp only; omega) (World.block_lt_of_cell? _ _ u0) uf0
  replace uf1 := Kept.looseOut' kk (by dsimp only; omega) (World.block_lt_of_cell? _ _ u1) uf1
  replace uf2 := Kept.looseOut' kk (by dsimp only; omega) (World.block_lt_of_cell? _ _ u2) uf2
  replace uf3 := Kept.looseOut' kk (by dsimp only; omega) (World.block_lt_of_cell? _ _ u3) uf3
  replace yf0 := Kept.looseOut' kk (by dsimp only; omega) (World.block_lt_of_cell? _ _ y0) yf0
  replace yf1 := Kept.looseOut' kk (by dsimp only; omega) (World.block_lt_of_cell? _ _ y1) yf1
  replace yf2 := Kept.looseOut' kk (by dsimp only; omega) (World.block_lt_of_cell? _ _ y2) yf2
  replace yf3 := Kept.looseOut' kk (by dsimp only; omega) (World.block_lt_of_cell? _ _ y3) yf3
  replace q0 := Kept.cellOut kk (by dsimp only; omega) q0
  replace q1 := Kept.cellOut kk (by dsimp only; omega) q1
  replace q2 := Kept.cellOut kk (by dsimp only; omega) q2
  replace q3 := Kept.cellOut kk (by dsimp only; omega) q3
  replace u0 := Kept.cellOut kk (by dsimp only; omega) u0
  replace u1 := Kept.cellOut kk (by dsimp only; omega) u1
  replace u2 := Kept.cellOut kk (by dsimp only; omega) u2
  replace u3 := Kept.cellOut kk (by dsimp only; omega) u3
  replace y0 := Kept.cellOut kk (by dsimp only; omega) y0
  replace y1 := Kept.cellOut kk (by dsimp only; omega) y1
  replace y2 := Kept.cellOut kk (by dsimp only; omega) y2
  replace y3 := Kept.cellOut kk (by dsimp only; omega) y3
  have z6 := kk.size
  clear kk hd
  cases b1
  · go_upto_region 4 with fail
    have kk := (Kept.refl 0 0 w5).drew
    replace D := D.keptR kk
    replace qf0 := Kept.looseOut' kk (by dsimp only; omega) (World.block_lt_of_cell? _ _ q0) qf0
    replace qf1 := Kept.looseOut' kk (by dsimp only; omega) (World.block_lt_of_cell? _ _ q1) qf1
    replace qf2 := Kept.looseOut' kk (by dsimp only; omega) (World.block_lt_of_cell? _ _ q2) qf2
    replace qf3 := Kept.looseOut' kk (by dsimp only; omega) (World.block_lt_of_cell? _ _ q3) qf3
    replace uf0 := Kept.looseOut' kk (by dsimp only; omega) (World.block_lt_of_cell? _ _ u0) uf0
    replace uf1 := Kept.looseOut' kk (by dsimp only; omega) (World.block_lt_of_cell? _ _ u1) uf1
    replace uf2 := Kept.looseOut' kk (by dsimp only; omega) (World.block_lt_of_cell? _ _ u2) uf2
    replace uf3 := Kept.looseOut' kk (by dsimp only; omega) (World.block_lt_of_cell? _ _ u3) uf3
    replace yf0 := Kept.looseOut' kk (by dsimp only; omega) (World.block_lt_of_cell? _ _ y0) yf0
    replace yf1 := Kept.looseOut' kk (by dsimp only; omega) (World.block_lt_of_cell? _ _ y1) yf1
    replace yf2 := Kept.looseOut' kk (by dsimp only; omega) (World.block_lt_of_cell? _ _ y2) yf2
    replace yf3 := Kept.looseOut' kk (by dsimp only; omega) (World.block_lt_of_cell? _ _ y3) yf3
    replace q0 := Kept.cellOut kk (by dsimp only; omega) q0
    replace q1 := Kept.cellOut kk (by dsimp only; omega) q1
    replace q2 := Kept.cellOut kk (by dsimp only; omega) q2
    replace q3 := Kept.cellOut kk (by dsimp only; omega) q3
    replace u0 := Kept.cellOut kk (by dsimp only; omega) u0
    replace u1 := Kept.cellOut kk (by dsimp only; omega) u1
    replace u2 := Kept.cellOut kk (by dsimp only; omega) u2
    replace u3 := Kept.cellOut kk (by dsimp only; omega) u3
    replace y0 := Kept.cellOut kk (by dsimp only; omega) y0
    replace y1 := Kept.cellOut kk (by dsimp only; omega) y1
    replace y2 := Kept.cellOut kk (by dsimp only; omega) y2
    replace y3 := Kept.cellOut kk (by dsimp only; omega) y3
    have z7 := kk.size
    clear kk
    refine wp_region_held_drew (S := (fun w' => w'.cell? ⟨w1.heap.size, 0, none⟩ = some (.int .i64 fk) ∧ w'.cell? ⟨w1.heap.size, 1, none⟩ = some (.bool fn) ∧ w'.cell? ⟨w1.heap.size, 2, none⟩ = some (.int .i64 fm) ∧ w'.cell? ⟨w1.heap.size, 3, none⟩ = some (.int .i64 fe))) (by kernel_rfl) ?_ (fun hHeld => ?_)
    · exact ⟨y0, y1, y2, y3⟩
    generalize w5.drew = w8 at *
    refine wpAnyH_take (i := 0) (oi := _) (v := .agg #[.int .i64 fk, .bool fn, .int .i64 fm, .int .i64 fe]) rfl (by kernel_rfl) (by kernel_rfl) (by kernel_rfl) (fun _ _ _ h => h) (Or.inl ⟨by rfl, ?_⟩) hHeld ?_
    · intro wq hSw
      try dsimp only at hSw
      go_simp
    try simp only [Act.put, List.getElem_toArray, List.getElem_cons_succ, List.getElem_cons_zero, List.setIfInBounds_toArray, List.set_cons_zero, List.set_cons_succ]
    refine wpAnyH_take (i := 1) (oi := _) (v := .pointer (some ⟨g, 0, none⟩)) rfl (by kernel_rfl) (by kernel_rfl) (by kernel_rfl) (fun _ _ _ h => h) (Or.inl ⟨by rfl, ?_⟩) hHeld ?_
    · intro wq hSw
      try dsimp only at hSw
      go_simp
    try simp only [Act.put, List.getElem_toArray, List.getElem_cons_succ, List.getElem_cons_zero, List.setIfInBounds_toArray, List.set_cons_zero, List.set_cons_succ]
    refine wpAnyH_ready (rs := [2]) (by kernel_rfl) (by simp) ?_
    refine AllReadyH.cons rfl (fun KK hK => ?_) AllReadyH.nil
    simp only [List.getElem_toArray, List.getElem_cons_succ, List.getElem_cons_zero]
    rw [if_pos (by rfl)]
    refine wps1 49 (.tmp 14) _ rfl in_l5bent_d (.pointer (some ⟨g, 0, none⟩)) rfl (bent5_any g lo _ D.1) ?_
    rintro e w9 ⟨hk, hn, hm, he, rfl, hd⟩
    refine ⟨_, rfl, ?_⟩
    have kk := hd.2
    replace D := D.trans hd
    replace qf0 := Kept.looseOut' kk (by dsimp only; omega) (World.block_lt_of_cell? _ _ q0) qf0
    replace qf1 := Kept.looseOut' kk (by dsimp only; omega) (World.block_lt_of_cell? _ _ q1) qf1
    replace qf2 := Kept.looseOut' kk (by dsimp only; omega) (World.block_lt_of_cell? _ _ q2) qf2
    replace qf3 := Kept.looseOut' kk (by dsimp only; omega) (World.block_lt_of_cell? _ _ q3) qf3
    replace uf0 := Kept.looseOut' kk (by dsimp only; omega) (World.block_lt_of_cell? _ _ u0) uf0
    replace uf1 := Kept.looseOut' kk (by dsimp only; omega) (World.block_lt_of_cell? _ _ u1) uf1
    replace uf2 := Kept.looseOut' kk (by dsimp only; omega) (World.block_lt_of_cell? _ _ u2) uf2
    replace uf3 := Kept.looseOut' kk (by dsimp only; omega) (World.block_lt_of_cell? _ _ u3) uf3
    replace yf0 := Kept.looseOut' kk (by dsimp only; omega) (World.block_lt_of_cell? _ _ y0) yf0
    replace yf1 := Kept.looseOut' kk (by dsimp only; omega) (World.block_lt_of_cell? _ _ y1) yf1
    replace yf2 := Kept.looseOut' kk (by dsimp only; omega) (World.block_lt_of_cell? _ _ y2) yf2
    replace yf3 := Kept.looseOut' kk (by dsimp only; omega) (World.block_lt_of_cell? _ _ y3) yf3
    replace q0 := Kept.cellOut kk (by dsimp only; omega) q0
    replace q1 := Kept.cellOut kk (by dsimp only; omega) q1
    replace q2 := Kept.cellOut kk (by dsimp only; omega) q2
    replace q3 := Kept.cellOut kk (by dsimp only; omega) q3
    replace u0 := Kept.cellOut kk (by dsimp only; omega) u0
    replace u1 := Kept.cellOut kk (by dsimp only; omega) u1
    replace u2 := Kept.cellOut kk (by dsimp only; omega) u2
    replace u3 := Kept.cellOut kk (by dsimp only; omega) u3
    replace y0 := Kept.cellOut kk (by dsimp only; omega) y0
    replace y1 := Kept.cellOut kk (by dsimp only; omega) y1
    replace y2 := Kept.cellOut kk (by dsimp only; omega) y2
    replace y3 := Kept.cellOut kk (by dsimp only; omega) y3
    have z10 := kk.size
    clear kk hd
    clear hHeld
    refine hK.out _ _ ?_ (fun hHeld => ?_)
    · exact ⟨y0, y1, y2, y3⟩
    clear hK KK
    try simp only [Act.put, List.getElem_toArray, List.getElem_cons_succ, List.getElem_cons_zero, List.setIfInBounds_toArray, List.set_cons_zero, List.set_cons_succ]
    refine wpAnyH_ready (rs := [3]) (by kernel_rfl) (by simp) ?_
    refine AllReadyH.cons rfl (fun KK hK => ?_) AllReadyH.nil
    simp only [List.getElem_toArray, List.getElem_cons_succ, List.getElem_cons_zero]
    rw [if_pos (by rfl)]
    go_simp
    replace D := D.set (p := ⟨w.heap.size, 0, none⟩) (by dsimp only; omega) (by dsimp only; omega) (.int .i64 fk)
    replace q0 : (w9.setCell ⟨w.heap.size, 0, none⟩ (.int .i64 fk)).cell? ⟨w.heap.size, 0, none⟩ = some (.int .i64 fk) := cell_on _ _ _ _ _ q0
    replace q1 := cell_off _ _ _ 0 (.int .i64 fk) _ q1 (by decide)
    replace q2 := cell_off _ _ _ 0 (.int .i64 fk) _ q2 (by decide)
    replace q3 := cell_off _ _ _ 0 (.int .i64 fk) _ q3 (by decide)
    replace u0 := cell_aside (.int .i64 fk) (r := ⟨w.heap.size, 0, none⟩) (by dsimp only; omega) u0
    replace u1 := cell_aside (.int .i64 fk) (r := ⟨w.heap.size, 0, none⟩) (by dsimp only; omega) u1
    replace u2 := cell_aside (.int .i64 fk) (r := ⟨w.heap.size, 0, none⟩) (by dsimp only; omega) u2
    replace u3 := cell_aside (.int .i64 fk) (r := ⟨w.heap.size, 0, none⟩) (by dsimp only; omega) u3
    replace y0 := cell_aside (.int .i64 fk) (r := ⟨w.heap.size, 0, none⟩) (by dsimp only; omega) y0
    replace y1 := cell_aside (.int .i64 fk) (r := ⟨w.heap.size, 0, none⟩) (by dsimp only; omega) y1
    replace y2 := cell_aside (.int .i64 fk) (r := ⟨w.heap.size, 0, none⟩) (by dsimp only; omega) y2
    replace y3 := cell_aside (.int .i64 fk) (r := ⟨w.heap.size, 0, none⟩) (by dsimp only; omega) y3
    replace qf0 : (w9.setCell ⟨w.heap.size, 0, none⟩ (.int .i64 fk)).frozen? _ = false := (frozen_set _ _ _ _ _).trans qf0
    replace qf1 : (w9.setCell ⟨w.heap.size, 0, none⟩ (.int .i64 fk)).frozen? _ = false := (frozen_set _ _ _ _ _).trans qf1
    replace qf2 : (w9.setCell ⟨w.heap.size, 0, none⟩ (.int .i64 fk)).frozen? _ = false := (frozen_set _ _ _ _ _).trans qf2
    replace qf3 : (w9.setCell ⟨w.heap.size, 0, none⟩ (.int .i64 fk)).frozen? _ = false := (frozen_set _ _ _ _ _).trans qf3
    replace uf0 : (w9.setCell ⟨w.heap.size, 0, none⟩ (.int .i64 fk)).frozen? _ = false := (frozen_set _ _ _ _ _).trans uf0
    replace uf1 : (w9.setCell ⟨w.heap.size, 0, none⟩ (.int .i64 fk)).frozen? _ = false := (frozen_set _ _ _ _ _).trans uf1
    replace uf2 : (w9.setCell ⟨w.heap.size, 0, none⟩ (.int .i64 fk)).frozen? _ = false := (frozen_set _ _ _ _ _).trans uf2
    replace uf3 : (w9.setCell ⟨w.heap.size, 0, none⟩ (.int .i64 fk)).frozen? _ = false := (frozen_set _ _ _ _ _).trans uf3
    replace yf0 : (w9.setCell ⟨w.heap.size, 0, none⟩ (.int .i64 fk)).frozen? _ = false := (frozen_set _ _ _ _ _).trans yf0
    replace yf1 : (w9.setCell ⟨w.heap.size, 0, none⟩ (.int .i64 fk)).frozen? _ = false := (frozen_set _ _ _ _ _).trans yf1
    replace yf2 : (w9.setCell ⟨w.heap.size, 0, none⟩ (.int .i64 fk)).frozen? _ = false := (frozen_set _ _ _ _ _).trans yf2
    replace yf3 : (w9.setCell ⟨w.heap.size, 0, none⟩ (.int .i64 fk)).frozen? _ = false := (frozen_set _ _ _ _ _).trans yf3
    have z11 : (w9.setCell ⟨w.heap.size, 0, none⟩ (.int .i64 fk)).heap.size = w9.heap.size := size_set _ _ _
    replace z11 := Nat.le_of_eq z11.symm
    replace D := D.set (p := ⟨w.heap.size, 1, none⟩) (by dsimp only; omega) (by dsimp only; omega) (.bool fn)
    replace q0 := cell_off _ _ _ 1 (.bool fn) _ q0 (by decide)
    replace q1 : ((w9.setCell ⟨w.heap.size, 0, none⟩ (.int .i64 fk)).setCell ⟨w.heap.size, 1, none⟩ (.bool fn)).cell? ⟨w.heap.size, 1, none⟩ = some (.bool fn) := cell_on _ _ _ _ _ q1
    replace q2 := cell_off _ _ _ 1 (.bool fn) _ q2 (by decide)
    replace q3 := cell_off _ _ _ 1 (.bool fn) _ q3 (by decide)
    replace u0 := cell_aside (.bool fn) (r := ⟨w.heap.size, 1, none⟩) (by dsimp only; omega) u0
    replace u1 := cell_aside (.bool fn) (r := ⟨w.heap.size, 1, none⟩) (by dsimp only; omega) u1
    replace u2 := cell_aside (.bool fn) (r := ⟨w.heap.size, 1, none⟩) (by dsimp only; omega) u2
    replace u3 := cell_aside (.bool fn) (r := ⟨w.heap.size, 1, none⟩) (by dsimp only; omega) u3
    replace y0 := cell_aside (.bool fn) (r := ⟨w.heap.size, 1, none⟩) (by dsimp only; omega) y0
    replace y1 := cell_aside (.bool fn) (r := ⟨w.heap.size, 1, none⟩) (by dsimp only; omega) y1
    replace y2 := cell_aside (.bool fn) (r := ⟨w.heap.size, 1, none⟩) (by dsimp only; omega) y2
    replace y3 := cell_aside (.bool fn) (r := ⟨w.heap.size, 1, none⟩) (by dsimp only; omega) y3
    replace qf0 : ((w9.setCell ⟨w.heap.size, 0, none⟩ (.int .i64 fk)).setCell ⟨w.heap.size, 1, none⟩ (.bool fn)).frozen? _ = false := (frozen_set _ _ _ _ _).trans qf0
    replace qf1 : ((w9.setCell ⟨w.heap.size, 0, none⟩ (.int .i64 fk)).setCell ⟨w.heap.size, 1, none⟩ (.bool fn)).frozen? _ = false := (frozen_set _ _ _ _ _).trans qf1
    replace qf2 : ((w9.setCell ⟨w.heap.size, 0, none⟩ (.int .i64 fk)).setCell ⟨w.heap.size, 1, none⟩ (.bool fn)).frozen? _ = false := (frozen_set _ _ _ _ _).trans qf2
    replace qf3 : ((w9.setCell ⟨w.heap.size, 0, none⟩ (.int .i64 fk)).setCell ⟨w.heap.size, 1, none⟩ (.bool fn)).frozen? _ = false := (frozen_set _ _ _ _ _).trans qf3
    replace uf0 : ((w9.setCell ⟨w.heap.size, 0, none⟩ (.int .i64 fk)).setCell ⟨w.heap.size, 1, none⟩ (.bool fn)).frozen? _ = false := (frozen_set _ _ _ _ _).trans uf0
    replace uf1 : ((w9.setCell ⟨w.heap.size, 0, none⟩ (.int .i64 fk)).setCell ⟨w.heap.size, 1, none⟩ (.bool fn)).frozen? _ = false := (frozen_set _ _ _ _ _).trans uf1
    replace uf2 : ((w9.setCell ⟨w.heap.size, 0, none⟩ (.int .i64 fk)).setCell ⟨w.heap.size, 1, none⟩ (.bool fn)).frozen? _ = false := (frozen_set _ _ _ _ _).trans uf2
    replace uf3 : ((w9.setCell ⟨w.heap.size, 0, none⟩ (.int .i64 fk)).setCell ⟨w.heap.size, 1, none⟩ (.bool fn)).frozen? _ = false := (frozen_set _ _ _ _ _).trans uf3
    replace yf0 : ((w9.setCell ⟨w.heap.size, 0, none⟩ (.int .i64 fk)).setCell ⟨w.heap.size, 1, none⟩ (.bool fn)).frozen? _ = false := (frozen_set _ _ _ _ _).trans yf0
    replace yf1 : ((w9.setCell ⟨w.heap.size, 0, none⟩ (.int .i64 fk)).setCell ⟨w.heap.size, 1, none⟩ (.bool fn)).frozen? _ = false := (frozen_set _ _ _ _ _).trans yf1
    replace yf2 : ((w9.setCell ⟨w.heap.size, 0, none⟩ (.int .i64 fk)).setCell ⟨w.heap.size, 1, none⟩ (.bool fn)).frozen? _ = false := (frozen_set _ _ _ _ _).trans yf2
    replace yf3 : ((w9.setCell ⟨w.heap.size, 0, none⟩ (.int .i64 fk)).setCell ⟨w.heap.size, 1, none⟩ (.bool fn)).frozen? _ = false := (frozen_set _ _ _ _ _).trans yf3
    have z12 : ((w9.setCell ⟨w.heap.size, 0, none⟩ (.int .i64 fk)).setCell ⟨w.heap.size, 1, none⟩ (.bool fn)).heap.size = (w9.setCell ⟨w.heap.size, 0, none⟩ (.int .i64 fk)).heap.size := size_set _ _ _
    replace z12 := Nat.le_of_eq z12.symm
    replace D := D.set (p := ⟨w.heap.size, 2, none⟩) (by dsimp only; omega) (by dsimp only; omega) (.int .i64 fm)
    replace q0 := cell_off _ _ _ 2 (.int .i64 fm) _ q0 (by decide)
    replace q1 := cell_off _ _ _ 2 (.int .i64 fm) _ q1 (by decide)
    replace q2 : (((w9.setCell ⟨w.heap.size, 0, none⟩ (.int .i64 fk)).setCell ⟨w.heap.size, 1, none⟩ (.bool fn)).setCell ⟨w.heap.size, 2, none⟩ (.int .i64 fm)).cell? ⟨w.heap.size, 2, none⟩ = some (.int .i64 fm) := cell_on _ _ _ _ _ q2
    replace q3 := cell_off _ _ _ 2 (.int .i64 fm) _ q3 (by decide)
    replace u0 := cell_aside (.int .i64 fm) (r := ⟨w.heap.size, 2, none⟩) (by dsimp only; omega) u0
    replace u1 := cell_aside (.int .i64 fm) (r := ⟨w.heap.size, 2, none⟩) (by dsimp only; omega) u1
    replace u2 := cell_aside (.int .i64 fm) (r := ⟨w.heap.size, 2, none⟩) (by dsimp only; omega) u2
    replace u3 := cell_aside (.int .i64 fm) (r := ⟨w.heap.size, 2, none⟩) (by dsimp only; omega) u3
    replace y0 := cell_aside (.int .i64 fm) (r := ⟨w.heap.size, 2, none⟩) (by dsimp only; omega) y0
    replace y1 := cell_aside (.int .i64 fm) (r := ⟨w.heap.size, 2, none⟩) (by dsimp only; omega) y1
    replace y2 := cell_aside (.int .i64 fm) (r := ⟨w.heap.size, 2, none⟩) (by dsimp only; omega) y2
    replace y3 := cell_aside (.int .i64 fm) (r := ⟨w.heap.size, 2, none⟩) (by dsimp only; omega) y3
    replace qf0 : (((w9.setCell ⟨w.heap.size, 0, none⟩ (.int .i64 fk)).setCell ⟨w.heap.size, 1, none⟩ (.bool fn)).setCell ⟨w.heap.size, 2, none⟩ (.int .i64 fm)).frozen? _ = false := (frozen_set _ _ _ _ _).trans qf0
    replace qf1 : (((w9.setCell ⟨w.heap.size, 0, none⟩ (.int .i64 fk)).setCell ⟨w.heap.size, 1, none⟩ (.bool fn)).setCell ⟨w.heap.size, 2, none⟩ (.int .i64 fm)).frozen? _ = false := (frozen_set _ _ _ _ _).trans qf1
    replace qf2 : (((w9.setCell ⟨w.heap.size, 0, none⟩ (.int .i64 fk)).setCell ⟨w.heap.size, 1, none⟩ (.bool fn)).setCell ⟨w.heap.size, 2, none⟩ (.int .i64 fm)).frozen? _ = false := (frozen_set _ _ _ _ _).trans qf2
    replace qf3 : (((w9.setCell ⟨w.heap.size, 0, none⟩ (.int .i64 fk)).setCell ⟨w.heap.size, 1, none⟩ (.bool fn)).setCell ⟨w.heap.size, 2, none⟩ (.int .i64 fm)).frozen? _ = false := (frozen_set _ _ _ _ _).trans qf3
    replace uf0 : (((w9.setCell ⟨w.heap.size, 0, none⟩ (.int .i64 fk)).setCell ⟨w.heap.size, 1, none⟩ (.bool fn)).setCell ⟨w.heap.size, 2, none⟩ (.int .i64 fm)).frozen? _ = false := (frozen_set _ _ _ _ _).trans uf0
    replace uf1 : (((w9.setCell ⟨w.heap.size, 0, none⟩ (.int .i64 fk)).setCell ⟨w.heap.size, 1, none⟩ (.bool fn)).setCell ⟨w.heap.size, 2, none⟩ (.int .i64 fm)).frozen? _ = false := (frozen_set _ _ _ _ _).trans uf1
    replace uf2 : (((w9.setCell ⟨w.heap.size, 0, none⟩ (.int .i64 fk)).setCell ⟨w.heap.size, 1, none⟩ (.bool fn)).setCell ⟨w.heap.size, 2, none⟩ (.int .i64 fm)).frozen? _ = false := (frozen_set _ _ _ _ _).trans uf2
    replace uf3 : (((w9.setCell ⟨w.heap.size, 0, none⟩ (.int .i64 fk)).setCell ⟨w.heap.size, 1, none⟩ (.bool fn)).setCell ⟨w.heap.size, 2, none⟩ (.int .i64 fm)).frozen? _ = false := (frozen_set _ _ _ _ _).trans uf3
    replace yf0 : (((w9.setCell ⟨w.heap.size, 0, none⟩ (.int .i64 fk)).setCell ⟨w.heap.size, 1, none⟩ (.bool fn)).setCell ⟨w.heap.size, 2, none⟩ (.int .i64 fm)).frozen? _ = false := (frozen_set _ _ _ _ _).trans yf0
    replace yf1 : (((w9.setCell ⟨w.heap.size, 0, none⟩ (.int .i64 fk)).setCell ⟨w.heap.size, 1, none⟩ (.bool fn)).setCell ⟨w.heap.size, 2, none⟩ (.int .i64 fm)).frozen? _ = false := (frozen_set _ _ _ _ _).trans yf1
    replace yf2 : (((w9.setCell ⟨w.heap.size, 0, none⟩ (.int .i64 fk)).setCell ⟨w.heap.size, 1, none⟩ (.bool fn)).setCell ⟨w.heap.size, 2, none⟩ (.int .i64 fm)).frozen? _ = false := (frozen_set _ _ _ _ _).trans yf2
    replace yf3 : (((w9.setCell ⟨w.heap.size, 0, none⟩ (.int .i64 fk)).setCell ⟨w.heap.size, 1, none⟩ (.bool fn)).setCell ⟨w.heap.size, 2, none⟩ (.int .i64 fm)).frozen? _ = false := (frozen_set _ _ _ _ _).trans yf3
    have z13 : (((w9.setCell ⟨w.heap.size, 0, none⟩ (.int .i64 fk)).setCell ⟨w.heap.size, 1, none⟩ (.bool fn)).setCell ⟨w.heap.size, 2, none⟩ (.int .i64 fm)).heap.size = ((w9.setCell ⟨w.heap.size, 0, none⟩ (.int .i64 fk)).setCell ⟨w.heap.size, 1, none⟩ (.bool fn)).heap.size := size_set _ _ _
    replace z13 := Nat.le_of_eq z13.symm
    replace D := D.set (p := ⟨w.heap.size, 3, none⟩) (by dsimp only; omega) (by dsimp only; omega) (.int .i64 fe)
    replace q0 := cell_off _ _ _ 3 (.int .i64 fe) _ q0 (by decide)
    replace q1 := cell_off _ _ _ 3 (.int .i64 fe) _ q1 (by decide)
    replace q2 := cell_off _ _ _ 3 (.int .i64 fe) _ q2 (by decide)
    replace q3 : ((((w9.setCell ⟨w.heap.size, 0, none⟩ (.int .i64 fk)).setCell ⟨w.heap.size, 1, none⟩ (.bool fn)).setCell ⟨w.heap.size, 2, none⟩ (.int .i64 fm)).setCell ⟨w.heap.size, 3, none⟩ (.int .i64 fe)).cell? ⟨w.heap.size, 3, none⟩ = some (.int .i64 fe) := cell_on _ _ _ _ _ q3
    replace u0 := cell_aside (.int .i64 fe) (r := ⟨w.heap.size, 3, none⟩) (by dsimp only; omega) u0
    replace u1 := cell_aside (.int .i64 fe) (r := ⟨w.heap.size, 3, none⟩) (by dsimp only; omega) u1
    replace u2 := cell_aside (.int .i64 fe) (r := ⟨w.heap.size, 3, none⟩) (by dsimp only; omega) u2
    replace u3 := cell_aside (.int .i64 fe) (r := ⟨w.heap.size, 3, none⟩) (by dsimp only; omega) u3
    replace y0 := cell_aside (.int .i64 fe) (r := ⟨w.heap.size, 3, none⟩) (by dsimp only; omega) y0
    replace y1 := cell_aside (.int .i64 fe) (r := ⟨w.heap.size, 3, none⟩) (by dsimp only; omega) y1
    replace y2 := cell_aside (.int .i64 fe) (r := ⟨w.heap.size, 3, none⟩) (by dsimp only; omega) y2
    replace y3 := cell_aside (.int .i64 fe) (r := ⟨w.heap.size, 3, none⟩) (by dsimp only; omega) y3
    replace qf0 : ((((w9.setCell ⟨w.heap.size, 0, none⟩ (.int .i64 fk)).setCell ⟨w.heap.size, 1, none⟩ (.bool fn)).setCell ⟨w.heap.size, 2, none⟩ (.int .i64 fm)).setCell ⟨w.heap.size, 3, none⟩ (.int .i64 fe)).frozen? _ = false := (frozen_set _ _ _ _ _).trans qf0
    replace qf1 : ((((w9.setCell ⟨w.heap.size, 0, none⟩ (.int .i64 fk)).setCell ⟨w.heap.size, 1, none⟩ (.bool fn)).setCell ⟨w.heap.size, 2, none⟩ (.int .i64 fm)).setCell ⟨w.heap.size, 3, none⟩ (.int .i64 fe)).frozen? _ = false := (frozen_set _ _ _ _ _).trans qf1
    replace qf2 : ((((w9.setCell ⟨w.heap.size, 0, none⟩ (.int .i64 fk)).setCell ⟨w.heap.size, 1, none⟩ (.bool fn)).setCell ⟨w.heap.size, 2, none⟩ (.int .i64 fm)).setCell ⟨w.heap.size, 3, none⟩ (.int .i64 fe)).frozen? _ = false := (frozen_set _ _ _ _ _).trans qf2
    replace qf3 : ((((w9.setCell ⟨w.heap.size, 0, none⟩ (.int .i64 fk)).setCell ⟨w.heap.size, 1, none⟩ (.bool fn)).setCell ⟨w.heap.size, 2, none⟩ (.int .i64 fm)).setCell ⟨w.heap.size, 3, none⟩ (.int .i64 fe)).frozen? _ = false := (frozen_set _ _ _ _ _).trans qf3
    replace uf0 : ((((w9.setCell ⟨w.heap.size, 0, none⟩ (.int .i64 fk)).setCell ⟨w.heap.size, 1, none⟩ (.bool fn)).setCell ⟨w.heap.size, 2, none⟩ (.int .i64 fm)).setCell ⟨w.heap.size, 3, none⟩ (.int .i64 fe)).frozen? _ = false := (frozen_set _ _ _ _ _).trans uf0
    replace uf1 : ((((w9.setCell ⟨w.heap.size, 0, none⟩ (.int .i64 fk)).setCell ⟨w.heap.size, 1, none⟩ (.bool fn)).setCell ⟨w.heap.size, 2, none⟩ (.int .i64 fm)).setCell ⟨w.heap.size, 3, none⟩ (.int .i64 fe)).frozen? _ = false := (frozen_set _ _ _ _ _).trans uf1
    replace uf2 : ((((w9.setCell ⟨w.heap.size, 0, none⟩ (.int .i64 fk)).setCell ⟨w.heap.size, 1, none⟩ (.bool fn)).setCell ⟨w.heap.size, 2, none⟩ (.int .i64 fm)).setCell ⟨w.heap.size, 3, none⟩ (.int .i64 fe)).frozen? _ = false := (frozen_set _ _ _ _ _).trans uf2
    replace uf3 : ((((w9.setCell ⟨w.heap.size, 0, none⟩ (.int .i64 fk)).setCell ⟨w.heap.size, 1, none⟩ (.bool fn)).setCell ⟨w.heap.size, 2, none⟩ (.int .i64 fm)).setCell ⟨w.heap.size, 3, none⟩ (.int .i64 fe)).frozen? _ = false := (frozen_set _ _ _ _ _).trans uf3
    replace yf0 : ((((w9.setCell ⟨w.heap.size, 0, none⟩ (.int .i64 fk)).setCell ⟨w.heap.size, 1, none⟩ (.bool fn)).setCell ⟨w.heap.size, 2, none⟩ (.int .i64 fm)).setCell ⟨w.heap.size, 3, none⟩ (.int .i64 fe)).frozen? _ = false := (frozen_set _ _ _ _ _).trans yf0
    replace yf1 : ((((w9.setCell ⟨w.heap.size, 0, none⟩ (.int .i64 fk)).setCell ⟨w.heap.size, 1, none⟩ (.bool fn)).setCell ⟨w.heap.size, 2, none⟩ (.int .i64 fm)).setCell ⟨w.heap.size, 3, none⟩ (.int .i64 fe)).frozen? _ = false := (frozen_set _ _ _ _ _).trans yf1
    replace yf2 : ((((w9.setCell ⟨w.heap.size, 0, none⟩ (.int .i64 fk)).setCell ⟨w.heap.size, 1, none⟩ (.bool fn)).setCell ⟨w.heap.size, 2, none⟩ (.int .i64 fm)).setCell ⟨w.heap.size, 3, none⟩ (.int .i64 fe)).frozen? _ = false := (frozen_set _ _ _ _ _).trans yf2
    replace yf3 : ((((w9.setCell ⟨w.heap.size, 0, none⟩ (.int .i64 fk)).setCell ⟨w.heap.size, 1, none⟩ (.bool fn)).setCell ⟨w.heap.size, 2, none⟩ (.int .i64 fm)).setCell ⟨w.heap.size, 3, none⟩ (.int .i64 fe)).frozen? _ = false := (frozen_set _ _ _ _ _).trans yf3
    have z14 : ((((w9.setCell ⟨w.heap.size, 0, none⟩ (.int .i64 fk)).setCell ⟨w.heap.size, 1, none⟩ (.bool fn)).setCell ⟨w.heap.size, 2, none⟩ (.int .i64 fm)).setCell ⟨w.heap.size, 3, none⟩ (.int .i64 fe)).heap.size = (((w9.setCell ⟨w.heap.size, 0, none⟩ (.int .i64 fk)).setCell ⟨w.heap.size, 1, none⟩ (.bool fn)).setCell ⟨w.heap.size, 2, none⟩ (.int .i64 fm)).heap.size := size_set _ _ _
    replace z14 := Nat.le_of_eq z14.symm
    generalize ((((w9.setCell ⟨w.heap.size, 0, none⟩ (.int .i64 fk)).setCell ⟨w.heap.size, 1, none⟩ (.bool fn)).setCell ⟨w.heap.size, 2, none⟩ (.int .i64 fm)).setCell ⟨w.heap.size, 3, none⟩ (.int .i64 fe)) = w15 at *
    clear hHeld
    refine hK.out _ _ ?_ (fun hHeld => ?_)
    · exact ⟨y0, y1, y2, y3⟩
    clear hK KK
    try simp only [Act.put, List.getElem_toArray, List.getElem_cons_succ, List.getElem_cons_zero, List.setIfInBounds_toArray, List.set_cons_zero, List.set_cons_succ]
    refine wpAnyH_ready (rs := [4]) (by kernel_rfl) (by simp) ?_
    refine AllReadyH.cons rfl (fun KK hK => ?_) AllReadyH.nil
    simp only [List.getElem_toArray, List.getElem_cons_succ, List.getElem_cons_zero]
    rw [if_pos (by rfl)]
    go_simp
    replace D := D.set (p := ⟨w.heap.size + 1, 0, none⟩) (by dsimp only; omega) (by dsimp only; omega) (.int .i64 hk)
    replace q0 := cell_aside (.int .i64 hk) (r := ⟨w.heap.size + 1, 0, none⟩) (by dsimp only; omega) q0
    replace q1 := cell_aside (.int .i64 hk) (r := ⟨w.heap.size + 1, 0, none⟩) (by dsimp only; omega) q1
    replace q2 := cell_aside (.int .i64 hk) (r := ⟨w.heap.size + 1, 0, none⟩) (by dsimp only; omega) q2
    replace q3 := cell_aside (.int .i64 hk) (r := ⟨w.heap.size + 1, 0, none⟩) (by dsimp only; omega) q3
    replace u0 : (w15.setCell ⟨w.heap.size + 1, 0, none⟩ (.int .i64 hk)).cell? ⟨w.heap.size + 1, 0, none⟩ = some (.int .i64 hk) := cell_on _ _ _ _ _ u0
    replace u1 := cell_off _ _ _ 0 (.int .i64 hk) _ u1 (by decide)
    replace u2 := cell_off _ _ _ 0 (.int .i64 hk) _ u2 (by decide)
    replace u3 := cell_off _ _ _ 0 (.int .i64 hk) _ u3 (by decide)
    replace y0 := cell_aside (.int .i64 hk) (r := ⟨w.heap.size + 1, 0, none⟩) (by dsimp only; omega) y0
    replace y1 := cell_aside (.int .i64 hk) (r := ⟨w.heap.size + 1, 0, none⟩) (by dsimp only; omega) y1
    replace y2 := cell_aside (.int .i64 hk) (r := ⟨w.heap.size + 1, 0, none⟩) (by dsimp only; omega) y2
    replace y3 := cell_aside (.int .i64 hk) (r := ⟨w.heap.size + 1, 0, none⟩) (by dsimp only; omega) y3
    replace qf0 : (w15.setCell ⟨w.heap.size + 1, 0, none⟩ (.int .i64 hk)).frozen? _ = false := (frozen_set _ _ _ _ _).trans qf0
    replace qf1 : (w15.setCell ⟨w.heap.size + 1, 0, none⟩ (.int .i64 hk)).frozen? _ = false := (frozen_set _ _ _ _ _).trans qf1
    replace qf2 : (w15.setCell ⟨w.heap.size + 1, 0, none⟩ (.int .i64 hk)).frozen? _ = false := (frozen_set _ _ _ _ _).trans qf2
    replace qf3 : (w15.setCell ⟨w.heap.size + 1, 0, none⟩ (.int .i64 hk)).frozen? _ = false := (frozen_set _ _ _ _ _).trans qf3
    replace uf0 : (w15.setCell ⟨w.heap.size + 1, 0, none⟩ (.int .i64 hk)).frozen? _ = false := (frozen_set _ _ _ _ _).trans uf0
    replace uf1 : (w15.setCell ⟨w.heap.size + 1, 0, none⟩ (.int .i64 hk)).frozen? _ = false := (frozen_set _ _ _ _ _).trans uf1
    replace uf2 : (w15.setCell ⟨w.heap.size + 1, 0, none⟩ (.int .i64 hk)).frozen? _ = false := (frozen_set _ _ _ _ _).trans uf2
    replace uf3 : (w15.setCell ⟨w.heap.size + 1, 0, none⟩ (.int .i64 hk)).frozen? _ = false := (frozen_set _ _ _ _ _).trans uf3
    replace yf0 : (w15.setCell ⟨w.heap.size + 1, 0, none⟩ (.int .i64 hk)).frozen? _ = false := (frozen_set _ _ _ _ _).trans yf0
    replace yf1 : (w15.setCell ⟨w.heap.size + 1, 0, none⟩ (.int .i64 hk)).frozen? _ = false := (frozen_set _ _ _ _ _).trans yf1
    replace yf2 : (w15.setCell ⟨w.heap.size + 1, 0, none⟩ (.int .i64 hk)).frozen? _ = false := (frozen_set _ _ _ _ _).trans yf2
    replace yf3 : (w15.setCell ⟨w.heap.size + 1, 0, none⟩ (.int .i64 hk)).frozen? _ = false := (frozen_set _ _ _ _ _).trans yf3
    have z16 : (w15.setCell ⟨w.heap.size + 1, 0, none⟩ (.int .i64 hk)).heap.size = w15.heap.size := size_set _ _ _
    replace z16 := Nat.le_of_eq z16.symm
    replace D := D.set (p := ⟨w.heap.size + 1, 1, none⟩) (by dsimp only; omega) (by dsimp only; omega) (.bool hn)
    replace q0 := cell_aside (.bool hn) (r := ⟨w.heap.size + 1, 1, none⟩) (by dsimp only; omega) q0
    replace q1 := cell_aside (.bool hn) (r := ⟨w.heap.size + 1, 1, none⟩) (by dsimp only; omega) q1
    replace q2 := cell_aside (.bool hn) (r := ⟨w.heap.size + 1, 1, none⟩) (by dsimp only; omega) q2
    replace q3 := cell_aside (.bool hn) (r := ⟨w.heap.size + 1, 1, none⟩) (by dsimp only; omega) q3
    replace u0 := cell_off _ _ _ 1 (.bool hn) _ u0 (by decide)
    replace u1 : ((w15.setCell ⟨w.heap.size + 1, 0, none⟩ (.int .i64 hk)).setCell ⟨w.heap.size + 1, 1, none⟩ (.bool hn)).cell? ⟨w.heap.size + 1, 1, none⟩ = some (.bool hn) := cell_on _ _ _ _ _ u1
    replace u2 := cell_off _ _ _ 1 (.bool hn) _ u2 (by decide)
    replace u3 := cell_off _ _ _ 1 (.bool hn) _ u3 (by decide)
    replace y0 := cell_aside (.bool hn) (r := ⟨w.heap.size + 1, 1, none⟩) (by dsimp only; omega) y0
    replace y1 := cell_aside (.bool hn) (r := ⟨w.heap.size + 1, 1, none⟩) (by dsimp only; omega) y1
    replace y2 := cell_aside (.bool hn) (r := ⟨w.heap.size + 1, 1, none⟩) (by dsimp only; omega) y2
    replace y3 := cell_aside (.bool hn) (r := ⟨w.heap.size + 1, 1, none⟩) (by dsimp only; omega) y3
    replace qf0 : ((w15.setCell ⟨w.heap.size + 1, 0, none⟩ (.int .i64 hk)).setCell ⟨w.heap.size + 1, 1, none⟩ (.bool hn)).frozen? _ = false := (frozen_set _ _ _ _ _).trans qf0
    replace qf1 : ((w15.setCell ⟨w.heap.size + 1, 0, none⟩ (.int .i64 hk)).setCell ⟨w.heap.size + 1, 1, none⟩ (.bool hn)).frozen? _ = false := (frozen_set _ _ _ _ _).trans qf1
    replace qf2 : ((w15.setCell ⟨w.heap.size + 1, 0, none⟩ (.int .i64 hk)).setCell ⟨w.heap.size + 1, 1, none⟩ (.bool hn)).frozen? _ = false := (frozen_set _ _ _ _ _).trans qf2
    replace qf3 : ((w15.setCell ⟨w.heap.size + 1, 0, none⟩ (.int .i64 hk)).setCell ⟨w.heap.size + 1, 1, none⟩ (.bool hn)).frozen? _ = false := (frozen_set _ _ _ _ _).trans qf3
    replace uf0 : ((w15.setCell ⟨w.heap.size + 1, 0, none⟩ (.int .i64 hk)).setCell ⟨w.heap.size + 1, 1, none⟩ (.bool hn)).frozen? _ = false := (frozen_set _ _ _ _ _).trans uf0
    replace uf1 : ((w15.setCell ⟨w.heap.size + 1, 0, none⟩ (.int .i64 hk)).setCell ⟨w.heap.size + 1, 1, none⟩ (.bool hn)).frozen? _ = false := (frozen_set _ _ _ _ _).trans uf1
    replace uf2 : ((w15.setCell ⟨w.heap.size + 1, 0, none⟩ (.int .i64 hk)).setCell ⟨w.heap.size + 1, 1, none⟩ (.bool hn)).frozen? _ = false := (frozen_set _ _ _ _ _).trans uf2
    replace uf3 : ((w15.setCell ⟨w.heap.size + 1, 0, none⟩ (.int .i64 hk)).setCell ⟨w.heap.size + 1, 1, none⟩ (.bool hn)).frozen? _ = false := (frozen_set _ _ _ _ _).trans uf3
    replace yf0 : ((w15.setCell ⟨w.heap.size + 1, 0, none⟩ (.int .i64 hk)).setCell ⟨w.heap.size + 1, 1, none⟩ (.bool hn)).frozen? _ = false := (frozen_set _ _ _ _ _).trans yf0
    replace yf1 : ((w15.setCell ⟨w.heap.size + 1, 0, none⟩ (.int .i64 hk)).setCell ⟨w.heap.size + 1, 1, none⟩ (.bool hn)).frozen? _ = false := (frozen_set _ _ _ _ _).trans yf1
    replace yf2 : ((w15.setCell ⟨w.heap.size + 1, 0, none⟩ (.int .i64 hk)).setCell ⟨w.heap.size + 1, 1, none⟩ (.bool hn)).frozen? _ = false := (frozen_set _ _ _ _ _).trans yf2
    replace yf3 : ((w15.setCell ⟨w.heap.size + 1, 0, none⟩ (.int .i64 hk)).setCell ⟨w.heap.size + 1, 1, none⟩ (.bool hn)).frozen? _ = false := (frozen_set _ _ _ _ _).trans yf3
    have z17 : ((w15.setCell ⟨w.heap.size + 1, 0, none⟩ (.int .i64 hk)).setCell ⟨w.heap.size + 1, 1, none⟩ (.bool hn)).heap.size = (w15.setCell ⟨w.heap.size + 1, 0, none⟩ (.int .i64 hk)).heap.size := size_set _ _ _
    replace z17 := Nat.le_of_eq z17.symm
    replace D := D.set (p := ⟨w.heap.size + 1, 2, none⟩) (by dsimp only; omega) (by dsimp only; omega) (.int .i64 hm)
    replace q0 := cell_aside (.int .i64 hm) (r := ⟨w.heap.size + 1, 2, none⟩) (by dsimp only; omega) q0
    replace q1 := cell_aside (.int .i64 hm) (r := ⟨w.heap.size + 1, 2, none⟩) (by dsimp only; omega) q1
    replace q2 := cell_aside (.int .i64 hm) (r := ⟨w.heap.size + 1, 2, none⟩) (by dsimp only; omega) q2
    replace q3 := cell_aside (.int .i64 hm) (r := ⟨w.heap.size + 1, 2, none⟩) (by dsimp only; omega) q3
    replace u0 := cell_off _ _ _ 2 (.int .i64 hm) _ u0 (by decide)
    replace u1 := cell_off _ _ _ 2 (.int .i64 hm) _ u1 (by decide)
    replace u2 : (((w15.setCell ⟨w.heap.size + 1, 0, none⟩ (.int .i64 hk)).setCell ⟨w.heap.size + 1, 1, none⟩ (.bool hn)).setCell ⟨w.heap.size + 1, 2, none⟩ (.int .i64 hm)).cell? ⟨w.heap.size + 1, 2, none⟩ = some (.int .i64 hm) := cell_on _ _ _ _ _ u2
    replace u3 := cell_off _ _ _ 2 (.int .i64 hm) _ u3 (by decide)
    replace y0 := cell_aside (.int .i64 hm) (r := ⟨w.heap.size + 1, 2, none⟩) (by dsimp only; omega) y0
    replace y1 := cell_aside (.int .i64 hm) (r := ⟨w.heap.size + 1, 2, none⟩) (by dsimp only; omega) y1
    replace y2 := cell_aside (.int .i64 hm) (r := ⟨w.heap.size + 1, 2, none⟩) (by dsimp only; omega) y2
    replace y3 := cell_aside (.int .i64 hm) (r := ⟨w.heap.size + 1, 2, none⟩) (by dsimp only; omega) y3
    replace qf0 : (((w15.setCell ⟨w.heap.size + 1, 0, none⟩ (.int .i64 hk)).setCell ⟨w.heap.size + 1, 1, none⟩ (.bool hn)).setCell ⟨w.heap.size + 1, 2, none⟩ (.int .i64 hm)).frozen? _ = false := (frozen_set _ _ _ _ _).trans qf0
    replace qf1 : (((w15.setCell ⟨w.heap.size + 1, 0, none⟩ (.int .i64 hk)).setCell ⟨w.heap.size + 1, 1, none⟩ (.bool hn)).setCell ⟨w.heap.size + 1, 2, none⟩ (.int .i64 hm)).frozen? _ = false := (frozen_set _ _ _ _ _).trans qf1
    replace qf2 : (((w15.setCell ⟨w.heap.size + 1, 0, none⟩ (.int .i64 hk)).setCell ⟨w.heap.size + 1, 1, none⟩ (.bool hn)).setCell ⟨w.heap.size + 1, 2, none⟩ (.int .i64 hm)).frozen? _ = false := (frozen_set _ _ _ _ _).trans qf2
    replace qf3 : (((w15.setCell ⟨w.heap.size + 1, 0, none⟩ (.int .i64 hk)).setCell ⟨w.heap.size + 1, 1, none⟩ (.bool hn)).setCell ⟨w.heap.size + 1, 2, none⟩ (.int .i64 hm)).frozen? _ = false := (frozen_set _ _ _ _ _).trans qf3
    replace uf0 : (((w15.setCell ⟨w.heap.size + 1, 0, none⟩ (.int .i64 hk)).setCell ⟨w.heap.size + 1, 1, none⟩ (.bool hn)).setCell ⟨w.heap.size + 1, 2, none⟩ (.int .i64 hm)).frozen? _ = false := (frozen_set _ _ _ _ _).trans uf0
    replace uf1 : (((w15.setCell ⟨w.heap.size + 1, 0, none⟩ (.int .i64 hk)).setCell ⟨w.heap.size + 1, 1, none⟩ (.bool hn)).setCell ⟨w.heap.size + 1, 2, none⟩ (.int .i64 hm)).frozen? _ = false := (frozen_set _ _ _ _ _).trans uf1
    replace uf2 : (((w15.setCell ⟨w.heap.size + 1, 0, none⟩ (.int .i64 hk)).setCell ⟨w.heap.size + 1, 1, none⟩ (.bool hn)).setCell ⟨w.heap.size + 1, 2, none⟩ (.int .i64 hm)).frozen? _ = false := (frozen_set _ _ _ _ _).trans uf2
    replace uf3 : (((w15.setCell ⟨w.heap.size + 1, 0, none⟩ (.int .i64 hk)).setCell ⟨w.heap.size + 1, 1, none⟩ (.bool hn)).setCell ⟨w.heap.size + 1, 2, none⟩ (.int .i64 hm)).frozen? _ = false := (frozen_set _ _ _ _ _).trans uf3
    replace yf0 : (((w15.setCell ⟨w.heap.size + 1, 0, none⟩ (.int .i64 hk)).setCell ⟨w.heap.size + 1, 1, none⟩ (.bool hn)).setCell ⟨w.heap.size + 1, 2, none⟩ (.int .i64 hm)).frozen? _ = false := (frozen_set _ _ _ _ _).trans yf0
    replace yf1 : (((w15.setCell ⟨w.heap.size + 1, 0, none⟩ (.int .i64 hk)).setCell ⟨w.heap.size + 1, 1, none⟩ (.bool hn)).setCell ⟨w.heap.size + 1, 2, none⟩ (.int .i64 hm)).frozen? _ = false := (frozen_set _ _ _ _ _).trans yf1
    replace yf2 : (((w15.setCell ⟨w.heap.size + 1, 0, none⟩ (.int .i64 hk)).setCell ⟨w.heap.size + 1, 1, none⟩ (.bool hn)).setCell ⟨w.heap.size + 1, 2, none⟩ (.int .i64 hm)).frozen? _ = false := (frozen_set _ _ _ _ _).trans yf2
    replace yf3 : (((w15.setCell ⟨w.heap.size + 1, 0, none⟩ (.int .i64 hk)).setCell ⟨w.heap.size + 1, 1, none⟩ (.bool hn)).setCell ⟨w.heap.size + 1, 2, none⟩ (.int .i64 hm)).frozen? _ = false := (frozen_set _ _ _ _ _).trans yf3
    have z18 : (((w15.setCell ⟨w.heap.size + 1, 0, none⟩ (.int .i64 hk)).setCell ⟨w.heap.size + 1, 1, none⟩ (.bool hn)).setCell ⟨w.heap.size + 1, 2, none⟩ (.int .i64 hm)).heap.size = ((w15.setCell ⟨w.heap.size + 1, 0, none⟩ (.int .i64 hk)).setCell ⟨w.heap.size + 1, 1, none⟩ (.bool hn)).heap.size := size_set _ _ _
    replace z18 := Nat.le_of_eq z18.symm
    replace D := D.set (p := ⟨w.heap.size + 1, 3, none⟩) (by dsimp only; omega) (by dsimp only; omega) (.int .i64 he)
    replace q0 := cell_aside (.int .i64 he) (r := ⟨w.heap.size + 1, 3, none⟩) (by dsimp only; omega) q0
    replace q1 := cell_aside (.int .i64 he) (r := ⟨w.heap.size + 1, 3, none⟩) (by dsimp only; omega) q1
    replace q2 := cell_aside (.int .i64 he) (r := ⟨w.heap.size + 1, 3, none⟩) (by dsimp only; omega) q2
    replace q3 := cell_aside (.int .i64 he) (r := ⟨w.heap.size + 1, 3, none⟩) (by dsimp only; omega) q3
    replace u0 := cell_off _ _ _ 3 (.int .i64 he) _ u0 (by decide)
    replace u1 := cell_off _ _ _ 3 (.int .i64 he) _ u1 (by decide)
    replace u2 := cell_off _ _ _ 3 (.int .i64 he) _ u2 (by decide)
    replace u3 : ((((w15.setCell ⟨w.heap.size + 1, 0, none⟩ (.int .i64 hk)).setCell ⟨w.heap.size + 1, 1, none⟩ (.bool hn)).setCell ⟨w.heap.size + 1, 2, none⟩ (.int .i64 hm)).setCell ⟨w.heap.size + 1, 3, none⟩ (.int .i64 he)).cell? ⟨w.heap.size + 1, 3, none⟩ = some (.int .i64 he) := cell_on _ _ _ _ _ u3
    replace y0 := cell_aside (.int .i64 he) (r := ⟨w.heap.size + 1, 3, none⟩) (by dsimp only; omega) y0
    replace y1 := cell_aside (.int .i64 he) (r := ⟨w.heap.size + 1, 3, none⟩) (by dsimp only; omega) y1
    replace y2 := cell_aside (.int .i64 he) (r := ⟨w.heap.size + 1, 3, none⟩) (by dsimp only; omega) y2
    replace y3 := cell_aside (.int .i64 he) (r := ⟨w.heap.size + 1, 3, none⟩) (by dsimp only; omega) y3
    replace qf0 : ((((w15.setCell ⟨w.heap.size + 1, 0, none⟩ (.int .i64 hk)).setCell ⟨w.heap.size + 1, 1, none⟩ (.bool hn)).setCell ⟨w.heap.size + 1, 2, none⟩ (.int .i64 hm)).setCell ⟨w.heap.size + 1, 3, none⟩ (.int .i64 he)).frozen? _ = false := (frozen_set _ _ _ _ _).trans qf0
    replace qf1 : ((((w15.setCell ⟨w.heap.size + 1, 0, none⟩ (.int .i64 hk)).setCell ⟨w.heap.size + 1, 1, none⟩ (.bool hn)).setCell ⟨w.heap.size + 1, 2, none⟩ (.int .i64 hm)).setCell ⟨w.heap.size + 1, 3, none⟩ (.int .i64 he)).frozen? _ = false := (frozen_set _ _ _ _ _).trans qf1
    replace qf2 : ((((w15.setCell ⟨w.heap.size + 1, 0, none⟩ (.int .i64 hk)).setCell ⟨w.heap.size + 1, 1, none⟩ (.bool hn)).setCell ⟨w.heap.size + 1, 2, none⟩ (.int .i64 hm)).setCell ⟨w.heap.size + 1, 3, none⟩ (.int .i64 he)).frozen? _ = false := (frozen_set _ _ _ _ _).trans qf2
    replace qf3 : ((((w15.setCell ⟨w.heap.size + 1, 0, none⟩ (.int .i64 hk)).setCell ⟨w.heap.size + 1, 1, none⟩ (.bool hn)).setCell ⟨w.heap.size + 1, 2, none⟩ (.int .i64 hm)).setCell ⟨w.heap.size + 1, 3, none⟩ (.int .i64 he)).frozen? _ = false := (frozen_set _ _ _ _ _).trans qf3
    replace uf0 : ((((w15.setCell ⟨w.heap.size + 1, 0, none⟩ (.int .i64 hk)).setCell ⟨w.heap.size + 1, 1, none⟩ (.bool hn)).setCell ⟨w.heap.size + 1, 2, none⟩ (.int .i64 hm)).setCell ⟨w.heap.size + 1, 3, none⟩ (.int .i64 he)).frozen? _ = false := (frozen_set _ _ _ _ _).trans uf0
    replace uf1 : ((((w15.setCell ⟨w.heap.size + 1, 0, none⟩ (.int .i64 hk)).setCell ⟨w.heap.size + 1, 1, none⟩ (.bool hn)).setCell ⟨w.heap.size + 1, 2, none⟩ (.int .i64 hm)).setCell ⟨w.heap.size + 1, 3, none⟩ (.int .i64 he)).frozen? _ = false := (frozen_set _ _ _ _ _).trans uf1
    replace uf2 : ((((w15.setCell ⟨w.heap.size + 1, 0, none⟩ (.int .i64 hk)).setCell ⟨w.heap.size + 1, 1, none⟩ (.bool hn)).setCell ⟨w.heap.size + 1, 2, none⟩ (.int .i64 hm)).setCell ⟨w.heap.size + 1, 3, none⟩ (.int .i64 he)).frozen? _ = false := (frozen_set _ _ _ _ _).trans uf2
    replace uf3 : ((((w15.setCell ⟨w.heap.size + 1, 0, none⟩ (.int .i64 hk)).setCell ⟨w.heap.size + 1, 1, none⟩ (.bool hn)).setCell ⟨w.heap.size + 1, 2, none⟩ (.int .i64 hm)).setCell ⟨w.heap.size + 1, 3, none⟩ (.int .i64 he)).frozen? _ = false := (frozen_set _ _ _ _ _).trans uf3
    replace yf0 : ((((w15.setCell ⟨w.heap.size + 1, 0, none⟩ (.int .i64 hk)).setCell ⟨w.heap.size + 1, 1, none⟩ (.bool hn)).setCell ⟨w.heap.size + 1, 2, none⟩ (.int .i64 hm)).setCell ⟨w.heap.size + 1, 3, none⟩ (.int .i64 he)).frozen? _ = false := (frozen_set _ _ _ _ _).trans yf0
    replace yf1 : ((((w15.setCell ⟨w.heap.size + 1, 0, none⟩ (.int .i64 hk)).setCell ⟨w.heap.size + 1, 1, none⟩ (.bool hn)).setCell ⟨w.heap.size + 1, 2, none⟩ (.int .i64 hm)).setCell ⟨w.heap.size + 1, 3, none⟩ (.int .i64 he)).frozen? _ = false := (frozen_set _ _ _ _ _).trans yf1
    replace yf2 : ((((w15.setCell ⟨w.heap.size + 1, 0, none⟩ (.int .i64 hk)).setCell ⟨w.heap.size + 1, 1, none⟩ (.bool hn)).setCell ⟨w.heap.size + 1, 2, none⟩ (.int .i64 hm)).setCell ⟨w.heap.size + 1, 3, none⟩ (.int .i64 he)).frozen? _ = false := (frozen_set _ _ _ _ _).trans yf2
    replace yf3 : ((((w15.setCell ⟨w.heap.size + 1, 0, none⟩ (.int .i64 hk)).setCell ⟨w.heap.size + 1, 1, none⟩ (.bool hn)).setCell ⟨w.heap.size + 1, 2, none⟩ (.int .i64 hm)).setCell ⟨w.heap.size + 1, 3, none⟩ (.int .i64 he)).frozen? _ = false := (frozen_set _ _ _ _ _).trans yf3
    have z19 : ((((w15.setCell ⟨w.heap.size + 1, 0, none⟩ (.int .i64 hk)).setCell ⟨w.heap.size + 1, 1, none⟩ (.bool hn)).setCell ⟨w.heap.size + 1, 2, none⟩ (.int .i64 hm)).setCell ⟨w.heap.size + 1, 3, none⟩ (.int .i64 he)).heap.size = (((w15.setCell ⟨w.heap.size + 1, 0, none⟩ (.int .i64 hk)).setCell ⟨w.heap.size + 1, 1, none⟩ (.bool hn)).setCell ⟨w.heap.size + 1, 2, none⟩ (.int .i64 hm)).heap.size := size_set _ _ _
    replace z19 := Nat.le_of_eq z19.symm
    generalize ((((w15.setCell ⟨w.heap.size + 1, 0, none⟩ (.int .i64 hk)).setCell ⟨w.heap.size + 1, 1, none⟩ (.bool hn)).setCell ⟨w.heap.size + 1, 2, none⟩ (.int .i64 hm)).setCell ⟨w.heap.size + 1, 3, none⟩ (.int .i64 he)) = w20 at *
    clear hHeld
    refine hK.out _ _ ?_ (fun hHeld => ?_)
    · exact ⟨y0, y1, y2, y3⟩
    clear hK KK
    try simp only [Act.put, List.getElem_toArray, List.getElem_cons_succ, List.getElem_cons_zero, List.setIfInBounds_toArray, List.set_cons_zero, List.set_cons_succ]
    refine wpAnyH_done (by kernel_rfl) ?_ _
    clear hHeld
    have DD := hide D
    clear D
    go_wp2_with fail
    exact bodyPost_ret (v := .tuple #[.agg #[.int .i64 fk, .bool fn, .int .i64 fm, .int .i64 fe], .agg #[.int .i64 hk, .bool hn, .int .i64 hm, .int .i64 he]]) (by simp [results, Tryz.results41, go_sem, q0, q1, q2, q3, u0, u1, u2, u3]) rfl ⟨_, _, _, _, _, _, _, _, rfl, unhide DD⟩
  · go_upto_region 3 with fail
    have kk := (Kept.refl 0 0 w5).drew
    replace D := D.keptR kk
    replace qf0 := Kept.looseOut' kk (by dsimp only; omega) (World.block_lt_of_cell? _ _ q0) qf0
    replace qf1 := Kept.looseOut' kk (by dsimp only; omega) (World.block_lt_of_cell? _ _ q1) qf1
    replace qf2 := Kept.looseOut' kk (by dsimp only; omega) (World.block_lt_of_cell? _ _ q2) qf2
    replace qf3 := Kept.looseOut' kk (by dsimp only; omega) (World.block_lt_of_cell? _ _ q3) qf3
    replace uf0 := Kept.looseOut' kk (by dsimp only; omega) (World.block_lt_of_cell? _ _ u0) uf0
    replace uf1 := Kept.looseOut' kk (by dsimp only; omega) (World.block_lt_of_cell? _ _ u1) uf1
    replace uf2 := Kept.looseOut' kk (by dsimp only; omega) (World.block_lt_of_cell? _ _ u2) uf2
    replace uf3 := Kept.looseOut' kk (by dsimp only; omega) (World.block_lt_of_cell? _ _ u3) uf3
    replace yf0 := Kept.looseOut' kk (by dsimp only; omega) (World.block_lt_of_cell? _ _ y0) yf0
    replace yf1 := Kept.looseOut' kk (by dsimp only; omega) (World.block_lt_of_cell? _ _ y1) yf1
    replace yf2 := Kept.looseOut' kk (by dsimp only; omega) (World.block_lt_of_cell? _ _ y2) yf2
    replace yf3 := Kept.looseOut' kk (by dsimp only; omega) (World.block_lt_of_cell? _ _ y3) yf3
    replace q0 := Kept.cellOut kk (by dsimp only; omega) q0
    replace q1 := Kept.cellOut kk (by dsimp only; omega) q1
    replace q2 := Kept.cellOut kk (by dsimp only; omega) q2
    replace q3 := Kept.cellOut kk (by dsimp only; omega) q3
    replace u0 := Kept.cellOut kk (by dsimp only; omega) u0
    replace u1 := Kept.cellOut kk (by dsimp only; omega) u1
    replace u2 := Kept.cellOut kk (by dsimp only; omega) u2
    replace u3 := Kept.cellOut kk (by dsimp only; omega) u3
    replace y0 := Kept.cellOut kk (by dsimp only; omega) y0
    replace y1 := Kept.cellOut kk (by dsimp only; omega) y1
    replace y2 := Kept.cellOut kk (by dsimp only; omega) y2
    replace y3 := Kept.cellOut kk (by dsimp only; omega) y3
    have z7 := kk.size
    clear kk
    refine wp_region_held_drew (S := (fun w' => w'.cell? ⟨w1.heap.size, 0, none⟩ = some (.int .i64 fk) ∧ w'.cell? ⟨w1.heap.size, 1, none⟩ = some (.bool fn) ∧ w'.cell? ⟨w1.heap.size, 2, none⟩ = some (.int .i64 fm) ∧ w'.cell? ⟨w1.heap.size, 3, none⟩ = some (.int .i64 fe))) (by kernel_rfl) ?_ (fun hHeld => ?_)
    · exact ⟨y0, y1, y2, y3⟩
    generalize w5.drew = w8 at *
    refine wpAnyH_take (i := 0) (oi := _) (v := .agg #[.int .i64 fk, .bool fn, .int .i64 fm, .int .i64 fe]) rfl (by kernel_rfl) (by kernel_rfl) (by kernel_rfl) (fun _ _ _ h => h) (Or.inl ⟨by rfl, ?_⟩) hHeld ?_
    · intro wq hSw
      try dsimp only at hSw
      go_simp
    try simp only [Act.put, List.getElem_toArray, List.getElem_cons_succ, List.getElem_cons_zero, List.setIfInBounds_toArray, List.set_cons_zero, List.set_cons_succ]
    refine wpAnyH_take (i := 1) (oi := _) (v := .agg #[.int .i64 fk, .bool fn, .int .i64 fm, .int .i64 fe]) rfl (by kernel_rfl) (by kernel_rfl) (by kernel_rfl) (fun _ _ _ h => h) (Or.inl ⟨by rfl, ?_⟩) hHeld ?_
    · intro wq hSw
      try dsimp only at hSw
      go_simp
    try simp only [Act.put, List.getElem_toArray, List.getElem_cons_succ, List.getElem_cons_zero, List.setIfInBounds_toArray, List.set_cons_zero, List.set_cons_succ]
    refine wpAnyH_ready (rs := [2]) (by kernel_rfl) (by simp) ?_
    refine AllReadyH.cons rfl (fun KK hK => ?_) AllReadyH.nil
    simp only [List.getElem_toArray, List.getElem_cons_succ, List.getElem_cons_zero]
    rw [if_pos (by rfl)]
    refine wps1 90 (.tmp 10) _ rfl in_FlNext_d (.agg #[.int .i64 fk, .bool fn, .int .i64 fm, .int .i64 fe]) rfl (flnx_spec fk fn fm fe _) ?_
    rintro e w9 ⟨rfl, kk⟩
    refine ⟨_, rfl, ?_⟩
    replace D := D.keptR kk
    replace qf0 := Kept.looseOut' kk (by dsimp only; omega) (World.block_lt_of_cell? _ _ q0) qf0
    replace qf1 := Kept.looseOut' kk (by dsimp only; omega) (World.block_lt_of_cell? _ _ q1) qf1
    replace qf2 := Kept.looseOut' kk (by dsimp only; omega) (World.block_lt_of_cell? _ _ q2) qf2
    replace qf3 := Kept.looseOut' kk (by dsimp only; omega) (World.block_lt_of_cell? _ _ q3) qf3
    replace uf0 := Kept.looseOut' kk (by dsimp only; omega) (World.block_lt_of_cell? _ _ u0) uf0
    replace uf1 := Kept.looseOut' kk (by dsimp only; omega) (World.block_lt_of_cell? _ _ u1) uf1
    replace uf2 := Kept.looseOut' kk (by dsimp only; omega) (World.block_lt_of_cell? _ _ u2) uf2
    replace uf3 := Kept.looseOut' kk (by dsimp only; omega) (World.block_lt_of_cell? _ _ u3) uf3
    replace yf0 := Kept.looseOut' kk (by dsimp only; omega) (World.block_lt_of_cell? _ _ y0) yf0
    replace yf1 := Kept.looseOut' kk (by dsimp only; omega) (World.block_lt_of_cell? _ _ y1) yf1
    replace yf2 := Kept.looseOut' kk (by dsimp only; omega) (World.block_lt_of_cell? _ _ y2) yf2
    replace yf3 := Kept.looseOut' kk (by dsimp only; omega) (World.block_lt_of_cell? _ _ y3) yf3
    replace q0 := Kept.cellOut kk (by dsimp only; omega) q0
    replace q1 := Kept.cellOut kk (by dsimp only; omega) q1
    replace q2 := Kept.cellOut kk (by dsimp only; omega) q2
    replace q3 := Kept.cellOut kk (by dsimp only; omega) q3
    replace u0 := Kept.cellOut kk (by dsimp only; omega) u0
    replace u1 := Kept.cellOut kk (by dsimp only; omega) u1
    replace u2 := Kept.cellOut kk (by dsimp only; omega) u2
    replace u3 := Kept.cellOut kk (by dsimp only; omega) u3
    replace y0 := Kept.cellOut kk (by dsimp only; omega) y0
    replace y1 := Kept.cellOut kk (by dsimp only; omega) y1
    replace y2 := Kept.cellOut kk (by dsimp only; omega) y2
    replace y3 := Kept.cellOut kk (by dsimp only; omega) y3
    have z10 := kk.size
    clear kk
    clear hHeld
    refine hK.out _ _ ?_ (fun hHeld => ?_)
    · exact ⟨y0, y1, y2, y3⟩
    clear hK KK
    try simp only [Act.put, List.getElem_toArray, List.getElem_cons_succ, List.getElem_cons_zero, List.setIfInBounds_toArray, List.set_cons_zero, List.set_cons_succ]
    generalize fnx fk fn fm fe = fx at *
    obtain ⟨hk, hn, hm, he⟩ := fx
    refine wpAnyH_ready (rs := [3]) (by kernel_rfl) (by simp) ?_
    refine AllReadyH.cons rfl (fun KK hK => ?_) AllReadyH.nil
    simp only [List.getElem_toArray, List.getElem_cons_succ, List.getElem_cons_zero]
    rw [if_pos (by rfl)]
    refine wps1 89 (.tmp 11) _ rfl in_l5neg_d (.agg #[.int .i64 hk, .bool hn, .int .i64 hm, .int .i64 he]) rfl (l5neg_some hk hn hm he _) ?_
    rintro e w11 ⟨hn', rfl, kk⟩
    refine ⟨_, rfl, ?_⟩
    replace D := D.keptR kk
    replace qf0 := Kept.looseOut' kk (by dsimp only; omega) (World.block_lt_of_cell? _ _ q0) qf0
    replace qf1 := Kept.looseOut' kk (by dsimp only; omega) (World.block_lt_of_cell? _ _ q1) qf1
    replace qf2 := Kept.looseOut' kk (by dsimp only; omega) (World.block_lt_of_cell? _ _ q2) qf2
    replace qf3 := Kept.looseOut' kk (by dsimp only; omega) (World.block_lt_of_cell? _ _ q3) qf3
    replace uf0 := Kept.looseOut' kk (by dsimp only; omega) (World.block_lt_of_cell? _ _ u0) uf0
    replace uf1 := Kept.looseOut' kk (by dsimp only; omega) (World.block_lt_of_cell? _ _ u1) uf1
    replace uf2 := Kept.looseOut' kk (by dsimp only; omega) (World.block_lt_of_cell? _ _ u2) uf2
    replace uf3 := Kept.looseOut' kk (by dsimp only; omega) (World.block_lt_of_cell? _ _ u3) uf3
    replace yf0 := Kept.looseOut' kk (by dsimp only; omega) (World.block_lt_of_cell? _ _ y0) yf0
    replace yf1 := Kept.looseOut' kk (by dsimp only; omega) (World.block_lt_of_cell? _ _ y1) yf1
    replace yf2 := Kept.looseOut' kk (by dsimp only; omega) (World.block_lt_of_cell? _ _ y2) yf2
    replace yf3 := Kept.looseOut' kk (by dsimp only; omega) (World.block_lt_of_cell? _ _ y3) yf3
    replace q0 := Kept.cellOut kk (by dsimp only; omega) q0
    replace q1 := Kept.cellOut kk (by dsimp only; omega) q1
    replace q2 := Kept.cellOut kk (by dsimp only; omega) q2
    replace q3 := Kept.cellOut kk (by dsimp only; omega) q3
    replace u0 := Kept.cellOut kk (by dsimp only; omega) u0
    replace u1 := Kept.cellOut kk (by dsimp only; omega) u1
    replace u2 := Kept.cellOut kk (by dsimp only; omega) u2
    replace u3 := Kept.cellOut kk (by dsimp only; omega) u3
    replace y0 := Kept.cellOut kk (by dsimp only; omega) y0
    replace y1 := Kept.cellOut kk (by dsimp only; omega) y1
    replace y2 := Kept.cellOut kk (by dsimp only; omega) y2
    replace y3 := Kept.cellOut kk (by dsimp only; omega) y3
    have z12 := kk.size
    clear kk
    clear hHeld
    refine hK.out _ _ ?_ (fun hHeld => ?_)
    · exact ⟨y0, y1, y2, y3⟩
    clear hK KK
    try simp only [Act.put, List.getElem_toArray, List.getElem_cons_succ, List.getElem_cons_zero, List.setIfInBounds_toArray, List.set_cons_zero, List.set_cons_succ]
    refine wpAnyH_ready (rs := [4]) (by kernel_rfl) (by simp) ?_
    refine AllReadyH.cons rfl (fun KK hK => ?_) AllReadyH.nil
    simp only [List.getElem_toArray, List.getElem_cons_succ, List.getElem_cons_zero]
    rw [if_pos (by rfl)]
    go_simp
    replace D := D.set (p := ⟨w.heap.size, 0, none⟩) (by dsimp only; omega) (by dsimp only; omega) (.int .i64 fk)
    replace q0 : (w11.setCell ⟨w.heap.size, 0, none⟩ (.int .i64 fk)).cell? ⟨w.heap.size, 0, none⟩ = some (.int .i64 fk) := cell_on _ _ _ _ _ q0
    replace q1 := cell_off _ _ _ 0 (.int .i64 fk) _ q1 (by decide)
    replace q2 := cell_off _ _ _ 0 (.int .i64 fk) _ q2 (by decide)
    replace q3 := cell_off _ _ _ 0 (.int .i64 fk) _ q3 (by decide)
    replace u0 := cell_aside (.int .i64 fk) (r := ⟨w.heap.size, 0, none⟩) (by dsimp only; omega) u0
    replace u1 := cell_aside (.int .i64 fk) (r := ⟨w.heap.size, 0, none⟩) (by dsimp only; omega) u1
    replace u2 := cell_aside (.int .i64 fk) (r := ⟨w.heap.size, 0, none⟩) (by dsimp only; omega) u2
    replace u3 := cell_aside (.int .i64 fk) (r := ⟨w.heap.size, 0, none⟩) (by dsimp only; omega) u3
    replace y0 := cell_aside (.int .i64 fk) (r := ⟨w.heap.size, 0, none⟩) (by dsimp only; omega) y0
    replace y1 := cell_aside (.int .i64 fk) (r := ⟨w.heap.size, 0, none⟩) (by dsimp only; omega) y1
    replace y2 := cell_aside (.int .i64 fk) (r := ⟨w.heap.size, 0, none⟩) (by dsimp only; omega) y2
    replace y3 := cell_aside (.int .i64 fk) (r := ⟨w.heap.size, 0, none⟩) (by dsimp only; omega) y3
    replace qf0 : (w11.setCell ⟨w.heap.size, 0, none⟩ (.int .i64 fk)).frozen? _ = false := (frozen_set _ _ _ _ _).trans qf0
    replace qf1 : (w11.setCell ⟨w.heap.size, 0, none⟩ (.int .i64 fk)).frozen? _ = false := (frozen_set _ _ _ _ _).trans qf1
    replace qf2 : (w11.setCell ⟨w.heap.size, 0, none⟩ (.int .i64 fk)).frozen? _ = false := (frozen_set _ _ _ _ _).trans qf2
    replace qf3 : (w11.setCell ⟨w.heap.size, 0, none⟩ (.int .i64 fk)).frozen? _ = false := (frozen_set _ _ _ _ _).trans qf3
    replace uf0 : (w11.setCell ⟨w.heap.size, 0, none⟩ (.int .i64 fk)).frozen? _ = false := (frozen_set _ _ _ _ _).trans uf0
    replace uf1 : (w11.setCell ⟨w.heap.size, 0, none⟩ (.int .i64 fk)).frozen? _ = false := (frozen_set _ _ _ _ _).trans uf1
    replace uf2 : (w11.setCell ⟨w.heap.size, 0, none⟩ (.int .i64 fk)).frozen? _ = false := (frozen_set _ _ _ _ _).trans uf2
    replace uf3 : (w11.setCell ⟨w.heap.size, 0, none⟩ (.int .i64 fk)).frozen? _ = false := (frozen_set _ _ _ _ _).trans uf3
    replace yf0 : (w11.setCell ⟨w.heap.size, 0, none⟩ (.int .i64 fk)).frozen? _ = false := (frozen_set _ _ _ _ _).trans yf0
    replace yf1 : (w11.setCell ⟨w.heap.size, 0, none⟩ (.int .i64 fk)).frozen? _ = false := (frozen_set _ _ _ _ _).trans yf1
    replace yf2 : (w11.setCell ⟨w.heap.size, 0, none⟩ (.int .i64 fk)).frozen? _ = false := (frozen_set _ _ _ _ _).trans yf2
    replace yf3 : (w11.setCell ⟨w.heap.size, 0, none⟩ (.int .i64 fk)).frozen? _ = false := (frozen_set _ _ _ _ _).trans yf3
    have z13 : (w11.setCell ⟨w.heap.size, 0, none⟩ (.int .i64 fk)).heap.size = w11.heap.size := size_set _ _ _
    replace z13 := Nat.le_of_eq z13.symm
    replace D := D.set (p := ⟨w.heap.size, 1, none⟩) (by dsimp only; omega) (by dsimp only; omega) (.bool fn)
    replace q0 := cell_off _ _ _ 1 (.bool fn) _ q0 (by decide)
    replace q1 : ((w11.setCell ⟨w.heap.size, 0, none⟩ (.int .i64 fk)).setCell ⟨w.heap.size, 1, none⟩ (.bool fn)).cell? ⟨w.heap.size, 1, none⟩ = some (.bool fn) := cell_on _ _ _ _ _ q1
    replace q2 := cell_off _ _ _ 1 (.bool fn) _ q2 (by decide)
    replace q3 := cell_off _ _ _ 1 (.bool fn) _ q3 (by decide)
    replace u0 := cell_aside (.bool fn) (r := ⟨w.heap.size, 1, none⟩) (by dsimp only; omega) u0
    replace u1 := cell_aside (.bool fn) (r := ⟨w.heap.size, 1, none⟩) (by dsimp only; omega) u1
    replace u2 := cell_aside (.bool fn) (r := ⟨w.heap.size, 1, none⟩) (by dsimp only; omega) u2
    replace u3 := cell_aside (.bool fn) (r := ⟨w.heap.size, 1, none⟩) (by dsimp only; omega) u3
    replace y0 := cell_aside (.bool fn) (r := ⟨w.heap.size, 1, none⟩) (by dsimp only; omega) y0
    replace y1 := cell_aside (.bool fn) (r := ⟨w.heap.size, 1, none⟩) (by dsimp only; omega) y1
    replace y2 := cell_aside (.bool fn) (r := ⟨w.heap.size, 1, none⟩) (by dsimp only; omega) y2
    replace y3 := cell_aside (.bool fn) (r := ⟨w.heap.size, 1, none⟩) (by dsimp only; omega) y3
    replace qf0 : ((w11.setCell ⟨w.heap.size, 0, none⟩ (.int .i64 fk)).setCell ⟨w.heap.size, 1, none⟩ (.bool fn)).frozen? _ = false := (frozen_set _ _ _ _ _).trans qf0
    replace qf1 : ((w11.setCell ⟨w.heap.size, 0, none⟩ (.int .i64 fk)).setCell ⟨w.heap.size, 1, none⟩ (.bool fn)).frozen? _ = false := (frozen_set _ _ _ _ _).trans qf1
    replace qf2 : ((w11.setCell ⟨w.heap.size, 0, none⟩ (.int .i64 fk)).setCell ⟨w.heap.size, 1, none⟩ (.bool fn)).frozen? _ = false := (frozen_set _ _ _ _ _).trans qf2
    replace qf3 : ((w11.setCell ⟨w.heap.size, 0, none⟩ (.int .i64 fk)).setCell ⟨w.heap.size, 1, none⟩ (.bool fn)).frozen? _ = false := (frozen_set _ _ _ _ _).trans qf3
    replace uf0 : ((w11.setCell ⟨w.heap.size, 0, none⟩ (.int .i64 fk)).setCell ⟨w.heap.size, 1, none⟩ (.bool fn)).frozen? _ = false := (frozen_set _ _ _ _ _).trans uf0
    replace uf1 : ((w11.setCell ⟨w.heap.size, 0, none⟩ (.int .i64 fk)).setCell ⟨w.heap.size, 1, none⟩ (.bool fn)).frozen? _ = false := (frozen_set _ _ _ _ _).trans uf1
    replace uf2 : ((w11.setCell ⟨w.heap.size, 0, none⟩ (.int .i64 fk)).setCell ⟨w.heap.size, 1, none⟩ (.bool fn)).frozen? _ = false := (frozen_set _ _ _ _ _).trans uf2
    replace uf3 : ((w11.setCell ⟨w.heap.size, 0, none⟩ (.int .i64 fk)).setCell ⟨w.heap.size, 1, none⟩ (.bool fn)).frozen? _ = false := (frozen_set _ _ _ _ _).trans uf3
    replace yf0 : ((w11.setCell ⟨w.heap.size, 0, none⟩ (.int .i64 fk)).setCell ⟨w.heap.size, 1, none⟩ (.bool fn)).frozen? _ = false := (frozen_set _ _ _ _ _).trans yf0
    replace yf1 : ((w11.setCell ⟨w.heap.size, 0, none⟩ (.int .i64 fk)).setCell ⟨w.heap.size, 1, none⟩ (.bool fn)).frozen? _ = false := (frozen_set _ _ _ _ _).trans yf1
    replace yf2 : ((w11.setCell ⟨w.heap.size, 0, none⟩ (.int .i64 fk)).setCell ⟨w.heap.size, 1, none⟩ (.bool fn)).frozen? _ = false := (frozen_set _ _ _ _ _).trans yf2
    replace yf3 : ((w11.setCell ⟨w.heap.size, 0, none⟩ (.int .i64 fk)).setCell ⟨w.heap.size, 1, none⟩ (.bool fn)).frozen? _ = false := (frozen_set _ _ _ _ _).trans yf3
    have z14 : ((w11.setCell ⟨w.heap.size, 0, none⟩ (.int .i64 fk)).setCell ⟨w.heap.size, 1, none⟩ (.bool fn)).heap.size = (w11.setCell ⟨w.heap.size, 0, none⟩ (.int .i64 fk)).heap.size := size_set _ _ _
    replace z14 := Nat.le_of_eq z14.symm
    replace D := D.set (p := ⟨w.heap.size, 2, none⟩) (by dsimp only; omega) (by dsimp only; omega) (.int .i64 fm)
    replace q0 := cell_off _ _ _ 2 (.int .i64 fm) _ q0 (by decide)
    replace q1 := cell_off _ _ _ 2 (.int .i64 fm) _ q1 (by decide)
    replace q2 : (((w11.setCell ⟨w.heap.size, 0, none⟩ (.int .i64 fk)).setCell ⟨w.heap.size, 1, none⟩ (.bool fn)).setCell ⟨w.heap.size, 2, none⟩ (.int .i64 fm)).cell? ⟨w.heap.size, 2, none⟩ = some (.int .i64 fm) := cell_on _ _ _ _ _ q2
    replace q3 := cell_off _ _ _ 2 (.int .i64 fm) _ q3 (by decide)
    replace u0 := cell_aside (.int .i64 fm) (r := ⟨w.heap.size, 2, none⟩) (by dsimp only; omega) u0
    replace u1 := cell_aside (.int .i64 fm) (r := ⟨w.heap.size, 2, none⟩) (by dsimp only; omega) u1
    replace u2 := cell_aside (.int .i64 fm) (r := ⟨w.heap.size, 2, none⟩) (by dsimp only; omega) u2
    replace u3 := cell_aside (.int .i64 fm) (r := ⟨w.heap.size, 2, none⟩) (by dsimp only; omega) u3
    replace y0 := cell_aside (.int .i64 fm) (r := ⟨w.heap.size, 2, none⟩) (by dsimp only; omega) y0
    replace y1 := cell_aside (.int .i64 fm) (r := ⟨w.heap.size, 2, none⟩) (by dsimp only; omega) y1
    replace y2 := cell_aside (.int .i64 fm) (r := ⟨w.heap.size, 2, none⟩) (by dsimp only; omega) y2
    replace y3 := cell_aside (.int .i64 fm) (r := ⟨w.heap.size, 2, none⟩) (by dsimp only; omega) y3
    replace qf0 : (((w11.setCell ⟨w.heap.size, 0, none⟩ (.int .i64 fk)).setCell ⟨w.heap.size, 1, none⟩ (.bool fn)).setCell ⟨w.heap.size, 2, none⟩ (.int .i64 fm)).frozen? _ = false := (frozen_set _ _ _ _ _).trans qf0
    replace qf1 : (((w11.setCell ⟨w.heap.size, 0, none⟩ (.int .i64 fk)).setCell ⟨w.heap.size, 1, none⟩ (.bool fn)).setCell ⟨w.heap.size, 2, none⟩ (.int .i64 fm)).frozen? _ = false := (frozen_set _ _ _ _ _).trans qf1
    replace qf2 : (((w11.setCell ⟨w.heap.size, 0, none⟩ (.int .i64 fk)).setCell ⟨w.heap.size, 1, none⟩ (.bool fn)).setCell ⟨w.heap.size, 2, none⟩ (.int .i64 fm)).frozen? _ = false := (frozen_set _ _ _ _ _).trans qf2
    replace qf3 : (((w11.setCell ⟨w.heap.size, 0, none⟩ (.int .i64 fk)).setCell ⟨w.heap.size, 1, none⟩ (.bool fn)).setCell ⟨w.heap.size, 2, none⟩ (.int .i64 fm)).frozen? _ = false := (frozen_set _ _ _ _ _).trans qf3
    replace uf0 : (((w11.setCell ⟨w.heap.size, 0, none⟩ (.int .i64 fk)).setCell ⟨w.heap.size, 1, none⟩ (.bool fn)).setCell ⟨w.heap.size, 2, none⟩ (.int .i64 fm)).frozen? _ = false := (frozen_set _ _ _ _ _).trans uf0
    replace uf1 : (((w11.setCell ⟨w.heap.size, 0, none⟩ (.int .i64 fk)).setCell ⟨w.heap.size, 1, none⟩ (.bool fn)).setCell ⟨w.heap.size, 2, none⟩ (.int .i64 fm)).frozen? _ = false := (frozen_set _ _ _ _ _).trans uf1
    replace uf2 : (((w11.setCell ⟨w.heap.size, 0, none⟩ (.int .i64 fk)).setCell ⟨w.heap.size, 1, none⟩ (.bool fn)).setCell ⟨w.heap.size, 2, none⟩ (.int .i64 fm)).frozen? _ = false := (frozen_set _ _ _ _ _).trans uf2
    replace uf3 : (((w11.setCell ⟨w.heap.size, 0, none⟩ (.int .i64 fk)).setCell ⟨w.heap.size, 1, none⟩ (.bool fn)).setCell ⟨w.heap.size, 2, none⟩ (.int .i64 fm)).frozen? _ = false := (frozen_set _ _ _ _ _).trans uf3
    replace yf0 : (((w11.setCell ⟨w.heap.size, 0, none⟩ (.int .i64 fk)).setCell ⟨w.heap.size, 1, none⟩ (.bool fn)).setCell ⟨w.heap.size, 2, none⟩ (.int .i64 fm)).frozen? _ = false := (frozen_set _ _ _ _ _).trans yf0
    replace yf1 : (((w11.setCell ⟨w.heap.size, 0, none⟩ (.int .i64 fk)).setCell ⟨w.heap.size, 1, none⟩ (.bool fn)).setCell ⟨w.heap.size, 2, none⟩ (.int .i64 fm)).frozen? _ = false := (frozen_set _ _ _ _ _).trans yf1
    replace yf2 : (((w11.setCell ⟨w.heap.size, 0, none⟩ (.int .i64 fk)).setCell ⟨w.heap.size, 1, none⟩ (.bool fn)).setCell ⟨w.heap.size, 2, none⟩ (.int .i64 fm)).frozen? _ = false := (frozen_set _ _ _ _ _).trans yf2
    replace yf3 : (((w11.setCell ⟨w.heap.size, 0, none⟩ (.int .i64 fk)).setCell ⟨w.heap.size, 1, none⟩ (.bool fn)).setCell ⟨w.heap.size, 2, none⟩ (.int .i64 fm)).frozen? _ = false := (frozen_set _ _ _ _ _).trans yf3
    have z15 : (((w11.setCell ⟨w.heap.size, 0, none⟩ (.int .i64 fk)).setCell ⟨w.heap.size, 1, none⟩ (.bool fn)).setCell ⟨w.heap.size, 2, none⟩ (.int .i64 fm)).heap.size = ((w11.setCell ⟨w.heap.size, 0, none⟩ (.int .i64 fk)).setCell ⟨w.heap.size, 1, none⟩ (.bool fn)).heap.size := size_set _ _ _
    replace z15 := Nat.le_of_eq z15.symm
    replace D := D.set (p := ⟨w.heap.size, 3, none⟩) (by dsimp only; omega) (by dsimp only; omega) (.int .i64 fe)
    replace q0 := cell_off _ _ _ 3 (.int .i64 fe) _ q0 (by decide)
    replace q1 := cell_off _ _ _ 3 (.int .i64 fe) _ q1 (by decide)
    replace q2 := cell_off _ _ _ 3 (.int .i64 fe) _ q2 (by decide)
    replace q3 : ((((w11.setCell ⟨w.heap.size, 0, none⟩ (.int .i64 fk)).setCell ⟨w.heap.size, 1, none⟩ (.bool fn)).setCell ⟨w.heap.size, 2, none⟩ (.int .i64 fm)).setCell ⟨w.heap.size, 3, none⟩ (.int .i64 fe)).cell? ⟨w.heap.size, 3, none⟩ = some (.int .i64 fe) := cell_on _ _ _ _ _ q3
    replace u0 := cell_aside (.int .i64 fe) (r := ⟨w.heap.size, 3, none⟩) (by dsimp only; omega) u0
    replace u1 := cell_aside (.int .i64 fe) (r := ⟨w.heap.size, 3, none⟩) (by dsimp only; omega) u1
    replace u2 := cell_aside (.int .i64 fe) (r := ⟨w.heap.size, 3, none⟩) (by dsimp only; omega) u2
    replace u3 := cell_aside (.int .i64 fe) (r := ⟨w.heap.size, 3, none⟩) (by dsimp only; omega) u3
    replace y0 := cell_aside (.int .i64 fe) (r := ⟨w.heap.size, 3, none⟩) (by dsimp only; omega) y0
    replace y1 := cell_aside (.int .i64 fe) (r := ⟨w.heap.size, 3, none⟩) (by dsimp only; omega) y1
    replace y2 := cell_aside (.int .i64 fe) (r := ⟨w.heap.size, 3, none⟩) (by dsimp only; omega) y2
    replace y3 := cell_aside (.int .i64 fe) (r := ⟨w.heap.size, 3, none⟩) (by dsimp only; omega) y3
    replace qf0 : ((((w11.setCell ⟨w.heap.size, 0, none⟩ (.int .i64 fk)).setCell ⟨w.heap.size, 1, none⟩ (.bool fn)).setCell ⟨w.heap.size, 2, none⟩ (.int .i64 fm)).setCell ⟨w.heap.size, 3, none⟩ (.int .i64 fe)).frozen? _ = false := (frozen_set _ _ _ _ _).trans qf0
    replace qf1 : ((((w11.setCell ⟨w.heap.size, 0, none⟩ (.int .i64 fk)).setCell ⟨w.heap.size, 1, none⟩ (.bool fn)).setCell ⟨w.heap.size, 2, none⟩ (.int .i64 fm)).setCell ⟨w.heap.size, 3, none⟩ (.int .i64 fe)).frozen? _ = false := (frozen_set _ _ _ _ _).trans qf1
    replace qf2 : ((((w11.setCell ⟨w.heap.size, 0, none⟩ (.int .i64 fk)).setCell ⟨w.heap.size, 1, none⟩ (.bool fn)).setCell ⟨w.heap.size, 2, none⟩ (.int .i64 fm)).setCell ⟨w.heap.size, 3, none⟩ (.int .i64 fe)).frozen? _ = false := (frozen_set _ _ _ _ _).trans qf2
    replace qf3 : ((((w11.setCell ⟨w.heap.size, 0, none⟩ (.int .i64 fk)).setCell ⟨w.heap.size, 1, none⟩ (.bool fn)).setCell ⟨w.heap.size, 2, none⟩ (.int .i64 fm)).setCell ⟨w.heap.size, 3, none⟩ (.int .i64 fe)).frozen? _ = false := (frozen_set _ _ _ _ _).trans qf3
    replace uf0 : ((((w11.setCell ⟨w.heap.size, 0, none⟩ (.int .i64 fk)).setCell ⟨w.heap.size, 1, none⟩ (.bool fn)).setCell ⟨w.heap.size, 2, none⟩ (.int .i64 fm)).setCell ⟨w.heap.size, 3, none⟩ (.int .i64 fe)).frozen? _ = false := (frozen_set _ _ _ _ _).trans uf0
    replace uf1 : ((((w11.setCell ⟨w.heap.size, 0, none⟩ (.int .i64 fk)).setCell ⟨w.heap.size, 1, none⟩ (.bool fn)).setCell ⟨w.heap.size, 2, none⟩ (.int .i64 fm)).setCell ⟨w.heap.size, 3, none⟩ (.int .i64 fe)).frozen? _ = false := (frozen_set _ _ _ _ _).trans uf1
    replace uf2 : ((((w11.setCell ⟨w.heap.size, 0, none⟩ (.int .i64 fk)).setCell ⟨w.heap.size, 1, none⟩ (.bool fn)).setCell ⟨w.heap.size, 2, none⟩ (.int .i64 fm)).setCell ⟨w.heap.size, 3, none⟩ (.int .i64 fe)).frozen? _ = false := (frozen_set _ _ _ _ _).trans uf2
    replace uf3 : ((((w11.setCell ⟨w.heap.size, 0, none⟩ (.int .i64 fk)).setCell ⟨w.heap.size, 1, none⟩ (.bool fn)).setCell ⟨w.heap.size, 2, none⟩ (.int .i64 fm)).setCell ⟨w.heap.size, 3, none⟩ (.int .i64 fe)).frozen? _ = false := (frozen_set _ _ _ _ _).trans uf3
    replace yf0 : ((((w11.setCell ⟨w.heap.size, 0, none⟩ (.int .i64 fk)).setCell ⟨w.heap.size, 1, none⟩ (.bool fn)).setCell ⟨w.heap.size, 2, none⟩ (.int .i64 fm)).setCell ⟨w.heap.size, 3, none⟩ (.int .i64 fe)).frozen? _ = false := (frozen_set _ _ _ _ _).trans yf0
    replace yf1 : ((((w11.setCell ⟨w.heap.size, 0, none⟩ (.int .i64 fk)).setCell ⟨w.heap.size, 1, none⟩ (.bool fn)).setCell ⟨w.heap.size, 2, none⟩ (.int .i64 fm)).setCell ⟨w.heap.size, 3, none⟩ (.int .i64 fe)).frozen? _ = false := (frozen_set _ _ _ _ _).trans yf1
    replace yf2 : ((((w11.setCell ⟨w.heap.size, 0, none⟩ (.int .i64 fk)).setCell ⟨w.heap.size, 1, none⟩ (.bool fn)).setCell ⟨w.heap.size, 2, none⟩ (.int .i64 fm)).setCell ⟨w.heap.size, 3, none⟩ (.int .i64 fe)).frozen? _ = false := (frozen_set _ _ _ _ _).trans yf2
    replace yf3 : ((((w11.setCell ⟨w.heap.size, 0, none⟩ (.int .i64 fk)).setCell ⟨w.heap.size, 1, none⟩ (.bool fn)).setCell ⟨w.heap.size, 2, none⟩ (.int .i64 fm)).setCell ⟨w.heap.size, 3, none⟩ (.int .i64 fe)).frozen? _ = false := (frozen_set _ _ _ _ _).trans yf3
    have z16 : ((((w11.setCell ⟨w.heap.size, 0, none⟩ (.int .i64 fk)).setCell ⟨w.heap.size, 1, none⟩ (.bool fn)).setCell ⟨w.heap.size, 2, none⟩ (.int .i64 fm)).setCell ⟨w.heap.size, 3, none⟩ (.int .i64 fe)).heap.size = (((w11.setCell ⟨w.heap.size, 0, none⟩ (.int .i64 fk)).setCell ⟨w.heap.size, 1, none⟩ (.bool fn)).setCell ⟨w.heap.size, 2, none⟩ (.int .i64 fm)).heap.size := size_set _ _ _
    replace z16 := Nat.le_of_eq z16.symm
    generalize ((((w11.setCell ⟨w.heap.size, 0, none⟩ (.int .i64 fk)).setCell ⟨w.heap.size, 1, none⟩ (.bool fn)).setCell ⟨w.heap.size, 2, none⟩ (.int .i64 fm)).setCell ⟨w.heap.size, 3, none⟩ (.int .i64 fe)) = w17 at *
    clear hHeld
    refine hK.out _ _ ?_ (fun hHeld => ?_)
    · exact ⟨y0, y1, y2, y3⟩
    clear hK KK
    try simp only [Act.put, List.getElem_toArray, List.getElem_cons_succ, List.getElem_cons_zero, List.setIfInBounds_toArray, List.set_cons_zero, List.set_cons_succ]
    refine wpAnyH_ready (rs := [5]) (by kernel_rfl) (by simp) ?_
    refine AllReadyH.cons rfl (fun KK hK => ?_) AllReadyH.nil
    simp only [List.getElem_toArray, List.getElem_cons_succ, List.getElem_cons_zero]
    rw [if_pos (by rfl)]
    go_simp
    replace D := D.set (p := ⟨w.heap.size + 1, 0, none⟩) (by dsimp only; omega) (by dsimp only; omega) (.int .i64 hk)
    replace q0 := cell_aside (.int .i64 hk) (r := ⟨w.heap.size + 1, 0, none⟩) (by dsimp only; omega) q0
    replace q1 := cell_aside (.int .i64 hk) (r := ⟨w.heap.size + 1, 0, none⟩) (by dsimp only; omega) q1
    replace q2 := cell_aside (.int .i64 hk) (r := ⟨w.heap.size + 1, 0, none⟩) (by dsimp only; omega) q2
    replace q3 := cell_aside (.int .i64 hk) (r := ⟨w.heap.size + 1, 0, none⟩) (by dsimp only; omega) q3
    replace u0 : (w17.setCell ⟨w.heap.size + 1, 0, none⟩ (.int .i64 hk)).cell? ⟨w.heap.size + 1, 0, none⟩ = some (.int .i64 hk) := cell_on _ _ _ _ _ u0
    replace u1 := cell_off _ _ _ 0 (.int .i64 hk) _ u1 (by decide)
    replace u2 := cell_off _ _ _ 0 (.int .i64 hk) _ u2 (by decide)
    replace u3 := cell_off _ _ _ 0 (.int .i64 hk) _ u3 (by decide)
    replace y0 := cell_aside (.int .i64 hk) (r := ⟨w.heap.size + 1, 0, none⟩) (by dsimp only; omega) y0
    replace y1 := cell_aside (.int .i64 hk) (r := ⟨w.heap.size + 1, 0, none⟩) (by dsimp only; omega) y1
    replace y2 := cell_aside (.int .i64 hk) (r := ⟨w.heap.size + 1, 0, none⟩) (by dsimp only; omega) y2
    replace y3 := cell_aside (.int .i64 hk) (r := ⟨w.heap.size + 1, 0, none⟩) (by dsimp only; omega) y3
    replace qf0 : (w17.setCell ⟨w.heap.size + 1, 0, none⟩ (.int .i64 hk)).frozen? _ = false := (frozen_set _ _ _ _ _).trans qf0
    replace qf1 : (w17.setCell ⟨w.heap.size + 1, 0, none⟩ (.int .i64 hk)).frozen? _ = false := (frozen_set _ _ _ _ _).trans qf1
    replace qf2 : (w17.setCell ⟨w.heap.size + 1, 0, none⟩ (.int .i64 hk)).frozen? _ = false := (frozen_set _ _ _ _ _).trans qf2
    replace qf3 : (w17.setCell ⟨w.heap.size + 1, 0, none⟩ (.int .i64 hk)).frozen? _ = false := (frozen_set _ _ _ _ _).trans qf3
    replace uf0 : (w17.setCell ⟨w.heap.size + 1, 0, none⟩ (.int .i64 hk)).frozen? _ = false := (frozen_set _ _ _ _ _).trans uf0
    replace uf1 : (w17.setCell ⟨w.heap.size + 1, 0, none⟩ (.int .i64 hk)).frozen? _ = false := (frozen_set _ _ _ _ _).trans uf1
    replace uf2 : (w17.setCell ⟨w.heap.size + 1, 0, none⟩ (.int .i64 hk)).frozen? _ = false := (frozen_set _ _ _ _ _).trans uf2
    replace uf3 : (w17.setCell ⟨w.heap.size + 1, 0, none⟩ (.int .i64 hk)).frozen? _ = false := (frozen_set _ _ _ _ _).trans uf3
    replace yf0 : (w17.setCell ⟨w.heap.size + 1, 0, none⟩ (.int .i64 hk)).frozen? _ = false := (frozen_set _ _ _ _ _).trans yf0
    replace yf1 : (w17.setCell ⟨w.heap.size + 1, 0, none⟩ (.int .i64 hk)).frozen? _ = false := (frozen_set _ _ _ _ _).trans yf1
    replace yf2 : (w17.setCell ⟨w.heap.size + 1, 0, none⟩ (.int .i64 hk)).frozen? _ = false := (frozen_set _ _ _ _ _).trans yf2
    replace yf3 : (w17.setCell ⟨w.heap.size + 1, 0, none⟩ (.int .i64 hk)).frozen? _ = false := (frozen_set _ _ _ _ _).trans yf3
    have z18 : (w17.setCell ⟨w.heap.size + 1, 0, none⟩ (.int .i64 hk)).heap.size = w17.heap.size := size_set _ _ _
    replace z18 := Nat.le_of_eq z18.symm
    replace D := D.set (p := ⟨w.heap.size + 1, 1, none⟩) (by dsimp only; omega) (by dsimp only; omega) (.bool hn')
    replace q0 := cell_aside (.bool hn') (r := ⟨w.heap.size + 1, 1, none⟩) (by dsimp only; omega) q0
    replace q1 := cell_aside (.bool hn') (r := ⟨w.heap.size + 1, 1, none⟩) (by dsimp only; omega) q1
    replace q2 := cell_aside (.bool hn') (r := ⟨w.heap.size + 1, 1, none⟩) (by dsimp only; omega) q2
    replace q3 := cell_aside (.bool hn') (r := ⟨w.heap.size + 1, 1, none⟩) (by dsimp only; omega) q3
    replace u0 := cell_off _ _ _ 1 (.bool hn') _ u0 (by decide)
    replace u1 : ((w17.setCell ⟨w.heap.size + 1, 0, none⟩ (.int .i64 hk)).setCell ⟨w.heap.size + 1, 1, none⟩ (.bool hn')).cell? ⟨w.heap.size + 1, 1, none⟩ = some (.bool hn') := cell_on _ _ _ _ _ u1
    replace u2 := cell_off _ _ _ 1 (.bool hn') _ u2 (by decide)
    replace u3 := cell_off _ _ _ 1 (.bool hn') _ u3 (by decide)
    replace y0 := cell_aside (.bool hn') (r := ⟨w.heap.size + 1, 1, none⟩) (by dsimp only; omega) y0
    replace y1 := cell_aside (.bool hn') (r := ⟨w.heap.size + 1, 1, none⟩) (by dsimp only; omega) y1
    replace y2 := cell_aside (.bool hn') (r := ⟨w.heap.size + 1, 1, none⟩) (by dsimp only; omega) y2
    replace y3 := cell_aside (.bool hn') (r := ⟨w.heap.size + 1, 1, none⟩) (by dsimp only; omega) y3
    replace qf0 : ((w17.setCell ⟨w.heap.size + 1, 0, none⟩ (.int .i64 hk)).setCell ⟨w.heap.size + 1, 1, none⟩ (.bool hn')).frozen? _ = false := (frozen_set _ _ _ _ _).trans qf0
    replace qf1 : ((w17.setCell ⟨w.heap.size + 1, 0, none⟩ (.int .i64 hk)).setCell ⟨w.heap.size + 1, 1, none⟩ (.bool hn')).frozen? _ = false := (frozen_set _ _ _ _ _).trans qf1
    replace qf2 : ((w17.setCell ⟨w.heap.size + 1, 0, none⟩ (.int .i64 hk)).setCell ⟨w.heap.size + 1, 1, none⟩ (.bool hn')).frozen? _ = false := (frozen_set _ _ _ _ _).trans qf2
    replace qf3 : ((w17.setCell ⟨w.heap.size + 1, 0, none⟩ (.int .i64 hk)).setCell ⟨w.heap.size + 1, 1, none⟩ (.bool hn')).frozen? _ = false := (frozen_set _ _ _ _ _).trans qf3
    replace uf0 : ((w17.setCell ⟨w.heap.size + 1, 0, none⟩ (.int .i64 hk)).setCell ⟨w.heap.size + 1, 1, none⟩ (.bool hn')).frozen? _ = false := (frozen_set _ _ _ _ _).trans uf0
    replace uf1 : ((w17.setCell ⟨w.heap.size + 1, 0, none⟩ (.int .i64 hk)).setCell ⟨w.heap.size + 1, 1, none⟩ (.bool hn')).frozen? _ = false := (frozen_set _ _ _ _ _).trans uf1
    replace uf2 : ((w17.setCell ⟨w.heap.size + 1, 0, none⟩ (.int .i64 hk)).setCell ⟨w.heap.size + 1, 1, none⟩ (.bool hn')).frozen? _ = false := (frozen_set _ _ _ _ _).trans uf2
    replace uf3 : ((w17.setCell ⟨w.heap.size + 1, 0, none⟩ (.int .i64 hk)).setCell ⟨w.heap.size + 1, 1, none⟩ (.bool hn')).frozen? _ = false := (frozen_set _ _ _ _ _).trans uf3
    replace yf0 : ((w17.setCell ⟨w.heap.size + 1, 0, none⟩ (.int .i64 hk)).setCell ⟨w.heap.size + 1, 1, none⟩ (.bool hn')).frozen? _ = false := (frozen_set _ _ _ _ _).trans yf0
    replace yf1 : ((w17.setCell ⟨w.heap.size + 1, 0, none⟩ (.int .i64 hk)).setCell ⟨w.heap.size + 1, 1, none⟩ (.bool hn')).frozen? _ = false := (frozen_set _ _ _ _ _).trans yf1
    replace yf2 : ((w17.setCell ⟨w.heap.size + 1, 0, none⟩ (.int .i64 hk)).setCell ⟨w.heap.size + 1, 1, none⟩ (.bool hn')).frozen? _ = false := (frozen_set _ _ _ _ _).trans yf2
    replace yf3 : ((w17.setCell ⟨w.heap.size + 1, 0, none⟩ (.int .i64 hk)).setCell ⟨w.heap.size + 1, 1, none⟩ (.bool hn')).frozen? _ = false := (frozen_set _ _ _ _ _).trans yf3
    have z19 : ((w17.setCell ⟨w.heap.size + 1, 0, none⟩ (.int .i64 hk)).setCell ⟨w.heap.size + 1, 1, none⟩ (.bool hn')).heap.size = (w17.setCell ⟨w.heap.size + 1, 0, none⟩ (.int .i64 hk)).heap.size := size_set _ _ _
    replace z19 := Nat.le_of_eq z19.symm
    replace D := D.set (p := ⟨w.heap.size + 1, 2, none⟩) (by dsimp only; omega) (by dsimp only; omega) (.int .i64 hm)
    replace q0 := cell_aside (.int .i64 hm) (r := ⟨w.heap.size + 1, 2, none⟩) (by dsimp only; omega) q0
    replace q1 := cell_aside (.int .i64 hm) (r := ⟨w.heap.size + 1, 2, none⟩) (by dsimp only; omega) q1
    replace q2 := cell_aside (.int .i64 hm) (r := ⟨w.heap.size + 1, 2, none⟩) (by dsimp only; omega) q2
    replace q3 := cell_aside (.int .i64 hm) (r := ⟨w.heap.size + 1, 2, none⟩) (by dsimp only; omega) q3
    replace u0 := cell_off _ _ _ 2 (.int .i64 hm) _ u0 (by decide)
    replace u1 := cell_off _ _ _ 2 (.int .i64 hm) _ u1 (by decide)
    replace u2 : (((w17.setCell ⟨w.heap.size + 1, 0, none⟩ (.int .i64 hk)).setCell ⟨w.heap.size + 1, 1, none⟩ (.bool hn')).setCell ⟨w.heap.size + 1, 2, none⟩ (.int .i64 hm)).cell? ⟨w.heap.size + 1, 2, none⟩ = some (.int .i64 hm) := cell_on _ _ _ _ _ u2
    replace u3 := cell_off _ _ _ 2 (.int .i64 hm) _ u3 (by decide)
    replace y0 := cell_aside (.int .i64 hm) (r := ⟨w.heap.size + 1, 2, none⟩) (by dsimp only; omega) y0
    replace y1 := cell_aside (.int .i64 hm) (r := ⟨w.heap.size + 1, 2, none⟩) (by dsimp only; omega) y1
    replace y2 := cell_aside (.int .i64 hm) (r := ⟨w.heap.size + 1, 2, none⟩) (by dsimp only; omega) y2
    replace y3 := cell_aside (.int .i64 hm) (r := ⟨w.heap.size + 1, 2, none⟩) (by dsimp only; omega) y3
    replace qf0 : (((w17.setCell ⟨w.heap.size + 1, 0, none⟩ (.int .i64 hk)).setCell ⟨w.heap.size + 1, 1, none⟩ (.bool hn')).setCell ⟨w.heap.size + 1, 2, none⟩ (.int .i64 hm)).frozen? _ = false := (frozen_set _ _ _ _ _).trans qf0
    replace qf1 : (((w17.setCell ⟨w.heap.size + 1, 0, none⟩ (.int .i64 hk)).setCell ⟨w.heap.size + 1, 1, none⟩ (.bool hn')).setCell ⟨w.heap.size + 1, 2, none⟩ (.int .i64 hm)).frozen? _ = false := (frozen_set _ _ _ _ _).trans qf1
    replace qf2 : (((w17.setCell ⟨w.heap.size + 1, 0, none⟩ (.int .i64 hk)).setCell ⟨w.heap.size + 1, 1, none⟩ (.bool hn')).setCell ⟨w.heap.size + 1, 2, none⟩ (.int .i64 hm)).frozen? _ = false := (frozen_set _ _ _ _ _).trans qf2
    replace qf3 : (((w17.setCell ⟨w.heap.size + 1, 0, none⟩ (.int .i64 hk)).setCell ⟨w.heap.size + 1, 1, none⟩ (.bool hn')).setCell ⟨w.heap.size + 1, 2, none⟩ (.int .i64 hm)).frozen? _ = false := (frozen_set _ _ _ _ _).trans qf3
    replace uf0 : (((w17.setCell ⟨w.heap.size + 1, 0, none⟩ (.int .i64 hk)).setCell ⟨w.heap.size + 1, 1, none⟩ (.bool hn')).setCell ⟨w.heap.size + 1, 2, none⟩ (.int .i64 hm)).frozen? _ = false := (frozen_set _ _ _ _ _).trans uf0
    replace uf1 : (((w17.setCell ⟨w.heap.size + 1, 0, none⟩ (.int .i64 hk)).setCell ⟨w.heap.size + 1, 1, none⟩ (.bool hn')).setCell ⟨w.heap.size + 1, 2, none⟩ (.int .i64 hm)).frozen? _ = false := (frozen_set _ _ _ _ _).trans uf1
    replace uf2 : (((w17.setCell ⟨w.heap.size + 1, 0, none⟩ (.int .i64 hk)).setCell ⟨w.heap.size + 1, 1, none⟩ (.bool hn')).setCell ⟨w.heap.size + 1, 2, none⟩ (.int .i64 hm)).frozen? _ = false := (frozen_set _ _ _ _ _).trans uf2
    replace uf3 : (((w17.setCell ⟨w.heap.size + 1, 0, none⟩ (.int .i64 hk)).setCell ⟨w.heap.size + 1, 1, none⟩ (.bool hn')).setCell ⟨w.heap.size + 1, 2, none⟩ (.int .i64 hm)).frozen? _ = false := (frozen_set _ _ _ _ _).trans uf3
    replace yf0 : (((w17.setCell ⟨w.heap.size + 1, 0, none⟩ (.int .i64 hk)).setCell ⟨w.heap.size + 1, 1, none⟩ (.bool hn')).setCell ⟨w.heap.size + 1, 2, none⟩ (.int .i64 hm)).frozen? _ = false := (frozen_set _ _ _ _ _).trans yf0
    replace yf1 : (((w17.setCell ⟨w.heap.size + 1, 0, none⟩ (.int .i64 hk)).setCell ⟨w.heap.size + 1, 1, none⟩ (.bool hn')).setCell ⟨w.heap.size + 1, 2, none⟩ (.int .i64 hm)).frozen? _ = false := (frozen_set _ _ _ _ _).trans yf1
    replace yf2 : (((w17.setCell ⟨w.heap.size + 1, 0, none⟩ (.int .i64 hk)).setCell ⟨w.heap.size + 1, 1, none⟩ (.bool hn')).setCell ⟨w.heap.size + 1, 2, none⟩ (.int .i64 hm)).frozen? _ = false := (frozen_set _ _ _ _ _).trans yf2
    replace yf3 : (((w17.setCell ⟨w.heap.size + 1, 0, none⟩ (.int .i64 hk)).setCell ⟨w.heap.size + 1, 1, none⟩ (.bool hn')).setCell ⟨w.heap.size + 1, 2, none⟩ (.int .i64 hm)).frozen? _ = false := (frozen_set _ _ _ _ _).trans yf3
    have z20 : (((w17.setCell ⟨w.heap.size + 1, 0, none⟩ (.int .i64 hk)).setCell ⟨w.heap.size + 1, 1, none⟩ (.bool hn')).setCell ⟨w.heap.size + 1, 2, none⟩ (.int .i64 hm)).heap.size = ((w17.setCell ⟨w.heap.size + 1, 0, none⟩ (.int .i64 hk)).setCell ⟨w.heap.size + 1, 1, none⟩ (.bool hn')).heap.size := size_set _ _ _
    replace z20 := Nat.le_of_eq z20.symm
    replace D := D.set (p := ⟨w.heap.size + 1, 3, none⟩) (by dsimp only; omega) (by dsimp only; omega) (.int .i64 he)
    replace q0 := cell_aside (.int .i64 he) (r := ⟨w.heap.size + 1, 3, none⟩) (by dsimp only; omega) q0
    replace q1 := cell_aside (.int .i64 he) (r := ⟨w.heap.size + 1, 3, none⟩) (by dsimp only; omega) q1
    replace q2 := cell_aside (.int .i64 he) (r := ⟨w.heap.size + 1, 3, none⟩) (by dsimp only; omega) q2
    replace q3 := cell_aside (.int .i64 he) (r := ⟨w.heap.size + 1, 3, none⟩) (by dsimp only; omega) q3
    replace u0 := cell_off _ _ _ 3 (.int .i64 he) _ u0 (by decide)
    replace u1 := cell_off _ _ _ 3 (.int .i64 he) _ u1 (by decide)
    replace u2 := cell_off _ _ _ 3 (.int .i64 he) _ u2 (by decide)
    replace u3 : ((((w17.setCell ⟨w.heap.size + 1, 0, none⟩ (.int .i64 hk)).setCell ⟨w.heap.size + 1, 1, none⟩ (.bool hn')).setCell ⟨w.heap.size + 1, 2, none⟩ (.int .i64 hm)).setCell ⟨w.heap.size + 1, 3, none⟩ (.int .i64 he)).cell? ⟨w.heap.size + 1, 3, none⟩ = some (.int .i64 he) := cell_on _ _ _ _ _ u3
    replace y0 := cell_aside (.int .i64 he) (r := ⟨w.heap.size + 1, 3, none⟩) (by dsimp only; omega) y0
    replace y1 := cell_aside (.int .i64 he) (r := ⟨w.heap.size + 1, 3, none⟩) (by dsimp only; omega) y1
    replace y2 := cell_aside (.int .i64 he) (r := ⟨w.heap.size + 1, 3, none⟩) (by dsimp only; omega) y2
    replace y3 := cell_aside (.int .i64 he) (r := ⟨w.heap.size + 1, 3, none⟩) (by dsimp only; omega) y3
    replace qf0 : ((((w17.setCell ⟨w.heap.size + 1, 0, none⟩ (.int .i64 hk)).setCell ⟨w.heap.size + 1, 1, none⟩ (.bool hn')).setCell ⟨w.heap.size + 1, 2, none⟩ (.int .i64 hm)).setCell ⟨w.heap.size + 1, 3, none⟩ (.int .i64 he)).frozen? _ = false := (frozen_set _ _ _ _ _).trans qf0
    replace qf1 : ((((w17.setCell ⟨w.heap.size + 1, 0, none⟩ (.int .i64 hk)).setCell ⟨w.heap.size + 1, 1, none⟩ (.bool hn')).setCell ⟨w.heap.size + 1, 2, none⟩ (.int .i64 hm)).setCell ⟨w.heap.size + 1, 3, none⟩ (.int .i64 he)).frozen? _ = false := (frozen_set _ _ _ _ _).trans qf1
    replace qf2 : ((((w17.setCell ⟨w.heap.size + 1, 0, none⟩ (.int .i64 hk)).setCell ⟨w.heap.size + 1, 1, none⟩ (.bool hn')).setCell ⟨w.heap.size + 1, 2, none⟩ (.int .i64 hm)).setCell ⟨w.heap.size + 1, 3, none⟩ (.int .i64 he)).frozen? _ = false := (frozen_set _ _ _ _ _).trans qf2
    replace qf3 : ((((w17.setCell ⟨w.heap.size + 1, 0, none⟩ (.int .i64 hk)).setCell ⟨w.heap.size + 1, 1, none⟩ (.bool hn')).setCell ⟨w.heap.size + 1, 2, none⟩ (.int .i64 hm)).setCell ⟨w.heap.size + 1, 3, none⟩ (.int .i64 he)).frozen? _ = false := (frozen_set _ _ _ _ _).trans qf3
    replace uf0 : ((((w17.setCell ⟨w.heap.size + 1, 0, none⟩ (.int .i64 hk)).setCell ⟨w.heap.size + 1, 1, none⟩ (.bool hn')).setCell ⟨w.heap.size + 1, 2, none⟩ (.int .i64 hm)).setCell ⟨w.heap.size + 1, 3, none⟩ (.int .i64 he)).frozen? _ = false := (frozen_set _ _ _ _ _).trans uf0
    replace uf1 : ((((w17.setCell ⟨w.heap.size + 1, 0, none⟩ (.int .i64 hk)).setCell ⟨w.heap.size + 1, 1, none⟩ (.bool hn')).setCell ⟨w.heap.size + 1, 2, none⟩ (.int .i64 hm)).setCell ⟨w.heap.size + 1, 3, none⟩ (.int .i64 he)).frozen? _ = false := (frozen_set _ _ _ _ _).trans uf1
    replace uf2 : ((((w17.setCell ⟨w.heap.size + 1, 0, none⟩ (.int .i64 hk)).setCell ⟨w.heap.size + 1, 1, none⟩ (.bool hn')).setCell ⟨w.heap.size + 1, 2, none⟩ (.int .i64 hm)).setCell ⟨w.heap.size + 1, 3, none⟩ (.int .i64 he)).frozen? _ = false := (frozen_set _ _ _ _ _).trans uf2
    replace uf3 : ((((w17.setCell ⟨w.heap.size + 1, 0, none⟩ (.int .i64 hk)).setCell ⟨w.heap.size + 1, 1, none⟩ (.bool hn')).setCell ⟨w.heap.size + 1, 2, none⟩ (.int .i64 hm)).setCell ⟨w.heap.size + 1, 3, none⟩ (.int .i64 he)).frozen? _ = false := (frozen_set _ _ _ _ _).trans uf3
    replace yf0 : ((((w17.setCell ⟨w.heap.size + 1, 0, none⟩ (.int .i64 hk)).setCell ⟨w.heap.size + 1, 1, none⟩ (.bool hn')).setCell ⟨w.heap.size + 1, 2, none⟩ (.int .i64 hm)).setCell ⟨w.heap.size + 1, 3, none⟩ (.int .i64 he)).frozen? _ = false := (frozen_set _ _ _ _ _).trans yf0
    replace yf1 : ((((w17.setCell ⟨w.heap.size + 1, 0, none⟩ (.int .i64 hk)).setCell ⟨w.heap.size + 1, 1, none⟩ (.bool hn')).setCell ⟨w.heap.size + 1, 2, none⟩ (.int .i64 hm)).setCell ⟨w.heap.size + 1, 3, none⟩ (.int .i64 he)).frozen? _ = false := (frozen_set _ _ _ _ _).trans yf1
    replace yf2 : ((((w17.setCell ⟨w.heap.size + 1, 0, none⟩ (.int .i64 hk)).setCell ⟨w.heap.size + 1, 1, none⟩ (.bool hn')).setCell ⟨w.heap.size + 1, 2, none⟩ (.int .i64 hm)).setCell ⟨w.heap.size + 1, 3, none⟩ (.int .i64 he)).frozen? _ = false := (frozen_set _ _ _ _ _).trans yf2
    replace yf3 : ((((w17.setCell ⟨w.heap.size + 1, 0, none⟩ (.int .i64 hk)).setCell ⟨w.heap.size + 1, 1, none⟩ (.bool hn')).setCell ⟨w.heap.size + 1, 2, none⟩ (.int .i64 hm)).setCell ⟨w.heap.size + 1, 3, none⟩ (.int .i64 he)).frozen? _ = false := (frozen_set _ _ _ _ _).trans yf3
    have z21 : ((((w17.setCell ⟨w.heap.size + 1, 0, none⟩ (.int .i64 hk)).setCell ⟨w.heap.size + 1, 1, none⟩ (.bool hn')).setCell ⟨w.heap.size + 1, 2, none⟩ (.int .i64 hm)).setCell ⟨w.heap.size + 1, 3, none⟩ (.int .i64 he)).heap.size = (((w17.setCell ⟨w.heap.size + 1, 0, none⟩ (.int .i64 hk)).setCell ⟨w.heap.size + 1, 1, none⟩ (.bool hn')).setCell ⟨w.heap.size + 1, 2, none⟩ (.int .i64 hm)).heap.size := size_set _ _ _
    replace z21 := Nat.le_of_eq z21.symm
    generalize ((((w17.setCell ⟨w.heap.size + 1, 0, none⟩ (.int .i64 hk)).setCell ⟨w.heap.size + 1, 1, none⟩ (.bool hn')).setCell ⟨w.heap.size + 1, 2, none⟩ (.int .i64 hm)).setCell ⟨w.heap.size + 1, 3, none⟩ (.int .i64 he)) = w22 at *
    clear hHeld
    refine hK.out _ _ ?_ (fun hHeld => ?_)
    · exact ⟨y0, y1, y2, y3⟩
    clear hK KK
    try simp only [Act.put, List.getElem_toArray, List.getElem_cons_succ, List.getElem_cons_zero, List.setIfInBounds_toArray, List.set_cons_zero, List.set_cons_succ]
    refine wpAnyH_done (by kernel_rfl) ?_ _
    clear hHeld
    have DD := hide D
    clear D
    go_wp2_with fail
    exact bodyPost_ret (v := .tuple #[.agg #[.int .i64 fk, .bool fn, .int .i64 fm, .int .i64 fe], .agg #[.int .i64 hk, .bool hn', .int .i64 hm, .int .i64 he]]) (by simp [results, Tryz.results41, go_sem, q0, q1, q2, q3, u0, u1, u2, u3]) rfl ⟨_, _, _, _, _, _, _, _, rfl, unhide DD⟩

end Go.Proofs.YtckaecmkidplhaaGreatDoor

