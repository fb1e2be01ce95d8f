/-
  Draws of floats with a mode: they return, whatever is drawn.
-/
import Derived.Test.YtckaecmkidplhaaGreatDoorFl17y
import Derived.Deep.RegionHeld3
import Derived.Deep.DeepCutAuto
namespace Go.Proofs.YtckaecmkidplhaaGreatDoor
open Go.RowKit
set_option linter.unusedVariables false
set_option maxRecDepth 8000
set_option linter.unusedSimpArgs false

theorem Kept.newer' {lo hi : Nat} {a b c : World} (h : Kept 0 0 a b) (k : Kept lo hi b c) (hl : a.heap.size ≤ lo) : Kept 0 0 a c :=
  ⟨k.os.trans h.os, k.tape.trans h.tape, k.output.trans h.output, Nat.le_trans h.size k.size, fun i hi' ho => (k.block i (Nat.lt_of_lt_of_le hi' h.size) (.inl (by omega))).trans (h.block i hi' ho)⟩
theorem Drawn.refl {g lo : Nat} {w : World} (c : Cur g lo w) : Drawn g lo w w := ⟨c, (Kept.refl 0 0 w).any⟩

theorem in_drawMode_w : ∀ (w : World) (args : Array Value), (callFunc 42 args).run Tryz.prog w = .ok (.enter 42 args) w := enters Tryz.func42 (by decide) (fun h => by cases h)

set_option maxHeartbeats 2000000 in
theorem drawMode_any (g lo : Nat) (w : World) (c : Cur g lo w) :
    Calls Tryz.prog 42 #[.pointer (some ⟨g, 0, none⟩)] w fun e' w' => ∃ x : Int, e' = .returned (.int .i64 x) ∧ -1 ≤ x ∧ x ≤ 5 ∧ Drawn g lo w w' := by
  have D := Drawn.refl c
  clear c
  go_enter Tryz.func42, Tryz.ntmps42
  go_wp2_with fail
  refine (l1Once_any g lo _ D.1 15).mono ?_
  rintro e w1 ⟨b1, rfl, hd⟩
  have kk := hd.kept
  replace D := D.trans hd.drawn
  have z2 := kk.size
  clear kk hd
  cases b1
  · go_wp2_with fail
    refine (l1Below_any g lo _ D.1 5).mono ?_
    rintro e w3 ⟨nb, rfl, -, hbnb, hd⟩
    have kk := hd.kept
    replace D := D.trans hd.drawn
    replace hbnb := hbnb (by decide)
    have z4 := kk.size
    clear kk hd
    have DD := hide D
    clear D
    go_wp2_with fail
    go_ret
    exact ⟨_, rfl, by omega, by omega, unhide DD⟩
  · go_wp2_with fail
    have hr := Row.lit .i64 w1 3 [-1, 5] (by simp [maxLen])
    have gW : g < w1.heap.size := D.1.1
    refine (l1PickInt_any g lo _ (D.1.kept ((Kept.refl 0 0 w1).alloc _) (by omega)) hr (by simp) (by omega)).mono ?_
    rintro e w3 ⟨x1, rfl, hxx1, hd⟩
    have hbx1 : -1 ≤ x1 ∧ x1 ≤ 5 := by
      simp only [List.mem_cons, List.not_mem_nil, or_false] at hxx1
      omega
    have kk := (((Kept.refl 0 0 w1).alloc (.cells ([-1, 5].map (Value.int .i64)).toArray 3)).any (lo := g) (hi := g + 1)).trans hd.2.1
    replace D : Drawn g lo w w3 := ⟨hd.1, D.2.trans kk⟩
    have z4 := kk.size
    clear kk hd hr gW hxx1
    have DD := hide D
    clear D
    go_wp2_with fail
    go_ret
    exact ⟨_, rfl, hbx1.1, hbx1.2, unhide DD⟩

set_option maxHeartbeats 8000000 in
theorem drawAdd5_any {bw : Bool} {lo hi : Nat} {v : Value} {bs : List Int} (w : World) (r : Row .u8 bw lo hi w v bs) (b : Bytes bs) :
    Calls Tryz.prog 9 #[v] w fun e' w' => ∃ fk fn fm fe hk hn hm he md, e' = .returned (.tuple #[flv fk fn fm fe, flv hk hn hm he, .int .i64 md]) ∧ -1 ≤ md ∧ md ≤ 5 ∧ Kept 0 0 w w' := by
  have K : Kept 0 0 w ((w.alloc (.cells #[.int .i64 0, .bool false, .int .i64 0, .int .i64 0] 25)).alloc (.cells #[.int .i64 0, .bool false, .int .i64 0, .int .i64 0] 25)) := (((Kept.refl 0 0 w).alloc (.cells #[.int .i64 0, .bool false, .int .i64 0, .int .i64 0] 25)).alloc (.cells #[.int .i64 0, .bool false, .int .i64 0, .int .i64 0] 25))
  have q0 : ((w.alloc (.cells #[.int .i64 0, .bool false, .int .i64 0, .int .i64 0] 25)).alloc (.cells #[.int .i64 0, .bool false, .int .i64 0, .int .i64 0] 25)).cell? ⟨w.heap.size, 0, none⟩ = some (.int .i64 0) := old_cell _ (new_cell2 _ _ _ _ _ _ (by simp) rfl)
  have qf0 : ((w.alloc (.cells #[.int .i64 0, .bool false, .int .i64 0, .int .i64 0] 25)).alloc (.cells #[.int .i64 0, .bool false, .int .i64 0, .int .i64 0] 25)).frozen? ⟨w.heap.size, 0, none⟩ = false := loose_old (by simp) (new_loose2 _ _ _ _ _ (by simp))
  have q1 : ((w.alloc (.cells #[.int .i64 0, .bool false, .int .i64 0, .int .i64 0] 25)).alloc (.cells #[.int .i64 0, .bool false, .int .i64 0, .int .i64 0] 25)).cell? ⟨w.heap.size, 1, none⟩ = some (.bool false) := old_cell _ (new_cell2 _ _ _ _ _ _ (by simp) rfl)
  have qf1 : ((w.alloc (.cells #[.int .i64 0, .bool false, .int .i64 0, .int .i64 0] 25)).alloc (.cells #[.int .i64 0, .bool false, .int .i64 0, .int .i64 0] 25)).frozen? ⟨w.heap.size, 1, none⟩ = false := loose_old (by simp) (new_loose2 _ _ _ _ _ (by simp))
  have q2 : ((w.alloc (.cells #[.int .i64 0, .bool false, .int .i64 0, .int .i64 0] 25)).alloc (.cells #[.int .i64 0, .bool false, .int .i64 0, .int .i64 0] 25)).cell? ⟨w.heap.size, 2, none⟩ = some (.int .i64 0) := old_cell _ (new_cell2 _ _ _ _ _ _ (by simp) rfl)
  have qf2 : ((w.alloc (.cells #[.int .i64 0, .bool false, .int .i64 0, .int .i64 0] 25)).alloc (.cells #[.int .i64 0, .bool false, .int .i64 0, .int .i64 0] 25)).frozen? ⟨w.heap.size, 2, none⟩ = false := loose_old (by simp) (new_loose2 _ _ _ _ _ (by simp))
  have q3 : ((w.alloc (.cells #[.int .i64 0, .bool false, .int .i64 0, .int .i64 0] 25)).alloc (.cells #[.int .i64 0, .bool false, .int .i64 0, .int .i64 0] 25)).cell? ⟨w.heap.size, 3, none⟩ = some (.int .i64 0) := old_cell _ (new_cell2 _ _ _ _ _ _ (by simp) rfl)
  have qf3 : ((w.alloc (.cells #[.int .i64 0, .bool false, .int .i64 0, .int .i64 0] 25)).alloc (.cells #[.int .i64 0, .bool false, .int .i64 0, .int .i64 0] 25)).frozen? ⟨w.heap.size, 3, none⟩ = false := loose_old (by simp) (new_loose2 _ _ _ _ _ (by simp))
  have u0 : ((w.alloc (.cells #[.int .i64 0, .bool false, .int .i64 0, .int .i64 0] 25)).alloc (.cells #[.int .i64 0, .bool false, .int .i64 0, .int .i64 0] 25)).cell? ⟨w.heap.size + 1, 0, none⟩ = some (.int .i64 0) := new_cell2 _ _ _ _ _ _ (by simp) rfl
  have uf0 : ((w.alloc (.cells #[.int .i64 0, .bool false, .int .i64 0, .int .i64 0] 25)).alloc (.cells #[.int .i64 0, .bool false, .int .i64 0, .int .i64 0] 25)).frozen? ⟨w.heap.size + 1, 0, none⟩ = false := new_loose2 _ _ _ _ _ (by simp)
  have u1 : ((w.alloc (.cells #[.int .i64 0, .bool false, .int .i64 0, .int .i64 0] 25)).alloc (.cells #[.int .i64 0, .bool false, .int .i64 0, .int .i64 0] 25)).cell? ⟨w.heap.size + 1, 1, none⟩ = some (.bool false) := new_cell2 _ _ _ _ _ _ (by simp) rfl
  have uf1 : ((w.alloc (.cells #[.int .i64 0, .bool false, .int .i64 0, .int .i64 0] 25)).alloc (.cells #[.int .i64 0, .bool false, .int .i64 0, .int .i64 0] 25)).frozen? ⟨w.heap.size + 1, 1, none⟩ = false := new_loose2 _ _ _ _ _ (by simp)
  have u2 : ((w.alloc (.cells #[.int .i64 0, .bool false, .int .i64 0, .int .i64 0] 25)).alloc (.cells #[.int .i64 0, .bool false, .int .i64 0, .int .i64 0] 25)).cell? ⟨w.heap.size + 1, 2, none⟩ = some (.int .i64 0) := new_cell2 _ _ _ _ _ _ (by simp) rfl
  have uf2 : ((w.alloc (.cells #[.int .i64 0, .bool false, .int .i64 0, .int .i64 0] 25)).alloc (.cells #[.int .i64 0, .bool false, .int .i64 0, .int .i64 0] 25)).frozen? ⟨w.heap.size + 1, 2, none⟩ = false := new_loose2 _ _ _ _ _ (by simp)
  have u3 : ((w.alloc (.cells #[.int .i64 0, .bool false, .int .i64 0, .int .i64 0] 25)).alloc (.cells #[.int .i64 0, .bool false, .int .i64 0, .int .i64 0] 25)).cell? ⟨w.heap.size + 1, 3, none⟩ = some (.int .i64 0) := new_cell2 _ _ _ _ _ _ (by simp) rfl
  have uf3 : ((w.alloc (.cells #[.int .i64 0, .bool false, .int .i64 0, .int .i64 0] 25)).alloc (.cells #[.int .i64 0, .bool false, .int .i64 0, .int .i64 0] 25)).frozen? ⟨w.heap.size + 1, 3, none⟩ = false := new_loose2 _ _ _ _ _ (by simp)
  have s0 : ((w.alloc (.cells #[.int .i64 0, .bool false, .int .i64 0, .int .i64 0] 25)).alloc (.cells #[.int .i64 0, .bool false, .int .i64 0, .int .i64 0] 25)).heap.size = w.heap.size + 2 := by simp
  replace r := r.kept K (by omega)
  obtain ⟨a0, c0, hv⟩ := Row.form' r
  subst hv
  go_enter Tryz.func9, Tryz.ntmps9
  go_wp2_with fail
  generalize ((w.alloc (.cells #[.int .i64 0, .bool false, .int .i64 0, .int .i64 0] 25)).alloc (.cells #[.int .i64 0, .bool false, .int .i64 0, .int .i64 0] 25)) = W at *
  refine (l1New_any _ r b).mono ?_
  rintro e w1 ⟨g, rfl, hg, cu, kk⟩
  clear r
  replace K := K.trans kk
  replace qf0 := kk.loose0 (World.block_lt_of_cell? _ _ q0) qf0
  replace qf1 := kk.loose0 (World.block_lt_of_cell? _ _ q1) qf1
  replace qf2 := kk.loose0 (World.block_lt_of_cell? _ _ q2) qf2
  replace qf3 := kk.loose0 (World.block_lt_of_cell? _ _ q3) qf3
  replace uf0 := kk.loose0 (World.block_lt_of_cell? _ _ u0) uf0
  replace uf1 := kk.loose0 (World.block_lt_of_cell? _ _ u1) uf1
  replace uf2 := kk.loose0 (World.block_lt_of_cell? _ _ u2) uf2
  replace uf3 := kk.loose0 (World.block_lt_of_cell? _ _ u3) uf3
  replace q0 := kk.cell0 q0
  replace q1 := kk.cell0 q1
  replace q2 := kk.cell0 q2
  replace q3 := kk.cell0 q3
  replace u0 := kk.cell0 u0
  replace u1 := kk.cell0 u1
  replace u2 := kk.cell0 u2
  replace u3 := kk.cell0 u3
  have z1 := kk.size
  have gs := cu.1
  clear kk
  go_wp2_with fail
  refine (pair5_any g _ _ cu).mono ?_
  rintro e w2 ⟨fk, fn, fm, fe, hk, hn, hm, he, rfl, hd⟩
  have kk := hd.2
  replace K := Kept.newer' K kk (by omega)
  replace cu := hd.1
  replace qf0 := Kept.looseOut' kk (by dsimp only; omega) (World.block_lt_of_cell? _ _ q0) qf0
  replace qf1 := Kept.looseOut' kk (by dsimp only; omega) (World.block_lt_of_cell? _ _ q1) qf1
  replace qf2 := Kept.looseOut' kk (by dsimp only; omega) (World.block_lt_of_cell? _ _ q2) qf2
  replace qf3 := Kept.looseOut' kk (by dsimp only; omega) (World.block_lt_of_cell? _ _ q3) qf3
  replace uf0 := Kept.looseOut' kk (by dsimp only; omega) (World.block_lt_of_cell? _ _ u0) uf0
  replace uf1 := Kept.looseOut' kk (by dsimp only; omega) (World.block_lt_of_cell? _ _ u1) uf1
  replace uf2 := Kept.looseOut' kk (by dsimp only; omega) (World.block_lt_of_cell? _ _ u2) uf2
  replace uf3 := Kept.looseOut' kk (by dsimp only; omega) (World.block_lt_of_cell? _ _ u3) uf3
  replace q0 := Kept.cellOut kk (by dsimp only; omega) q0
  replace q1 := Kept.cellOut kk (by dsimp only; omega) q1
  replace q2 := Kept.cellOut kk (by dsimp only; omega) q2
  replace q3 := Kept.cellOut kk (by dsimp only; omega) q3
  replace u0 := Kept.cellOut kk (by dsimp only; omega) u0
  replace u1 := Kept.cellOut kk (by dsimp only; omega) u1
  replace u2 := Kept.cellOut kk (by dsimp only; omega) u2
  replace u3 := Kept.cellOut kk (by dsimp only; omega) u3
  have z3 := kk.size
  clear kk hd
  have kk := (Kept.refl 0 0 w2).alloc (.cells #[.int .i64 fk, .bool fn, .int .i64 fm, .int .i64 fe] 25)
  have y0 : (w2.alloc (.cells #[.int .i64 fk, .bool fn, .int .i64 fm, .int .i64 fe] 25)).cell? ⟨w2.heap.size, 0, none⟩ = some (.int .i64 fk) := new_cell2 _ _ _ _ _ _ (by simp) rfl
  have y1 : (w2.alloc (.cells #[.int .i64 fk, .bool fn, .int .i64 fm, .int .i64 fe] 25)).cell? ⟨w2.heap.size, 1, none⟩ = some (.bool fn) := new_cell2 _ _ _ _ _ _ (by simp) rfl
  have y2 : (w2.alloc (.cells #[.int .i64 fk, .bool fn, .int .i64 fm, .int .i64 fe] 25)).cell? ⟨w2.heap.size, 2, none⟩ = some (.int .i64 fm) := new_cell2 _ _ _ _ _ _ (by simp) rfl
  have y3 : (w2.alloc (.cells #[.int .i64 fk, .bool fn, .int .i64 fm, .int .i64 fe] 25)).cell? ⟨w2.heap.size, 3, none⟩ = some (.int .i64 fe) := new_cell2 _ _ _ _ _ _ (by simp) rfl
  have y4 : w2.heap.size + 1 ≤ (w2.alloc (.cells #[.int .i64 fk, .bool fn, .int .i64 fm, .int .i64 fe] 25)).heap.size := by simp
  replace K := K.trans kk
  replace cu := cu.kept kk (by omega)
  have g4 := cu.1
  replace qf0 := Kept.looseOut' kk (by dsimp only; omega) (World.block_lt_of_cell? _ _ q0) qf0
  replace qf1 := Kept.looseOut' kk (by dsimp only; omega) (World.block_lt_of_cell? _ _ q1) qf1
  replace qf2 := Kept.looseOut' kk (by dsimp only; omega) (World.block_lt_of_cell? _ _ q2) qf2
  replace qf3 := Kept.looseOut' kk (by dsimp only; omega) (World.block_lt_of_cell? _ _ q3) qf3
  replace uf0 := Kept.looseOut' kk (by dsimp only; omega) (World.block_lt_of_cell? _ _ u0) uf0
  replace uf1 := Kept.looseOut' kk (by dsimp only; omega) (World.block_lt_of_cell? _ _ u1) uf1
  replace uf2 := Kept.looseOut' kk (by dsimp only; omega) (World.block_lt_of_cell? _ _ u2) uf2
  replace uf3 := Kept.looseOut' kk (by dsimp only; omega) (World.block_lt_of_cell? _ _ u3) uf3
  replace q0 := Kept.cellOut kk (by dsimp only; omega) q0
  replace q1 := Kept.cellOut kk (by dsimp only; omega) q1
  replace q2 := Kept.cellOut kk (by dsimp only; omega) q2
  replace q3 := Kept.cellOut kk (by dsimp only; omega) q3
  replace u0 := Kept.cellOut kk (by dsimp only; omega) u0
  replace u1 := Kept.cellOut kk (by dsimp only; omega) u1
  replace u2 := Kept.cellOut kk (by dsimp only; omega) u2
  replace u3 := Kept.cellOut kk (by dsimp only; omega) u3
  have z5 := kk.size
  clear kk
  have kk := (Kept.refl 0 0 (w2.alloc (.cells #[.int .i64 fk, .bool fn, .int .i64 fm, .int .i64 fe] 25))).alloc (.cells #[.int .i64 hk, .bool hn, .int .i64 hm, .int .i64 he] 25)
  have x0 : ((w2.alloc (.cells #[.int .i64 fk, .bool fn, .int .i64 fm, .int .i64 fe] 25)).alloc (.cells #[.int .i64 hk, .bool hn, .int .i64 hm, .int .i64 he] 25)).cell? ⟨w2.heap.size + 1, 0, none⟩ = some (.int .i64 hk) := new_cell2 _ _ _ _ _ _ (by simp) rfl
  have x1 : ((w2.alloc (.cells #[.int .i64 fk, .bool fn, .int .i64 fm, .int .i64 fe] 25)).alloc (.cells #[.int .i64 hk, .bool hn, .int .i64 hm, .int .i64 he] 25)).cell? ⟨w2.heap.size + 1, 1, none⟩ = some (.bool hn) := new_cell2 _ _ _ _ _ _ (by simp) rfl
  have x2 : ((w2.alloc (.cells #[.int .i64 fk, .bool fn, .int .i64 fm, .int .i64 fe] 25)).alloc (.cells #[.int .i64 hk, .bool hn, .int .i64 hm, .int .i64 he] 25)).cell? ⟨w2.heap.size + 1, 2, none⟩ = some (.int .i64 hm) := new_cell2 _ _ _ _ _ _ (by simp) rfl
  have x3 : ((w2.alloc (.cells #[.int .i64 fk, .bool fn, .int .i64 fm, .int .i64 fe] 25)).alloc (.cells #[.int .i64 hk, .bool hn, .int .i64 hm, .int .i64 he] 25)).cell? ⟨w2.heap.size + 1, 3, none⟩ = some (.int .i64 he) := new_cell2 _ _ _ _ _ _ (by simp) rfl
  have y6 : (w2.alloc (.cells #[.int .i64 fk, .bool fn, .int .i64 fm, .int .i64 fe] 25)).heap.size + 1 ≤ ((w2.alloc (.cells #[.int .i64 fk, .bool fn, .int .i64 fm, .int .i64 fe] 25)).alloc (.cells #[.int .i64 hk, .bool hn, .int .i64 hm, .int .i64 he] 25)).heap.size := by simp
  replace K := K.trans kk
  replace cu := cu.kept kk (by omega)
  have g6 := cu.1
  replace qf0 := Kept.looseOut' kk (by dsimp only; omega) (World.block_lt_of_cell? _ _ q0) qf0
  replace qf1 := Kept.looseOut' kk (by dsimp only; omega) (World.block_lt_of_cell? _ _ q1) qf1
  replace qf2 := Kept.looseOut' kk (by dsimp only; omega) (World.block_lt_of_cell? _ _ q2) qf2
  replace qf3 := Kept.looseOut' kk (by dsimp only; omega) (World.block_lt_of_cell? _ _ q3) qf3
  replace uf0 := Kept.looseOut' kk (by dsimp only; omega) (World.block_lt_of_cell? _ _ u0) uf0
  replace uf1 := Kept.looseOut' kk (by dsimp only; omega) (World.block_lt_of_cell? _ _ u1) uf1
  replace uf2 := Kept.looseOut' kk (by dsimp only; omega) (World.block_lt_of_cell? _ _ u2) uf2
  replace uf3 := Kept.looseOut' kk (by dsimp only; omega) (World.block_lt_of_cell? _ _ u3) uf3
  replace q0 := Kept.cellOut kk (by dsimp only; omega) q0
  replace q1 := Kept.cellOut kk (by dsimp only; omega) q1
  replace q2 := Kept.cellOut kk (by dsimp only; omega) q2
  replace q3 := Kept.cellOut kk (by dsimp only; omega) q3
  replace u0 := Kept.cellOut kk (by dsimp only; omega) u0
  replace u1 := Kept.cellOut kk (by dsimp only; omega) u1
  replace u2 := Kept.cellOut kk (by dsimp only; omega) u2
  replace u3 := Kept.cellOut kk (by dsimp only; omega) u3
  replace y0 := Kept.cellOut kk (by dsimp only; omega) y0
  replace y1 := Kept.cellOut kk (by dsimp only; omega) y1
  replace y2 := Kept.cellOut kk (by dsimp only; omega) y2
  replace y3 := Kept.cellOut kk (by dsimp only; omega) y3
  have z7 := kk.size
  clear kk
  go_wp2_with fail
  generalize ((w2.alloc (.cells #[.int .i64 fk, .bool fn, .int .i64 fm, .int .i64 fe] 25)).alloc (.cells #[.int .i64 hk, .bool hn, .int .i64 hm, .int .i64 he] 25)) = w8 at *
  go_upto_region 3 with fail
  have kk := (Kept.refl 0 0 w8).drew
  replace K := K.trans kk
  replace cu := cu.kept kk (by omega)
  replace qf0 := Kept.looseOut' kk (by dsimp only; omega) (World.block_lt_of_cell? _ _ q0) qf0
  replace qf1 := Kept.looseOut' kk (by dsimp only; omega) (World.block_lt_of_cell? _ _ q1) qf1
  replace qf2 := Kept.looseOut' kk (by dsimp only; omega) (World.block_lt_of_cell? _ _ q2) qf2
  replace qf3 := Kept.looseOut' kk (by dsimp only; omega) (World.block_lt_of_cell? _ _ q3) qf3
  replace uf0 := Kept.looseOut' kk (by dsimp only; omega) (World.block_lt_of_cell? _ _ u0) uf0
  replace uf1 := Kept.looseOut' kk (by dsimp only; omega) (World.block_lt_of_cell? _ _ u1) uf1
  replace uf2 := Kept.looseOut' kk (by dsimp only; omega) (World.block_lt_of_cell? _ _ u2) uf2
  replace uf3 := Kept.looseOut' kk (by dsimp only; omega) (World.block_lt_of_cell? _ _ u3) uf3
  replace q0 := Kept.cellOut kk (by dsimp only; omega) q0
  replace q1 := Kept.cellOut kk (by dsimp only; omega) q1
  replace q2 := Kept.cellOut kk (by dsimp only; omega) q2
  replace q3 := Kept.cellOut kk (by dsimp only; omega) q3
  replace u0 := Kept.cellOut kk (by dsimp only; omega) u0
  replace u1 := Kept.cellOut kk (by dsimp only; omega) u1
  replace u2 := Kept.cellOut kk (by dsimp only; omega) u2
  replace u3 := Kept.cellOut kk (by dsimp only; omega) u3
  replace y0 := Kept.cellOut kk (by dsimp only; omega) y0
  replace y1 := Kept.cellOut kk (by dsimp only; omega) y1
  replace y2 := Kept.cellOut kk (by dsimp only; omega) y2
  replace y3 := Kept.cellOut kk (by dsimp only; omega) y3
  replace x0 := Kept.cellOut kk (by dsimp only; omega) x0
  replace x1 := Kept.cellOut kk (by dsimp only; omega) x1
  replace x2 := Kept.cellOut kk (by dsimp only; omega) x2
  replace x3 := Kept.cellOut kk (by dsimp only; omega) x3
  have z9 := kk.size
  clear kk
  refine wp_region_held_drew (S := (fun w' => w'.cell? ⟨w2.heap.size, 0, none⟩ = some (.int .i64 fk) ∧ w'.cell? ⟨w2.heap.size, 1, none⟩ = some (.bool fn) ∧ w'.cell? ⟨w2.heap.size, 2, none⟩ = some (.int .i64 fm) ∧ w'.cell? ⟨w2.heap.size, 3, none⟩ = some (.int .i64 fe) ∧ w'.cell? ⟨w2.heap.size + 1, 0, none⟩ = some (.int .i64 hk) ∧ w'.cell? ⟨w2.heap.size + 1, 1, none⟩ = some (.bool hn) ∧ w'.cell? ⟨w2.heap.size + 1, 2, none⟩ = some (.int .i64 hm) ∧ w'.cell? ⟨w2.heap.size + 1, 3, none⟩ = some (.int .i64 he))) (by kernel_rfl) ?_ (fun hHeld => ?_)
  · exact ⟨y0, y1, y2, y3, x0, x1, x2, x3⟩
  generalize w8.drew = w10 at *
  refine wpAnyH_take (i := 0) (oi := _) (v := .agg #[.int .i64 fk, .bool fn, .int .i64 fm, .int .i64 fe]) rfl (by kernel_rfl) (by kernel_rfl) (by kernel_rfl) (fun _ _ _ h => h) (Or.inl ⟨by rfl, ?_⟩) hHeld ?_
  · intro wq hSw
    try dsimp only at hSw
    go_simp
  try simp only [Act.put, List.getElem_toArray, List.getElem_cons_succ, List.getElem_cons_zero, List.setIfInBounds_toArray, List.set_cons_zero, List.set_cons_succ]
  refine wpAnyH_take (i := 1) (oi := _) (v := .agg #[.int .i64 hk, .bool hn, .int .i64 hm, .int .i64 he]) rfl (by kernel_rfl) (by kernel_rfl) (by kernel_rfl) (fun _ _ _ h => h) (Or.inl ⟨by rfl, ?_⟩) hHeld ?_
  · intro wq hSw
    try dsimp only at hSw
    go_simp
  try simp only [Act.put, List.getElem_toArray, List.getElem_cons_succ, List.getElem_cons_zero, List.setIfInBounds_toArray, List.set_cons_zero, List.set_cons_succ]
  refine wpAnyH_take (i := 2) (oi := _) (v := .pointer (some ⟨g, 0, none⟩)) rfl (by kernel_rfl) (by kernel_rfl) (by kernel_rfl) (fun _ _ _ h => h) (Or.inl ⟨by rfl, ?_⟩) hHeld ?_
  · intro wq hSw
    try dsimp only at hSw
    go_simp
  try simp only [Act.put, List.getElem_toArray, List.getElem_cons_succ, List.getElem_cons_zero, List.setIfInBounds_toArray, List.set_cons_zero, List.set_cons_succ]
  refine wpAnyH_ready (rs := [3]) (by kernel_rfl) (by simp) ?_
  refine AllReadyH.cons rfl (fun KK hK => ?_) AllReadyH.nil
  simp only [List.getElem_toArray, List.getElem_cons_succ, List.getElem_cons_zero]
  rw [if_pos (by rfl)]
  refine wps1 42 (.tmp 17) _ rfl in_drawMode_w (.pointer (some ⟨g, 0, none⟩)) rfl (drawMode_any g _ _ cu) ?_
  rintro e w11 ⟨md, rfl, hm1, hm2, hd⟩
  refine ⟨_, rfl, ?_⟩
  have kk := hd.2
  replace K := Kept.newer' K kk (by omega)
  replace cu := hd.1
  replace qf0 := Kept.looseOut' kk (by dsimp only; omega) (World.block_lt_of_cell? _ _ q0) qf0
  replace qf1 := Kept.looseOut' kk (by dsimp only; omega) (World.block_lt_of_cell? _ _ q1) qf1
  replace qf2 := Kept.looseOut' kk (by dsimp only; omega) (World.block_lt_of_cell? _ _ q2) qf2
  replace qf3 := Kept.looseOut' kk (by dsimp only; omega) (World.block_lt_of_cell? _ _ q3) qf3
  replace uf0 := Kept.looseOut' kk (by dsimp only; omega) (World.block_lt_of_cell? _ _ u0) uf0
  replace uf1 := Kept.looseOut' kk (by dsimp only; omega) (World.block_lt_of_cell? _ _ u1) uf1
  replace uf2 := Kept.looseOut' kk (by dsimp only; omega) (World.block_lt_of_cell? _ _ u2) uf2
  replace uf3 := Kept.looseOut' kk (by dsimp only; omega) (World.block_lt_of_cell? _ _ u3) uf3
  replace q0 := Kept.cellOut kk (by dsimp only; omega) q0
  replace q1 := Kept.cellOut kk (by dsimp only; omega) q1
  replace q2 := Kept.cellOut kk (by dsimp only; omega) q2
  replace q3 := Kept.cellOut kk (by dsimp only; omega) q3
  replace u0 := Kept.cellOut kk (by dsimp only; omega) u0
  replace u1 := Kept.cellOut kk (by dsimp only; omega) u1
  replace u2 := Kept.cellOut kk (by dsimp only; omega) u2
  replace u3 := Kept.cellOut kk (by dsimp only; omega) u3
  replace y0 := Kept.cellOut kk (by dsimp only; omega) y0
  replace y1 := Kept.cellOut kk (by dsimp only; omega) y1
  replace y2 := Kept.cellOut kk (by dsimp only; omega) y2
  replace y3 := Kept.cellOut kk (by dsimp only; omega) y3
  replace x0 := Kept.cellOut kk (by dsimp only; omega) x0
  replace x1 := Kept.cellOut kk (by dsimp only; omega) x1
  replace x2 := Kept.cellOut kk (by dsimp only; omega) x2
  replace x3 := Kept.cellOut kk (by dsimp only; omega) x3
  have z12 := kk.size
  clear kk hd
  clear hHeld
  refine hK.out _ _ ?_ (fun hHeld => ?_)
  · exact ⟨y0, y1, y2, y3, x0, x1, x2, x3⟩
  clear hK KK
  try simp only [Act.put, List.getElem_toArray, List.getElem_cons_succ, List.getElem_cons_zero, List.setIfInBounds_toArray, List.set_cons_zero, List.set_cons_succ]
  refine wpAnyH_ready (rs := [4]) (by kernel_rfl) (by simp) ?_
  refine AllReadyH.cons rfl (fun KK hK => ?_) AllReadyH.nil
  simp only [List.getElem_toArray, List.getElem_cons_succ, List.getElem_cons_zero]
  rw [if_pos (by rfl)]
  go_simp
  replace K := K.setNew (p := ⟨w.heap.size, 0, none⟩) (by dsimp only; omega) (.int .i64 fk)
  replace q0 : (w11.setCell ⟨w.heap.size, 0, none⟩ (.int .i64 fk)).cell? ⟨w.heap.size, 0, none⟩ = some (.int .i64 fk) := cell_on _ _ _ _ _ q0
  replace q1 := cell_off _ _ _ 0 (.int .i64 fk) _ q1 (by decide)
  replace q2 := cell_off _ _ _ 0 (.int .i64 fk) _ q2 (by decide)
  replace q3 := cell_off _ _ _ 0 (.int .i64 fk) _ q3 (by decide)
  replace u0 := cell_aside (.int .i64 fk) (r := ⟨w.heap.size, 0, none⟩) (by dsimp only; omega) u0
  replace u1 := cell_aside (.int .i64 fk) (r := ⟨w.heap.size, 0, none⟩) (by dsimp only; omega) u1
  replace u2 := cell_aside (.int .i64 fk) (r := ⟨w.heap.size, 0, none⟩) (by dsimp only; omega) u2
  replace u3 := cell_aside (.int .i64 fk) (r := ⟨w.heap.size, 0, none⟩) (by dsimp only; omega) u3
  replace y0 := cell_aside (.int .i64 fk) (r := ⟨w.heap.size, 0, none⟩) (by dsimp only; omega) y0
  replace y1 := cell_aside (.int .i64 fk) (r := ⟨w.heap.size, 0, none⟩) (by dsimp only; omega) y1
  replace y2 := cell_aside (.int .i64 fk) (r := ⟨w.heap.size, 0, none⟩) (by dsimp only; omega) y2
  replace y3 := cell_aside (.int .i64 fk) (r := ⟨w.heap.size, 0, none⟩) (by dsimp only; omega) y3
  replace x0 := cell_aside (.int .i64 fk) (r := ⟨w.heap.size, 0, none⟩) (by dsimp only; omega) x0
  replace x1 := cell_aside (.int .i64 fk) (r := ⟨w.heap.size, 0, none⟩) (by dsimp only; omega) x1
  replace x2 := cell_aside (.int .i64 fk) (r := ⟨w.heap.size, 0, none⟩) (by dsimp only; omega) x2
  replace x3 := cell_aside (.int .i64 fk) (r := ⟨w.heap.size, 0, none⟩) (by dsimp only; omega) x3
  replace qf0 : (w11.setCell ⟨w.heap.size, 0, none⟩ (.int .i64 fk)).frozen? _ = false := (frozen_set _ _ _ _ _).trans qf0
  replace qf1 : (w11.setCell ⟨w.heap.size, 0, none⟩ (.int .i64 fk)).frozen? _ = false := (frozen_set _ _ _ _ _).trans qf1
  replace qf2 : (w11.setCell ⟨w.heap.size, 0, none⟩ (.int .i64 fk)).frozen? _ = false := (frozen_set _ _ _ _ _).trans qf2
  replace qf3 : (w11.setCell ⟨w.heap.size, 0, none⟩ (.int .i64 fk)).frozen? _ = false := (frozen_set _ _ _ _ _).trans qf3
  replace uf0 : (w11.setCell ⟨w.heap.size, 0, none⟩ (.int .i64 fk)).frozen? _ = false := (frozen_set _ _ _ _ _).trans uf0
  replace uf1 : (w11.setCell ⟨w.heap.size, 0, none⟩ (.int .i64 fk)).frozen? _ = false := (frozen_set _ _ _ _ _).trans uf1
  replace uf2 : (w11.setCell ⟨w.heap.size, 0, none⟩ (.int .i64 fk)).frozen? _ = false := (frozen_set _ _ _ _ _).trans uf2
  replace uf3 : (w11.setCell ⟨w.heap.size, 0, none⟩ (.int .i64 fk)).frozen? _ = false := (frozen_set _ _ _ _ _).trans uf3
  replace K := K.setNew (p := ⟨w.heap.size, 1, none⟩) (by dsimp only; omega) (.bool fn)
  replace q0 := cell_off _ _ _ 1 (.bool fn) _ q0 (by decide)
  replace q1 : ((w11.setCell ⟨w.heap.size, 0, none⟩ (.int .i64 fk)).setCell ⟨w.heap.size, 1, none⟩ (.bool fn)).cell? ⟨w.heap.size, 1, none⟩ = some (.bool fn) := cell_on _ _ _ _ _ q1
  replace q2 := cell_off _ _ _ 1 (.bool fn) _ q2 (by decide)
  replace q3 := cell_off _ _ _ 1 (.bool fn) _ q3 (by decide)
  replace u0 := cell_aside (.bool fn) (r := ⟨w.heap.size, 1, none⟩) (by dsimp only; omega) u0
  replace u1 := cell_aside (.bool fn) (r := ⟨w.heap.size, 1, none⟩) (by dsimp only; omega) u1
  replace u2 := cell_aside (.bool fn) (r := ⟨w.heap.size, 1, none⟩) (by dsimp only; omega) u2
  replace u3 := cell_aside (.bool fn) (r := ⟨w.heap.size, 1, none⟩) (by dsimp only; omega) u3
  replace y0 := cell_aside (.bool fn) (r := ⟨w.heap.size, 1, none⟩) (by dsimp only; omega) y0
  replace y1 := cell_aside (.bool fn) (r := ⟨w.heap.size, 1, none⟩) (by dsimp only; omega) y1
  replace y2 := cell_aside (.bool fn) (r := ⟨w.heap.size, 1, none⟩) (by dsimp only; omega) y2
  replace y3 := cell_aside (.bool fn) (r := ⟨w.heap.size, 1, none⟩) (by dsimp only; omega) y3
  replace x0 := cell_aside (.bool fn) (r := ⟨w.heap.size, 1, none⟩) (by dsimp only; omega) x0
  replace x1 := cell_aside (.bool fn) (r := ⟨w.heap.size, 1, none⟩) (by dsimp only; omega) x1
  replace x2 := cell_aside (.bool fn) (r := ⟨w.heap.size, 1, none⟩) (by dsimp only; omega) x2
  replace x3 := cell_aside (.bool fn) (r := ⟨w.heap.size, 1, none⟩) (by dsimp only; omega) x3
  replace qf0 : ((w11.setCell ⟨w.heap.size, 0, none⟩ (.int .i64 fk)).setCell ⟨w.heap.size, 1, none⟩ (.bool fn)).frozen? _ = false := (frozen_set _ _ _ _ _).trans qf0
  replace qf1 : ((w11.setCell ⟨w.heap.size, 0, none⟩ (.int .i64 fk)).setCell ⟨w.heap.size, 1, none⟩ (.bool fn)).frozen? _ = false := (frozen_set _ _ _ _ _).trans qf1
  replace qf2 : ((w11.setCell ⟨w.heap.size, 0, none⟩ (.int .i64 fk)).setCell ⟨w.heap.size, 1, none⟩ (.bool fn)).frozen? _ = false := (frozen_set _ _ _ _ _).trans qf2
  replace qf3 : ((w11.setCell ⟨w.heap.size, 0, none⟩ (.int .i64 fk)).setCell ⟨w.heap.size, 1, none⟩ (.bool fn)).frozen? _ = false := (frozen_set _ _ _ _ _).trans qf3
  replace uf0 : ((w11.setCell ⟨w.heap.size, 0, none⟩ (.int .i64 fk)).setCell ⟨w.heap.size, 1, none⟩ (.bool fn)).frozen? _ = false := (frozen_set _ _ _ _ _).trans uf0
  replace uf1 : ((w11.setCell ⟨w.heap.size, 0, none⟩ (.int .i64 fk)).setCell ⟨w.heap.size, 1, none⟩ (.bool fn)).frozen? _ = false := (frozen_set _ _ _ _ _).trans uf1
  replace uf2 : ((w11.setCell ⟨w.heap.size, 0, none⟩ (.int .i64 fk)).setCell ⟨w.heap.size, 1, none⟩ (.bool fn)).frozen? _ = false := (frozen_set _ _ _ _ _).trans uf2
  replace uf3 : ((w11.setCell ⟨w.heap.size, 0, none⟩ (.int .i64 fk)).setCell ⟨w.heap.size, 1, none⟩ (.bool fn)).frozen? _ = false := (frozen_set _ _ _ _ _).trans uf3
  replace K := K.setNew (p := ⟨w.heap.size, 2, none⟩) (by dsimp only; omega) (.int .i64 fm)
  replace q0 := cell_off _ _ _ 2 (.int .i64 fm) _ q0 (by decide)
  replace q1 := cell_off _ _ _ 2 (.int .i64 fm) _ q1 (by decide)
  replace q2 : (((w11.setCell ⟨w.heap.size, 0, none⟩ (.int .i64 fk)).setCell ⟨w.heap.size, 1, none⟩ (.bool fn)).setCell ⟨w.heap.size, 2, none⟩ (.int .i64 fm)).cell? ⟨w.heap.size, 2, none⟩ = some (.int .i64 fm) := cell_on _ _ _ _ _ q2
  replace q3 := cell_off _ _ _ 2 (.int .i64 fm) _ q3 (by decide)
  replace u0 := cell_aside (.int .i64 fm) (r := ⟨w.heap.size, 2, none⟩) (by dsimp only; omega) u0
  replace u1 := cell_aside (.int .i64 fm) (r := ⟨w.heap.size, 2, none⟩) (by dsimp only; omega) u1
  replace u2 := cell_aside (.int .i64 fm) (r := ⟨w.heap.size, 2, none⟩) (by dsimp only; omega) u2
  replace u3 := cell_aside (.int .i64 fm) (r := ⟨w.heap.size, 2, none⟩) (by dsimp only; omega) u3
  replace y0 := cell_aside (.int .i64 fm) (r := ⟨w.heap.size, 2, none⟩) (by dsimp only; omega) y0
  replace y1 := cell_aside (.int .i64 fm) (r := ⟨w.heap.size, 2, none⟩) (by dsimp only; omega) y1
  replace y2 := cell_aside (.int .i64 fm) (r := ⟨w.heap.size, 2, none⟩) (by dsimp only; omega) y2
  replace y3 := cell_aside (.int .i64 fm) (r := ⟨w.heap.size, 2, none⟩) (by dsimp only; omega) y3
  replace x0 := cell_aside (.int .i64 fm) (r := ⟨w.heap.size, 2, none⟩) (by dsimp only; omega) x0
  replace x1 := cell_aside (.int .i64 fm) (r := ⟨w.heap.size, 2, none⟩) (by dsimp only; omega) x1
  replace x2 := cell_aside (.int .i64 fm) (r := ⟨w.heap.size, 2, none⟩) (by dsimp only; omega) x2
  replace x3 := cell_aside (.int .i64 fm) (r := ⟨w.heap.size, 2, none⟩) (by dsimp only; omega) x3
  replace qf0 : (((w11.setCell ⟨w.heap.size, 0, none⟩ (.int .i64 fk)).setCell ⟨w.heap.size, 1, none⟩ (.bool fn)).setCell ⟨w.heap.size, 2, none⟩ (.int .i64 fm)).frozen? _ = false := (frozen_set _ _ _ _ _).trans qf0
  replace qf1 : (((w11.setCell ⟨w.heap.size, 0, none⟩ (.int .i64 fk)).setCell ⟨w.heap.size, 1, none⟩ (.bool fn)).setCell ⟨w.heap.size, 2, none⟩ (.int .i64 fm)).frozen? _ = false := (frozen_set _ _ _ _ _).trans qf1
  replace qf2 : (((w11.setCell ⟨w.heap.size, 0, none⟩ (.int .i64 fk)).setCell ⟨w.heap.size, 1, none⟩ (.bool fn)).setCell ⟨w.heap.size, 2, none⟩ (.int .i64 fm)).frozen? _ = false := (frozen_set _ _ _ _ _).trans qf2
  replace qf3 : (((w11.setCell ⟨w.heap.size, 0, none⟩ (.int .i64 fk)).setCell ⟨w.heap.size, 1, none⟩ (.bool fn)).setCell ⟨w.heap.size, 2, none⟩ (.int .i64 fm)).frozen? _ = false := (frozen_set _ _ _ _ _).trans qf3
  replace uf0 : (((w11.setCell ⟨w.heap.size, 0, none⟩ (.int .i64 fk)).setCell ⟨w.heap.size, 1, none⟩ (.bool fn)).setCell ⟨w.heap.size, 2, none⟩ (.int .i64 fm)).frozen? _ = false := (frozen_set _ _ _ _ _).trans uf0
  replace uf1 : (((w11.setCell ⟨w.heap.size, 0, none⟩ (.int .i64 fk)).setCell ⟨w.heap.size, 1, none⟩ (.bool fn)).setCell ⟨w.heap.size, 2, none⟩ (.int .i64 fm)).frozen? _ = false := (frozen_set _ _ _ _ _).trans uf1
  replace uf2 : (((w11.setCell ⟨w.heap.size, 0, none⟩ (.int .i64 fk)).setCell ⟨w.heap.size, 1, none⟩ (.bool fn)).setCell ⟨w.heap.size, 2, none⟩ (.int .i64 fm)).frozen? _ = false := (frozen_set _ _ _ _ _).trans uf2
  replace uf3 : (((w11.setCell ⟨w.heap.size, 0, none⟩ (.int .i64 fk)).setCell ⟨w.heap.size, 1, none⟩ (.bool fn)).setCell ⟨w.heap.size, 2, none⟩ (.int .i64 fm)).frozen? _ = false := (frozen_set _ _ _ _ _).trans uf3
  replace K := K.setNew (p := ⟨w.heap.size, 3, none⟩) (by dsimp only; omega) (.int .i64 fe)
  replace q0 := cell_off _ _ _ 3 (.int .i64 fe) _ q0 (by decide)
  replace q1 := cell_off _ _ _ 3 (.int .i64 fe) _ q1 (by decide)
  replace q2 := cell_off _ _ _ 3 (.int .i64 fe) _ q2 (by decide)
  replace q3 : ((((w11.setCell ⟨w.heap.size, 0, none⟩ (.int .i64 fk)).setCell ⟨w.heap.size, 1, none⟩ (.bool fn)).setCell ⟨w.heap.size, 2, none⟩ (.int .i64 fm)).setCell ⟨w.heap.size, 3, none⟩ (.int .i64 fe)).cell? ⟨w.heap.size, 3, none⟩ = some (.int .i64 fe) := cell_on _ _ _ _ _ q3
  replace u0 := cell_aside (.int .i64 fe) (r := ⟨w.heap.size, 3, none⟩) (by dsimp only; omega) u0
  replace u1 := cell_aside (.int .i64 fe) (r := ⟨w.heap.size, 3, none⟩) (by dsimp only; omega) u1
  replace u2 := cell_aside (.int .i64 fe) (r := ⟨w.heap.size, 3, none⟩) (by dsimp only; omega) u2
  replace u3 := cell_aside (.int .i64 fe) (r := ⟨w.heap.size, 3, none⟩) (by dsimp only; omega) u3
  replace y0 := cell_aside (.int .i64 fe) (r := ⟨w.heap.size, 3, none⟩) (by dsimp only; omega) y0
  replace y1 := cell_aside (.int .i64 fe) (r := ⟨w.heap.size, 3, none⟩) (by dsimp only; omega) y1
  replace y2 := cell_aside (.int .i64 fe) (r := ⟨w.heap.size, 3, none⟩) (by dsimp only; omega) y2
  replace y3 := cell_aside (.int .i64 fe) (r := ⟨w.heap.size, 3, none⟩) (by dsimp only; omega) y3
  replace x0 := cell_aside (.int .i64 fe) (r := ⟨w.heap.size, 3, none⟩) (by dsimp only; omega) x0
  replace x1 := cell_aside (.int .i64 fe) (r := ⟨w.heap.size, 3, none⟩) (by dsimp only; omega) x1
  replace x2 := cell_aside (.int .i64 fe) (r := ⟨w.heap.size, 3, none⟩) (by dsimp only; omega) x2
  replace x3 := cell_aside (.int .i64 fe) (r := ⟨w.heap.size, 3, none⟩) (by dsimp only; omega) x3
  replace qf0 : ((((w11.setCell ⟨w.heap.size, 0, none⟩ (.int .i64 fk)).setCell ⟨w.heap.size, 1, none⟩ (.bool fn)).setCell ⟨w.heap.size, 2, none⟩ (.int .i64 fm)).setCell ⟨w.heap.size, 3, none⟩ (.int .i64 fe)).frozen? _ = false := (frozen_set _ _ _ _ _).trans qf0
  replace qf1 : ((((w11.setCell ⟨w.heap.size, 0, none⟩ (.int .i64 fk)).setCell ⟨w.heap.size, 1, none⟩ (.bool fn)).setCell ⟨w.heap.size, 2, none⟩ (.int .i64 fm)).setCell ⟨w.heap.size, 3, none⟩ (.int .i64 fe)).frozen? _ = false := (frozen_set _ _ _ _ _).trans qf1
  replace qf2 : ((((w11.setCell ⟨w.heap.size, 0, none⟩ (.int .i64 fk)).setCell ⟨w.heap.size, 1, none⟩ (.bool fn)).setCell ⟨w.heap.size, 2, none⟩ (.int .i64 fm)).setCell ⟨w.heap.size, 3, none⟩ (.int .i64 fe)).frozen? _ = false := (frozen_set _ _ _ _ _).trans qf2
  replace qf3 : ((((w11.setCell ⟨w.heap.size, 0, none⟩ (.int .i64 fk)).setCell ⟨w.heap.size, 1, none⟩ (.bool fn)).setCell ⟨w.heap.size, 2, none⟩ (.int .i64 fm)).setCell ⟨w.heap.size, 3, none⟩ (.int .i64 fe)).frozen? _ = false := (frozen_set _ _ _ _ _).trans qf3
  replace uf0 : ((((w11.setCell ⟨w.heap.size, 0, none⟩ (.int .i64 fk)).setCell ⟨w.heap.size, 1, none⟩ (.bool fn)).setCell ⟨w.heap.size, 2, none⟩ (.int .i64 fm)).setCell ⟨w.heap.size, 3, none⟩ (.int .i64 fe)).frozen? _ = false := (frozen_set _ _ _ _ _).trans uf0
  replace uf1 : ((((w11.setCell ⟨w.heap.size, 0, none⟩ (.int .i64 fk)).setCell ⟨w.heap.size, 1, none⟩ (.bool fn)).setCell ⟨w.heap.size, 2, none⟩ (.int .i64 fm)).setCell ⟨w.heap.size, 3, none⟩ (.int .i64 fe)).frozen? _ = false := (frozen_set _ _ _ _ _).trans uf1
  replace uf2 : ((((w11.setCell ⟨w.heap.size, 0, none⟩ (.int .i64 fk)).setCell ⟨w.heap.size, 1, none⟩ (.bool fn)).setCell ⟨w.heap.size, 2, none⟩ (.int .i64 fm)).setCell ⟨w.heap.size, 3, none⟩ (.int .i64 fe)).frozen? _ = false := (frozen_set _ _ _ _ _).trans uf2
  replace uf3 : ((((w11.setCell ⟨w.heap.size, 0, none⟩ (.int .i64 fk)).setCell ⟨w.heap.size, 1, none⟩ (.bool fn)).setCell ⟨w.heap.size, 2, none⟩ (.int .i64 fm)).setCell ⟨w.heap.size, 3, none⟩ (.int .i64 fe)).frozen? _ = false := (frozen_set _ _ _ _ _).trans uf3
  generalize ((((w11.setCell ⟨w.heap.size, 0, none⟩ (.int .i64 fk)).setCell ⟨w.heap.size, 1, none⟩ (.bool fn)).setCell ⟨w.heap.size, 2, none⟩ (.int .i64 fm)).setCell ⟨w.heap.size, 3, none⟩ (.int .i64 fe)) = w13 at *
  clear hHeld
  refine hK.out _ _ ?_ (fun hHeld => ?_)
  · exact ⟨y0, y1, y2, y3, x0, x1, x2, x3⟩
  clear hK KK
  try simp only [Act.put, List.getElem_toArray, List.getElem_cons_succ, List.getElem_cons_zero, List.setIfInBounds_toArray, List.set_cons_zero, List.set_cons_succ]
  refine wpAnyH_ready (rs := [5]) (by kernel_rfl) (by simp) ?_
  refine AllReadyH.cons rfl (fun KK hK => ?_) AllReadyH.nil
  simp only [List.getElem_toArray, List.getElem_cons_succ, List.getElem_cons_zero]
  rw [if_pos (by rfl)]
  go_simp
  replace K := K.setNew (p := ⟨w.heap.size + 1, 0, none⟩) (by dsimp only; omega) (.int .i64 hk)
  replace q0 := cell_aside (.int .i64 hk) (r := ⟨w.heap.size + 1, 0, none⟩) (by dsimp only; omega) q0
  replace q1 := cell_aside (.int .i64 hk) (r := ⟨w.heap.size + 1, 0, none⟩) (by dsimp only; omega) q1
  replace q2 := cell_aside (.int .i64 hk) (r := ⟨w.heap.size + 1, 0, none⟩) (by dsimp only; omega) q2
  replace q3 := cell_aside (.int .i64 hk) (r := ⟨w.heap.size + 1, 0, none⟩) (by dsimp only; omega) q3
  replace u0 : (w13.setCell ⟨w.heap.size + 1, 0, none⟩ (.int .i64 hk)).cell? ⟨w.heap.size + 1, 0, none⟩ = some (.int .i64 hk) := cell_on _ _ _ _ _ u0
  replace u1 := cell_off _ _ _ 0 (.int .i64 hk) _ u1 (by decide)
  replace u2 := cell_off _ _ _ 0 (.int .i64 hk) _ u2 (by decide)
  replace u3 := cell_off _ _ _ 0 (.int .i64 hk) _ u3 (by decide)
  replace y0 := cell_aside (.int .i64 hk) (r := ⟨w.heap.size + 1, 0, none⟩) (by dsimp only; omega) y0
  replace y1 := cell_aside (.int .i64 hk) (r := ⟨w.heap.size + 1, 0, none⟩) (by dsimp only; omega) y1
  replace y2 := cell_aside (.int .i64 hk) (r := ⟨w.heap.size + 1, 0, none⟩) (by dsimp only; omega) y2
  replace y3 := cell_aside (.int .i64 hk) (r := ⟨w.heap.size + 1, 0, none⟩) (by dsimp only; omega) y3
  replace x0 := cell_aside (.int .i64 hk) (r := ⟨w.heap.size + 1, 0, none⟩) (by dsimp only; omega) x0
  replace x1 := cell_aside (.int .i64 hk) (r := ⟨w.heap.size + 1, 0, none⟩) (by dsimp only; omega) x1
  replace x2 := cell_aside (.int .i64 hk) (r := ⟨w.heap.size + 1, 0, none⟩) (by dsimp only; omega) x2
  replace x3 := cell_aside (.int .i64 hk) (r := ⟨w.heap.size + 1, 0, none⟩) (by dsimp only; omega) x3
  replace qf0 : (w13.setCell ⟨w.heap.size + 1, 0, none⟩ (.int .i64 hk)).frozen? _ = false := (frozen_set _ _ _ _ _).trans qf0
  replace qf1 : (w13.setCell ⟨w.heap.size + 1, 0, none⟩ (.int .i64 hk)).frozen? _ = false := (frozen_set _ _ _ _ _).trans qf1
  replace qf2 : (w13.setCell ⟨w.heap.size + 1, 0, none⟩ (.int .i64 hk)).frozen? _ = false := (frozen_set _ _ _ _ _).trans qf2
  replace qf3 : (w13.setCell ⟨w.heap.size + 1, 0, none⟩ (.int .i64 hk)).frozen? _ = false := (frozen_set _ _ _ _ _).trans qf3
  replace uf0 : (w13.setCell ⟨w.heap.size + 1, 0, none⟩ (.int .i64 hk)).frozen? _ = false := (frozen_set _ _ _ _ _).trans uf0
  replace uf1 : (w13.setCell ⟨w.heap.size + 1, 0, none⟩ (.int .i64 hk)).frozen? _ = false := (frozen_set _ _ _ _ _).trans uf1
  replace uf2 : (w13.setCell ⟨w.heap.size + 1, 0, none⟩ (.int .i64 hk)).frozen? _ = false := (frozen_set _ _ _ _ _).trans uf2
  replace uf3 : (w13.setCell ⟨w.heap.size + 1, 0, none⟩ (.int .i64 hk)).frozen? _ = false := (frozen_set _ _ _ _ _).trans uf3
  replace K := K.setNew (p := ⟨w.heap.size + 1, 1, none⟩) (by dsimp only; omega) (.bool hn)
  replace q0 := cell_aside (.bool hn) (r := ⟨w.heap.size + 1, 1, none⟩) (by dsimp only; omega) q0
  replace q1 := cell_aside (.bool hn) (r := ⟨w.heap.size + 1, 1, none⟩) (by dsimp only; omega) q1
  replace q2 := cell_aside (.bool hn) (r := ⟨w.heap.size + 1, 1, none⟩) (by dsimp only; omega) q2
  replace q3 := cell_aside (.bool hn) (r := ⟨w.heap.size + 1, 1, none⟩) (by dsimp only; omega) q3
  replace u0 := cell_off _ _ _ 1 (.bool hn) _ u0 (by decide)
  replace u1 : ((w13.setCell ⟨w.heap.size + 1, 0, none⟩ (.int .i64 hk)).setCell ⟨w.heap.size + 1, 1, none⟩ (.bool hn)).cell? ⟨w.heap.size + 1, 1, none⟩ = some (.bool hn) := cell_on _ _ _ _ _ u1
  replace u2 := cell_off _ _ _ 1 (.bool hn) _ u2 (by decide)
  replace u3 := cell_off _ _ _ 1 (.bool hn) _ u3 (by decide)
  replace y0 := cell_aside (.bool hn) (r := ⟨w.heap.size + 1, 1, none⟩) (by dsimp only; omega) y0
  replace y1 := cell_aside (.bool hn) (r := ⟨w.heap.size + 1, 1, none⟩) (by dsimp only; omega) y1
  replace y2 := cell_aside (.bool hn) (r := ⟨w.heap.size + 1, 1, none⟩) (by dsimp only; omega) y2
  replace y3 := cell_aside (.bool hn) (r := ⟨w.heap.size + 1, 1, none⟩) (by dsimp only; omega) y3
  replace x0 := cell_aside (.bool hn) (r := ⟨w.heap.size + 1, 1, none⟩) (by dsimp only; omega) x0
  replace x1 := cell_aside (.bool hn) (r := ⟨w.heap.size + 1, 1, none⟩) (by dsimp only; omega) x1
  replace x2 := cell_aside (.bool hn) (r := ⟨w.heap.size + 1, 1, none⟩) (by dsimp only; omega) x2
  replace x3 := cell_aside (.bool hn) (r := ⟨w.heap.size + 1, 1, none⟩) (by dsimp only; omega) x3
  replace qf0 : ((w13.setCell ⟨w.heap.size + 1, 0, none⟩ (.int .i64 hk)).setCell ⟨w.heap.size + 1, 1, none⟩ (.bool hn)).frozen? _ = false := (frozen_set _ _ _ _ _).trans qf0
  replace qf1 : ((w13.setCell ⟨w.heap.size + 1, 0, none⟩ (.int .i64 hk)).setCell ⟨w.heap.size + 1, 1, none⟩ (.bool hn)).frozen? _ = false := (frozen_set _ _ _ _ _).trans qf1
  replace qf2 : ((w13.setCell ⟨w.heap.size + 1, 0, none⟩ (.int .i64 hk)).setCell ⟨w.heap.size + 1, 1, none⟩ (.bool hn)).frozen? _ = false := (frozen_set _ _ _ _ _).trans qf2
  replace qf3 : ((w13.setCell ⟨w.heap.size + 1, 0, none⟩ (.int .i64 hk)).setCell ⟨w.heap.size + 1, 1, none⟩ (.bool hn)).frozen? _ = false := (frozen_set _ _ _ _ _).trans qf3
  replace uf0 : ((w13.setCell ⟨w.heap.size + 1, 0, none⟩ (.int .i64 hk)).setCell ⟨w.heap.size + 1, 1, none⟩ (.bool hn)).frozen? _ = false := (frozen_set _ _ _ _ _).trans uf0
  replace uf1 : ((w13.setCell ⟨w.heap.size + 1, 0, none⟩ (.int .i64 hk)).setCell ⟨w.heap.size + 1, 1, none⟩ (.bool hn)).frozen? _ = false := (frozen_set _ _ _ _ _).trans uf1
  replace uf2 : ((w13.setCell ⟨w.heap.size + 1, 0, none⟩ (.int .i64 hk)).setCell ⟨w.heap.size + 1, 1, none⟩ (.bool hn)).frozen? _ = false := (frozen_set _ _ _ _ _).trans uf2
  replace uf3 : ((w13.setCell ⟨w.heap.size + 1, 0, none⟩ (.int .i64 hk)).setCell ⟨w.heap.size + 1, 1, none⟩ (.bool hn)).frozen? _ = false := (frozen_set _ _ _ _ _).trans uf3
  replace K := K.setNew (p := ⟨w.heap.size + 1, 2, none⟩) (by dsimp only; omega) (.int .i64 hm)
  replace q0 := cell_aside (.int .i64 hm) (r := ⟨w.heap.size + 1, 2, none⟩) (by dsimp only; omega) q0
  replace q1 := cell_aside (.int .i64 hm) (r := ⟨w.heap.size + 1, 2, none⟩) (by dsimp only; omega) q1
  replace q2 := cell_aside (.int .i64 hm) (r := ⟨w.heap.size + 1, 2, none⟩) (by dsimp only; omega) q2
  replace q3 := cell_aside (.int .i64 hm) (r := ⟨w.heap.size + 1, 2, none⟩) (by dsimp only; omega) q3
  replace u0 := cell_off _ _ _ 2 (.int .i64 hm) _ u0 (by decide)
  replace u1 := cell_off _ _ _ 2 (.int .i64 hm) _ u1 (by decide)
  replace u2 : (((w13.setCell ⟨w.heap.size + 1, 0, none⟩ (.int .i64 hk)).setCell ⟨w.heap.size + 1, 1, none⟩ (.bool hn)).setCell ⟨w.heap.size + 1, 2, none⟩ (.int .i64 hm)).cell? ⟨w.heap.size + 1, 2, none⟩ = some (.int .i64 hm) := cell_on _ _ _ _ _ u2
  replace u3 := cell_off _ _ _ 2 (.int .i64 hm) _ u3 (by decide)
  replace y0 := cell_aside (.int .i64 hm) (r := ⟨w.heap.size + 1, 2, none⟩) (by dsimp only; omega) y0
  replace y1 := cell_aside (.int .i64 hm) (r := ⟨w.heap.size + 1, 2, none⟩) (by dsimp only; omega) y1
  replace y2 := cell_aside (.int .i64 hm) (r := ⟨w.heap.size + 1, 2, none⟩) (by dsimp only; omega) y2
  replace y3 := cell_aside (.int .i64 hm) (r := ⟨w.heap.size + 1, 2, none⟩) (by dsimp only; omega) y3
  replace x0 := cell_aside (.int .i64 hm) (r := ⟨w.heap.size + 1, 2, none⟩) (by dsimp only; omega) x0
  replace x1 := cell_aside (.int .i64 hm) (r := ⟨w.heap.size + 1, 2, none⟩) (by dsimp only; omega) x1
  replace x2 := cell_aside (.int .i64 hm) (r := ⟨w.heap.size + 1, 2, none⟩) (by dsimp only; omega) x2
  replace x3 := cell_aside (.int .i64 hm) (r := ⟨w.heap.size + 1, 2, none⟩) (by dsimp only; omega) x3
  replace qf0 : (((w13.setCell ⟨w.heap.size + 1, 0, none⟩ (.int .i64 hk)).setCell ⟨w.heap.size + 1, 1, none⟩ (.bool hn)).setCell ⟨w.heap.size + 1, 2, none⟩ (.int .i64 hm)).frozen? _ = false := (frozen_set _ _ _ _ _).trans qf0
  replace qf1 : (((w13.setCell ⟨w.heap.size + 1, 0, none⟩ (.int .i64 hk)).setCell ⟨w.heap.size + 1, 1, none⟩ (.bool hn)).setCell ⟨w.heap.size + 1, 2, none⟩ (.int .i64 hm)).frozen? _ = false := (frozen_set _ _ _ _ _).trans qf1
  replace qf2 : (((w13.setCell ⟨w.heap.size + 1, 0, none⟩ (.int .i64 hk)).setCell ⟨w.heap.size + 1, 1, none⟩ (.bool hn)).setCell ⟨w.heap.size + 1, 2, none⟩ (.int .i64 hm)).frozen? _ = false := (frozen_set _ _ _ _ _).trans qf2
  replace qf3 : (((w13.setCell ⟨w.heap.size + 1, 0, none⟩ (.int .i64 hk)).setCell ⟨w.heap.size + 1, 1, none⟩ (.bool hn)).setCell ⟨w.heap.size + 1, 2, none⟩ (.int .i64 hm)).frozen? _ = false := (frozen_set _ _ _ _ _).trans qf3
  replace uf0 : (((w13.setCell ⟨w.heap.size + 1, 0, none⟩ (.int .i64 hk)).setCell ⟨w.heap.size + 1, 1, none⟩ (.bool hn)).setCell ⟨w.heap.size + 1, 2, none⟩ (.int .i64 hm)).frozen? _ = false := (frozen_set _ _ _ _ _).trans uf0
  replace uf1 : (((w13.setCell ⟨w.heap.size + 1, 0, none⟩ (.int .i64 hk)).setCell ⟨w.heap.size + 1, 1, none⟩ (.bool hn)).setCell ⟨w.heap.size + 1, 2, none⟩ (.int .i64 hm)).frozen? _ = false := (frozen_set _ _ _ _ _).trans uf1
  replace uf2 : (((w13.setCell ⟨w.heap.size + 1, 0, none⟩ (.int .i64 hk)).setCell ⟨w.heap.size + 1, 1, none⟩ (.bool hn)).setCell ⟨w.heap.size + 1, 2, none⟩ (.int .i64 hm)).frozen? _ = false := (frozen_set _ _ _ _ _).trans uf2
  replace uf3 : (((w13.setCell ⟨w.heap.size + 1, 0, none⟩ (.int .i64 hk)).setCell ⟨w.heap.size + 1, 1, none⟩ (.bool hn)).setCell ⟨w.heap.size + 1, 2, none⟩ (.int .i64 hm)).frozen? _ = false := (frozen_set _ _ _ _ _).trans uf3
  replace K := K.setNew (p := ⟨w.heap.size + 1, 3, none⟩) (by dsimp only; omega) (.int .i64 he)
  replace q0 := cell_aside (.int .i64 he) (r := ⟨w.heap.size + 1, 3, none⟩) (by dsimp only; omega) q0
  replace q1 := cell_aside (.int .i64 he) (r := ⟨w.heap.size + 1, 3, none⟩) (by dsimp only; omega) q1
  replace q2 := cell_aside (.int .i64 he) (r := ⟨w.heap.size + 1, 3, none⟩) (by dsimp only; omega) q2
  replace q3 := cell_aside (.int .i64 he) (r := ⟨w.heap.size + 1, 3, none⟩) (by dsimp only; omega) q3
  replace u0 := cell_off _ _ _ 3 (.int .i64 he) _ u0 (by decide)
  replace u1 := cell_off _ _ _ 3 (.int .i64 he) _ u1 (by decide)
  replace u2 := cell_off _ _ _ 3 (.int .i64 he) _ u2 (by decide)
  replace u3 : ((((w13.setCell ⟨w.heap.size + 1, 0, none⟩ (.int .i64 hk)).setCell ⟨w.heap.size + 1, 1, none⟩ (.bool hn)).setCell ⟨w.heap.size + 1, 2, none⟩ (.int .i64 hm)).setCell ⟨w.heap.size + 1, 3, none⟩ (.int .i64 he)).cell? ⟨w.heap.size + 1, 3, none⟩ = some (.int .i64 he) := cell_on _ _ _ _ _ u3
  replace y0 := cell_aside (.int .i64 he) (r := ⟨w.heap.size + 1, 3, none⟩) (by dsimp only; omega) y0
  replace y1 := cell_aside (.int .i64 he) (r := ⟨w.heap.size + 1, 3, none⟩) (by dsimp only; omega) y1
  replace y2 := cell_aside (.int .i64 he) (r := ⟨w.heap.size + 1, 3, none⟩) (by dsimp only; omega) y2
  replace y3 := cell_aside (.int .i64 he) (r := ⟨w.heap.size + 1, 3, none⟩) (by dsimp only; omega) y3
  replace x0 := cell_aside (.int .i64 he) (r := ⟨w.heap.size + 1, 3, none⟩) (by dsimp only; omega) x0
  replace x1 := cell_aside (.int .i64 he) (r := ⟨w.heap.size + 1, 3, none⟩) (by dsimp only; omega) x1
  replace x2 := cell_aside (.int .i64 he) (r := ⟨w.heap.size + 1, 3, none⟩) (by dsimp only; omega) x2
  replace x3 := cell_aside (.int .i64 he) (r := ⟨w.heap.size + 1, 3, none⟩) (by dsimp only; omega) x3
  replace qf0 : ((((w13.setCell ⟨w.heap.size + 1, 0, none⟩ (.int .i64 hk)).setCell ⟨w.heap.size + 1, 1, none⟩ (.bool hn)).setCell ⟨w.heap.size + 1, 2, none⟩ (.int .i64 hm)).setCell ⟨w.heap.size + 1, 3, none⟩ (.int .i64 he)).frozen? _ = false := (frozen_set _ _ _ _ _).trans qf0
  replace qf1 : ((((w13.setCell ⟨w.heap.size + 1, 0, none⟩ (.int .i64 hk)).setCell ⟨w.heap.size + 1, 1, none⟩ (.bool hn)).setCell ⟨w.heap.size + 1, 2, none⟩ (.int .i64 hm)).setCell ⟨w.heap.size + 1, 3, none⟩ (.int .i64 he)).frozen? _ = false := (frozen_set _ _ _ _ _).trans qf1
  replace qf2 : ((((w13.setCell ⟨w.heap.size + 1, 0, none⟩ (.int .i64 hk)).setCell ⟨w.heap.size + 1, 1, none⟩ (.bool hn)).setCell ⟨w.heap.size + 1, 2, none⟩ (.int .i64 hm)).setCell ⟨w.heap.size + 1, 3, none⟩ (.int .i64 he)).frozen? _ = false := (frozen_set _ _ _ _ _).trans qf2
  replace qf3 : ((((w13.setCell ⟨w.heap.size + 1, 0, none⟩ (.int .i64 hk)).setCell ⟨w.heap.size + 1, 1, none⟩ (.bool hn)).setCell ⟨w.heap.size + 1, 2, none⟩ (.int .i64 hm)).setCell ⟨w.heap.size + 1, 3, none⟩ (.int .i64 he)).frozen? _ = false := (frozen_set _ _ _ _ _).trans qf3
  replace uf0 : ((((w13.setCell ⟨w.heap.size + 1, 0, none⟩ (.int .i64 hk)).setCell ⟨w.heap.size + 1, 1, none⟩ (.bool hn)).setCell ⟨w.heap.size + 1, 2, none⟩ (.int .i64 hm)).setCell ⟨w.heap.size + 1, 3, none⟩ (.int .i64 he)).frozen? _ = false := (frozen_set _ _ _ _ _).trans uf0
  replace uf1 : ((((w13.setCell ⟨w.heap.size + 1, 0, none⟩ (.int .i64 hk)).setCell ⟨w.heap.size + 1, 1, none⟩ (.bool hn)).setCell ⟨w.heap.size + 1, 2, none⟩ (.int .i64 hm)).setCell ⟨w.heap.size + 1, 3, none⟩ (.int .i64 he)).frozen? _ = false := (frozen_set _ _ _ _ _).trans uf1
  replace uf2 : ((((w13.setCell ⟨w.heap.size + 1, 0, none⟩ (.int .i64 hk)).setCell ⟨w.heap.size + 1, 1, none⟩ (.bool hn)).setCell ⟨w.heap.size + 1, 2, none⟩ (.int .i64 hm)).setCell ⟨w.heap.size + 1, 3, none⟩ (.int .i64 he)).frozen? _ = false := (frozen_set _ _ _ _ _).trans uf2
  replace uf3 : ((((w13.setCell ⟨w.heap.size + 1, 0, none⟩ (.int .i64 hk)).setCell ⟨w.heap.size + 1, 1, none⟩ (.bool hn)).setCell ⟨w.heap.size + 1, 2, none⟩ (.int .i64 hm)).setCell ⟨w.heap.size + 1, 3, none⟩ (.int .i64 he)).frozen? _ = false := (frozen_set _ _ _ _ _).trans uf3
  generalize ((((w13.setCell ⟨w.heap.size + 1, 0, none⟩ (.int .i64 hk)).setCell ⟨w.heap.size + 1, 1, none⟩ (.bool hn)).setCell ⟨w.heap.size + 1, 2, none⟩ (.int .i64 hm)).setCell ⟨w.heap.size + 1, 3, none⟩ (.int .i64 he)) = w14 at *
  clear hHeld
  refine hK.out _ _ ?_ (fun hHeld => ?_)
  · exact ⟨y0, y1, y2, y3, x0, x1, x2, x3⟩
  clear hK KK
  try simp only [Act.put, List.getElem_toArray, List.getElem_cons_succ, List.getElem_cons_zero, List.setIfInBounds_toArray, List.set_cons_zero, List.set_cons_succ]
  refine wpAnyH_take (i := 6) (oi := _) (v := .int .i64 md) rfl (by kernel_rfl) (by kernel_rfl) (by kernel_rfl) (fun _ _ _ h => h) (Or.inl ⟨by rfl, ?_⟩) hHeld ?_
  · intro wq hSw
    try dsimp only at hSw
    go_simp
  try simp only [Act.put, List.getElem_toArray, List.getElem_cons_succ, List.getElem_cons_zero, List.setIfInBounds_toArray, List.set_cons_zero, List.set_cons_succ]
  refine wpAnyH_done (by kernel_rfl) ?_ _
  clear hHeld
  have K7 := hide K
  clear K cu
  go_wp2_with fail
  exact bodyPost_ret (v := .tuple #[.agg #[.int .i64 fk, .bool fn, .int .i64 fm, .int .i64 fe], .agg #[.int .i64 hk, .bool hn, .int .i64 hm, .int .i64 he], .int .i64 md]) (by simp [results, Tryz.results9, go_sem, q0, q1, q2, q3, u0, u1, u2, u3]) rfl ⟨_, _, _, _, _, _, _, _, _, rfl, hm1, hm2, unhide K7⟩

end Go.Proofs.YtckaecmkidplhaaGreatDoor

