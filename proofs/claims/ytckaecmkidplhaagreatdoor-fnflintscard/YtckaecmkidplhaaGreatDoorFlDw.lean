/-
  Draws of floats with a mode: they return, whatever is drawn.
-/
import Derived.Test.YtckaecmkidplhaaGreatDoorFl17y
import Derived.Deep.RegionHeld3
import Derived.Deep.DeepCutAuto
namespace Go.Proofs.YtckaecmkidplhaaGreatDoor
open Go.RowKit
set_option linter.unusedVariables false
set_option maxRecDepth 8000
set_option linter.unusedSimpArgs false

theorem Kept.newer' {lo hi : Nat} {a b c : World} (h : Kept 0 0 a b) (k : Kept lo hi b c) (hl : a.heap.size ≤ lo) : Kept 0 0 a c :=
  ⟨k.os.trans h.os, k.tape.trans h.tape, k.output.trans h.output, Nat.le_trans h.size k.size, fun i hi' ho => (k.block i (Nat.lt_of_lt_of_le hi' h.size) (.inl (by omega))).trans (h.block i hi' ho)⟩
theorem Drawn.refl {g lo : Nat} {w : World} (c : Cur g lo w) : Drawn g lo w w := ⟨c, (Kept.refl 0 0 w).any⟩

set_option maxHeartbeats 2000000 in
theorem drawMode_any (g lo : Nat) (w : World) (c : Cur g lo w) :
    Calls Tryz.prog 42 #[.pointer (some ⟨g, 0, none⟩)] w fun e' w' => ∃ x : Int, e' = .returned (.int .i64 x) ∧ -1 ≤ x ∧ x ≤ 5 ∧ Drawn g lo w w' := by
  have D := Drawn.refl c
  clear c
  go_enter Tryz.func42, Tryz.ntmps42
  go_wp2_with fail
  refine (l1Once_any g lo _ D.1 15).mono ?_
  rintro e w1 ⟨b1, rfl, hd⟩
  have kk := hd.kept
  replace D := D.trans hd.drawn
  have z2 := kk.size
  clear kk hd
  cases b1
  · go_wp2_with fail
    refine (l1Below_any g lo _ D.1 5).mono ?_
    rintro e w3 ⟨nb, rfl, -, hbnb, hd⟩
    have kk := hd.kept
    replace D := D.trans hd.drawn
    replace hbnb := hbnb (by decide)
    have z4 := kk.size
    clear kk hd
    have DD := hide D
    clear D
    go_wp2_with fail
    go_ret
    exact ⟨_, rfl, by omega, by omega, unhide DD⟩
  · go_wp2_with fail
    have hr := Row.lit .i64 w1 3 [-1, 5] (by simp [maxLen])
    have gW : g < w1.heap.size := D.1.1
    refine (l1PickInt_any g lo _ (D.1.kept ((Kept.refl 0 0 w1).alloc _) (by omega)) hr (by simp) (by omega)).mono ?_
    rintro e w3 ⟨x1, rfl, hxx1, hd⟩
    have hbx1 : -1 ≤ x1 ∧ x1 ≤ 5 := by
      simp only [List.mem_cons, List.not_mem_nil, or_false] at hxx1
      omega
    have kk := (((Kept.refl 0 0 w1).alloc (.cells ([-1, 5].map (Value.int .i64)).toArray 3)).any (lo := g) (hi := g + 1)).trans hd.2.1
    replace D : Drawn g lo w w3 := ⟨hd.1, D.2.trans kk⟩
    have z4 := kk.size
    clear kk hd hr gW hxx1
    have DD := hide D
    clear D
    go_wp2_with fail
    go_ret
    exact ⟨_, rfl, hbx1.1, hbx1.2, unhide DD⟩

set_option maxHeartbeats 4000000 in
theorem drawToInt_any {bw : Bool} {lo hi : Nat} {v : Value} {bs : List Int} (w : World) (r : Row .u8 bw lo hi w v bs) (b : Bytes bs) :
    Calls Tryz.prog 31 #[v] w fun e' w' => ∃ fk fn fm fe md, e' = .returned (.tuple #[flv fk fn fm fe, .int .i64 md]) ∧ -1 ≤ md ∧ md ≤ 5 ∧ Kept 0 0 w w' := by
  have K : Kept 0 0 w (w.alloc (.cells #[.int .i64 0, .bool false, .int .i64 0, .int .i64 0] 25)) := ((Kept.refl 0 0 w).alloc (.cells #[.int .i64 0, .bool false, .int .i64 0, .int .i64 0] 25))
  have q0 : (w.alloc (.cells #[.int .i64 0, .bool false, .int .i64 0, .int .i64 0] 25)).cell? ⟨w.heap.size, 0, none⟩ = some (.int .i64 0) := new_cell2 _ _ _ _ _ _ (by simp) rfl
  have qf0 : (w.alloc (.cells #[.int .i64 0, .bool false, .int .i64 0, .int .i64 0] 25)).frozen? ⟨w.heap.size, 0, none⟩ = false := new_loose2 _ _ _ _ _ (by simp)
  have q1 : (w.alloc (.cells #[.int .i64 0, .bool false, .int .i64 0, .int .i64 0] 25)).cell? ⟨w.heap.size, 1, none⟩ = some (.bool false) := new_cell2 _ _ _ _ _ _ (by simp) rfl
  have qf1 : (w.alloc (.cells #[.int .i64 0, .bool false, .int .i64 0, .int .i64 0] 25)).frozen? ⟨w.heap.size, 1, none⟩ = false := new_loose2 _ _ _ _ _ (by simp)
  have q2 : (w.alloc (.cells #[.int .i64 0, .bool false, .int .i64 0, .int .i64 0] 25)).cell? ⟨w.heap.size, 2, none⟩ = some (.int .i64 0) := new_cell2 _ _ _ _ _ _ (by simp) rfl
  have qf2 : (w.alloc (.cells #[.int .i64 0, .bool false, .int .i64 0, .int .i64 0] 25)).frozen? ⟨w.heap.size, 2, none⟩ = false := new_loose2 _ _ _ _ _ (by simp)
  have q3 : (w.alloc (.cells #[.int .i64 0, .bool false, .int .i64 0, .int .i64 0] 25)).cell? ⟨w.heap.size, 3, none⟩ = some (.int .i64 0) := new_cell2 _ _ _ _ _ _ (by simp) rfl
  have qf3 : (w.alloc (.cells #[.int .i64 0, .bool false, .int .i64 0, .int .i64 0] 25)).frozen? ⟨w.heap.size, 3, none⟩ = false := new_loose2 _ _ _ _ _ (by simp)
  have s0 : (w.alloc (.cells #[.int .i64 0, .bool false, .int .i64 0, .int .i64 0] 25)).heap.size = w.heap.size + 1 := by simp
  replace r := r.kept K (by omega)
  obtain ⟨a0, c0, hv⟩ := Row.form' r
  subst hv
  go_enter Tryz.func31, Tryz.ntmps31
  go_wp2_with fail
  generalize (w.alloc (.cells #[.int .i64 0, .bool false, .int .i64 0, .int .i64 0] 25)) = W at *
  refine (l1New_any _ r b).mono ?_
  rintro e w1 ⟨g, rfl, hg, cu, kk⟩
  clear r
  replace K := K.trans kk
  replace qf0 := kk.loose0 (World.block_lt_of_cell? _ _ q0) qf0
  replace qf1 := kk.loose0 (World.block_lt_of_cell? _ _ q1) qf1
  replace qf2 := kk.loose0 (World.block_lt_of_cell? _ _ q2) qf2
  replace qf3 := kk.loose0 (World.block_lt_of_cell? _ _ q3) qf3
  replace q0 := kk.cell0 q0
  replace q1 := kk.cell0 q1
  replace q2 := kk.cell0 q2
  replace q3 := kk.cell0 q3
  have z1 := kk.size
  have gs := cu.1
  clear kk
  go_wp2_with fail
  refine (bent5_any g _ _ cu).mono ?_
  rintro e w2 ⟨fk, fn, fm, fe, rfl, hd⟩
  have kk := hd.2
  replace K := Kept.newer' K kk (by omega)
  replace cu := hd.1
  replace qf0 := Kept.looseOut' kk (by dsimp only; omega) (World.block_lt_of_cell? _ _ q0) qf0
  replace qf1 := Kept.looseOut' kk (by dsimp only; omega) (World.block_lt_of_cell? _ _ q1) qf1
  replace qf2 := Kept.looseOut' kk (by dsimp only; omega) (World.block_lt_of_cell? _ _ q2) qf2
  replace qf3 := Kept.looseOut' kk (by dsimp only; omega) (World.block_lt_of_cell? _ _ q3) qf3
  replace q0 := Kept.cellOut kk (by dsimp only; omega) q0
  replace q1 := Kept.cellOut kk (by dsimp only; omega) q1
  replace q2 := Kept.cellOut kk (by dsimp only; omega) q2
  replace q3 := Kept.cellOut kk (by dsimp only; omega) q3
  have z3 := kk.size
  clear kk hd
  go_wp2_with fail
  refine (drawMode_any g _ _ cu).mono ?_
  rintro e w4 ⟨md, rfl, hm1, hm2, hd⟩
  have kk := hd.2
  replace K := Kept.newer' K kk (by omega)
  replace cu := hd.1
  replace qf0 := Kept.looseOut' kk (by dsimp only; omega) (World.block_lt_of_cell? _ _ q0) qf0
  replace qf1 := Kept.looseOut' kk (by dsimp only; omega) (World.block_lt_of_cell? _ _ q1) qf1
  replace qf2 := Kept.looseOut' kk (by dsimp only; omega) (World.block_lt_of_cell? _ _ q2) qf2
  replace qf3 := Kept.looseOut' kk (by dsimp only; omega) (World.block_lt_of_cell? _ _ q3) qf3
  replace q0 := Kept.cellOut kk (by dsimp only; omega) q0
  replace q1 := Kept.cellOut kk (by dsimp only; omega) q1
  replace q2 := Kept.cellOut kk (by dsimp only; omega) q2
  replace q3 := Kept.cellOut kk (by dsimp only; omega) q3
  have z5 := kk.size
  clear kk hd
  have K7 := hide ((((K.setNew (p := ⟨w.heap.size, 0, none⟩) (by simp) (.int .i64 fk)).setNew (p := ⟨w.heap.size, 1, none⟩) (by simp) (.bool fn)).setNew (p := ⟨w.heap.size, 2, none⟩) (by simp) (.int .i64 fm)).setNew (p := ⟨w.heap.size, 3, none⟩) (by simp) (.int .i64 fe))
  clear K cu
  go_wp2_with fail
  exact bodyPost_ret (v := .tuple #[flv fk fn fm fe, .int .i64 md]) (by simp [results, Tryz.results31, go_sem, q0, q1, q2, q3]) rfl ⟨_, _, _, _, _, rfl, hm1, hm2, unhide K7⟩

set_option maxHeartbeats 8000000 in
theorem drawOfInt_any {bw : Bool} {lo hi : Nat} {v : Value} {bs : List Int} (w : World) (r : Row .u8 bw lo hi w v bs) (b : Bytes bs) :
    Calls Tryz.prog 29 #[v] w fun e' w' => ∃ n md : Int, e' = .returned (.tuple #[.int .i64 n, .int .i64 md]) ∧ n ≤ 9223372036854775807 ∧ -9223372036854775808 ≤ n ∧ -1 ≤ md ∧ md ≤ 5 ∧ Kept 0 0 w w' := by
  have K : Kept 0 0 w w := (Kept.refl 0 0 w)
  have s0 : w.heap.size = w.heap.size + 0 := rfl
  skip
  obtain ⟨a0, c0, hv⟩ := Row.form' r
  subst hv
  go_enter Tryz.func29, Tryz.ntmps29
  go_wp2_with fail
  refine (l1New_any _ r b).mono ?_
  rintro e w1 ⟨g, rfl, hg, cu, kk⟩
  clear r
  replace K := K.trans kk
  have z1 := kk.size
  have gs := cu.1
  clear kk
  go_wp2_with fail
  refine (l1Below_any g _ _ cu 1073741824).mono ?_
  rintro e w2 ⟨nb, rfl, -, hnb, hd⟩
  have kk := hd.kept
  replace K := Kept.newer' K kk (by omega)
  replace cu := hd.1
  have z3 := kk.size
  clear kk hd
  replace hnb := hnb (by decide)
  go_wp2_with fail
  have hr := Row.lit .i64 w2 3 [0, 1, -1, 9007199254740993, 18014398509481986, -9007199254740995, 9223372036854775807, -9223372036854775808, nb] (by simp [maxLen])
  have gW : g < w2.heap.size := cu.1
  refine (l1PickInt_any g _ _ (cu.kept ((Kept.refl 0 0 w2).alloc _) (by omega)) hr (by simp) (by omega)).mono ?_
  rintro e w4 ⟨x1, rfl, hx, hd⟩
  have hx1 : x1 ≤ 9223372036854775807 ∧ -9223372036854775808 ≤ x1 := by
    simp only [List.mem_cons, List.not_mem_nil, or_false] at hx
    omega
  clear hx
  have kk := (((Kept.refl 0 0 w2).alloc (.cells ([0, 1, -1, 9007199254740993, 18014398509481986, -9007199254740995, 9223372036854775807, -9223372036854775808, nb].map (Value.int .i64)).toArray 3)).any (lo := g) (hi := g + 1)).trans hd.2.1
  replace K := Kept.newer' K kk (by omega)
  replace cu := hd.1
  have z5 := kk.size
  clear kk hd hr gW
  go_wp2_with fail
  refine (drawMode_any g _ _ cu).mono ?_
  rintro e w6 ⟨md, rfl, hm1, hm2, hd⟩
  have kk := hd.2
  replace K := Kept.newer' K kk (by omega)
  replace cu := hd.1
  have z7 := kk.size
  clear kk hd
  have K7 := hide K
  clear K cu
  go_wp2_with fail
  go_ret2
  exact ⟨_, _, rfl, hx1.1, hx1.2, hm1, hm2, unhide K7⟩

end Go.Proofs.YtckaecmkidplhaaGreatDoor

