/-
  The draws of floats: they return, whatever is drawn.
-/
import Derived.Test.YtckaecmkidplhaaGreatDoorFl15
import Derived.Test.YtckaecmkidplhaaGreatDoorFl7y
import Derived.Test.YtckaecmkidplhaaGreatDoorDrawN
namespace Go.Proofs.YtckaecmkidplhaaGreatDoor
open Go.RowKit
set_option linter.unusedVariables false
set_option maxRecDepth 8000
set_option linter.unusedSimpArgs false

theorem Drawn.set {g lo : Nat} {a w : World} (h : Drawn g lo a w) {p : Addr} (hg : g < p.block) (hp : a.heap.size ≤ p.block) (u : Value) : Drawn g lo a (w.setCell p u) := ⟨h.1.setFar hg u, h.2.setNew hp u⟩
theorem Drawn.start {g lo : Nat} {w : World} (c : Cur g lo w) (ob : Obj) : Drawn g lo w (w.alloc ob) := ⟨c.kept ((Kept.refl 0 0 w).alloc ob) (by omega), ((Kept.refl 0 0 w).alloc ob).any⟩
theorem Kept.looseOut' {lo hi : Nat} {W w' : World} (k : Kept lo hi W w') {a : Addr} (ho : a.block < lo ∨ hi ≤ a.block) (hb : a.block < W.heap.size) (h : W.frozen? a = false) : w'.frozen? a = false := by
  rw [World.frozen?_of_block (w := W) (a := a) (k.block a.block hb ho)]
  exact h
theorem l5nan_k (w : World) : Calls Tryz.prog 98 #[] w fun r w' => r = .returned (flv 3 false 0 0) ∧ Kept 0 0 w w' :=
  (l5nan_any w).mono fun _ _ h => ⟨h.1, h.2 ▸ (Kept.refl 0 0 w).alloc _⟩

set_option maxHeartbeats 2000000 in
theorem round5_nil0 (a : Option Addr) (c : Nat) (s : Bool) (x mode : Int) (zero : Bool) (w : World) :
    Calls Tryz.prog 85 #[.agg #[.bool s, .slice a 0 c, .int .i64 x], .int .i64 mode, .bool zero] w fun e' w' => e' = .returned (.tuple #[flv 0 zero 0 0, .int .i64 0]) ∧ Kept 0 0 w w' := by
  go_enter Tryz.func85, Tryz.ntmps85
  go_wp2
  all_goals exact bodyPost_ret (v := .tuple #[flv 0 zero 0 0, .int .i64 0]) (by simp [results, Tryz.results85, go_sem]) rfl ⟨rfl, by repeat first | exact Kept.refl 0 0 _ | apply Kept.alloc⟩

/-- l5round of what l4make makes of a small number. -/
theorem round5_made {bw : Bool} {lo hi : Nat} {v : Value} (M x mode : Int) (zero : Bool) (hM : M.natAbs ≤ 1000) (hx1 : x ≤ 80) (hx0 : -80 ≤ x) (w : World) (r : Row .i64 bw lo hi w v (dlm M)) :
    Calls Tryz.prog 85 #[.agg #[.bool (wsg M), v, .int .i64 (dex M x)], .int .i64 mode, .bool zero] w fun e' w' => ∃ k n m e f, e' = .returned (.tuple #[flv k n m e, .int .i64 f]) ∧ Kept 0 0 w w' := by
  by_cases h : M = 0
  · subst h
    rw [dlm_zero] at r
    obtain ⟨a, c, rfl⟩ := Row.form' r
    exact (round5_nil0 a c _ _ mode zero w).mono fun _ _ h => ⟨_, _, _, _, _, h.1, h.2⟩
  · have hl : (dlm M).length ≤ 1 := by
      unfold dlm
      refine (limbs_length_le _ _).2 ?_
      have := Nat.div_le_self M.natAbs (2 ^ tz M.natAbs)
      have e : (65536 : Int) ^ 1 = 65536 := by decide
      omega
    have hd : dex M x ≤ 100 ∧ -100 ≤ dex M x := by
      unfold dex
      rw [if_neg h]
      have e10 : (2 : Nat) ^ 10 = 1024 := by decide
      have := tz_lt (n := M.natAbs) (k := 10) (by omega) (by omega)
      omega
    refine (round5_small (wsg M) (dex M x) mode zero hd.1 hd.2 w r (limbs_nrm _) (by omega) (dlm_pos h).1).mono ?_
    rintro e' w' ⟨n, m, e, f, h1, h2⟩
    exact ⟨1, n, m, e, f, h1, h2⟩

set_option maxHeartbeats 8000000 in
theorem draw5_any (g lo : Nat) (w : World) (c : Cur g lo w) :
    Calls Tryz.prog 97 #[.pointer (some ⟨g, 0, none⟩)] w fun e' w' => ∃ fk fn fm fe, e' = .returned (flv fk fn fm fe) ∧ Drawn g lo w w' := by
  have hg := c.1
  have D := Drawn.start c (.cells #[.int .i64 0, .bool false, .int .i64 0, .int .i64 0] 25)
  have q0 : (w.alloc (.cells #[.int .i64 0, .bool false, .int .i64 0, .int .i64 0] 25)).cell? ⟨w.heap.size, 0, none⟩ = some (.int .i64 0) := new_cell2 _ _ _ _ _ _ rfl rfl
  have qf0 : (w.alloc (.cells #[.int .i64 0, .bool false, .int .i64 0, .int .i64 0] 25)).frozen? ⟨w.heap.size, 0, none⟩ = false := new_loose2 _ _ _ _ _ rfl
  have q1 : (w.alloc (.cells #[.int .i64 0, .bool false, .int .i64 0, .int .i64 0] 25)).cell? ⟨w.heap.size, 1, none⟩ = some (.bool false) := new_cell2 _ _ _ _ _ _ rfl rfl
  have qf1 : (w.alloc (.cells #[.int .i64 0, .bool false, .int .i64 0, .int .i64 0] 25)).frozen? ⟨w.heap.size, 1, none⟩ = false := new_loose2 _ _ _ _ _ rfl
  have q2 : (w.alloc (.cells #[.int .i64 0, .bool false, .int .i64 0, .int .i64 0] 25)).cell? ⟨w.heap.size, 2, none⟩ = some (.int .i64 0) := new_cell2 _ _ _ _ _ _ rfl rfl
  have qf2 : (w.alloc (.cells #[.int .i64 0, .bool false, .int .i64 0, .int .i64 0] 25)).frozen? ⟨w.heap.size, 2, none⟩ = false := new_loose2 _ _ _ _ _ rfl
  have q3 : (w.alloc (.cells #[.int .i64 0, .bool false, .int .i64 0, .int .i64 0] 25)).cell? ⟨w.heap.size, 3, none⟩ = some (.int .i64 0) := new_cell2 _ _ _ _ _ _ rfl rfl
  have qf3 : (w.alloc (.cells #[.int .i64 0, .bool false, .int .i64 0, .int .i64 0] 25)).frozen? ⟨w.heap.size, 3, none⟩ = false := new_loose2 _ _ _ _ _ rfl
  have s0 : w.heap.size < (w.alloc (.cells #[.int .i64 0, .bool false, .int .i64 0, .int .i64 0] 25)).heap.size := by simp
  clear c
  go_enter Tryz.func97, Tryz.ntmps97
  go_wp2_with fail
  generalize w.alloc (.cells #[.int .i64 0, .bool false, .int .i64 0, .int .i64 0] 25) = W at *
  go_wp2_with fail
  refine (l1Once_any g lo _ D.1 2).mono ?_
  rintro e w1 ⟨b, rfl, hd⟩
  have kk := hd.kept
  replace D := D.trans hd.drawn
  replace qf0 := Kept.looseOut' kk (by dsimp only; omega) (World.block_lt_of_cell? _ _ q0) qf0
  replace qf1 := Kept.looseOut' kk (by dsimp only; omega) (World.block_lt_of_cell? _ _ q1) qf1
  replace qf2 := Kept.looseOut' kk (by dsimp only; omega) (World.block_lt_of_cell? _ _ q2) qf2
  replace qf3 := Kept.looseOut' kk (by dsimp only; omega) (World.block_lt_of_cell? _ _ q3) qf3
  replace q0 := Kept.cellOut kk (by dsimp only; omega) q0
  replace q1 := Kept.cellOut kk (by dsimp only; omega) q1
  replace q2 := Kept.cellOut kk (by dsimp only; omega) q2
  replace q3 := Kept.cellOut kk (by dsimp only; omega) q3
  have z2 := kk.size
  clear kk hd
  go_wp2_with fail
  refine (l1Below_any g lo _ D.1 9).mono ?_
  rintro e w3 ⟨n, rfl, -, hbn, hd⟩
  have kk := hd.kept
  replace D := D.trans hd.drawn
  replace hbn := hbn (by decide)
  replace qf0 := Kept.looseOut' kk (by dsimp only; omega) (World.block_lt_of_cell? _ _ q0) qf0
  replace qf1 := Kept.looseOut' kk (by dsimp only; omega) (World.block_lt_of_cell? _ _ q1) qf1
  replace qf2 := Kept.looseOut' kk (by dsimp only; omega) (World.block_lt_of_cell? _ _ q2) qf2
  replace qf3 := Kept.looseOut' kk (by dsimp only; omega) (World.block_lt_of_cell? _ _ q3) qf3
  replace q0 := Kept.cellOut kk (by dsimp only; omega) q0
  replace q1 := Kept.cellOut kk (by dsimp only; omega) q1
  replace q2 := Kept.cellOut kk (by dsimp only; omega) q2
  replace q3 := Kept.cellOut kk (by dsimp only; omega) q3
  have z4 := kk.size
  clear kk hd
  obtain rfl | rfl | rfl | rfl | rfl | hn5 : n = 0 ∨ n = 1 ∨ n = 2 ∨ n = 3 ∨ n = 4 ∨ 5 ≤ n := by omega
  · go_wp2_with fail
    have hr := Row.lit .i64 w3 3 [0, 2] (by simp [maxLen])
    have gW : g < w3.heap.size := D.1.1
    refine (l1PickInt_any g lo _ (D.1.kept ((Kept.refl 0 0 w3).alloc _) (by omega)) hr (by simp) (by omega)).mono ?_
    rintro e w5 ⟨x2, rfl, hxx2, hd⟩
    have hbx2 : 0 ≤ x2 ∧ x2 ≤ 2 := by
      simp only [List.mem_cons, List.not_mem_nil, or_false] at hxx2
      omega
    have kk := (((Kept.refl 0 0 w3).alloc (.cells ([0, 2].map (Value.int .i64)).toArray 3)).any (lo := g) (hi := g + 1)).trans hd.2.1
    replace D : Drawn g lo w w5 := ⟨hd.1, D.2.trans kk⟩
    replace qf0 := Kept.looseOut' kk (by dsimp only; omega) (World.block_lt_of_cell? _ _ q0) qf0
    replace qf1 := Kept.looseOut' kk (by dsimp only; omega) (World.block_lt_of_cell? _ _ q1) qf1
    replace qf2 := Kept.looseOut' kk (by dsimp only; omega) (World.block_lt_of_cell? _ _ q2) qf2
    replace qf3 := Kept.looseOut' kk (by dsimp only; omega) (World.block_lt_of_cell? _ _ q3) qf3
    replace q0 := Kept.cellOut kk (by dsimp only; omega) q0
    replace q1 := Kept.cellOut kk (by dsimp only; omega) q1
    replace q2 := Kept.cellOut kk (by dsimp only; omega) q2
    replace q3 := Kept.cellOut kk (by dsimp only; omega) q3
    have z6 := kk.size
    clear kk hd hr gW hxx2
    have DD := hide ((((D.set (p := ⟨w.heap.size, 0, none⟩) hg (Nat.le_refl _) (.int .i64 x2)).set (p := ⟨w.heap.size, 1, none⟩) hg (Nat.le_refl _) (.bool b)).set (p := ⟨w.heap.size, 2, none⟩) hg (Nat.le_refl _) (.int .i64 0)).set (p := ⟨w.heap.size, 3, none⟩) hg (Nat.le_refl _) (.int .i64 0))
    clear  D 
    go_wp2_with fail
    exact bodyPost_ret (v := .agg #[.int .i64 x2, .bool b, .int .i64 0, .int .i64 0]) (by simp [results, Tryz.results97, go_sem, q0, q1, q2, q3]) rfl ⟨_, _, _, _, rfl, unhide DD⟩
  · go_wp2_with fail
    refine (l5nan_k _).mono ?_
    rintro e w5 ⟨rfl, kk⟩
    replace D := D.keptR kk
    replace qf0 := Kept.looseOut' kk (by dsimp only; omega) (World.block_lt_of_cell? _ _ q0) qf0
    replace qf1 := Kept.looseOut' kk (by dsimp only; omega) (World.block_lt_of_cell? _ _ q1) qf1
    replace qf2 := Kept.looseOut' kk (by dsimp only; omega) (World.block_lt_of_cell? _ _ q2) qf2
    replace qf3 := Kept.looseOut' kk (by dsimp only; omega) (World.block_lt_of_cell? _ _ q3) qf3
    replace q0 := Kept.cellOut kk (by dsimp only; omega) q0
    replace q1 := Kept.cellOut kk (by dsimp only; omega) q1
    replace q2 := Kept.cellOut kk (by dsimp only; omega) q2
    replace q3 := Kept.cellOut kk (by dsimp only; omega) q3
    have z6 := kk.size
    clear kk
    have DD := hide ((((D.set (p := ⟨w.heap.size, 0, none⟩) hg (Nat.le_refl _) (.int .i64 3)).set (p := ⟨w.heap.size, 1, none⟩) hg (Nat.le_refl _) (.bool false)).set (p := ⟨w.heap.size, 2, none⟩) hg (Nat.le_refl _) (.int .i64 0)).set (p := ⟨w.heap.size, 3, none⟩) hg (Nat.le_refl _) (.int .i64 0))
    clear  D 
    go_wp2_with fail
    exact bodyPost_ret (v := .agg #[.int .i64 3, .bool false, .int .i64 0, .int .i64 0]) (by simp [results, Tryz.results97, go_sem, q0, q1, q2, q3]) rfl ⟨_, _, _, _, rfl, unhide DD⟩
  · go_wp2_with fail
    have hr := Row.lit .i64 w3 3 [1, 2, 4503599627370495, 4503599627370496, 4503599627370497, 12345] (by simp [maxLen])
    have gW : g < w3.heap.size := D.1.1
    refine (l1PickInt_any g lo _ (D.1.kept ((Kept.refl 0 0 w3).alloc _) (by omega)) hr (by simp) (by omega)).mono ?_
    rintro e w5 ⟨x2, rfl, hxx2, hd⟩
    have hbx2 : 1 ≤ x2 ∧ x2 ≤ 4503599627370497 := by
      simp only [List.mem_cons, List.not_mem_nil, or_false] at hxx2
      omega
    have kk := (((Kept.refl 0 0 w3).alloc (.cells ([1, 2, 4503599627370495, 4503599627370496, 4503599627370497, 12345].map (Value.int .i64)).toArray 3)).any (lo := g) (hi := g + 1)).trans hd.2.1
    replace D : Drawn g lo w w5 := ⟨hd.1, D.2.trans kk⟩
    replace qf0 := Kept.looseOut' kk (by dsimp only; omega) (World.block_lt_of_cell? _ _ q0) qf0
    replace qf1 := Kept.looseOut' kk (by dsimp only; omega) (World.block_lt_of_cell? _ _ q1) qf1
    replace qf2 := Kept.looseOut' kk (by dsimp only; omega) (World.block_lt_of_cell? _ _ q2) qf2
    replace qf3 := Kept.looseOut' kk (by dsimp only; omega) (World.block_lt_of_cell? _ _ q3) qf3
    replace q0 := Kept.cellOut kk (by dsimp only; omega) q0
    replace q1 := Kept.cellOut kk (by dsimp only; omega) q1
    replace q2 := Kept.cellOut kk (by dsimp only; omega) q2
    replace q3 := Kept.cellOut kk (by dsimp only; omega) q3
    have z6 := kk.size
    clear kk hd hr gW hxx2
    have DD := hide ((((D.set (p := ⟨w.heap.size, 0, none⟩) hg (Nat.le_refl _) (.int .i64 1)).set (p := ⟨w.heap.size, 1, none⟩) hg (Nat.le_refl _) (.bool b)).set (p := ⟨w.heap.size, 2, none⟩) hg (Nat.le_refl _) (.int .i64 x2)).set (p := ⟨w.heap.size, 3, none⟩) hg (Nat.le_refl _) (.int .i64 (-1074)))
    clear  D 
    go_wp2_with fail
    exact bodyPost_ret (v := .agg #[.int .i64 1, .bool b, .int .i64 x2, .int .i64 (-1074)]) (by simp [results, Tryz.results97, go_sem, q0, q1, q2, q3]) rfl ⟨_, _, _, _, rfl, unhide DD⟩
  · go_wp2_with fail
    have hr := Row.lit .i64 w3 3 [4503599627370496, 9007199254740991, 9007199254740990] (by simp [maxLen])
    have gW : g < w3.heap.size := D.1.1
    refine (l1PickInt_any g lo _ (D.1.kept ((Kept.refl 0 0 w3).alloc _) (by omega)) hr (by simp) (by omega)).mono ?_
    rintro e w5 ⟨x2, rfl, hxx2, hd⟩
    have hbx2 : 1 ≤ x2 ∧ x2 ≤ 9007199254740991 := by
      simp only [List.mem_cons, List.not_mem_nil, or_false] at hxx2
      omega
    have kk := (((Kept.refl 0 0 w3).alloc (.cells ([4503599627370496, 9007199254740991, 9007199254740990].map (Value.int .i64)).toArray 3)).any (lo := g) (hi := g + 1)).trans hd.2.1
    replace D : Drawn g lo w w5 := ⟨hd.1, D.2.trans kk⟩
    replace qf0 := Kept.looseOut' kk (by dsimp only; omega) (World.block_lt_of_cell? _ _ q0) qf0
    replace qf1 := Kept.looseOut' kk (by dsimp only; omega) (World.block_lt_of_cell? _ _ q1) qf1
    replace qf2 := Kept.looseOut' kk (by dsimp only; omega) (World.block_lt_of_cell? _ _ q2) qf2
    replace qf3 := Kept.looseOut' kk (by dsimp only; omega) (World.block_lt_of_cell? _ _ q3) qf3
    replace q0 := Kept.cellOut kk (by dsimp only; omega) q0
    replace q1 := Kept.cellOut kk (by dsimp only; omega) q1
    replace q2 := Kept.cellOut kk (by dsimp only; omega) q2
    replace q3 := Kept.cellOut kk (by dsimp only; omega) q3
    have z6 := kk.size
    clear kk hd hr gW hxx2
    go_wp2_with fail
    have hr := Row.lit .i64 w5 3 [971, 970, 0, -52, -1000] (by simp [maxLen])
    have gW : g < w5.heap.size := D.1.1
    refine (l1PickInt_any g lo _ (D.1.kept ((Kept.refl 0 0 w5).alloc _) (by omega)) hr (by simp) (by omega)).mono ?_
    rintro e w7 ⟨x3, rfl, hxx3, hd⟩
    have hbx3 : -1000 ≤ x3 ∧ x3 ≤ 971 := by
      simp only [List.mem_cons, List.not_mem_nil, or_false] at hxx3
      omega
    have kk := (((Kept.refl 0 0 w5).alloc (.cells ([971, 970, 0, -52, -1000].map (Value.int .i64)).toArray 3)).any (lo := g) (hi := g + 1)).trans hd.2.1
    replace D : Drawn g lo w w7 := ⟨hd.1, D.2.trans kk⟩
    replace qf0 := Kept.looseOut' kk (by dsimp only; omega) (World.block_lt_of_cell? _ _ q0) qf0
    replace qf1 := Kept.looseOut' kk (by dsimp only; omega) (World.block_lt_of_cell? _ _ q1) qf1
    replace qf2 := Kept.looseOut' kk (by dsimp only; omega) (World.block_lt_of_cell? _ _ q2) qf2
    replace qf3 := Kept.looseOut' kk (by dsimp only; omega) (World.block_lt_of_cell? _ _ q3) qf3
    replace q0 := Kept.cellOut kk (by dsimp only; omega) q0
    replace q1 := Kept.cellOut kk (by dsimp only; omega) q1
    replace q2 := Kept.cellOut kk (by dsimp only; omega) q2
    replace q3 := Kept.cellOut kk (by dsimp only; omega) q3
    have z8 := kk.size
    clear kk hd hr gW hxx3
    have DD := hide ((((D.set (p := ⟨w.heap.size, 0, none⟩) hg (Nat.le_refl _) (.int .i64 1)).set (p := ⟨w.heap.size, 1, none⟩) hg (Nat.le_refl _) (.bool b)).set (p := ⟨w.heap.size, 2, none⟩) hg (Nat.le_refl _) (.int .i64 x2)).set (p := ⟨w.heap.size, 3, none⟩) hg (Nat.le_refl _) (.int .i64 x3))
    clear  D 
    go_wp2_with fail
    exact bodyPost_ret (v := .agg #[.int .i64 1, .bool b, .int .i64 x2, .int .i64 x3]) (by simp [results, Tryz.results97, go_sem, q0, q1, q2, q3]) rfl ⟨_, _, _, _, rfl, unhide DD⟩
  · go_wp2_with fail
    refine (l1Below_any g lo _ D.1 40).mono ?_
    rintro e w5 ⟨n1, rfl, -, hbn1, hd⟩
    have kk := hd.kept
    replace D := D.trans hd.drawn
    replace hbn1 := hbn1 (by decide)
    replace qf0 := Kept.looseOut' kk (by dsimp only; omega) (World.block_lt_of_cell? _ _ q0) qf0
    replace qf1 := Kept.looseOut' kk (by dsimp only; omega) (World.block_lt_of_cell? _ _ q1) qf1
    replace qf2 := Kept.looseOut' kk (by dsimp only; omega) (World.block_lt_of_cell? _ _ q2) qf2
    replace qf3 := Kept.looseOut' kk (by dsimp only; omega) (World.block_lt_of_cell? _ _ q3) qf3
    replace q0 := Kept.cellOut kk (by dsimp only; omega) q0
    replace q1 := Kept.cellOut kk (by dsimp only; omega) q1
    replace q2 := Kept.cellOut kk (by dsimp only; omega) q2
    replace q3 := Kept.cellOut kk (by dsimp only; omega) q3
    have z6 := kk.size
    clear kk hd
    have hw1 : IntKind.i64.wrap (n1 - 20) = n1 - 20 := by rw [IntKind.wrap_i64]; omega
    go_wp2_with fail
    refine (of3_spec (n1 - 20) (by omega) (by omega) _).mono ?_
    rintro e w7 ⟨v6, rfl, r6, kk⟩
    replace D := D.keptR kk
    replace qf0 := Kept.looseOut' kk (by dsimp only; omega) (World.block_lt_of_cell? _ _ q0) qf0
    replace qf1 := Kept.looseOut' kk (by dsimp only; omega) (World.block_lt_of_cell? _ _ q1) qf1
    replace qf2 := Kept.looseOut' kk (by dsimp only; omega) (World.block_lt_of_cell? _ _ q2) qf2
    replace qf3 := Kept.looseOut' kk (by dsimp only; omega) (World.block_lt_of_cell? _ _ q3) qf3
    replace q0 := Kept.cellOut kk (by dsimp only; omega) q0
    replace q1 := Kept.cellOut kk (by dsimp only; omega) q1
    replace q2 := Kept.cellOut kk (by dsimp only; omega) q2
    replace q3 := Kept.cellOut kk (by dsimp only; omega) q3
    have z8 := kk.size
    clear kk
    go_wp2_with fail
    refine (l1Below_any g lo _ D.1 5).mono ?_
    rintro e w9 ⟨n2, rfl, -, hbn2, hd⟩
    have kk := hd.kept
    replace D := D.trans hd.drawn
    replace hbn2 := hbn2 (by decide)
    replace r6 := r6.kept kk (by omega)
    replace qf0 := Kept.looseOut' kk (by dsimp only; omega) (World.block_lt_of_cell? _ _ q0) qf0
    replace qf1 := Kept.looseOut' kk (by dsimp only; omega) (World.block_lt_of_cell? _ _ q1) qf1
    replace qf2 := Kept.looseOut' kk (by dsimp only; omega) (World.block_lt_of_cell? _ _ q2) qf2
    replace qf3 := Kept.looseOut' kk (by dsimp only; omega) (World.block_lt_of_cell? _ _ q3) qf3
    replace q0 := Kept.cellOut kk (by dsimp only; omega) q0
    replace q1 := Kept.cellOut kk (by dsimp only; omega) q1
    replace q2 := Kept.cellOut kk (by dsimp only; omega) q2
    replace q3 := Kept.cellOut kk (by dsimp only; omega) q3
    have z10 := kk.size
    clear kk hd
    have hw2 : IntKind.i64.wrap (n2 - 2) = n2 - 2 := by rw [IntKind.wrap_i64]; omega
    have wn : WN (wsg (n1 - 20)) (wlm (n1 - 20)) := by
      refine ⟨limbs_nrm _, fun h => ?_⟩
      have h1 : n1 - 20 < 0 := of_decide_eq_true h
      have := limbs_pos (n1 - 20).natAbs
      rw [decide_eq_true (show 0 < (n1 - 20).natAbs by omega)] at this
      exact of_decide_eq_true this
    have ln : (wlm (n1 - 20)).length ≤ 50000 := by
      refine Nat.le_trans ((limbs_length_le _ 4).2 ?_) (by decide)
      have e4 : (65536 : Int) ^ 4 = 18446744073709551616 := by decide
      omega
    go_wp2_with fail
    refine (make4_spec (wsg (n1 - 20)) (n2 - 2) (n1 - 20) (wval_int (n1 - 20)) (by omega) (by omega) _ r6 wn ln).mono ?_
    rintro e w11 ⟨v7, rfl, r7, kk⟩
    replace D := D.keptR kk
    replace r6 := r6.kept kk (by omega)
    replace qf0 := Kept.looseOut' kk (by dsimp only; omega) (World.block_lt_of_cell? _ _ q0) qf0
    replace qf1 := Kept.looseOut' kk (by dsimp only; omega) (World.block_lt_of_cell? _ _ q1) qf1
    replace qf2 := Kept.looseOut' kk (by dsimp only; omega) (World.block_lt_of_cell? _ _ q2) qf2
    replace qf3 := Kept.looseOut' kk (by dsimp only; omega) (World.block_lt_of_cell? _ _ q3) qf3
    replace q0 := Kept.cellOut kk (by dsimp only; omega) q0
    replace q1 := Kept.cellOut kk (by dsimp only; omega) q1
    replace q2 := Kept.cellOut kk (by dsimp only; omega) q2
    replace q3 := Kept.cellOut kk (by dsimp only; omega) q3
    have z12 := kk.size
    clear kk
    clear wn ln
    go_wp2_with fail
    refine (round5_made (n1 - 20) (n2 - 2) 0 false (by omega) (by omega) (by omega) _ r7).mono ?_
    rintro e w13 ⟨fk, fn, fm, fe, ff, rfl, kk⟩
    replace D := D.keptR kk
    replace r6 := r6.kept kk (by omega)
    replace r7 := r7.kept kk (by omega)
    replace qf0 := Kept.looseOut' kk (by dsimp only; omega) (World.block_lt_of_cell? _ _ q0) qf0
    replace qf1 := Kept.looseOut' kk (by dsimp only; omega) (World.block_lt_of_cell? _ _ q1) qf1
    replace qf2 := Kept.looseOut' kk (by dsimp only; omega) (World.block_lt_of_cell? _ _ q2) qf2
    replace qf3 := Kept.looseOut' kk (by dsimp only; omega) (World.block_lt_of_cell? _ _ q3) qf3
    replace q0 := Kept.cellOut kk (by dsimp only; omega) q0
    replace q1 := Kept.cellOut kk (by dsimp only; omega) q1
    replace q2 := Kept.cellOut kk (by dsimp only; omega) q2
    replace q3 := Kept.cellOut kk (by dsimp only; omega) q3
    have z14 := kk.size
    clear kk
    clear r6 r7
    have kk := (Kept.refl 0 0 w13).alloc (.cells #[.int .i64 fk, .bool fn, .int .i64 fm, .int .i64 fe] 25)
    have u0 : (w13.alloc (.cells #[.int .i64 fk, .bool fn, .int .i64 fm, .int .i64 fe] 25)).cell? ⟨w13.heap.size, 0, none⟩ = some (.int .i64 fk) := new_cell2 _ _ _ _ _ _ rfl rfl
    have uf0 : (w13.alloc (.cells #[.int .i64 fk, .bool fn, .int .i64 fm, .int .i64 fe] 25)).frozen? ⟨w13.heap.size, 0, none⟩ = false := new_loose2 _ _ _ _ _ rfl
    have u1 : (w13.alloc (.cells #[.int .i64 fk, .bool fn, .int .i64 fm, .int .i64 fe] 25)).cell? ⟨w13.heap.size, 1, none⟩ = some (.bool fn) := new_cell2 _ _ _ _ _ _ rfl rfl
    have uf1 : (w13.alloc (.cells #[.int .i64 fk, .bool fn, .int .i64 fm, .int .i64 fe] 25)).frozen? ⟨w13.heap.size, 1, none⟩ = false := new_loose2 _ _ _ _ _ rfl
    have u2 : (w13.alloc (.cells #[.int .i64 fk, .bool fn, .int .i64 fm, .int .i64 fe] 25)).cell? ⟨w13.heap.size, 2, none⟩ = some (.int .i64 fm) := new_cell2 _ _ _ _ _ _ rfl rfl
    have uf2 : (w13.alloc (.cells #[.int .i64 fk, .bool fn, .int .i64 fm, .int .i64 fe] 25)).frozen? ⟨w13.heap.size, 2, none⟩ = false := new_loose2 _ _ _ _ _ rfl
    have u3 : (w13.alloc (.cells #[.int .i64 fk, .bool fn, .int .i64 fm, .int .i64 fe] 25)).cell? ⟨w13.heap.size, 3, none⟩ = some (.int .i64 fe) := new_cell2 _ _ _ _ _ _ rfl rfl
    have uf3 : (w13.alloc (.cells #[.int .i64 fk, .bool fn, .int .i64 fm, .int .i64 fe] 25)).frozen? ⟨w13.heap.size, 3, none⟩ = false := new_loose2 _ _ _ _ _ rfl
    replace D := D.keptR kk
    have yu : w13.heap.size < (w13.alloc (.cells #[.int .i64 fk, .bool fn, .int .i64 fm, .int .i64 fe] 25)).heap.size := by simp
    replace qf0 := Kept.looseOut' kk (by dsimp only; omega) (World.block_lt_of_cell? _ _ q0) qf0
    replace qf1 := Kept.looseOut' kk (by dsimp only; omega) (World.block_lt_of_cell? _ _ q1) qf1
    replace qf2 := Kept.looseOut' kk (by dsimp only; omega) (World.block_lt_of_cell? _ _ q2) qf2
    replace qf3 := Kept.looseOut' kk (by dsimp only; omega) (World.block_lt_of_cell? _ _ q3) qf3
    replace q0 := Kept.cellOut kk (by dsimp only; omega) q0
    replace q1 := Kept.cellOut kk (by dsimp only; omega) q1
    replace q2 := Kept.cellOut kk (by dsimp only; omega) q2
    replace q3 := Kept.cellOut kk (by dsimp only; omega) q3
    have z15 := kk.size
    clear kk
    go_wp2_with fail
    generalize w13.alloc (.cells #[.int .i64 fk, .bool fn, .int .i64 fm, .int .i64 fe] 25) = w16 at *
    have DD := hide ((((D.set (p := ⟨w.heap.size, 0, none⟩) hg (Nat.le_refl _) (.int .i64 fk)).set (p := ⟨w.heap.size, 1, none⟩) hg (Nat.le_refl _) (.bool fn)).set (p := ⟨w.heap.size, 2, none⟩) hg (Nat.le_refl _) (.int .i64 fm)).set (p := ⟨w.heap.size, 3, none⟩) hg (Nat.le_refl _) (.int .i64 fe))
    clear  D 
    exact bodyPost_ret (v := .agg #[.int .i64 fk, .bool fn, .int .i64 fm, .int .i64 fe]) (by simp [results, Tryz.results97, go_sem, q0, q1, q2, q3]) rfl ⟨_, _, _, _, rfl, unhide DD⟩
  have s0' := n
  go_wp2_with fail
  refine (l1Below_any g lo _ D.1 1073741824).mono ?_
  rintro e w5 ⟨n6, rfl, -, hbn6, hd⟩
  have kk := hd.kept
  replace D := D.trans hd.drawn
  replace hbn6 := hbn6 (by decide)
  replace qf0 := Kept.looseOut' kk (by dsimp only; omega) (World.block_lt_of_cell? _ _ q0) qf0
  replace qf1 := Kept.looseOut' kk (by dsimp only; omega) (World.block_lt_of_cell? _ _ q1) qf1
  replace qf2 := Kept.looseOut' kk (by dsimp only; omega) (World.block_lt_of_cell? _ _ q2) qf2
  replace qf3 := Kept.looseOut' kk (by dsimp only; omega) (World.block_lt_of_cell? _ _ q3) qf3
  replace q0 := Kept.cellOut kk (by dsimp only; omega) q0
  replace q1 := Kept.cellOut kk (by dsimp only; omega) q1
  replace q2 := Kept.cellOut kk (by dsimp only; omega) q2
  replace q3 := Kept.cellOut kk (by dsimp only; omega) q3
  have z6 := kk.size
  clear kk hd
  have hw6 : IntKind.i64.wrap (n6 * 4000000) = n6 * 4000000 := by rw [IntKind.wrap_i64]; omega
  have hw7 : IntKind.i64.wrap (4503599627370496 + n6 * 4000000) = 4503599627370496 + n6 * 4000000 := by rw [IntKind.wrap_i64]; omega
  go_wp2_with fail
  refine (l1Below_any g lo _ D.1 999).mono ?_
  rintro e w7 ⟨n7, rfl, -, hbn7, hd⟩
  have kk := hd.kept
  replace D := D.trans hd.drawn
  replace hbn7 := hbn7 (by decide)
  replace qf0 := Kept.looseOut' kk (by dsimp only; omega) (World.block_lt_of_cell? _ _ q0) qf0
  replace qf1 := Kept.looseOut' kk (by dsimp only; omega) (World.block_lt_of_cell? _ _ q1) qf1
  replace qf2 := Kept.looseOut' kk (by dsimp only; omega) (World.block_lt_of_cell? _ _ q2) qf2
  replace qf3 := Kept.looseOut' kk (by dsimp only; omega) (World.block_lt_of_cell? _ _ q3) qf3
  replace q0 := Kept.cellOut kk (by dsimp only; omega) q0
  replace q1 := Kept.cellOut kk (by dsimp only; omega) q1
  replace q2 := Kept.cellOut kk (by dsimp only; omega) q2
  replace q3 := Kept.cellOut kk (by dsimp only; omega) q3
  have z8 := kk.size
  clear kk hd
  have hw8 : IntKind.i64.wrap (4503599627370496 + n6 * 4000000 + n7) = 4503599627370496 + n6 * 4000000 + n7 := by rw [IntKind.wrap_i64]; omega
  go_wp2_with fail
  refine (l1Once_any g lo _ D.1 3).mono ?_
  rintro e w9 ⟨b3, rfl, hd⟩
  have kk := hd.kept
  replace D := D.trans hd.drawn
  replace qf0 := Kept.looseOut' kk (by dsimp only; omega) (World.block_lt_of_cell? _ _ q0) qf0
  replace qf1 := Kept.looseOut' kk (by dsimp only; omega) (World.block_lt_of_cell? _ _ q1) qf1
  replace qf2 := Kept.looseOut' kk (by dsimp only; omega) (World.block_lt_of_cell? _ _ q2) qf2
  replace qf3 := Kept.looseOut' kk (by dsimp only; omega) (World.block_lt_of_cell? _ _ q3) qf3
  replace q0 := Kept.cellOut kk (by dsimp only; omega) q0
  replace q1 := Kept.cellOut kk (by dsimp only; omega) q1
  replace q2 := Kept.cellOut kk (by dsimp only; omega) q2
  replace q3 := Kept.cellOut kk (by dsimp only; omega) q3
  have z10 := kk.size
  clear kk hd
  cases b3
  · go_wp2_with fail
    refine (l1Below_any g lo _ D.1 40).mono ?_
    rintro e w11 ⟨n9, rfl, -, hbn9, hd⟩
    have kk := hd.kept
    replace D := D.trans hd.drawn
    replace hbn9 := hbn9 (by decide)
    replace qf0 := Kept.looseOut' kk (by dsimp only; omega) (World.block_lt_of_cell? _ _ q0) qf0
    replace qf1 := Kept.looseOut' kk (by dsimp only; omega) (World.block_lt_of_cell? _ _ q1) qf1
    replace qf2 := Kept.looseOut' kk (by dsimp only; omega) (World.block_lt_of_cell? _ _ q2) qf2
    replace qf3 := Kept.looseOut' kk (by dsimp only; omega) (World.block_lt_of_cell? _ _ q3) qf3
    replace q0 := Kept.cellOut kk (by dsimp only; omega) q0
    replace q1 := Kept.cellOut kk (by dsimp only; omega) q1
    replace q2 := Kept.cellOut kk (by dsimp only; omega) q2
    replace q3 := Kept.cellOut kk (by dsimp only; omega) q3
    have z12 := kk.size
    clear kk hd
    have hw9 : IntKind.i64.wrap (n9 - 70) = n9 - 70 := by rw [IntKind.wrap_i64]; omega
    go_wp2_with fail
    have hr := Row.lit .i64 w11 3 [-52, -50, -55, -53, -60, 0, 10, -600, 500, -1000, 900, (n9 - 70)] (by simp [maxLen])
    have gW : g < w11.heap.size := D.1.1
    refine (l1PickInt_any g lo _ (D.1.kept ((Kept.refl 0 0 w11).alloc _) (by omega)) hr (by simp) (by omega)).mono ?_
    rintro e w13 ⟨x9, rfl, hxx9, hd⟩
    have hbx9 : -1000 ≤ x9 ∧ x9 ≤ 900 := by
      simp only [List.mem_cons, List.not_mem_nil, or_false] at hxx9
      omega
    have kk := (((Kept.refl 0 0 w11).alloc (.cells ([-52, -50, -55, -53, -60, 0, 10, -600, 500, -1000, 900, (n9 - 70)].map (Value.int .i64)).toArray 3)).any (lo := g) (hi := g + 1)).trans hd.2.1
    replace D : Drawn g lo w w13 := ⟨hd.1, D.2.trans kk⟩
    replace qf0 := Kept.looseOut' kk (by dsimp only; omega) (World.block_lt_of_cell? _ _ q0) qf0
    replace qf1 := Kept.looseOut' kk (by dsimp only; omega) (World.block_lt_of_cell? _ _ q1) qf1
    replace qf2 := Kept.looseOut' kk (by dsimp only; omega) (World.block_lt_of_cell? _ _ q2) qf2
    replace qf3 := Kept.looseOut' kk (by dsimp only; omega) (World.block_lt_of_cell? _ _ q3) qf3
    replace q0 := Kept.cellOut kk (by dsimp only; omega) q0
    replace q1 := Kept.cellOut kk (by dsimp only; omega) q1
    replace q2 := Kept.cellOut kk (by dsimp only; omega) q2
    replace q3 := Kept.cellOut kk (by dsimp only; omega) q3
    have z14 := kk.size
    clear kk hd hr gW hxx9
    have DD := hide ((((D.set (p := ⟨w.heap.size, 0, none⟩) hg (Nat.le_refl _) (.int .i64 1)).set (p := ⟨w.heap.size, 1, none⟩) hg (Nat.le_refl _) (.bool b)).set (p := ⟨w.heap.size, 2, none⟩) hg (Nat.le_refl _) (.int .i64 (4503599627370496 + n6 * 4000000 + n7))).set (p := ⟨w.heap.size, 3, none⟩) hg (Nat.le_refl _) (.int .i64 x9))
    clear  D 
    go_wp2_with fail
    exact bodyPost_ret (v := .agg #[.int .i64 1, .bool b, .int .i64 (4503599627370496 + n6 * 4000000 + n7), .int .i64 x9]) (by simp [results, Tryz.results97, go_sem, q0, q1, q2, q3]) rfl ⟨_, _, _, _, rfl, unhide DD⟩
  · go_wp2_with fail
    have hr := Row.lit .i64 w9 3 [1, 3, 2251799813685248, 1073741824] (by simp [maxLen])
    have gW : g < w9.heap.size := D.1.1
    refine (l1PickInt_any g lo _ (D.1.kept ((Kept.refl 0 0 w9).alloc _) (by omega)) hr (by simp) (by omega)).mono ?_
    rintro e w11 ⟨x8, rfl, hxx8, hd⟩
    have hbx8 : 1 ≤ x8 ∧ x8 ≤ 2251799813685248 := by
      simp only [List.mem_cons, List.not_mem_nil, or_false] at hxx8
      omega
    have kk := (((Kept.refl 0 0 w9).alloc (.cells ([1, 3, 2251799813685248, 1073741824].map (Value.int .i64)).toArray 3)).any (lo := g) (hi := g + 1)).trans hd.2.1
    replace D : Drawn g lo w w11 := ⟨hd.1, D.2.trans kk⟩
    replace qf0 := Kept.looseOut' kk (by dsimp only; omega) (World.block_lt_of_cell? _ _ q0) qf0
    replace qf1 := Kept.looseOut' kk (by dsimp only; omega) (World.block_lt_of_cell? _ _ q1) qf1
    replace qf2 := Kept.looseOut' kk (by dsimp only; omega) (World.block_lt_of_cell? _ _ q2) qf2
    replace qf3 := Kept.looseOut' kk (by dsimp only; omega) (World.block_lt_of_cell? _ _ q3) qf3
    replace q0 := Kept.cellOut kk (by dsimp only; omega) q0
    replace q1 := Kept.cellOut kk (by dsimp only; omega) q1
    replace q2 := Kept.cellOut kk (by dsimp only; omega) q2
    replace q3 := Kept.cellOut kk (by dsimp only; omega) q3
    have z12 := kk.size
    clear kk hd hr gW hxx8
    have hw5 : IntKind.i64.wrap (4503599627370496 + x8) = 4503599627370496 + x8 := by rw [IntKind.wrap_i64]; omega
    go_wp2_with fail
    refine (l1Below_any g lo _ D.1 40).mono ?_
    rintro e w13 ⟨n9, rfl, -, hbn9, hd⟩
    have kk := hd.kept
    replace D := D.trans hd.drawn
    replace hbn9 := hbn9 (by decide)
    replace qf0 := Kept.looseOut' kk (by dsimp only; omega) (World.block_lt_of_cell? _ _ q0) qf0
    replace qf1 := Kept.looseOut' kk (by dsimp only; omega) (World.block_lt_of_cell? _ _ q1) qf1
    replace qf2 := Kept.looseOut' kk (by dsimp only; omega) (World.block_lt_of_cell? _ _ q2) qf2
    replace qf3 := Kept.looseOut' kk (by dsimp only; omega) (World.block_lt_of_cell? _ _ q3) qf3
    replace q0 := Kept.cellOut kk (by dsimp only; omega) q0
    replace q1 := Kept.cellOut kk (by dsimp only; omega) q1
    replace q2 := Kept.cellOut kk (by dsimp only; omega) q2
    replace q3 := Kept.cellOut kk (by dsimp only; omega) q3
    have z14 := kk.size
    clear kk hd
    have hw9 : IntKind.i64.wrap (n9 - 70) = n9 - 70 := by rw [IntKind.wrap_i64]; omega
    go_wp2_with fail
    have hr := Row.lit .i64 w13 3 [-52, -50, -55, -53, -60, 0, 10, -600, 500, -1000, 900, (n9 - 70)] (by simp [maxLen])
    have gW : g < w13.heap.size := D.1.1
    refine (l1PickInt_any g lo _ (D.1.kept ((Kept.refl 0 0 w13).alloc _) (by omega)) hr (by simp) (by omega)).mono ?_
    rintro e w15 ⟨x9, rfl, hxx9, hd⟩
    have hbx9 : -1000 ≤ x9 ∧ x9 ≤ 900 := by
      simp only [List.mem_cons, List.not_mem_nil, or_false] at hxx9
      omega
    have kk := (((Kept.refl 0 0 w13).alloc (.cells ([-52, -50, -55, -53, -60, 0, 10, -600, 500, -1000, 900, (n9 - 70)].map (Value.int .i64)).toArray 3)).any (lo := g) (hi := g + 1)).trans hd.2.1
    replace D : Drawn g lo w w15 := ⟨hd.1, D.2.trans kk⟩
    replace qf0 := Kept.looseOut' kk (by dsimp only; omega) (World.block_lt_of_cell? _ _ q0) qf0
    replace qf1 := Kept.looseOut' kk (by dsimp only; omega) (World.block_lt_of_cell? _ _ q1) qf1
    replace qf2 := Kept.looseOut' kk (by dsimp only; omega) (World.block_lt_of_cell? _ _ q2) qf2
    replace qf3 := Kept.looseOut' kk (by dsimp only; omega) (World.block_lt_of_cell? _ _ q3) qf3
    replace q0 := Kept.cellOut kk (by dsimp only; omega) q0
    replace q1 := Kept.cellOut kk (by dsimp only; omega) q1
    replace q2 := Kept.cellOut kk (by dsimp only; omega) q2
    replace q3 := Kept.cellOut kk (by dsimp only; omega) q3
    have z16 := kk.size
    clear kk hd hr gW hxx9
    have DD := hide ((((D.set (p := ⟨w.heap.size, 0, none⟩) hg (Nat.le_refl _) (.int .i64 1)).set (p := ⟨w.heap.size, 1, none⟩) hg (Nat.le_refl _) (.bool b)).set (p := ⟨w.heap.size, 2, none⟩) hg (Nat.le_refl _) (.int .i64 (4503599627370496 + x8))).set (p := ⟨w.heap.size, 3, none⟩) hg (Nat.le_refl _) (.int .i64 x9))
    clear  D 
    go_wp2_with fail
    exact bodyPost_ret (v := .agg #[.int .i64 1, .bool b, .int .i64 (4503599627370496 + x8), .int .i64 x9]) (by simp [results, Tryz.results97, go_sem, q0, q1, q2, q3]) rfl ⟨_, _, _, _, rfl, unhide DD⟩

end Go.Proofs.YtckaecmkidplhaaGreatDoor

