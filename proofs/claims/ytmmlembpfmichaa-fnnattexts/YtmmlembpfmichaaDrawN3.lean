/-
  The model's l2bent: a natural number that is drawn, or one that is none.
-/
import Derived.Test.YtmmlembpfmichaaDrawN2
namespace Go.Proofs.Ytmmlembpfmichaa
open Go.RowKit
set_option linter.unusedVariables false
set_option maxRecDepth 8000

theorem Kept.modNew {S : Nat → Prop} {lo hi : Nat} {a w w' : World} (k : Kept lo hi a w) (h : Mod S w w') (hS : ∀ i, S i → a.heap.size ≤ i) : Kept lo hi a w' :=
  ⟨h.os.trans k.os, h.tape.trans k.tape, h.output.trans k.output, Nat.le_trans k.size h.size, fun i hi ho => (h.block i (Nat.lt_of_lt_of_le hi k.size) (fun hs => by have := hS i hs; omega)).trans (k.block i hi ho)⟩
theorem Mod.above {S : Nat → Prop} {l : Nat} {a b : World} (m : Mod S a b) (h : ∀ i, S i → l ≤ i) : Kept l a.heap.size a b :=
  ⟨m.os, m.tape, m.output, m.size, fun i hi ho => m.block i hi (fun hs => by have := h i hs; omega)⟩
theorem Kept.modOne {g : Nat} {a b : World} (k : Kept g (g + 1) a b) : Mod (fun i => i = g) a b :=
  ⟨k.os, k.tape, k.output, k.size, fun i hi ho => k.block i hi (by have : i ≠ g := ho; omega)⟩

/-- A drawn number in the cell A, beside the cursor in g and the result's cell, which is still nought. -/
structure Bent (g lo : Nat) (w W : World) (A : Nat) (v : Value) (zs : List Int) : Prop where
  num : Num (w.heap.size + 1) W A v zs
  d : Drawn g lo w W
  cR : W.cell? ⟨w.heap.size, 0, none⟩ = some (.slice none 0 0)
  fR : W.frozen? ⟨w.heap.size, 0, none⟩ = false
  hA : w.heap.size < A
  hg : g < w.heap.size

theorem Bent.drew {g lo A : Nat} {w W W' : World} {v : Value} {zs : List Int} (h : Bent g lo w W A v zs) (d : Drew g lo W W') : Bent g lo w W' A v zs := by
  have h1 := h.hA
  have h2 := h.hg
  have h3 := World.block_lt_of_cell? _ _ h.cR
  refine ⟨h.num.mod d.2.1.modOne (by omega) (fun i hi e => by have := (h.num.own.lt i hi).1; omega), h.d.trans d.drawn, d.2.1.cellOut (.inr (show g + 1 ≤ w.heap.size by omega)) h.cR, ?_, h.hA, h.hg⟩
  rw [← h.fR]
  exact World.frozen?_of_block (d.2.1.block _ h3 (.inr (show g + 1 ≤ w.heap.size by omega)))
theorem Bent.snoc {g lo A : Nat} {w W w' : World} {v v' : Value} {zs qs : List Int} (h : Bent g lo w W A v zs) (o : Obj) (hgr : (W.alloc o).grownBy w' v.ownBlock) (hat : v'.ownBlock = v.ownBlock ∨ v'.ownBlock = some (W.heap.size + 1))
    (hown : w'.ownsRow (w.heap.size + 1) 3 1 v' qs.length (qs.map (Value.int .i64))) :
    w'.cell? ⟨A, 0, none⟩ = some v ∧ w'.frozen? ⟨A, 0, none⟩ = false ∧ Bent g lo w (w'.setCell ⟨A, 0, none⟩ v') A v' qs := by
  obtain ⟨d1, d2, d3, d4⟩ := h.num.snoc o hgr hat hown
  have h1 := h.hA
  have h2 := h.hg
  have h3 := World.block_lt_of_cell? _ _ h.cR
  have hS : ∀ i, Own1 A v i → w.heap.size + 1 ≤ i := fun i e => e.elim (fun e => by omega) (fun e => (h.num.own.lt i e).1)
  exact ⟨d1, d2, d3, ⟨h.d.1.kept (d4.above (l := w.heap.size + 1) hS) (.inl (by omega)), h.d.2.modNew d4 (fun i e => by have := hS i e; omega)⟩, d4.cellAt (fun e => Nat.not_succ_le_self _ (hS _ e)) h.cR, d4.looseAt (fun e => Nat.not_succ_le_self _ (hS _ e)) h3 h.fR, h.hA, h.hg⟩

/-- What is drawn: a number, or a list that is none. -/
def DrawnB (g lo : Nat) (w w' : World) (v : Value) : Prop :=
  ∃ zs : List Int, w'.ownsRow w.heap.size 3 1 v zs.length (zs.map (Value.int .i64)) ∧ (∀ z ∈ zs, -1 ≤ z ∧ z ≤ 65536) ∧ zs.length ≤ 101 ∧ Drawn g lo w w'

theorem Bent.ret {g lo A : Nat} {w W : World} {v : Value} {zs : List Int} (h : Bent g lo w W A v zs) (hz : ∀ z ∈ zs, -1 ≤ z ∧ z ≤ 65536) (hl : zs.length ≤ 101) : DrawnB g lo w (W.setCell ⟨w.heap.size, 0, none⟩ v) v :=
  ⟨zs, own_less (own_apart h.num.own (p := ⟨w.heap.size, 0, none⟩) (fun e => by have := (h.num.own.lt _ e).1; simp at this; omega) v) (Nat.le_succ _), hz, hl, h.d.1.setFar (p := ⟨w.heap.size, 0, none⟩) h.hg v, h.d.2.setNew (p := ⟨w.heap.size, 0, none⟩) (Nat.le_refl _) v⟩
theorem lim_bent {zs : List Int} (h : Lim zs) : ∀ z ∈ zs, -1 ≤ z ∧ z ≤ 65536 := fun z hz => by have := h z hz; omega
theorem bent_snoc {zs : List Int} {z : Int} (h : ∀ z ∈ zs, -1 ≤ z ∧ z ≤ 65536) (h0 : -1 ≤ z) (h1 : z ≤ 65536) : ∀ y ∈ zs ++ [z], -1 ≤ y ∧ y ≤ 65536 := fun y hy => by
  rcases List.mem_append.1 hy with h2 | h2
  · exact h y h2
  · simp at h2; omega

/-- How long the list is that the cell A holds. -/
def lenAt' (w : World) (g : Nat) : Nat := match w.cell? ⟨g, 0, none⟩ with
  | some (.slice _ n _) => n
  | _ => 0
theorem lenAt'_of {w : World} {g : Nat} {a : Option Addr} {n c : Nat} (h : w.cell? ⟨g, 0, none⟩ = some (.slice a n c)) : lenAt' w g = n := by unfold lenAt'; rw [h]

set_option maxHeartbeats 4000000 in
theorem bent_any (g lo : Nat) (w : World) (c : Cur g lo w) :
    Calls Try.prog 12 #[.pointer (some ⟨g, 0, none⟩)] w fun e w' => ∃ v, e = .returned (.agg #[v]) ∧ DrawnB g lo w w' v := by
  have k0 := (Kept.refl 0 0 w).alloc (.cells #[.slice none 0 0] 25)
  have hgw := c.1
  have c0 := c.kept k0 (by omega)
  have cr : (w.alloc (.cells #[.slice none 0 0] 25)).cell? ⟨w.heap.size, 0, none⟩ = some (.slice none 0 0) := new_cell_at _ _ _ _ rfl
  have fr : (w.alloc (.cells #[.slice none 0 0] 25)).frozen? ⟨w.heap.size, 0, none⟩ = false := new_loose _ _ _ _ rfl
  have hs : (w.alloc (.cells #[.slice none 0 0] 25)).heap.size = w.heap.size + 1 := by simp
  clear c
  go_enter Try.func12, Try.ntmps12
  go_wp2_with fail
  generalize w.alloc (.cells #[.slice none 0 0] 25) = W at *
  refine (draw_any g lo _ c0).mono ?_
  rintro e w1 ⟨v1, rfl, zs, o1, hn, hl, d1⟩
  have s1 := d1.2.size
  have n1 := Num.new 25 o1
  have kA := (Kept.refl 0 0 w1).alloc (.cells #[v1] 25)
  have bt : Bent g lo w (w1.alloc (.cells #[v1] 25)) w1.heap.size v1 zs :=
    ⟨n1.less (Nat.le_of_eq hs.symm), ⟨d1.1.kept kA (by omega), (k0.any.trans d1.2).trans kA.any⟩, kA.cell0 (d1.2.cellOut (.inr (show g + 1 ≤ w.heap.size by omega)) cr), kA.loose0 (a := ⟨w.heap.size, 0, none⟩) (show w.heap.size < w1.heap.size by omega) (by rw [← fr]; exact World.frozen?_of_block (d1.2.block _ (World.block_lt_of_cell? _ _ cr) (.inr (show g + 1 ≤ w.heap.size by omega)))), by omega, hgw⟩
  obtain ⟨a1, e1, ev⟩ := own_slice o1
  subst ev
  have hzs := lim_bent hn.1
  have hzl : zs.length ≤ 1000000 := by omega
  clear o1 n1 kA d1 k0 c0 cr fr hs s1
  go_wp2_with fail
  generalize w1.alloc (.cells #[.slice a1 zs.length e1] 25) = w2 at *
  generalize w1.heap.size = A at *
  refine (l1Once_any g lo _ bt.d.1 9).mono ?_
  rintro e w3 ⟨b, rfl, d3⟩
  replace bt := bt.drew d3
  clear d3
  cases b
  · have RT := hide (bt.ret hzs (by omega))
    have cR := bt.cR
    have fR := bt.fR
    have cA := bt.num.cell
    clear bt
    go_wp2_with fail
    exact bodyPost_ret (v := .agg #[.slice a1 zs.length e1]) (by simp [results, Try.results12, go_sem, cR]) rfl ⟨_, rfl, unhide RT⟩
  · go_wp2_with fail
    refine (l1Below_any g lo _ bt.d.1 4).mono ?_
    rintro e w4 ⟨x, rfl, -, hx, d4⟩
    have hx2 := hx (by omega)
    clear hx
    replace bt := bt.drew d4
    clear d4
    by_cases h0 : x = 0
    · subst h0
      have hown' := own_kept bt.num.own ((Kept.refl 0 0 w4).alloc (.cells #[.int .i64 (0)] 3))
      have hcc : (w4.alloc (.cells #[.int .i64 (0)] 3)).cell? ⟨w4.heap.size, 0, none⟩ = some (.int .i64 (0)) := new_cell_at _ _ _ _ rfl
      have hbb : w.heap.size + 1 ≤ (w4.alloc (.cells #[.int .i64 (0)] 3)).heap.size := by have := World.block_lt_of_cell? _ _ bt.cR; simp at this; simp; omega
      have HBB := hide hbb
      have hcA := bt.num.cell
      clear hbb
      go_wp2_with (at_builtin; refine wpList_snoc rfl _ _ rfl rfl _ rfl (0) hcc hown' hzl (unhide HBB) ?_)
      intro v' w' hown2 hgrow hat
      unfold OwnL at hown2
      replace hat := unhide hat
      obtain ⟨a3, c3, hv3⟩ := own_slice hown2
      obtain ⟨d1, d2, bt2⟩ := bt.snoc _ hgrow hat hown2
      generalize hq : zs ++ [(0 : Int)] = qs at *
      subst hv3
      have RT := hide (bt2.ret (by rw [← hq]; exact bent_snoc hzs (by omega) (by omega)) (by rw [← hq]; simp; omega))
      have cR := bt2.cR
      have fR := bt2.fR
      have cA := bt2.num.cell
      generalize hW5 : w'.setCell ⟨A, 0, none⟩ (.slice a3 qs.length c3) = W5 at *
      clear hown' hcc hown2 hgrow hat bt bt2 HBB hcA hq
      go_wp2
      try rw [hW5]
      try go_wp2
      exact bodyPost_ret (v := .agg #[.slice a3 qs.length c3]) (by simp [results, Try.results12, go_sem, cR]) rfl ⟨_, rfl, unhide RT⟩
    · have h0b : (x == 0) = false := beq_eq_false_iff_ne.2 h0
      by_cases h1 : x = 1
      · subst h1
        have hown' := own_kept bt.num.own ((Kept.refl 0 0 w4).alloc (.cells #[.int .i64 (-1)] 3))
        have hcc : (w4.alloc (.cells #[.int .i64 (-1)] 3)).cell? ⟨w4.heap.size, 0, none⟩ = some (.int .i64 (-1)) := new_cell_at _ _ _ _ rfl
        have hbb : w.heap.size + 1 ≤ (w4.alloc (.cells #[.int .i64 (-1)] 3)).heap.size := by have := World.block_lt_of_cell? _ _ bt.cR; simp at this; simp; omega
        have HBB := hide hbb
        have hcA := bt.num.cell
        clear hbb
        go_wp2_with (at_builtin; refine wpList_snoc rfl _ _ rfl rfl _ rfl (-1) hcc hown' hzl (unhide HBB) ?_)
        intro v' w' hown2 hgrow hat
        unfold OwnL at hown2
        replace hat := unhide hat
        obtain ⟨a3, c3, hv3⟩ := own_slice hown2
        obtain ⟨d1, d2, bt2⟩ := bt.snoc _ hgrow hat hown2
        generalize hq : zs ++ [(-1 : Int)] = qs at *
        subst hv3
        have RT := hide (bt2.ret (by rw [← hq]; exact bent_snoc hzs (by omega) (by omega)) (by rw [← hq]; simp; omega))
        have cR := bt2.cR
        have fR := bt2.fR
        have cA := bt2.num.cell
        generalize hW5 : w'.setCell ⟨A, 0, none⟩ (.slice a3 qs.length c3) = W5 at *
        clear hown' hcc hown2 hgrow hat bt bt2 HBB hcA hq
        go_wp2
        try rw [hW5]
        try go_wp2
        exact bodyPost_ret (v := .agg #[.slice a3 qs.length c3]) (by simp [results, Try.results12, go_sem, cR]) rfl ⟨_, rfl, unhide RT⟩
      · have h1b : (x == 1) = false := beq_eq_false_iff_ne.2 h1
        by_cases h2 : x = 2
        · subst h2
          have hown' := own_kept bt.num.own ((Kept.refl 0 0 w4).alloc (.cells #[.int .i64 (65536)] 3))
          have hcc : (w4.alloc (.cells #[.int .i64 (65536)] 3)).cell? ⟨w4.heap.size, 0, none⟩ = some (.int .i64 (65536)) := new_cell_at _ _ _ _ rfl
          have hbb : w.heap.size + 1 ≤ (w4.alloc (.cells #[.int .i64 (65536)] 3)).heap.size := by have := World.block_lt_of_cell? _ _ bt.cR; simp at this; simp; omega
          have HBB := hide hbb
          have hcA := bt.num.cell
          clear hbb
          go_wp2_with (at_builtin; refine wpList_snoc rfl _ _ rfl rfl _ rfl (65536) hcc hown' hzl (unhide HBB) ?_)
          intro v' w' hown2 hgrow hat
          unfold OwnL at hown2
          replace hat := unhide hat
          obtain ⟨a3, c3, hv3⟩ := own_slice hown2
          obtain ⟨d1, d2, bt2⟩ := bt.snoc _ hgrow hat hown2
          generalize hq : zs ++ [(65536 : Int)] = qs at *
          subst hv3
          have RT := hide (bt2.ret (by rw [← hq]; exact bent_snoc hzs (by omega) (by omega)) (by rw [← hq]; simp; omega))
          have cR := bt2.cR
          have fR := bt2.fR
          have cA := bt2.num.cell
          generalize hW5 : w'.setCell ⟨A, 0, none⟩ (.slice a3 qs.length c3) = W5 at *
          clear hown' hcc hown2 hgrow hat bt bt2 HBB hcA hq
          go_wp2
          try rw [hW5]
          try go_wp2
          exact bodyPost_ret (v := .agg #[.slice a3 qs.length c3]) (by simp [results, Try.results12, go_sem, cR]) rfl ⟨_, rfl, unhide RT⟩
        · have h2b : (x == 2) = false := beq_eq_false_iff_ne.2 h2
          have hcA := bt.num.cell
          have BT := hide bt
          have HZS := hide hzs
          have hl101 : zs.length ≤ 101 := by omega
          clear bt hzs
          go_wp2_with fail
          go_loopw [] (fun wr => ∃ (qs : List Int) (u : Value), Bent g lo w wr A u qs ∧ Hid (∀ z ∈ qs, -1 ≤ z ∧ z ≤ 65536) ∧ qs.length ≤ 101) (fun wr => 102 - lenAt' wr A)
          case atStart => exact ⟨zs, _, unhide BT, HZS, hl101⟩
          case round =>
            clear BT HZS hl101 hcA hzl hl hn
            obtain ⟨zs, u, bt, HZS, hl⟩ := hrel
            obtain ⟨a1, e1, hu⟩ := bt.num.form
            subst hu
            have hcA := bt.num.cell
            by_cases hgo : zs.length ≤ 100
            · have hgo' : (zs.length : Int) ≤ 100 := by omega
              have hzl : zs.length ≤ 1000000 := by omega
              have hown' := own_kept bt.num.own ((Kept.refl 0 0 wr).alloc (.cells #[.int .i64 (1)] 3))
              have hcc : (wr.alloc (.cells #[.int .i64 (1)] 3)).cell? ⟨wr.heap.size, 0, none⟩ = some (.int .i64 (1)) := new_cell_at _ _ _ _ rfl
              have hbb : w.heap.size + 1 ≤ (wr.alloc (.cells #[.int .i64 (1)] 3)).heap.size := by have := World.block_lt_of_cell? _ _ bt.cR; simp at this; simp; omega
              have HBB := hide hbb
              clear hbb
              go_wp2_with (at_builtin; refine wpList_snoc rfl _ _ rfl rfl _ rfl (1) hcc hown' hzl (unhide HBB) ?_)
              intro v' w' hown2 hgrow hat
              unfold OwnL at hown2
              replace hat := unhide hat
              obtain ⟨a3, c3, hv3⟩ := own_slice hown2
              obtain ⟨d1, d2, bt2⟩ := bt.snoc _ hgrow hat hown2
              have hl3 : lenAt' wr A = zs.length := lenAt'_of hcA
              generalize hq : zs ++ [(1 : Int)] = qs at *
              have hq1 : qs.length = zs.length + 1 := by rw [← hq]; simp
              have HQ1 := hide hq1
              subst hv3
              have hl4 : lenAt' (w'.setCell ⟨A, 0, none⟩ (.slice a3 qs.length c3)) A = qs.length := lenAt'_of bt2.num.cell
              have HL4 := hide hl4
              have HL3 := hide hl3
              have BT2 := hide bt2
              have HQ : Hid (∀ z ∈ qs, -1 ≤ z ∧ z ≤ 65536) := by rw [← hq]; exact bent_snoc (unhide HZS) (by omega) (by omega)
              clear hown' hcc hown2 hgrow hat bt bt2 HBB hcA hq hq1 hl3 hl4
              go_wp2
              go_roundw
              case rel => exact ⟨qs, _, unhide BT2, HQ, by have := unhide HQ1; omega⟩
              case measure => rw [unhide HL3, unhide HL4]; have := unhide HQ1; omega
            · have hgo' : ¬ (zs.length : Int) ≤ 100 := by omega
              have RT := hide (bt.ret (unhide HZS) hl)
              have cR := bt.cR
              have fR := bt.fR
              clear bt
              go_wp2
              exact bodyPost_ret (v := .agg #[.slice a1 zs.length e1]) (by simp [results, Try.results12, go_sem, cR]) rfl ⟨_, rfl, unhide RT⟩

end Go.Proofs.Ytmmlembpfmichaa
