/-
  The program's toldAll over the texts of numbers.
-/
import Derived.Test.YtfikfmkhmojpfaaDyt1
import Derived.Test.YtfikfmkhmojpfaaBM
namespace Go.Proofs.Ytfikfmkhmojpfaa
open Go.RowKit
set_option linter.unusedVariables false
set_option maxRecDepth 8000
set_option linter.unusedSimpArgs false

theorem Try.infoBs : (Try.prog.info? 30).map (fun i => (i.zero, i.size, i.bytes)) = some (some (.slice none 0 0), 1, 24) := by kernel_rfl

/-- All are told. -/
def allB (B : Nat → Bool) (n : Nat) : Bool := (List.range n).all B
theorem allB_no {B : Nat → Bool} {n j : Nat} (hj : j < n) (h : B j = false) : allB B n = false := by
  unfold allB
  rw [← Bool.not_eq_true, List.all_eq_true]
  intro h2
  have := h2 j (List.mem_range.2 hj)
  rw [this] at h; cases h
theorem allB_yes {B : Nat → Bool} {n : Nat} (h : ∀ i, i < n → B i = true) : allB B n = true := by
  unfold allB
  rw [List.all_eq_true]
  exact fun i hi => h i (List.mem_range.1 hi)
theorem allB_at {B : Nat → Bool} {n i : Nat} (h : allB B n = true) (hi : i < n) : B i = true := by
  unfold allB at h
  rw [List.all_eq_true] at h
  exact h i (List.mem_range.2 hi)
/-- A list of n cells of the call's own: they are there and may be written. -/
def Cls (w : World) (g n : Nat) : Prop := g < w.heap.size ∧ (∀ k, k < n → ∃ u, w.cell? ⟨g, k, none⟩ = some u) ∧ ∀ k, k < n → w.frozen? ⟨g, k, none⟩ = false
theorem Cls.kept {w w' : World} {g n l h : Nat} (c : Cls w g n) (k : Kept l h w w') (hg : g < l ∨ h ≤ g) : Cls w' g n := by
  have hb := k.block g c.1 hg
  exact ⟨Nat.lt_of_lt_of_le c.1 k.size, fun i hi => by obtain ⟨u, hu⟩ := c.2.1 i hi; exact ⟨u, (World.cell?_of_block (w := w) (a := ⟨g, i, none⟩) hb).trans hu⟩, fun i hi => (World.frozen?_of_block (w := w) (a := ⟨g, i, none⟩) hb).trans (c.2.2 i hi)⟩
theorem Cls.set {w : World} {g n p : Nat} {x : Value} (c : Cls w g n) : Cls (w.setCell ⟨g, p, none⟩ x) g n :=
  ⟨by rw [size_set]; exact c.1, fun i hi => by obtain ⟨u, hu⟩ := c.2.1 i hi; exact cells_of_setCell hu, fun i hi => by rw [frozen_set]; exact c.2.2 i hi⟩
theorem own1_cls {w : World} {base n g c : Nat} {e : TypeId} {z : Value} (hz : z.cells.size = 1) (h : w.ownsRow base e 1 (.slice (some ⟨g, 0, none⟩) n c) n (madeCells z.cells (n * 1)).toList) : Cls w g n := by
  rcases h.2 with ⟨e1, h0⟩ | ⟨g', cap, cur, e1, hb, hg, hle, hm, hs, htake⟩
  · cases e1
  · cases e1
    refine ⟨(Array.getElem?_eq_some_iff.1 hg).1, fun k hk => ?_, fun k hk => by simp [World.frozen?, hg]⟩
    have hl : (madeCells z.cells (n * 1)).toList.length = n * 1 := by simp [madeCells]
    have h1 : ∃ u, (madeCells z.cells (n * 1)).toList[k]? = some u := ⟨_, List.getElem?_eq_getElem (by omega)⟩
    obtain ⟨u, hu⟩ := h1
    refine ⟨u, ?_⟩
    rw [← htake, List.getElem?_take, if_pos (by omega)] at hu
    simpa [World.cell?, hg] using hu

/-- Texts in a row of slices: the first k are those of F, none of them in the row's own block. -/
def Txs (w : World) (g L k : Nat) (F : Nat → List Int) : Prop :=
  ∀ j, j < k → ∃ v b, w.cell? ⟨g, j, none⟩ = some v ∧ L ≤ b ∧ b ≠ g ∧ Row .u8 true b (b + 1) w v (F j)
theorem Txs.kept {w w' : World} {g L k : Nat} {F : Nat → List Int} (t : Txs w g L k F) (q : Kept 0 0 w w') : Txs w' g L k F := fun j hj => by
  obtain ⟨v, b, c, hL, hb, r⟩ := t j hj
  exact ⟨v, b, q.cell0 c, hL, hb, r.kept q (by omega)⟩
theorem Txs.keptG {w w' : World} {g L k l h : Nat} {F : Nat → List Int} (t : Txs w g L k F) (q : Kept l h w w') (hl : h ≤ L) (hg : g < l ∨ h ≤ g) : Txs w' g L k F := fun j hj => by
  obtain ⟨v, b, c, hL, hb, r⟩ := t j hj
  exact ⟨v, b, q.cellOut (a := ⟨g, j, none⟩) hg c, hL, hb, r.kept q (.inr (.inl (by omega)))⟩
theorem Txs.step {w : World} {g L k b : Nat} {F : Nat → List Int} {x : Value} (t : Txs w g L k F) (hL : L ≤ b) (hb : b ≠ g) (r : Row .u8 true b (b + 1) w x (F k)) (hc : ∃ u, w.cell? ⟨g, k, none⟩ = some u) : Txs (w.setCell ⟨g, k, none⟩ x) g L (k + 1) F := fun j hj => by
  have ks : Kept g (g + 1) w (w.setCell ⟨g, k, none⟩ x) := (Kept.refl _ _ _).setCell (p := ⟨g, k, none⟩) (Nat.le_refl _) (Nat.lt_succ_self _) _
  obtain ⟨u, hu⟩ := hc
  rcases Nat.lt_succ_iff_lt_or_eq.1 hj with h | h
  · obtain ⟨v, b', c, hL', hb', r'⟩ := t j h
    exact ⟨v, b', cell_off _ _ _ _ _ _ c (by omega), hL', hb', r'.kept ks (by omega)⟩
  · subst h
    exact ⟨x, b, cell_on _ _ _ _ _ hu, hL, hb, r.kept ks (by omega)⟩

theorem row_block1 {k : IntKind} {bw : Bool} {lo hi : Nat} {w : World} {v : Value} {zs : List Int} (r : Row k bw lo hi w v zs) : ∃ b, (zs ≠ [] → lo ≤ b ∧ b < hi) ∧ Row k bw b (b + 1) w v zs := by
  obtain ⟨a, c, rfl, h1, h2, h3⟩ := r
  by_cases hz : zs = []
  · exact ⟨lo, fun e => absurd hz e, a, c, rfl, h1, h2, fun e => absurd hz e⟩
  · obtain ⟨g, off, rfl, hl, hh, rest⟩ := h3 hz
    exact ⟨g, fun _ => ⟨hl, hh⟩, _, c, rfl, h1, h2, fun _ => ⟨g, off, rfl, Nat.le_refl _, Nat.lt_succ_self _, rest⟩⟩

def tB (d : DE) : Bool := dtB d.1 d.2.1 d.2.2
def tT (d : DE) : List Int := dtT d.1 d.2.1 d.2.2
theorem tT_ne {d : DE} (h : tB d = true) : tT d ≠ [] := by
  unfold tT dtT
  unfold tB at h
  rw [if_pos h]
  unfold sgnT
  split
  · simp
  · exact dsz_ne _ _
def I64 (x : Int) : Prop := x ≤ 9223372036854775807 ∧ -9223372036854775808 ≤ x

set_option maxHeartbeats 16000000 in
theorem toldAllT_impl {lo hi : Nat} {v : Value} {ds : List DE} (w : World) (hn : ds.length ≤ 100) (r : Dys lo hi w v ds) (HY : ∀ i, i < ds.length → I64 (ds.getD i de0).2.2) :
    Calls Try.prog 46 #[v, .func (.func 10) #[] #[]] w fun e w' => ∃ v', e = .returned (.tuple #[v', .bool (allB (fun i => tB (ds.getD i de0)) ds.length)]) ∧ (allB (fun i => tB (ds.getD i de0)) ds.length = true → v' = .slice (some ⟨w.heap.size, 0, none⟩) ds.length ds.length ∧ w.heap.size < w'.heap.size ∧ Txs w' w.heap.size (w.heap.size + 1) ds.length (fun i => tT (ds.getD i de0))) ∧ Kept 0 0 w w' := by
  obtain ⟨a, c, rfl, -, -⟩ := r.form
  obtain ⟨n, hnn⟩ : ∃ n, n = ds.length := ⟨_, rfl⟩
  rw [← hnn] at r hn ⊢
  have HN := hide hnn
  have R := hide r
  have HYY := hide HY
  obtain ⟨B, hB⟩ : ∃ B : Nat → Bool, (fun i => tB (ds.getD i de0)) = B := ⟨_, rfl⟩
  obtain ⟨T, hT⟩ : ∃ T : Nat → List Int, (fun i => tT (ds.getD i de0)) = T := ⟨_, rfl⟩
  rw [hB, hT]
  have HB := hide hB
  have HT := hide hT
  obtain ⟨i0, hi0, hz0, hz1, hz2⟩ := info_parts Try.infoBs
  have hb0 : i0.bytes * n ≤ 281474976710656 := by rw [hz2]; omega
  have hm0 : n ≤ maxLen := by unfold maxLen; omega
  clear r hnn HY hB hT
  go_enter Try.func46, Try.ntmps46
  go_wp2_with (at_make; refine wpList_make_full _ rfl _ _ 89 rfl w.heap.size 30 i0 (.slice none 0 0) 1 Try.underlying89 hi0 hz0 hz1 .i64 .i64 _ _ n rfl rfl rfl rfl hb0 hm0 (Nat.le_refl _) ?_; intro w1 hown hgrow)
  have C1 := hide (own1_cls rfl hown)
  have k1 : Kept 0 0 w w1 := ⟨hgrow.os, hgrow.tape, hgrow.output, hgrow.size, fun i hi _ => hgrow.block i hi (by simp)⟩
  clear hown hgrow hi0 hz0 hz1 hz2 hb0 hm0
  obtain ⟨g, hg⟩ : ∃ g, g = w.heap.size := ⟨_, rfl⟩
  rw [← hg] at C1
  rw [← hg]
  have K1 := hide k1
  have HG := hide hg
  clear k1 hg
  go_loopw [16] (fun s16 wr => ∃ j : Nat, s16 = .int .i64 j ∧ j ≤ n ∧ Hid (∀ i, i < j → B i = true) ∧ Hid (Txs wr g (g + 1) j T) ∧ Hid (Cls wr g n) ∧ Hid (Kept 0 0 w wr)) (fun s16 _ => n - (intOf s16).toNat)
  case atStart => exact ⟨0, rfl, Nat.zero_le _, fun i hi => by omega, fun i hi => by omega, C1, K1⟩
  case round =>
    clear C1 K1
    obtain ⟨j, rfl, hj, hall, hT, hC, k⟩ := hrel
    have hwj : IntKind.i64.wrap ((j : Int) + 1) = ((j + 1 : Nat) : Int) := by rw [IntKind.wrap_i64]; omega
    by_cases hlt : j < n
    · have hjl : j < ds.length := by rw [← unhide HN]; exact hlt
      obtain ⟨gA, off, ln, rfl, -, -, -, b, kk, c0, c1, c2, hln, rr⟩ := ((unhide R).kept (unhide k) (by omega)).at (i := j) hjl
      have hy := unhide HYY j hjl
      have hBj : B j = tB (ds.getD j de0) := by rw [← unhide HB]
      have hTj : T j = tT (ds.getD j de0) := by rw [← unhide HT]
      obtain ⟨⟨s0, z0, y0⟩, hd⟩ : ∃ q, q = ds.getD j de0 := ⟨_, rfl⟩
      rw [← hd] at c0 c2 rr hy hBj hTj hln
      dsimp only at c0 c2 rr hy hln
      have kA := (Kept.refl 0 0 wr).alloc (.cells #[.bool s0, .slice b ln kk, .int .i64 y0] 37)
      have t0 : (wr.alloc (.cells #[.bool s0, .slice b ln kk, .int .i64 y0] 37)).cell? ⟨wr.heap.size, 0, none⟩ = some (.bool s0) := new_cell2 _ _ _ _ _ _ rfl rfl
      have t1 : (wr.alloc (.cells #[.bool s0, .slice b ln kk, .int .i64 y0] 37)).cell? ⟨wr.heap.size, 1, none⟩ = some (.slice b ln kk) := new_cell2 _ _ _ _ _ _ rfl rfl
      have t2 : (wr.alloc (.cells #[.bool s0, .slice b ln kk, .int .i64 y0] 37)).cell? ⟨wr.heap.size, 2, none⟩ = some (.int .i64 y0) := new_cell2 _ _ _ _ _ _ rfl rfl
      have hc2 := dyText_impl s0 y0 hy.1 hy.2 _ (rr.kept kA (by omega))
      have hb2 : dtB s0 z0 y0 = B j := hBj.symm
      have ht2 : dtT s0 z0 y0 = T j := hTj.symm
      have hne : Hid (B j = true → T j ≠ []) := fun h => by rw [hTj]; rw [hBj] at h; exact tT_ne h
      rw [hb2, ht2] at hc2
      have KA := hide kA
      clear hd hln rr hjl kA hBj hTj hb2 ht2 hy
      go_wp2_with fail
      refine hc2.mono ?_
      rintro e w3 ⟨v3, rfl, r3, k3⟩
      obtain ⟨a3, d3, hv3⟩ := Row.form' r3
      subst hv3
      have k4 := (unhide KA).trans k3
      have zA := (unhide KA).size
      have z4 := k4.size
      have Cg := (unhide hC).kept k4 (by omega)
      obtain ⟨x0, hx0⟩ := Cg.2.1 j hlt
      have f0 := Cg.2.2 j hlt
      have Tg := (unhide hT).kept k4
      have K4 := hide ((unhide k).trans k4)
      have gl := (unhide hC).1
      have hgw := unhide HG
      have zk := (unhide k).size
      obtain ⟨b3, hb3, rb⟩ := row_block1 r3
      have CG := hide Cg
      have TG := hide Tg
      have RB := hide rb
      have HB3 := hide hb3
      have GL : Hid (g + 1 ≤ wr.heap.size) := gl
      have ZZ : Hid (wr.heap.size ≤ w3.heap.size ∧ wr.heap.size + 1 ≤ (wr.alloc (.cells #[.bool s0, .slice b ln kk, .int .i64 y0] 37)).heap.size) := ⟨z4, by simp⟩
      clear hc2 r3 k3 k4 hT hC k t0 t1 t2 c0 c1 c2 KA Cg Tg rb hb3 gl z4 zA hgw
      cases hB : B j
      · have HBN := hide (allB_no hlt hB)
        clear hB hx0 f0
        go_wp2
        exact bodyPost_ret (v := .tuple #[.slice none 0 0, .bool false]) (by simp [results, Try.results46, go_sem]) rfl ⟨.slice none 0 0, by rw [unhide HBN], fun h => by (rw [unhide HBN] at h; cases h), unhide K4⟩
      · have HALL : Hid (∀ i, i < j + 1 → B i = true) := fun i hi => by
          rcases Nat.lt_succ_iff_lt_or_eq.1 hi with h | h
          · exact unhide hall i h
          · subst h; exact hB
        have hb3 := unhide HB3 (unhide hne hB)
        have hg1 := unhide GL
        have hz1 := unhide ZZ
        have hgw := unhide HG
        have ks : Kept g (g + 1) w3 (w3.setCell ⟨g, j, none⟩ (.slice a3 (T j).length d3)) := (Kept.refl _ _ _).setCell (p := ⟨g, j, none⟩) (Nat.le_refl _) (Nat.lt_succ_self _) _
        have T5 : Hid (Txs (w3.setCell ⟨g, j, none⟩ (.slice a3 (T j).length d3)) g (g + 1) (j + 1) T) := (unhide TG).step (by omega) (by omega) (unhide RB) ⟨x0, hx0⟩
        have C5 : Hid (Cls (w3.setCell ⟨g, j, none⟩ (.slice a3 (T j).length d3)) g n) := (unhide CG).set
        have K5 := hide ((unhide K4).wide ks (by omega))
        clear hB ks TG CG RB HB3 hb3 K4 hz1 hgw
        go_wp2
        go_roundw
        case rel => exact ⟨j + 1, by simp, hlt, HALL, T5, C5, K5⟩
        case measure => simp [intOf]; omega
    · have hjn : j = n := by omega
      subst hjn
      have HA := hide (allB_yes (unhide hall))
      have hgl := (unhide hC).1
      have HGL : Hid (w.heap.size < wr.heap.size) := by show _ < _; rw [← unhide HG]; exact hgl
      clear hall hgl hC
      go_wp2
      exact bodyPost_ret (v := .tuple #[.slice (some ⟨g, 0, none⟩) j j, .bool true]) (by simp [results, Try.results46, go_sem]) rfl ⟨_, by rw [unhide HA], fun _ => ⟨by rw [unhide HG], unhide HGL, by rw [← unhide HG]; exact unhide hT⟩, unhide k⟩

end Go.Proofs.Ytfikfmkhmojpfaa
