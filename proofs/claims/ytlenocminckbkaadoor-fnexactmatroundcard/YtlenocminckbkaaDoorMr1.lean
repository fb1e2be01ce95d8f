/-
  The program's toldMat over numbers that a function tells one by one, or refuses.
-/
import Derived.Test.YtlenocminckbkaaDoorDys5
namespace Go.Proofs.YtlenocminckbkaaDoor
open Go.RowKit
set_option linter.unusedVariables false
set_option maxRecDepth 8000
set_option linter.unusedSimpArgs false

/-- All are told. -/
def allB (B : Nat → Bool) (n : Nat) : Bool := (List.range n).all B
theorem allB_no {B : Nat → Bool} {n j : Nat} (hj : j < n) (h : B j = false) : allB B n = false := by
  unfold allB
  rw [← Bool.not_eq_true, List.all_eq_true]
  intro h2
  have := h2 j (List.mem_range.2 hj)
  rw [this] at h; cases h
theorem allB_yes {B : Nat → Bool} {n : Nat} (h : ∀ i, i < n → B i = true) : allB B n = true := by
  unfold allB
  rw [List.all_eq_true]
  exact fun i hi => h i (List.mem_range.1 hi)
/-- What is told, or nothing. -/
def telL (E : Nat → DE) (B : Nat → Bool) (n : Nat) : List DE := if allB B n = true then (List.range n).map E else []
def telN (B : Nat → Bool) (n : Nat) (m : Int) : Int := if allB B n = true then m else 0
theorem DysO.void (lo hi : Nat) (w : World) : DysO lo hi w (.slice none 0 0) [] := ⟨none, 0, rfl, Nat.le_refl _, Nat.zero_le _, fun h => absurd rfl h⟩
theorem map_at (E : Nat → DE) (n i : Nat) (h : i < n) : ((List.range n).map E).getD i de0 = E i := by simp [List.getD, h]

theorem Fill.kept {lo g n j : Nat} {ds : List DE} {w w' : World} (h : Fill lo g n ds j w) (k : Kept 0 0 w w') : Fill lo g n ds j w' := by
  obtain ⟨hlt, ⟨b, hb, hmono⟩, hcell, hloose⟩ := h
  have hs := k.size
  exact ⟨by omega, ⟨b, fun i hi => ⟨fun e => by have := (hb i hi).1 e; omega, (hb i hi).2.keptE k (by omega) (by omega)⟩, hmono⟩, fun k' hk' => by obtain ⟨x, hx⟩ := hcell k' hk'; exact ⟨x, k.cell0 hx⟩, fun k' hk' => k.loose0 (a := ⟨g, k', none⟩) hlt (hloose k' hk')⟩

set_option maxHeartbeats 16000000 in
theorem toldAllD_impl {lo hi Bl Bm : Nat} {v : Value} {ds : List DE} (E : Nat → DE) (B : Nat → Bool) (w : World) (hn : ds.length ≤ 100) (r : Dys lo hi w v ds)
    (H : ∀ i w' b l c, i < ds.length → Kept 0 0 w w' → Row .i64 false lo hi w' (.slice b l c) (ds.getD i de0).2.1 → Calls Tryd.prog 19 #[.agg #[.bool (ds.getD i de0).1, .slice b l c, .int .i64 (ds.getD i de0).2.2], .pointer (some ⟨Bl, 0, none⟩), .pointer (some ⟨Bm, 0, none⟩)] w' fun e w'' => ∃ v', e = .returned (.tuple #[.agg #[.bool (E i).1, v', .int .i64 (E i).2.2], .bool (B i)]) ∧ Row .i64 true w'.heap.size w''.heap.size w'' v' (E i).2.1 ∧ Kept 0 0 w' w'') :
    Calls Tryd.prog 32 #[v, .func (.func 19) #[] #[.pointer (some ⟨Bl, 0, none⟩), .pointer (some ⟨Bm, 0, none⟩)]] w fun e w' => ∃ v', e = .returned (.tuple #[v', .bool (allB B ds.length)]) ∧ DysO w.heap.size w'.heap.size w' v' (telL E B ds.length) ∧ Kept 0 0 w w' := by
  obtain ⟨a, c, rfl, -, -⟩ := r.form
  obtain ⟨n, hnn⟩ : ∃ n, n = ds.length := ⟨_, rfl⟩
  rw [← hnn] at r hn ⊢
  have HN := hide hnn
  have R := hide r
  have HH := hide H
  obtain ⟨i0, hi0, hz0, hz1, hz2⟩ := info_parts Tryd.infoDy
  have hb0 : i0.bytes * n ≤ 281474976710656 := by rw [hz2]; omega
  have hm0 : n ≤ maxLen := by unfold maxLen; omega
  have HM := hide hm0
  clear r hnn H
  go_enter Tryd.func32, Tryd.ntmps32
  go_wp2_with (at_make; refine wpList_make_full _ rfl _ _ 26 rfl w.heap.size 48 i0 (.agg #[.bool false, .slice none 0 0, .int .i64 0]) 3 Tryd.underlying26 hi0 hz0 hz1 .i64 .i64 _ _ n rfl rfl rfl rfl hb0 hm0 (Nat.le_refl _) ?_; intro w1 hown hgrow)
  have F0 := made_fill (w := w) (lo := 0) (ds := (List.range n).map E) hown
  have k1 : Kept 0 0 w w1 := ⟨hgrow.os, hgrow.tape, hgrow.output, hgrow.size, fun i hi _ => hgrow.block i hi (by simp)⟩
  clear hown hgrow hi0 hz0 hz1 hz2 hb0 hm0
  obtain ⟨g, hg⟩ : ∃ g, g = w.heap.size := ⟨_, rfl⟩
  rw [← hg] at F0
  rw [← hg]
  have F1 := hide F0
  have K2 := hide k1
  have HG := hide hg
  clear F0 k1 hg
  go_loopw [16] (fun s16 wr => ∃ j : Nat, s16 = .int .i64 j ∧ j ≤ n ∧ Hid (∀ i, i < j → B i = true) ∧ Hid (Fill 0 g n ((List.range n).map E) j wr) ∧ Hid (Kept 0 0 w wr) ∧ Hid (Kept g (g + 1) w1 wr)) (fun s16 _ => n - (intOf s16).toNat)
  case atStart => exact ⟨0, rfl, Nat.zero_le _, fun i hi => by omega, F1, K2, Kept.refl _ _ _⟩
  case round =>
    clear F1 K2
    obtain ⟨j, rfl, hj, hall, hF, k, kg⟩ := hrel
    have hwj : IntKind.i64.wrap ((j : Int) + 1) = ((j + 1 : Nat) : Int) := by rw [IntKind.wrap_i64]; omega
    have hgg := unhide HG
    have HGG := hide hgg
    clear hgg
    by_cases hlt : j < n
    · have hjl : j < ds.length := by rw [← unhide HN]; exact hlt
      obtain ⟨gA, off, ln, rfl, -, -, -, b, kk, c0, c1, c2, hln, rr⟩ := ((unhide R).kept (unhide k) (by omega)).at (i := j) hjl
      have hcl := fun w' hk hr => unhide HH j w' b ln kk hjl hk hr
      obtain ⟨s0, hs0'⟩ : ∃ q, q = (ds.getD j de0).1 := ⟨_, rfl⟩
      obtain ⟨y0, hy0⟩ : ∃ q, q = (ds.getD j de0).2.2 := ⟨_, rfl⟩
      obtain ⟨z0, hz0⟩ : ∃ q, q = (ds.getD j de0).2.1 := ⟨_, rfl⟩
      rw [← hs0', ← hy0, ← hz0] at hcl
      rw [← hs0'] at c0
      rw [← hy0] at c2
      rw [← hz0] at rr
      obtain ⟨⟨s1, z1, y1⟩, hE⟩ : ∃ q, q = E j := ⟨_, rfl⟩
      rw [← hE] at hcl
      dsimp only at hcl
      have HE : Hid (((List.range n).map E).getD j de0 = (s1, z1, y1)) := by show _ = _; rw [map_at _ _ _ hlt, hE]
      have kA := (Kept.refl 0 0 wr).alloc (.cells #[.bool s0, .slice b ln kk, .int .i64 y0] 48)
      have t0 : (wr.alloc (.cells #[.bool s0, .slice b ln kk, .int .i64 y0] 48)).cell? ⟨wr.heap.size, 0, none⟩ = some (.bool s0) := new_cell2 _ _ _ _ _ _ rfl rfl
      have t1 : (wr.alloc (.cells #[.bool s0, .slice b ln kk, .int .i64 y0] 48)).cell? ⟨wr.heap.size, 1, none⟩ = some (.slice b ln kk) := new_cell2 _ _ _ _ _ _ rfl rfl
      have t2 : (wr.alloc (.cells #[.bool s0, .slice b ln kk, .int .i64 y0] 48)).cell? ⟨wr.heap.size, 2, none⟩ = some (.int .i64 y0) := new_cell2 _ _ _ _ _ _ rfl rfl
      have hc2 := hcl _ ((unhide k).trans kA) (rr.kept kA (by omega))
      have KA := hide kA
      clear hs0' hy0 hz0 hE hln hcl rr hjl kA
      go_wp2_with fail
      refine hc2.mono ?_
      rintro e w3 ⟨v3, rfl, r3, k3⟩
      obtain ⟨a3, d3, hv3⟩ := Row.form' r3
      subst hv3
      have kB := (Kept.refl 0 0 w3).alloc (.cells #[.bool s1, .slice a3 z1.length d3, .int .i64 y1] 48)
      have k4 := ((unhide KA).trans k3).trans kB
      have r4 := (r3.kept kB (by omega)).wider (lo' := wr.heap.size) (hi' := (w3.alloc (.cells #[.bool s1, .slice a3 z1.length d3, .int .i64 y1] 48)).heap.size) (by have := (unhide KA).size; omega) (by simp)
      have u0 : (w3.alloc (.cells #[.bool s1, .slice a3 z1.length d3, .int .i64 y1] 48)).cell? ⟨w3.heap.size, 0, none⟩ = some (.bool s1) := new_cell2 _ _ _ _ _ _ rfl rfl
      have u1 : (w3.alloc (.cells #[.bool s1, .slice a3 z1.length d3, .int .i64 y1] 48)).cell? ⟨w3.heap.size, 1, none⟩ = some (.slice a3 z1.length d3) := new_cell2 _ _ _ _ _ _ rfl rfl
      have u2 : (w3.alloc (.cells #[.bool s1, .slice a3 z1.length d3, .int .i64 y1] 48)).cell? ⟨w3.heap.size, 2, none⟩ = some (.int .i64 y1) := new_cell2 _ _ _ _ _ _ rfl rfl
      have F4 := (unhide hF).step hlt k4 r4 (unhide HE)
      have hFl := (unhide hF).lt
      obtain ⟨x0, hx0⟩ := (unhide hF).cell (j * 3) (by omega)
      obtain ⟨x1, hx1⟩ := (unhide hF).cell (j * 3 + 1) (by omega)
      obtain ⟨x2, hx2⟩ := (unhide hF).cell (j * 3 + 2) (by omega)
      have f0 := k4.loose0 (a := ⟨g, j * 3, none⟩) hFl ((unhide hF).loose (j * 3) (by omega))
      have f1 := k4.loose0 (a := ⟨g, j * 3 + 1, none⟩) hFl ((unhide hF).loose (j * 3 + 1) (by omega))
      have f2 := k4.loose0 (a := ⟨g, j * 3 + 2, none⟩) hFl ((unhide hF).loose (j * 3 + 2) (by omega))
      replace hx0 := k4.cell0 hx0
      replace hx1 := k4.cell0 hx1
      replace hx2 := k4.cell0 hx2
      have K4 := hide ((unhide k).trans k4)
      have KG4 := hide ((unhide kg).trans k4.any)
      have HF4 := hide F4
      clear hc2 r3 k3 kB k4 r4 F4 hFl hF k kg t0 t1 t2 c0 c1 c2 KA
      cases hB : B j
      · have HBN := hide (allB_no hlt hB)
        clear hB HF4 KG4 hx0 hx1 hx2 f0 f1 f2
        go_wp2
        exact bodyPost_ret (v := .tuple #[.slice none 0 0, .bool false]) (by simp [results, Tryd.results32, go_sem]) rfl ⟨.slice none 0 0, by rw [unhide HBN], by unfold telL; rw [unhide HBN]; exact DysO.void _ _ _, unhide K4⟩
      · have HALL : Hid (∀ i, i < j + 1 → B i = true) := fun i hi => by
          rcases Nat.lt_succ_iff_lt_or_eq.1 hi with h | h
          · exact unhide hall i h
          · subst h; exact hB
        have hgg := unhide HGG
        have ks : Kept g (g + 1) (w3.alloc (.cells #[.bool s1, .slice a3 z1.length d3, .int .i64 y1] 48)) ((((w3.alloc (.cells #[.bool s1, .slice a3 z1.length d3, .int .i64 y1] 48)).setCell ⟨g, j * 3, none⟩ (.bool s1)).setCell ⟨g, j * 3 + 1, none⟩ (.slice a3 z1.length d3)).setCell ⟨g, j * 3 + 2, none⟩ (.int .i64 y1)) :=
          (((Kept.refl _ _ _).setCell (p := ⟨g, j * 3, none⟩) (Nat.le_refl _) (Nat.lt_succ_self _) _).setCell (p := ⟨g, j * 3 + 1, none⟩) (Nat.le_refl _) (Nat.lt_succ_self _) _).setCell (p := ⟨g, j * 3 + 2, none⟩) (Nat.le_refl _) (Nat.lt_succ_self _) _
        have K5 := hide ((unhide K4).wide ks (by omega))
        have KG5 := hide ((unhide KG4).trans ks)
        clear hB ks K4 KG4 hgg
        go_wp2
        go_roundw
        case rel => exact ⟨j + 1, by simp, hlt, HALL, HF4, K5, KG5⟩
        case measure => simp [intOf]; omega
    · have hjn : j = n := by omega
      subst hjn
      have HA := hide (allB_yes (unhide hall))
      have hgg := unhide HGG
      have D := (unhide hF).done (by simp) (unhide HM)
      have DD := hide (D.wider (lo' := w.heap.size) (hi' := wr.heap.size) (by omega) (by omega))
      have K7 := hide (unhide k)
      clear hF k kg D hgg hall
      go_wp2
      exact bodyPost_ret (v := .tuple #[.slice (some ⟨g, 0, none⟩) j j, .bool true]) (by simp [results, Tryd.results32, go_sem]) rfl ⟨.slice (some ⟨g, 0, none⟩) j j, by rw [unhide HA], by unfold telL; rw [unhide HA]; exact unhide DD, unhide K7⟩

set_option maxHeartbeats 4000000 in
theorem toldMatD_impl {lo hi Bl Bm : Nat} {v : Value} {ds : List DE} (m : Int) (E : Nat → DE) (B : Nat → Bool) (w : World) (hn : ds.length ≤ 100) (r : Dys lo hi w v ds)
    (H : ∀ i w' b l c, i < ds.length → Kept 0 0 w w' → Row .i64 false lo hi w' (.slice b l c) (ds.getD i de0).2.1 → Calls Tryd.prog 19 #[.agg #[.bool (ds.getD i de0).1, .slice b l c, .int .i64 (ds.getD i de0).2.2], .pointer (some ⟨Bl, 0, none⟩), .pointer (some ⟨Bm, 0, none⟩)] w' fun e w'' => ∃ v', e = .returned (.tuple #[.agg #[.bool (E i).1, v', .int .i64 (E i).2.2], .bool (B i)]) ∧ Row .i64 true w'.heap.size w''.heap.size w'' v' (E i).2.1 ∧ Kept 0 0 w' w'') :
    Calls Tryd.prog 18 #[.int .i64 m, v, .func (.func 19) #[] #[.pointer (some ⟨Bl, 0, none⟩), .pointer (some ⟨Bm, 0, none⟩)]] w fun e w' => ∃ v', e = .returned (.tuple #[.agg #[.int .i64 (telN B ds.length m), v'], .bool (allB B ds.length)]) ∧ DysO w.heap.size w'.heap.size w' v' (telL E B ds.length) ∧ Kept 0 0 w w' := by
  obtain ⟨W, hW⟩ : ∃ W, W = (w.alloc (.cells #[.int .i64 0, .slice none 0 0] 28)) := ⟨_, rfl⟩
  have k0 : Kept 0 0 w W := by rw [hW]; exact (Kept.refl 0 0 w).alloc _
  have R0 : W.cell? ⟨w.heap.size, 0, none⟩ = some (.int .i64 0) := by rw [hW]; exact new_cell2 _ _ _ _ _ _ rfl rfl
  have R1 : W.cell? ⟨w.heap.size, 1, none⟩ = some (.slice none 0 0) := by rw [hW]; exact new_cell2 _ _ _ _ _ _ rfl rfl
  have Rf0 : W.frozen? ⟨w.heap.size, 0, none⟩ = false := by rw [hW]; exact new_loose2 _ _ _ _ _ rfl
  have Rf1 : W.frozen? ⟨w.heap.size, 1, none⟩ = false := by rw [hW]; exact new_loose2 _ _ _ _ _ rfl
  have sW : W.heap.size = w.heap.size + 1 := by rw [hW]; simp
  have ta := toldAllD_impl E B W hn (r.kept k0 (by omega)) (fun i w2 b l c hi k rr => H i w2 b l c hi (k0.trans k) rr)
  obtain ⟨X1, hX1⟩ : ∃ x, x = telN B ds.length m := ⟨_, rfl⟩
  obtain ⟨X2, hX2⟩ : ∃ x, x = allB B ds.length := ⟨_, rfl⟩
  obtain ⟨X3, hX3⟩ : ∃ x, x = telL E B ds.length := ⟨_, rfl⟩
  rw [← hX2, ← hX3] at ta
  rw [← hX1, ← hX2, ← hX3]
  have H1 : Hid (X1 = if X2 = true then m else 0) := by show _ = _; rw [hX1, hX2]; rfl
  have H3 : Hid (X2 = false → X3 = []) := fun h => by rw [hX2] at h; rw [hX3]; unfold telL; rw [h]; rfl
  obtain ⟨a0, c0, rfl, -, -⟩ := r.form
  have SW := hide sW
  have K0 := hide k0
  clear hX1 hX2 hX3 sW k0 r H hn
  go_enter Tryd.func18, Tryd.ntmps18
  go_wp2_with fail
  rw [← hW]
  clear hW
  refine ta.mono ?_
  rintro e w1 ⟨v1, rfl, d1, k1⟩
  obtain ⟨a1, c1, hv1⟩ := d1.form'
  subst hv1
  have sW := unhide SW
  have z1 := k1.size
  have P0 := k1.cellOut (a := ⟨w.heap.size, 0, none⟩) (.inr (Nat.zero_le _)) R0
  have P1 := k1.cellOut (a := ⟨w.heap.size, 1, none⟩) (.inr (Nat.zero_le _)) R1
  have Pf0 := k1.looseOut (a := ⟨w.heap.size, 0, none⟩) (.inr (Nat.zero_le _)) (World.block_lt_of_cell? _ _ R0) Rf0
  have Pf1 := k1.looseOut (a := ⟨w.heap.size, 1, none⟩) (.inr (Nat.zero_le _)) (World.block_lt_of_cell? _ _ R1) Rf1
  have K1 := hide ((unhide K0).trans k1)
  have D1 := hide d1
  clear ta R0 R1 Rf0 Rf1 k1 d1
  cases X2
  · have HB := hide ((unhide H3) rfl)
    have HM := hide (show X1 = 0 from unhide H1)
    have K7 : Hid (Kept 0 0 w ((w1.setCell ⟨w.heap.size, 0, none⟩ (.int .i64 0)).setCell ⟨w.heap.size, 1, none⟩ (.slice none 0 0))) := ((unhide K1).setNew (p := ⟨w.heap.size, 0, none⟩) (Nat.le_refl _) (.int .i64 0)).setNew (p := ⟨w.heap.size, 1, none⟩) (Nat.le_refl _) (.slice none 0 0)
    clear H1 H3 D1 K1 K0
    have G0 := cell_off _ _ _ 1 (.slice none 0 0) _ (cell_on _ _ _ (.int .i64 0) _ P0) (show (0 : Nat) ≠ 1 by omega)
    have G1 := cell_on _ _ _ (.slice none 0 0) _ (cell_off _ _ _ 0 (.int .i64 0) _ P1 (show (1 : Nat) ≠ 0 by omega))
    go_wp2
    exact bodyPost_ret (v := .tuple #[.agg #[.int .i64 0, .slice none 0 0], .bool false]) (by simp [results, Tryd.results18, go_sem, G0, G1]) rfl ⟨.slice none 0 0, by rw [unhide HM], by rw [unhide HB]; exact DysO.void _ _ _, unhide K7⟩
  · have HM := hide (show X1 = m from unhide H1)
    have ks : Kept w.heap.size (w.heap.size + 1) w1 ((w1.setCell ⟨w.heap.size, 0, none⟩ (.int .i64 m)).setCell ⟨w.heap.size, 1, none⟩ (.slice a1 X3.length c1)) :=
      ((Kept.refl _ _ _).setCell (p := ⟨w.heap.size, 0, none⟩) (Nat.le_refl _) (Nat.lt_succ_self _) _).setCell (p := ⟨w.heap.size, 1, none⟩) (Nat.le_refl _) (Nat.lt_succ_self _) _
    have hsz : ((w1.setCell ⟨w.heap.size, 0, none⟩ (.int .i64 m)).setCell ⟨w.heap.size, 1, none⟩ (.slice a1 X3.length c1)).heap.size = w1.heap.size := by rw [size_set, size_set]
    have DD := hide (((unhide D1).kept ks (by omega)).wider (lo' := w.heap.size) (hi' := ((w1.setCell ⟨w.heap.size, 0, none⟩ (.int .i64 m)).setCell ⟨w.heap.size, 1, none⟩ (.slice a1 X3.length c1)).heap.size) (by omega) (by omega))
    have K7 : Hid (Kept 0 0 w ((w1.setCell ⟨w.heap.size, 0, none⟩ (.int .i64 m)).setCell ⟨w.heap.size, 1, none⟩ (.slice a1 X3.length c1))) := ((unhide K1).setNew (p := ⟨w.heap.size, 0, none⟩) (Nat.le_refl _) (.int .i64 m)).setNew (p := ⟨w.heap.size, 1, none⟩) (Nat.le_refl _) (.slice a1 X3.length c1)
    have G0 := cell_off _ _ _ 1 (.slice a1 X3.length c1) _ (cell_on _ _ _ (.int .i64 m) _ P0) (show (0 : Nat) ≠ 1 by omega)
    have G1 := cell_on _ _ _ (.slice a1 X3.length c1) _ (cell_off _ _ _ 0 (.int .i64 m) _ P1 (show (1 : Nat) ≠ 0 by omega))
    clear H1 H3 ks hsz D1 K1 K0
    go_wp2
    exact bodyPost_ret (v := .tuple #[.agg #[.int .i64 m, .slice a1 X3.length c1], .bool true]) (by simp [results, Tryd.results18, go_sem, G0, G1]) rfl ⟨_, by rw [unhide HM], unhide DD, unhide K7⟩

end Go.Proofs.YtlenocminckbkaaDoor
