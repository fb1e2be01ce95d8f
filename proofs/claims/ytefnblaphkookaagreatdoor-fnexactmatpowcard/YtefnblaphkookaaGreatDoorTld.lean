/-
  The program's toldMat over pointers to numbers that lie apart; toldSquare.
-/
import Derived.Test.YtefnblaphkookaaGreatDoorCat
import Derived.Test.YtefnblaphkookaaGreatDoorMs1
import Derived.Test.YtefnblaphkookaaGreatDoorDy7
namespace Go.Proofs.YtefnblaphkookaaGreatDoor
open Go.RowKit
set_option linter.unusedVariables false
set_option maxRecDepth 8000
set_option linter.unusedSimpArgs false

/-- What toldDyadic tells of a number, and whether. -/
def tdE (d : DE) : DE := (ansDS true (wval d.1 d.2.1) d.2.2, ansDL true (wval d.1 d.2.1) d.2.2, ansDE true (wval d.1 d.2.1) d.2.2)
def tdB (d : DE) : Bool := ansDB true (wval d.1 d.2.1) d.2.2
/-- A number that toldDyadic takes. -/
def TelOk (d : DE) : Prop := Nrm d.2.1 ∧ d.2.1.length ≤ 50000 ∧ d.2.2 ≤ 1000000 ∧ -1000000 ≤ d.2.2
theorem Kept.modW {lo hi : Nat} {A B : World} (k : Kept lo hi A B) : Mod (fun i => lo ≤ i ∧ i < hi) A B :=
  ⟨k.os, k.tape, k.output, k.size, fun i hi ho => k.block i hi (by omega)⟩
theorem own_some {w : World} {base n : Nat} {e : TypeId} {v : Value} {xs : List Value} (h0 : 0 < n) (h : w.ownsRow base e 1 v n xs) : ∃ g c, v = .slice (some ⟨g, 0, none⟩) n c := by
  rcases h.2 with ⟨_, hn⟩ | ⟨g, cap, cur, hv, _⟩
  · omega
  · exact ⟨g, cap, hv⟩
theorem listCell {w w' : World} {b lo hi n j g c ln : Nat} {G : Nat → Nat} (h : w.ownsRow b 81 1 (.slice (some ⟨g, 0, none⟩) ln c) n (ptrs G n)) (k : Kept lo hi w w') (hb : hi ≤ b) (hj : j < n) : w'.cell? ⟨g, j, none⟩ = some (.pointer (some ⟨G j, 0, none⟩)) := by
  have h1 := h.cells (g := g) rfl j _ (ptrs_at G hj)
  have h2 := (h.lt g rfl).1
  exact k.cellOut (a := ⟨g, j, none⟩) (.inr (Nat.le_trans hb h2)) (by rw [Addr.add_lit, Nat.zero_add] at h1; exact h1)

theorem Fill.stepW {lo g n j l h0 : Nat} {ds : List DE} {w w' : World} {s : Bool} {u : Value} {y : Int} {z : List Int} (h : Fill lo g n ds j w) (hj : j < n) (k : Kept l h0 w w') (hl : h0 ≤ g) (r : Row .i64 true w.heap.size w'.heap.size w' u z) (he : ds.getD j de0 = (s, z, y)) :
    Fill lo g n ds (j + 1) (((w'.setCell ⟨g, j * 3, none⟩ (.bool s)).setCell ⟨g, j * 3 + 1, none⟩ u).setCell ⟨g, j * 3 + 2, none⟩ (.int .i64 y)) := by
  obtain ⟨hlt, ⟨b, hb, hmono⟩, hcell, hloose⟩ := h
  obtain ⟨q, hq1, hq⟩ := r.block1
  have hz : (ds.getD j de0).2.1 = z := by rw [he]
  have hsz := k.size
  have hcell' : ∀ k, k < n * 3 → ∃ u, w'.cell? ⟨g, k, none⟩ = some u := fun k' hk' => by obtain ⟨x, hx⟩ := hcell k' hk'; exact ⟨x, k.cellOut (a := ⟨g, k', none⟩) (.inr hl) hx⟩
  refine ⟨by rw [size_set, size_set, size_set]; omega, ⟨fun i => if i = j then q else b i, fun i hi => ?_, fun i i' h1 h2 e1 e2 => ?_⟩, fun k' hk' => ?_, fun k' hk' => ?_⟩
  · dsimp only
    by_cases e : i = j
    · subst e
      rw [if_pos rfl, he]
      exact ⟨fun e => by have := hq1 e; rw [size_set, size_set, size_set]; omega, DyAt.store (hcell' _ (by omega)) (hcell' _ (by omega)) (hcell' _ (by omega)) hq (fun e => by have := hq1 e; omega)⟩
    · rw [if_neg e]
      obtain ⟨q1, q3⟩ := hb i (by omega)
      exact ⟨fun e => by have := q1 e; rw [size_set, size_set, size_set]; omega, (q3.keptE k (fun e => by have := q1 e; omega) (.inr hl)).stored _ _ _ (fun e => by have := q1 e; omega) (by omega)⟩
  · dsimp only
    rw [if_neg (show ¬ i = j by omega)]
    have := (hb i (by omega)).1 e1
    by_cases e : i' = j
    · rw [if_pos e]; subst e; rw [hz] at e2; have := hq1 e2; omega
    · rw [if_neg e]; exact hmono i i' h1 (by omega) e1 e2
  · obtain ⟨x, hx⟩ := hcell' k' hk'
    obtain ⟨x1, hx1⟩ := cells_of_setCell (p := j * 3) (u := .bool s) hx
    obtain ⟨x2, hx2⟩ := cells_of_setCell (p := j * 3 + 1) (u := u) hx1
    exact cells_of_setCell (p := j * 3 + 2) (u := .int .i64 y) hx2
  · rw [frozen_set, frozen_set, frozen_set]
    exact k.looseOut (a := ⟨g, k', none⟩) (.inr hl) hlt (hloose k' hk')
set_option maxHeartbeats 16000000 in
theorem toldAllP_impl {b0 n lo : Nat} {S : Nat → Prop} {v : Value} {G : Nat → Nat} {F : Nat → DE} (w0 w : World) (hn0 : 0 < n) (hn : n ≤ 100) (nm : Nums b0 S w0 n G F) (kw : Kept 0 0 w0 w) (own : w.ownsRow lo 81 1 v n (ptrs G n)) (hlo : w0.heap.size ≤ lo) (hF : ∀ p, p < n → TelOk (F p)) (T : TabB w) (hT : 1 < b0) :
    Calls Tryz.prog 81 #[v, .func (.func 59) #[] #[]] w fun e w' => ∃ v', e = .returned (.tuple #[v', .bool (allB (fun p => tdB (F p)) n)]) ∧ DysO w.heap.size w'.heap.size w' v' (telL (fun p => tdE (F p)) (fun p => tdB (F p)) n) ∧ Kept b0 w0.heap.size w w' := by
  obtain ⟨gl, c, hv⟩ := own_some hn0 own
  subst hv
  obtain ⟨E, hE0⟩ : ∃ E : Nat → DE, E = fun p => tdE (F p) := ⟨_, rfl⟩
  obtain ⟨B, hB0⟩ : ∃ B : Nat → Bool, B = fun p => tdB (F p) := ⟨_, rfl⟩
  rw [← hE0, ← hB0]
  have HE0 := hide hE0
  have HB0 := hide hB0
  obtain ⟨Lw, Hw, nm1, nm2⟩ := nm
  have OW := hide own
  have NM1 := hide nm1
  have NM2 := hide nm2
  have HF := hide hF
  have HT := hide hT
  have TT := hide T
  obtain ⟨s0, hs0⟩ : ∃ s0, s0 = w0.heap.size := ⟨_, rfl⟩
  rw [← hs0] at NM1 hlo ⊢
  have HLO := hide hlo
  have hsw : s0 ≤ w.heap.size := by rw [hs0]; exact kw.size
  have NM3 : Hid (∀ p, p < n → Dw (Lw p) (Hw p) w (G p) (F p) ∧ b0 ≤ Lw p ∧ Hw p ≤ s0) := fun p hp => by
    obtain ⟨d, q1, q2, -⟩ := unhide NM1 p hp
    exact ⟨d.mod (kw.toMod (S := fun _ => False)) (fun _ _ _ h => h), q1, q2⟩
  clear hE0 hB0 own nm1 hF hT T nm2 hs0 NM1 kw hlo
  obtain ⟨i0, hi0, hz0, hz1, hz2⟩ := info_parts Tryz.infoDy
  have hb0 : i0.bytes * n ≤ 281474976710656 := by rw [hz2]; omega
  have hm0 : n ≤ maxLen := by unfold maxLen; omega
  have HM := hide hm0
  go_enter Tryz.func81, Tryz.ntmps81
  go_wp2_with (at_make; refine wpList_make_full _ rfl _ _ 26 rfl w.heap.size 58 i0 (.agg #[.bool false, .slice none 0 0, .int .i64 0]) 3 Tryz.underlying26 hi0 hz0 hz1 .i64 .i64 _ _ n rfl rfl rfl rfl hb0 hm0 (Nat.le_refl _) ?_; intro w1 hown hgrow)
  have F0 := made_fill (w := w) (lo := 0) (ds := (List.range n).map E) hown
  have k1 : Kept 0 0 w w1 := ⟨hgrow.os, hgrow.tape, hgrow.output, hgrow.size, fun i hi _ => hgrow.block i hi (by simp)⟩
  clear hown hgrow hi0 hz0 hz1 hz2 hb0 hm0
  obtain ⟨g, hg⟩ : ∃ g, g = w.heap.size := ⟨_, rfl⟩
  rw [← hg] at F0
  rw [← hg]
  have F1 := hide F0
  have K2 := hide k1
  have HG := hide hg
  clear F0 k1 hg
  go_loopw [16] (fun s16 wr => ∃ j : Nat, s16 = .int .i64 j ∧ j ≤ n ∧ Hid (∀ i, i < j → B i = true) ∧ Hid (Fill 0 g n ((List.range n).map E) j wr) ∧ Hid (Kept b0 s0 w wr ∧ ∀ p, j ≤ p → p < n → Dw (Lw p) (Hw p) wr (G p) (F p)) ∧ Hid (Mod (fun x => x = g ∨ (b0 ≤ x ∧ x < s0)) w1 wr)) (fun s16 _ => n - (intOf s16).toNat)
  case atStart => exact ⟨0, rfl, Nat.zero_le _, fun i hi => by omega, F1, ⟨(unhide K2).any, fun p _ hp => (unhide NM3 p hp).1.mod ((unhide K2).toMod (S := fun _ => False)) (fun _ _ _ h => h)⟩, Mod.refl _ _⟩
  case round =>
    clear F1 K2
    obtain ⟨j, rfl, hj, hall, hF, k, kg⟩ := hrel
    have hwj : IntKind.i64.wrap ((j : Int) + 1) = ((j + 1 : Nat) : Int) := by rw [IntKind.wrap_i64]; omega
    have hgg := unhide HG
    have HGG := hide hgg
    clear hgg
    by_cases hlt : j < n
    · have hn3 := unhide NM3 j hlt
      obtain ⟨u, nu, su, xu, l1, l2, l3⟩ := (unhide k).2 j (Nat.le_refl _) hlt
      have hfo := unhide HF j hlt
      have hTr : TabB wr := fun q hq => by
        have := unhide TT q hq
        exact (unhide k).1.cellOut (a := ⟨1, q, none⟩) (.inl (unhide HT)) this
      have hc2 := toldDyadic_impl (wval (F j).1 (F j).2.1) rfl wr nu su xu hfo.1 hfo.2.1 hfo.2.2.1 hfo.2.2.2 hTr
      have hcell : wr.cell? ⟨gl, j, none⟩ = some (.pointer (some ⟨G j, 0, none⟩)) := listCell (unhide OW) (unhide k).1 (unhide HLO) hlt
      obtain ⟨s1, hs1'⟩ : ∃ q, q = ansDS true (wval (F j).1 (F j).2.1) (F j).2.2 := ⟨_, rfl⟩
      obtain ⟨y1, hy1'⟩ : ∃ q, q = ansDE true (wval (F j).1 (F j).2.1) (F j).2.2 := ⟨_, rfl⟩
      obtain ⟨z1, hz1'⟩ : ∃ q, q = ansDL true (wval (F j).1 (F j).2.1) (F j).2.2 := ⟨_, rfl⟩
      have hBj : ansDB true (wval (F j).1 (F j).2.1) (F j).2.2 = B j := by rw [unhide HB0]; rfl
      have HE : Hid (((List.range n).map E).getD j de0 = (s1, z1, y1)) := by show _ = _; rw [map_at _ _ _ hlt, unhide HE0, hs1', hz1', hy1']; rfl
      rw [← hs1', ← hy1', ← hz1', hBj] at hc2
      have W1 : Hid (∀ q, Own1 (G j) u q → Lw j ≤ q ∧ q < Hw j) := fun q hq => by
        rcases hq with h | h
        · subst h; exact ⟨l1, l2⟩
        · exact l3 q h
      have W2 := hide (show b0 ≤ Lw j ∧ Hw j ≤ s0 from hn3.2)
      clear nu su xu l1 l2 l3 hfo hTr hs1' hy1' hz1' hBj hn3
      go_wp2_with fail
      refine hc2.mono ?_
      rintro e w3 ⟨v3, rfl, r3, m3⟩
      obtain ⟨a3, d3, hv3⟩ := Row.form' r3
      subst hv3
      have hw2 := unhide W2
      have k3 : Kept (Lw j) (Hw j) wr w3 := ⟨m3.os, m3.tape, m3.output, m3.size, fun q hq ho => m3.block q hq (fun h => by have := unhide W1 q h; omega)⟩
      have kB := (Kept.refl 0 0 w3).alloc (.cells #[.bool s1, .slice a3 z1.length d3, .int .i64 y1] 58)
      have k4 : Kept (Lw j) (Hw j) wr (w3.alloc (.cells #[.bool s1, .slice a3 z1.length d3, .int .i64 y1] 58)) := k3.trans kB.any
      have r4 := (r3.kept kB (by omega)).wider (lo' := wr.heap.size) (hi' := (w3.alloc (.cells #[.bool s1, .slice a3 z1.length d3, .int .i64 y1] 58)).heap.size) (Nat.le_refl _) (by simp)
      have u0 : (w3.alloc (.cells #[.bool s1, .slice a3 z1.length d3, .int .i64 y1] 58)).cell? ⟨w3.heap.size, 0, none⟩ = some (.bool s1) := new_cell2 _ _ _ _ _ _ rfl rfl
      have u1 : (w3.alloc (.cells #[.bool s1, .slice a3 z1.length d3, .int .i64 y1] 58)).cell? ⟨w3.heap.size, 1, none⟩ = some (.slice a3 z1.length d3) := new_cell2 _ _ _ _ _ _ rfl rfl
      have u2 : (w3.alloc (.cells #[.bool s1, .slice a3 z1.length d3, .int .i64 y1] 58)).cell? ⟨w3.heap.size, 2, none⟩ = some (.int .i64 y1) := new_cell2 _ _ _ _ _ _ rfl rfl
      have hgg := unhide HGG
      have F4 := (unhide hF).stepW hlt k4 (by omega) r4 (unhide HE)
      have hFl := (unhide hF).lt
      obtain ⟨x0, hx0⟩ := (unhide hF).cell (j * 3) (by omega)
      obtain ⟨x1, hx1⟩ := (unhide hF).cell (j * 3 + 1) (by omega)
      obtain ⟨x2, hx2⟩ := (unhide hF).cell (j * 3 + 2) (by omega)
      have f0 := k4.looseOut (a := ⟨g, j * 3, none⟩) (.inr (by dsimp only; omega)) hFl ((unhide hF).loose (j * 3) (by omega))
      have f1 := k4.looseOut (a := ⟨g, j * 3 + 1, none⟩) (.inr (by dsimp only; omega)) hFl ((unhide hF).loose (j * 3 + 1) (by omega))
      have f2 := k4.looseOut (a := ⟨g, j * 3 + 2, none⟩) (.inr (by dsimp only; omega)) hFl ((unhide hF).loose (j * 3 + 2) (by omega))
      replace hx0 := k4.cellOut (a := ⟨g, j * 3, none⟩) (.inr (by dsimp only; omega)) hx0
      replace hx1 := k4.cellOut (a := ⟨g, j * 3 + 1, none⟩) (.inr (by dsimp only; omega)) hx1
      replace hx2 := k4.cellOut (a := ⟨g, j * 3 + 2, none⟩) (.inr (by dsimp only; omega)) hx2
      have K4 := hide ((unhide k).1.trans (k4.wider hw2.1 hw2.2))
      have D4 : Hid (∀ p, j + 1 ≤ p → p < n → Dw (Lw p) (Hw p) (w3.alloc (.cells #[.bool s1, .slice a3 z1.length d3, .int .i64 y1] 58)) (G p) (F p)) := fun p hp1 hp2 =>
        ((unhide k).2 p (by omega) hp2).mod k4.modW (fun x hx1 hx2 hx => by have := unhide NM2 p j hp2 hlt (by omega); omega)
      have KG4 : Hid (Mod (fun x => x = g ∨ (b0 ≤ x ∧ x < s0)) w1 (w3.alloc (.cells #[.bool s1, .slice a3 z1.length d3, .int .i64 y1] 58))) := (unhide kg).trans ⟨k4.os, k4.tape, k4.output, k4.size, fun q hq ho => k4.block q hq (by omega)⟩
      have HF4 := hide F4
      clear hgg hw2 m3 W1 W2 hcell
      clear hc2 r3 k3 kB k4 r4 F4 hFl hF k kg
      cases hB : B j
      · have HBN := hide (allB_no hlt hB)
        clear hB HF4 D4 KG4 hx0 hx1 hx2 f0 f1 f2
        go_wp2
        exact bodyPost_ret (v := .tuple #[.slice none 0 0, .bool false]) (by simp [results, Tryz.results81, go_sem]) rfl ⟨.slice none 0 0, by rw [unhide HBN], by unfold telL; rw [unhide HBN]; exact DysO.void _ _ _, unhide K4⟩
      · have HALL : Hid (∀ i, i < j + 1 → B i = true) := fun i hi => by
          rcases Nat.lt_succ_iff_lt_or_eq.1 hi with h | h
          · exact unhide hall i h
          · subst h; exact hB
        have hgg := unhide HGG
        have ks : Kept g (g + 1) (w3.alloc (.cells #[.bool s1, .slice a3 z1.length d3, .int .i64 y1] 58)) ((((w3.alloc (.cells #[.bool s1, .slice a3 z1.length d3, .int .i64 y1] 58)).setCell ⟨g, j * 3, none⟩ (.bool s1)).setCell ⟨g, j * 3 + 1, none⟩ (.slice a3 z1.length d3)).setCell ⟨g, j * 3 + 2, none⟩ (.int .i64 y1)) :=
          (((Kept.refl _ _ _).setCell (p := ⟨g, j * 3, none⟩) (Nat.le_refl _) (Nat.lt_succ_self _) _).setCell (p := ⟨g, j * 3 + 1, none⟩) (Nat.le_refl _) (Nat.lt_succ_self _) _).setCell (p := ⟨g, j * 3 + 2, none⟩) (Nat.le_refl _) (Nat.lt_succ_self _) _
        have K5 : Hid (Kept b0 s0 w ((((w3.alloc (.cells #[.bool s1, .slice a3 z1.length d3, .int .i64 y1] 58)).setCell ⟨g, j * 3, none⟩ (.bool s1)).setCell ⟨g, j * 3 + 1, none⟩ (.slice a3 z1.length d3)).setCell ⟨g, j * 3 + 2, none⟩ (.int .i64 y1)) ∧ ∀ p, j + 1 ≤ p → p < n → Dw (Lw p) (Hw p) ((((w3.alloc (.cells #[.bool s1, .slice a3 z1.length d3, .int .i64 y1] 58)).setCell ⟨g, j * 3, none⟩ (.bool s1)).setCell ⟨g, j * 3 + 1, none⟩ (.slice a3 z1.length d3)).setCell ⟨g, j * 3 + 2, none⟩ (.int .i64 y1)) (G p) (F p)) :=
          ⟨⟨ks.os.trans (unhide K4).os, ks.tape.trans (unhide K4).tape, ks.output.trans (unhide K4).output, Nat.le_trans (unhide K4).size ks.size, fun q hq ho => (ks.block q (Nat.lt_of_lt_of_le hq (unhide K4).size) (by omega)).trans ((unhide K4).block q hq ho)⟩, fun p h1 h2 => (unhide D4 p h1 h2).mod ks.modW (fun x hx1 hx2 hx => by have := (unhide NM3 p h2).2; omega)⟩
        have KG5 : Hid (Mod (fun x => x = g ∨ (b0 ≤ x ∧ x < s0)) w1 ((((w3.alloc (.cells #[.bool s1, .slice a3 z1.length d3, .int .i64 y1] 58)).setCell ⟨g, j * 3, none⟩ (.bool s1)).setCell ⟨g, j * 3 + 1, none⟩ (.slice a3 z1.length d3)).setCell ⟨g, j * 3 + 2, none⟩ (.int .i64 y1))) := (unhide KG4).trans ⟨ks.os, ks.tape, ks.output, ks.size, fun q hq ho => ks.block q hq (by omega)⟩
        clear hB ks K4 D4 KG4 hgg
        go_wp2
        go_roundw
        case rel => exact ⟨j + 1, by simp, hlt, HALL, HF4, K5, KG5⟩
        case measure => simp [intOf]; omega
    · have hjn : j = n := by omega
      subst hjn
      have HA := hide (allB_yes (unhide hall))
      have hgg := unhide HGG
      have D := (unhide hF).done (by simp) (unhide HM)
      have DD := hide (D.wider (lo' := w.heap.size) (hi' := wr.heap.size) (by omega) (by omega))
      have K7 := hide ((unhide k).1)
      clear hF k kg D hgg hall
      go_wp2
      exact bodyPost_ret (v := .tuple #[.slice (some ⟨g, 0, none⟩) j j, .bool true]) (by simp [results, Tryz.results81, go_sem]) rfl ⟨.slice (some ⟨g, 0, none⟩) j j, by rw [unhide HA], by unfold telL; rw [unhide HA]; exact unhide DD, unhide K7⟩

set_option maxHeartbeats 4000000 in
theorem toldMatP_impl {b0 n lo : Nat} {S : Nat → Prop} {v : Value} {G : Nat → Nat} {F : Nat → DE} (m : Int) (w0 w : World) (hn0 : 0 < n) (hn : n ≤ 100) (nm : Nums b0 S w0 n G F) (kw : Kept 0 0 w0 w) (own : w.ownsRow lo 81 1 v n (ptrs G n)) (hlo : w0.heap.size ≤ lo) (hF : ∀ p, p < n → TelOk (F p)) (T : TabB w) (hT : 1 < b0) :
    Calls Tryz.prog 57 #[.int .i64 m, v, .func (.func 59) #[] #[]] w fun e w' => ∃ v', e = .returned (.tuple #[.agg #[.int .i64 (telN (fun p => tdB (F p)) n m), v'], .bool (allB (fun p => tdB (F p)) n)]) ∧ DysO w.heap.size w'.heap.size w' v' (telL (fun p => tdE (F p)) (fun p => tdB (F p)) n) ∧ Kept b0 w0.heap.size w w' := by
  obtain ⟨W, hW⟩ : ∃ W, W = (w.alloc (.cells #[.int .i64 0, .slice none 0 0] 28)) := ⟨_, rfl⟩
  have k0 : Kept 0 0 w W := by rw [hW]; exact (Kept.refl 0 0 w).alloc _
  have R0 : W.cell? ⟨w.heap.size, 0, none⟩ = some (.int .i64 0) := by rw [hW]; exact new_cell2 _ _ _ _ _ _ rfl rfl
  have R1 : W.cell? ⟨w.heap.size, 1, none⟩ = some (.slice none 0 0) := by rw [hW]; exact new_cell2 _ _ _ _ _ _ rfl rfl
  have Rf0 : W.frozen? ⟨w.heap.size, 0, none⟩ = false := by rw [hW]; exact new_loose2 _ _ _ _ _ rfl
  have Rf1 : W.frozen? ⟨w.heap.size, 1, none⟩ = false := by rw [hW]; exact new_loose2 _ _ _ _ _ rfl
  have sW : W.heap.size = w.heap.size + 1 := by rw [hW]; simp
  have ta := toldAllP_impl w0 W hn0 hn nm (kw.trans k0) (own_kept own k0) hlo hF (fun q hq => k0.cell0 (T q hq)) hT
  obtain ⟨X1, hX1⟩ : ∃ x, x = telN (fun p => tdB (F p)) n m := ⟨_, rfl⟩
  obtain ⟨X2, hX2⟩ : ∃ x, x = allB (fun p => tdB (F p)) n := ⟨_, rfl⟩
  obtain ⟨X3, hX3⟩ : ∃ x, x = telL (fun p => tdE (F p)) (fun p => tdB (F p)) n := ⟨_, rfl⟩
  rw [← hX2, ← hX3] at ta
  rw [← hX1, ← hX2, ← hX3]
  have H1 : Hid (X1 = if X2 = true then m else 0) := by show _ = _; rw [hX1, hX2]; rfl
  have H3 : Hid (X2 = false → X3 = []) := fun h => by rw [hX2] at h; rw [hX3]; unfold telL; rw [h]; rfl
  obtain ⟨a0, c0, hv0⟩ := own_some hn0 own
  subst hv0
  have SW := hide sW
  have HKW := hide kw.size
  have K0 := hide k0
  clear hX1 hX2 hX3 sW k0 own nm kw hlo hF T hT hn
  go_enter Tryz.func57, Tryz.ntmps57
  go_wp2_with fail
  rw [← hW]
  clear hW
  refine ta.mono ?_
  rintro e w1 ⟨v1, rfl, d1, k1⟩
  obtain ⟨a1, c1, hv1⟩ := d1.form'
  subst hv1
  have sW := unhide SW
  have z1 := k1.size
  have hs0 : w0.heap.size ≤ w.heap.size := unhide HKW
  have P0 := k1.cellOut (a := ⟨w.heap.size, 0, none⟩) (.inr hs0) R0
  have P1 := k1.cellOut (a := ⟨w.heap.size, 1, none⟩) (.inr hs0) R1
  have Pf0 := k1.looseOut (a := ⟨w.heap.size, 0, none⟩) (.inr hs0) (World.block_lt_of_cell? _ _ R0) Rf0
  have Pf1 := k1.looseOut (a := ⟨w.heap.size, 1, none⟩) (.inr hs0) (World.block_lt_of_cell? _ _ R1) Rf1
  have K1 := hide ((unhide K0).any.trans k1)
  have D1 := hide d1
  clear ta R0 R1 Rf0 Rf1 k1 d1
  cases X2
  · have HB := hide ((unhide H3) rfl)
    have HM := hide (show X1 = 0 from unhide H1)
    have K7 : Hid (Kept b0 w0.heap.size w ((w1.setCell ⟨w.heap.size, 0, none⟩ (.int .i64 0)).setCell ⟨w.heap.size, 1, none⟩ (.slice none 0 0))) := ((unhide K1).setNew (p := ⟨w.heap.size, 0, none⟩) (Nat.le_refl _) (.int .i64 0)).setNew (p := ⟨w.heap.size, 1, none⟩) (Nat.le_refl _) (.slice none 0 0)
    clear H1 H3 D1 K1 K0
    have G0 := cell_off _ _ _ 1 (.slice none 0 0) _ (cell_on _ _ _ (.int .i64 0) _ P0) (show (0 : Nat) ≠ 1 by omega)
    have G1 := cell_on _ _ _ (.slice none 0 0) _ (cell_off _ _ _ 0 (.int .i64 0) _ P1 (show (1 : Nat) ≠ 0 by omega))
    go_wp2
    exact bodyPost_ret (v := .tuple #[.agg #[.int .i64 0, .slice none 0 0], .bool false]) (by simp [results, Tryz.results57, go_sem, G0, G1]) rfl ⟨.slice none 0 0, by rw [unhide HM], by rw [unhide HB]; exact DysO.void _ _ _, unhide K7⟩
  · have HM := hide (show X1 = m from unhide H1)
    have ks : Kept w.heap.size (w.heap.size + 1) w1 ((w1.setCell ⟨w.heap.size, 0, none⟩ (.int .i64 m)).setCell ⟨w.heap.size, 1, none⟩ (.slice a1 X3.length c1)) :=
      ((Kept.refl _ _ _).setCell (p := ⟨w.heap.size, 0, none⟩) (Nat.le_refl _) (Nat.lt_succ_self _) _).setCell (p := ⟨w.heap.size, 1, none⟩) (Nat.le_refl _) (Nat.lt_succ_self _) _
    have hsz : ((w1.setCell ⟨w.heap.size, 0, none⟩ (.int .i64 m)).setCell ⟨w.heap.size, 1, none⟩ (.slice a1 X3.length c1)).heap.size = w1.heap.size := by rw [size_set, size_set]
    have DD := hide (((unhide D1).kept ks (by omega)).wider (lo' := w.heap.size) (hi' := ((w1.setCell ⟨w.heap.size, 0, none⟩ (.int .i64 m)).setCell ⟨w.heap.size, 1, none⟩ (.slice a1 X3.length c1)).heap.size) (by omega) (by omega))
    have K7 : Hid (Kept b0 w0.heap.size w ((w1.setCell ⟨w.heap.size, 0, none⟩ (.int .i64 m)).setCell ⟨w.heap.size, 1, none⟩ (.slice a1 X3.length c1))) := ((unhide K1).setNew (p := ⟨w.heap.size, 0, none⟩) (Nat.le_refl _) (.int .i64 m)).setNew (p := ⟨w.heap.size, 1, none⟩) (Nat.le_refl _) (.slice a1 X3.length c1)
    have G0 := cell_off _ _ _ 1 (.slice a1 X3.length c1) _ (cell_on _ _ _ (.int .i64 m) _ P0) (show (0 : Nat) ≠ 1 by omega)
    have G1 := cell_on _ _ _ (.slice a1 X3.length c1) _ (cell_off _ _ _ 0 (.int .i64 m) _ P1 (show (1 : Nat) ≠ 0 by omega))
    clear H1 H3 ks hsz D1 K1 K0
    go_wp2
    exact bodyPost_ret (v := .tuple #[.agg #[.int .i64 m, .slice a1 X3.length c1], .bool true]) (by simp [results, Tryz.results57, go_sem, G0, G1]) rfl ⟨_, by rw [unhide HM], unhide DD, unhide K7⟩

end Go.Proofs.YtefnblaphkookaaGreatDoor
