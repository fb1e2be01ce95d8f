/-
  Intervals that are held as numbers, told: a list of them, the matrix.
-/
import Derived.Test.YthahoabkehcgbaaGreatDoorqsBK
import Derived.Test.YthahoabkehcgbaaGreatDoorqsHq4
import Derived.Test.YthahoabkehcgbaaGreatDoorqsIvs2
import Derived.Test.YthahoabkehcgbaaGreatDoorqsTsq
import Derived.Deep.DeepCutAuto
import Derived.Deep.RegionHeld3
namespace Go.Proofs.YthahoabkehcgbaaGreatDoor
open Go.RowKit
set_option linter.unusedVariables false
set_option maxRecDepth 8000
set_option linter.unusedSimpArgs false

theorem Fill.twoW {g n j mid l h0 : Nat} {ds : List DE} {w w' : World} {s s' : Bool} {u u' : Value} {y y' : Int} {z z' : List Int} (f : Fill 0 g (2 * n) ds (2 * j) w) (hj : j < n) (k : Kept l h0 w w') (hl : h0 ≤ g) (r : Row .i64 true w.heap.size mid w' u z) (r' : Row .i64 true mid w'.heap.size w' u' z') (hm : w.heap.size ≤ mid) (hm' : mid ≤ w'.heap.size) (he : ds.getD (2 * j) de0 = (s, z, y)) (he' : ds.getD (2 * j + 1) de0 = (s', z', y')) :
    Fill 0 g (2 * n) ds (2 * (j + 1)) ((((((w'.setCell ⟨g, j * 6, none⟩ (.bool s)).setCell ⟨g, j * 6 + 1, none⟩ u).setCell ⟨g, j * 6 + 2, none⟩ (.int .i64 y)).setCell ⟨g, j * 6 + 3, none⟩ (.bool s')).setCell ⟨g, j * 6 + 4, none⟩ u').setCell ⟨g, j * 6 + 5, none⟩ (.int .i64 y')) := by
  obtain ⟨hlt, ⟨b, hb, hmono⟩, hcell, hloose⟩ := f
  obtain ⟨q, hq1, hq⟩ := r.block1
  obtain ⟨q', hq1', hq'⟩ := r'.block1
  have hz : (ds.getD (2 * j) de0).2.1 = z := by rw [he]
  have hz' : (ds.getD (2 * j + 1) de0).2.1 = z' := by rw [he']
  have hsz := k.size
  have hcell' : ∀ k, k < 2 * n * 3 → ∃ u, w'.cell? ⟨g, k, none⟩ = some u := fun k' hk' => by obtain ⟨x, hx⟩ := hcell k' hk'; exact ⟨x, k.cellOut (a := ⟨g, k', none⟩) (.inr hl) hx⟩
  obtain ⟨W1, hW1⟩ : ∃ W1, W1 = ((w'.setCell ⟨g, j * 6, none⟩ (.bool s)).setCell ⟨g, j * 6 + 1, none⟩ u).setCell ⟨g, j * 6 + 2, none⟩ (.int .i64 y) := ⟨_, rfl⟩
  have k1 : Kept g (g + 1) w' W1 := by rw [hW1]; exact (((Kept.refl g (g + 1) w').setCell (p := ⟨g, j * 6, none⟩) (Nat.le_refl _) (Nat.lt_succ_self _) _).setCell (p := ⟨g, j * 6 + 1, none⟩) (Nat.le_refl _) (Nat.lt_succ_self _) _).setCell (p := ⟨g, j * 6 + 2, none⟩) (Nat.le_refl _) (Nat.lt_succ_self _) _
  have s1 : W1.heap.size = w'.heap.size := by rw [hW1, size_set, size_set, size_set]
  have hcell1 : ∀ k, k < 2 * n * 3 → ∃ u, W1.cell? ⟨g, k, none⟩ = some u := fun k' hk' => by
    obtain ⟨x, hx⟩ := hcell' k' hk'
    obtain ⟨x1, hx1⟩ := cells_of_setCell (p := j * 6) (u := .bool s) hx
    obtain ⟨x2, hx2⟩ := cells_of_setCell (p := j * 6 + 1) (u := u) hx1
    rw [hW1]
    exact cells_of_setCell (p := j * 6 + 2) (u := .int .i64 y) hx2
  have dA : DyAt true q (q + 1) W1 g (j * 6) (s, z, y) := by rw [hW1]; exact DyAt.store (hcell' _ (by omega)) (hcell' _ (by omega)) (hcell' _ (by omega)) hq (fun e => by have := hq1 e; omega)
  have rB : Row .i64 true q' (q' + 1) W1 u' z' := by
    by_cases e : z' = []
    · exact hq'.none e
    · exact hq'.kept k1 (by have := hq1' e; omega)
  rw [← hW1]
  have dB : DyAt true q' (q' + 1) (((W1.setCell ⟨g, j * 6 + 3, none⟩ (.bool s')).setCell ⟨g, j * 6 + 4, none⟩ u').setCell ⟨g, j * 6 + 5, none⟩ (.int .i64 y')) g (j * 6 + 3) (s', z', y') := DyAt.store (hcell1 _ (by omega)) (hcell1 _ (by omega)) (hcell1 _ (by omega)) rB (fun e => by have := hq1' e; omega)
  refine ⟨by rw [size_set, size_set, size_set, s1]; omega, ⟨fun i => if i = 2 * j then q else if i = 2 * j + 1 then q' else b i, fun i hi => ?_, fun i i' h1 h2 e1 e2 => ?_⟩, fun k' hk' => ?_, fun k' hk' => ?_⟩
  · dsimp only
    rw [size_set, size_set, size_set, s1]
    by_cases e : i = 2 * j
    · subst e
      rw [if_pos rfl, he, show 2 * j * 3 = j * 6 by omega]
      exact ⟨fun e => by have := hq1 e; omega, dA.stored _ _ _ (fun e => by have := hq1 e; omega) (by omega)⟩
    · by_cases e2 : i = 2 * j + 1
      · subst e2
        rw [if_neg e, if_pos rfl, he', show (2 * j + 1) * 3 = j * 6 + 3 by omega]
        exact ⟨fun e => by have := hq1' e; omega, dB⟩
      · rw [if_neg e, if_neg e2]
        obtain ⟨q1, q3⟩ := hb i (by omega)
        have q4 : DyAt true (b i) (b i + 1) W1 g (i * 3) (ds.getD i de0) := by rw [hW1]; exact (q3.keptE k (fun e => by have := q1 e; omega) (.inr hl)).stored _ _ _ (fun e => by have := q1 e; omega) (by omega)
        exact ⟨fun e => by have := q1 e; omega, q4.stored _ _ _ (fun e => by have := q1 e; omega) (by omega)⟩
  · dsimp only
    by_cases e : i = 2 * j
    · subst e
      have e3 : i' = 2 * j + 1 := by omega
      subst e3
      rw [if_pos rfl, if_neg (by omega), if_pos rfl]
      rw [hz] at e1
      rw [hz'] at e2
      have := hq1 e1; have := hq1' e2; omega
    · have hi2 : ¬ i = 2 * j + 1 := by omega
      rw [if_neg e, if_neg hi2]
      have := (hb i (by omega)).1 e1
      by_cases e3 : i' = 2 * j
      · rw [if_pos e3]; subst e3; rw [hz] at e2; have := hq1 e2; omega
      · by_cases e4 : i' = 2 * j + 1
        · rw [if_neg e3, if_pos e4]; subst e4; rw [hz'] at e2; have := hq1' e2; omega
        · rw [if_neg e3, if_neg e4]; exact hmono i i' h1 (by omega) e1 e2
  · obtain ⟨x, hx⟩ := hcell1 k' hk'
    obtain ⟨x1, hx1⟩ := cells_of_setCell (p := j * 6 + 3) (u := .bool s') hx
    obtain ⟨x2, hx2⟩ := cells_of_setCell (p := j * 6 + 4) (u := u') hx1
    exact cells_of_setCell (p := j * 6 + 5) (u := .int .i64 y') hx2
  · rw [frozen_set, frozen_set, frozen_set, hW1, frozen_set, frozen_set, frozen_set]
    exact k.looseOut (a := ⟨g, k', none⟩) (.inr hl) hlt (hloose k' hk')

theorem listCellH {w w' : World} {b lo hi n j g c ln : Nat} {G : Nat → Nat} (h : w.ownsRow b 79 2 (.slice (some ⟨g, 0, none⟩) ln c) n (ptrs G (2 * n))) (k : Kept lo hi w w') (hb : hi ≤ b) (hj : j < 2 * n) : w'.cell? ⟨g, j, none⟩ = some (.pointer (some ⟨G j, 0, none⟩)) := by
  have h1 := h.cells (g := g) rfl j _ (ptrs_at G hj)
  have h2 := (h.lt g rfl).1
  exact k.cellOut (a := ⟨g, j, none⟩) (.inr (Nat.le_trans hb h2)) (by rw [Addr.add_lit, Nat.zero_add] at h1; exact h1)
theorem own_kept2 {B base : Nat} {e : TypeId} {w w' : World} {v : Value} {n : Nat} {xs : List Value} (h : w.ownsRow base e 2 v n xs) (q : Kept B B w w') : w'.ownsRow base e 2 v n xs :=
  h.kept q.toGrown (by cases v.ownBlock <;> simp)
theorem own_someH {w : World} {base n : Nat} {e : TypeId} {v : Value} {xs : List Value} (h0 : 0 < n) (h : w.ownsRow base e 2 v n xs) : ∃ g c, v = .slice (some ⟨g, 0, none⟩) n c := by
  rcases h.2 with ⟨_, hn⟩ | ⟨g, cap, cur, hv, _⟩
  · omega
  · exact ⟨g, cap, hv⟩

/-- Whether interval p can be told; the ends that are told of the first n. -/
def hBp (F : Nat → DE) (p : Nat) : Bool := hB (F (2 * p)) (F (2 * p + 1))
def hEs (F : Nat → DE) (q : Nat) : DE := tdE (F q)
def hL (F : Nat → DE) (n : Nat) : List DE := if allB (hBp F) n = true then (List.range (2 * n)).map (hEs F) else []
def hC (F : Nat → DE) (n : Nat) : Nat := if allB (hBp F) n = true then n else 0
theorem hL_no {F : Nat → DE} {n : Nat} (h : allB (hBp F) n = false) : hL F n = [] ∧ hC F n = 0 := by unfold hL hC; rw [if_neg (by rw [h]; simp), if_neg (by rw [h]; simp)]; exact ⟨rfl, rfl⟩
theorem hL_yes {F : Nat → DE} {n : Nat} (h : allB (hBp F) n = true) : hL F n = (List.range (2 * n)).map (hEs F) ∧ hC F n = n := by unfold hL hC; rw [if_pos h, if_pos h]; exact ⟨rfl, rfl⟩

set_option maxHeartbeats 16000000 in
theorem toldAllH_impl {b0 n lo : Nat} {S : Nat → Prop} {v : Value} {G : Nat → Nat} {F : Nat → DE} (w0 w : World) (hn0 : 0 < n) (hn : n ≤ 100) (nm : Nums b0 S w0 (2 * n) G F) (kw : Kept 0 0 w0 w) (own : w.ownsRow lo 79 2 v n (ptrs G (2 * n))) (hlo : w0.heap.size ≤ lo) (hF : ∀ p, p < 2 * n → TelOk (F p)) (T : TabB w) (hT : 1 < b0) :
    Calls Tryz.prog 167 #[v, .func (.func 110) #[] #[]] w fun e w' => ∃ v', e = .returned (.tuple #[v', .bool (allB (hBp F) n)]) ∧ IvsO w.heap.size w'.heap.size w' v' (hL F n) (hC F n) ∧ Kept b0 w0.heap.size w w' := by
  obtain ⟨gl, c, hv⟩ := own_someH hn0 own
  subst hv
  obtain ⟨B, hB0⟩ : ∃ B : Nat → Bool, B = hBp F := ⟨_, rfl⟩
  rw [← hB0]
  have HB0 := hide hB0
  obtain ⟨Lw, Hw, nm1, nm2⟩ := nm
  have OW := hide own
  have NM1 := hide nm1
  have NM2 := hide nm2
  have HF := hide hF
  have HT := hide hT
  have TT := hide T
  obtain ⟨s0, hs0⟩ : ∃ s0, s0 = w0.heap.size := ⟨_, rfl⟩
  rw [← hs0] at NM1 hlo ⊢
  have HLO := hide hlo
  have hsw : s0 ≤ w.heap.size := by rw [hs0]; exact kw.size
  have NM3 : Hid (∀ p, p < 2 * n → Dw (Lw p) (Hw p) w (G p) (F p) ∧ b0 ≤ Lw p ∧ Hw p ≤ s0) := fun p hp => by
    obtain ⟨d, q1, q2, -⟩ := unhide NM1 p hp
    exact ⟨d.mod (kw.toMod (S := fun _ => False)) (fun _ _ _ h => h), q1, q2⟩
  obtain ⟨DL, hDL⟩ : ∃ DL, DL = (List.range (2 * n)).map (hEs F) := ⟨_, rfl⟩
  have HDL := hide hDL
  clear hB0 own nm1 hF hT T nm2 hs0 NM1 kw hlo hDL
  obtain ⟨i0, hi0, hz0, hz1, hz2⟩ := info_parts Tryz.infoIv
  have hb0 : i0.bytes * n ≤ 281474976710656 := by rw [hz2]; omega
  have hm0 : n ≤ maxLen := by unfold maxLen; omega
  have HM := hide (show 2 * n ≤ maxLen by unfold maxLen; omega)
  go_enter Tryz.func167, Tryz.ntmps167
  go_wp2_with (at_make; refine wpList_make_full _ rfl _ _ 26 rfl w.heap.size 102 i0 (.agg #[.bool false, .slice none 0 0, .int .i64 0, .bool false, .slice none 0 0, .int .i64 0]) 6 Tryz.underlying26 hi0 hz0 hz1 .i64 .i64 _ _ n rfl rfl rfl rfl hb0 hm0 (Nat.le_refl _) ?_; intro w1 hown hgrow)
  have F0 := made_fill6F (w := w) (ds := DL) hown
  have k1 : Kept 0 0 w w1 := ⟨hgrow.os, hgrow.tape, hgrow.output, hgrow.size, fun i hi _ => hgrow.block i hi (by simp)⟩
  clear hown hgrow hi0 hz0 hz1 hz2 hb0 hm0
  obtain ⟨g, hg⟩ : ∃ g, g = w.heap.size := ⟨_, rfl⟩
  rw [← hg] at F0
  rw [← hg]
  have F1 := hide F0
  have K2 := hide k1
  have HG := hide hg
  clear F0 k1 hg
  go_loopw [16] (fun s16 wr => ∃ j : Nat, s16 = .int .i64 j ∧ j ≤ n ∧ Hid (∀ i, i < j → B i = true) ∧ Hid (Fill 0 g (2 * n) DL (2 * j) wr) ∧ Hid (Kept b0 s0 w wr ∧ ∀ p, 2 * j ≤ p → p < 2 * n → Dw (Lw p) (Hw p) wr (G p) (F p)) ∧ Hid (Mod (fun x => x = g ∨ (b0 ≤ x ∧ x < s0)) w1 wr)) (fun s16 _ => n - (intOf s16).toNat)
  case atStart => exact ⟨0, rfl, Nat.zero_le _, fun i hi => by omega, F1, ⟨(unhide K2).any, fun p _ hp => (unhide NM3 p hp).1.mod ((unhide K2).toMod (S := fun _ => False)) (fun _ _ _ h => h)⟩, Mod.refl _ _⟩
  case round =>
    clear F1 K2
    obtain ⟨j, rfl, hj, hall, hF, k, kg⟩ := hrel
    have hwj : IntKind.i64.wrap ((j : Int) + 1) = ((j + 1 : Nat) : Int) := by rw [IntKind.wrap_i64]; omega
    have hgg := unhide HG
    have HGG := hide hgg
    clear hgg
    by_cases hlt : j < n
    · have hn3 := unhide NM3 (2 * j) (by omega)
      have hn4 := unhide NM3 (2 * j + 1) (by omega)
      have dd1 := (unhide k).2 (2 * j) (Nat.le_refl _) (by omega)
      have dd2 := (unhide k).2 (2 * j + 1) (by omega) (by omega)
      have hTr : TabB wr := fun q hq => by
        have := unhide TT q hq
        exact (unhide k).1.cellOut (a := ⟨1, q, none⟩) (.inl (unhide HT)) this
      have hzr := (unhide k).1.size
      obtain ⟨P1, hP1⟩ : ∃ x, x = G (2 * j) := ⟨_, rfl⟩
      obtain ⟨P2, hP2⟩ : ∃ x, x = G (2 * j + 1) := ⟨_, rfl⟩
      rw [← hP1] at dd1
      rw [← hP2] at dd2
      have kA := (Kept.refl 0 0 wr).alloc (.cells #[.pointer (some ⟨P1, 0, none⟩), .pointer (some ⟨P2, 0, none⟩)] 79)
      have v0 : (wr.alloc (.cells #[.pointer (some ⟨P1, 0, none⟩), .pointer (some ⟨P2, 0, none⟩)] 79)).cell? ⟨wr.heap.size, 0, none⟩ = some (.pointer (some ⟨P1, 0, none⟩)) := new_cell2 _ _ _ _ _ _ rfl rfl
      have v1 : (wr.alloc (.cells #[.pointer (some ⟨P1, 0, none⟩), .pointer (some ⟨P2, 0, none⟩)] 79)).cell? ⟨wr.heap.size, 1, none⟩ = some (.pointer (some ⟨P2, 0, none⟩)) := new_cell2 _ _ _ _ _ _ rfl rfl
      have hzA := kA.size
      have KA := hide kA
      have hc2 := toldHeld1_impl (wr.alloc (.cells #[.pointer (some ⟨P1, 0, none⟩), .pointer (some ⟨P2, 0, none⟩)] 79)) (Dw.kept dd1 kA) (Dw.kept dd2 kA) (by omega) (by omega) (unhide NM2 (2 * j) (2 * j + 1) (by omega) (by omega) (by omega)) (unhide HF (2 * j) (by omega)) (unhide HF (2 * j + 1) (by omega)) (hTr.kept kA) (by have := unhide HT; omega)
      have hcell : wr.cell? ⟨gl, j * 2, none⟩ = some (.pointer (some ⟨G (2 * j), 0, none⟩)) := by
        have := listCellH (unhide OW) (unhide k).1 (unhide HLO) (show 2 * j < 2 * n by omega)
        rw [show 2 * j = j * 2 by omega] at this ⊢; exact this
      have hcell' : wr.cell? ⟨gl, j * 2 + 1, none⟩ = some (.pointer (some ⟨G (2 * j + 1), 0, none⟩)) := by
        have := listCellH (unhide OW) (unhide k).1 (unhide HLO) (show 2 * j + 1 < 2 * n by omega)
        rw [show 2 * j + 1 = j * 2 + 1 by omega] at this ⊢; exact this
      obtain ⟨⟨s1, z1, y1⟩, hE1⟩ : ∃ q, q = hE (hB (F (2 * j)) (F (2 * j + 1))) (F (2 * j)) := ⟨_, rfl⟩
      obtain ⟨⟨s2, z2, y2⟩, hE2⟩ : ∃ q, q = hE (hB (F (2 * j)) (F (2 * j + 1))) (F (2 * j + 1)) := ⟨_, rfl⟩
      have hBj : hB (F (2 * j)) (F (2 * j + 1)) = B j := by rw [unhide HB0]; rfl
      have HE : Hid (B j = true → DL.getD (2 * j) de0 = (s1, z1, y1) ∧ DL.getD (2 * j + 1) de0 = (s2, z2, y2)) := fun hb => by
        rw [unhide HDL, map_at _ _ _ (show 2 * j < 2 * n by omega), map_at _ _ _ (show 2 * j + 1 < 2 * n by omega), hE1, hE2, hBj, hb]
        exact ⟨rfl, rfl⟩
      unfold HAns at hc2
      rw [← hE1, ← hE2, hBj] at hc2
      dsimp only at hc2
      have W2 := hide (show b0 ≤ Lw (2 * j) ∧ Hw (2 * j) ≤ s0 ∧ b0 ≤ Lw (2 * j + 1) ∧ Hw (2 * j + 1) ≤ s0 from ⟨hn3.2.1, hn3.2.2, hn4.2⟩)
      rw [← hP1] at hcell
      rw [← hP2] at hcell'
      clear dd1 dd2 hTr hE1 hE2 hBj hn3 hn4 hP1 hP2 hzr kA hzA
      go_wp2_with fail
      refine hc2.mono ?_
      rintro e w3 ⟨v3, v4, mid, rfl, r3, r4, hm1, hm2, m3⟩
      obtain ⟨a3, d3, hv3⟩ := Row.form' r3
      subst hv3
      obtain ⟨a4, d4, hv4⟩ := Row.form' r4
      subst hv4
      have hw2 := unhide W2
      have kA := unhide KA
      have hzA : (wr.alloc (.cells #[.pointer (some ⟨P1, 0, none⟩), .pointer (some ⟨P2, 0, none⟩)] 79)).heap.size = wr.heap.size + 1 := by simp
      have k3' : Kept b0 s0 (wr.alloc (.cells #[.pointer (some ⟨P1, 0, none⟩), .pointer (some ⟨P2, 0, none⟩)] 79)) w3 := ⟨m3.os, m3.tape, m3.output, m3.size, fun q hq ho => m3.block q hq (fun h => by rcases h with h | h <;> omega)⟩
      have k3 : Kept b0 s0 wr w3 := kA.any.trans k3'
      have kB := (Kept.refl 0 0 w3).alloc (.cells #[.bool s1, .slice a3 z1.length d3, .int .i64 y1, .bool s2, .slice a4 z2.length d4, .int .i64 y2] 102)
      have k4 : Kept b0 s0 wr (w3.alloc (.cells #[.bool s1, .slice a3 z1.length d3, .int .i64 y1, .bool s2, .slice a4 z2.length d4, .int .i64 y2] 102)) := k3.trans kB.any
      have z34 : (w3.alloc (.cells #[.bool s1, .slice a3 z1.length d3, .int .i64 y1, .bool s2, .slice a4 z2.length d4, .int .i64 y2] 102)).heap.size = w3.heap.size + 1 := by simp
      have q3 := (r3.kept kB (by omega)).wider (lo' := wr.heap.size) (by omega) (Nat.le_refl _)
      have hmA : wr.heap.size ≤ mid := by omega
      have q4 := (r4.kept kB (by omega)).wider (lo' := mid) (hi' := (w3.alloc (.cells #[.bool s1, .slice a3 z1.length d3, .int .i64 y1, .bool s2, .slice a4 z2.length d4, .int .i64 y2] 102)).heap.size) (Nat.le_refl _) (by omega)
      have u0 : (w3.alloc (.cells #[.bool s1, .slice a3 z1.length d3, .int .i64 y1, .bool s2, .slice a4 z2.length d4, .int .i64 y2] 102)).cell? ⟨w3.heap.size, 0, none⟩ = some (.bool s1) := new_cell2 _ _ _ _ _ _ rfl rfl
      have u1 : (w3.alloc (.cells #[.bool s1, .slice a3 z1.length d3, .int .i64 y1, .bool s2, .slice a4 z2.length d4, .int .i64 y2] 102)).cell? ⟨w3.heap.size, 1, none⟩ = some (.slice a3 z1.length d3) := new_cell2 _ _ _ _ _ _ rfl rfl
      have u2 : (w3.alloc (.cells #[.bool s1, .slice a3 z1.length d3, .int .i64 y1, .bool s2, .slice a4 z2.length d4, .int .i64 y2] 102)).cell? ⟨w3.heap.size, 2, none⟩ = some (.int .i64 y1) := new_cell2 _ _ _ _ _ _ rfl rfl
      have u3 : (w3.alloc (.cells #[.bool s1, .slice a3 z1.length d3, .int .i64 y1, .bool s2, .slice a4 z2.length d4, .int .i64 y2] 102)).cell? ⟨w3.heap.size, 3, none⟩ = some (.bool s2) := new_cell2 _ _ _ _ _ _ rfl rfl
      have u4 : (w3.alloc (.cells #[.bool s1, .slice a3 z1.length d3, .int .i64 y1, .bool s2, .slice a4 z2.length d4, .int .i64 y2] 102)).cell? ⟨w3.heap.size, 4, none⟩ = some (.slice a4 z2.length d4) := new_cell2 _ _ _ _ _ _ rfl rfl
      have u5 : (w3.alloc (.cells #[.bool s1, .slice a3 z1.length d3, .int .i64 y1, .bool s2, .slice a4 z2.length d4, .int .i64 y2] 102)).cell? ⟨w3.heap.size, 5, none⟩ = some (.int .i64 y2) := new_cell2 _ _ _ _ _ _ rfl rfl
      have hgg := unhide HGG
      have hFl := (unhide hF).lt
      obtain ⟨x0, hx0⟩ := (unhide hF).cell (j * 6) (by omega)
      have f0 := k4.looseOut (a := ⟨g, j * 6, none⟩) (.inr (by dsimp only; omega)) hFl ((unhide hF).loose (j * 6) (by omega))
      replace hx0 := k4.cellOut (a := ⟨g, j * 6, none⟩) (.inr (by dsimp only; omega)) hx0
      obtain ⟨x1, hx1⟩ := (unhide hF).cell (j * 6 + 1) (by omega)
      have f1 := k4.looseOut (a := ⟨g, j * 6 + 1, none⟩) (.inr (by dsimp only; omega)) hFl ((unhide hF).loose (j * 6 + 1) (by omega))
      replace hx1 := k4.cellOut (a := ⟨g, j * 6 + 1, none⟩) (.inr (by dsimp only; omega)) hx1
      obtain ⟨x2, hx2⟩ := (unhide hF).cell (j * 6 + 2) (by omega)
      have f2 := k4.looseOut (a := ⟨g, j * 6 + 2, none⟩) (.inr (by dsimp only; omega)) hFl ((unhide hF).loose (j * 6 + 2) (by omega))
      replace hx2 := k4.cellOut (a := ⟨g, j * 6 + 2, none⟩) (.inr (by dsimp only; omega)) hx2
      obtain ⟨x3, hx3⟩ := (unhide hF).cell (j * 6 + 3) (by omega)
      have f3 := k4.looseOut (a := ⟨g, j * 6 + 3, none⟩) (.inr (by dsimp only; omega)) hFl ((unhide hF).loose (j * 6 + 3) (by omega))
      replace hx3 := k4.cellOut (a := ⟨g, j * 6 + 3, none⟩) (.inr (by dsimp only; omega)) hx3
      obtain ⟨x4, hx4⟩ := (unhide hF).cell (j * 6 + 4) (by omega)
      have f4 := k4.looseOut (a := ⟨g, j * 6 + 4, none⟩) (.inr (by dsimp only; omega)) hFl ((unhide hF).loose (j * 6 + 4) (by omega))
      replace hx4 := k4.cellOut (a := ⟨g, j * 6 + 4, none⟩) (.inr (by dsimp only; omega)) hx4
      obtain ⟨x5, hx5⟩ := (unhide hF).cell (j * 6 + 5) (by omega)
      have f5 := k4.looseOut (a := ⟨g, j * 6 + 5, none⟩) (.inr (by dsimp only; omega)) hFl ((unhide hF).loose (j * 6 + 5) (by omega))
      replace hx5 := k4.cellOut (a := ⟨g, j * 6 + 5, none⟩) (.inr (by dsimp only; omega)) hx5
      have HF4 : Hid (B j = true → Fill 0 g (2 * n) DL (2 * (j + 1)) (((((((w3.alloc (.cells #[.bool s1, .slice a3 z1.length d3, .int .i64 y1, .bool s2, .slice a4 z2.length d4, .int .i64 y2] 102)).setCell ⟨g, j * 6, none⟩ (.bool s1)).setCell ⟨g, j * 6 + 1, none⟩ (.slice a3 z1.length d3)).setCell ⟨g, j * 6 + 2, none⟩ (.int .i64 y1)).setCell ⟨g, j * 6 + 3, none⟩ (.bool s2)).setCell ⟨g, j * 6 + 4, none⟩ (.slice a4 z2.length d4)).setCell ⟨g, j * 6 + 5, none⟩ (.int .i64 y2))) := fun hb => (unhide hF).twoW hlt k4 (by omega) q3 q4 hmA (by omega) (unhide HE hb).1 (unhide HE hb).2
      have K4 := hide ((unhide k).1.trans k4)
      have D4 : Hid (∀ p, 2 * (j + 1) ≤ p → p < 2 * n → Dw (Lw p) (Hw p) (w3.alloc (.cells #[.bool s1, .slice a3 z1.length d3, .int .i64 y1, .bool s2, .slice a4 z2.length d4, .int .i64 y2] 102)) (G p) (F p)) := fun p hp1 hp2 =>
        ((Dw.kept ((unhide k).2 p (by omega) hp2) kA).mod m3 (fun x hx1 hx2 hx => by
          have e1 := unhide NM2 p (2 * j) hp2 (by omega) (by omega)
          have e2 := unhide NM2 p (2 * j + 1) hp2 (by omega) (by omega)
          rcases hx with hx | hx <;> omega)).kept kB
      have KG4 : Hid (Mod (fun x => x = g ∨ (b0 ≤ x ∧ x < s0)) w1 (w3.alloc (.cells #[.bool s1, .slice a3 z1.length d3, .int .i64 y1, .bool s2, .slice a4 z2.length d4, .int .i64 y2] 102))) := (unhide kg).trans ⟨k4.os, k4.tape, k4.output, k4.size, fun q hq ho => k4.block q hq (by omega)⟩
      clear hgg hw2 m3 W2 hcell hcell' q3 q4 hm1 hm2 z34 hmA kA hzA k3' KA v0 v1
      clear hc2 r3 r4 k3 kB k4 hFl hF k kg
      cases hB : B j
      · have HBN := hide (allB_no hlt hB)
        clear hB HF4 D4 KG4 hx0 hx1 hx2 hx3 hx4 hx5 f0 f1 f2 f3 f4 f5
        go_wp2
        exact bodyPost_ret (v := .tuple #[.slice none 0 0, .bool false]) (by simp [results, Tryz.results167, go_sem]) rfl ⟨.slice none 0 0, by rw [unhide HBN], by rw [(hL_no (by rw [← unhide HB0]; exact unhide HBN)).1, (hL_no (by rw [← unhide HB0]; exact unhide HBN)).2]; exact IvsO.nil _ _ _, unhide K4⟩
      · have HALL : Hid (∀ i, i < j + 1 → B i = true) := fun i hi => by
          rcases Nat.lt_succ_iff_lt_or_eq.1 hi with h | h
          · exact unhide hall i h
          · subst h; exact hB
        have hgg := unhide HGG
        have HF5 := hide (unhide HF4 hB)
        have ks : Kept g (g + 1) (w3.alloc (.cells #[.bool s1, .slice a3 z1.length d3, .int .i64 y1, .bool s2, .slice a4 z2.length d4, .int .i64 y2] 102)) (((((((w3.alloc (.cells #[.bool s1, .slice a3 z1.length d3, .int .i64 y1, .bool s2, .slice a4 z2.length d4, .int .i64 y2] 102)).setCell ⟨g, j * 6, none⟩ (.bool s1)).setCell ⟨g, j * 6 + 1, none⟩ (.slice a3 z1.length d3)).setCell ⟨g, j * 6 + 2, none⟩ (.int .i64 y1)).setCell ⟨g, j * 6 + 3, none⟩ (.bool s2)).setCell ⟨g, j * 6 + 4, none⟩ (.slice a4 z2.length d4)).setCell ⟨g, j * 6 + 5, none⟩ (.int .i64 y2)) := ((((((Kept.refl g (g + 1) _).setCell (p := ⟨g, j * 6, none⟩) (Nat.le_refl _) (Nat.lt_succ_self _) (.bool s1)).setCell (p := ⟨g, j * 6 + 1, none⟩) (Nat.le_refl _) (Nat.lt_succ_self _) (.slice a3 z1.length d3)).setCell (p := ⟨g, j * 6 + 2, none⟩) (Nat.le_refl _) (Nat.lt_succ_self _) (.int .i64 y1)).setCell (p := ⟨g, j * 6 + 3, none⟩) (Nat.le_refl _) (Nat.lt_succ_self _) (.bool s2)).setCell (p := ⟨g, j * 6 + 4, none⟩) (Nat.le_refl _) (Nat.lt_succ_self _) (.slice a4 z2.length d4)).setCell (p := ⟨g, j * 6 + 5, none⟩) (Nat.le_refl _) (Nat.lt_succ_self _) (.int .i64 y2)
        have K5 : Hid (Kept b0 s0 w (((((((w3.alloc (.cells #[.bool s1, .slice a3 z1.length d3, .int .i64 y1, .bool s2, .slice a4 z2.length d4, .int .i64 y2] 102)).setCell ⟨g, j * 6, none⟩ (.bool s1)).setCell ⟨g, j * 6 + 1, none⟩ (.slice a3 z1.length d3)).setCell ⟨g, j * 6 + 2, none⟩ (.int .i64 y1)).setCell ⟨g, j * 6 + 3, none⟩ (.bool s2)).setCell ⟨g, j * 6 + 4, none⟩ (.slice a4 z2.length d4)).setCell ⟨g, j * 6 + 5, none⟩ (.int .i64 y2)) ∧ ∀ p, 2 * (j + 1) ≤ p → p < 2 * n → Dw (Lw p) (Hw p) (((((((w3.alloc (.cells #[.bool s1, .slice a3 z1.length d3, .int .i64 y1, .bool s2, .slice a4 z2.length d4, .int .i64 y2] 102)).setCell ⟨g, j * 6, none⟩ (.bool s1)).setCell ⟨g, j * 6 + 1, none⟩ (.slice a3 z1.length d3)).setCell ⟨g, j * 6 + 2, none⟩ (.int .i64 y1)).setCell ⟨g, j * 6 + 3, none⟩ (.bool s2)).setCell ⟨g, j * 6 + 4, none⟩ (.slice a4 z2.length d4)).setCell ⟨g, j * 6 + 5, none⟩ (.int .i64 y2)) (G p) (F p)) :=
          ⟨⟨ks.os.trans (unhide K4).os, ks.tape.trans (unhide K4).tape, ks.output.trans (unhide K4).output, Nat.le_trans (unhide K4).size ks.size, fun q hq ho => (ks.block q (Nat.lt_of_lt_of_le hq (unhide K4).size) (by omega)).trans ((unhide K4).block q hq ho)⟩, fun p h1 h2 => (unhide D4 p h1 h2).mod ks.modW (fun x hx1 hx2 hx => by have := (unhide NM3 p h2).2; omega)⟩
        have KG5 : Hid (Mod (fun x => x = g ∨ (b0 ≤ x ∧ x < s0)) w1 (((((((w3.alloc (.cells #[.bool s1, .slice a3 z1.length d3, .int .i64 y1, .bool s2, .slice a4 z2.length d4, .int .i64 y2] 102)).setCell ⟨g, j * 6, none⟩ (.bool s1)).setCell ⟨g, j * 6 + 1, none⟩ (.slice a3 z1.length d3)).setCell ⟨g, j * 6 + 2, none⟩ (.int .i64 y1)).setCell ⟨g, j * 6 + 3, none⟩ (.bool s2)).setCell ⟨g, j * 6 + 4, none⟩ (.slice a4 z2.length d4)).setCell ⟨g, j * 6 + 5, none⟩ (.int .i64 y2))) := (unhide KG4).trans ⟨ks.os, ks.tape, ks.output, ks.size, fun q hq ho => ks.block q hq (by omega)⟩
        clear hB ks K4 D4 KG4 hgg HF4
        go_wp2
        go_roundw
        case rel => exact ⟨j + 1, by simp, hlt, HALL, HF5, K5, KG5⟩
        case measure => simp [intOf]; omega
    · have hjn : j = n := by omega
      subst hjn
      have HA := hide (allB_yes (unhide hall))
      have hgg := unhide HGG
      have D := ivsO_done (unhide hF) (by rw [unhide HDL]; simp) (unhide HM)
      have DD := hide (D.wider (lo' := w.heap.size) (hi' := wr.heap.size) (by omega) (by omega))
      have K7 := hide ((unhide k).1)
      clear hF k kg D hgg hall
      go_wp2
      exact bodyPost_ret (v := .tuple #[.slice (some ⟨g, 0, none⟩) j j, .bool true]) (by simp [results, Tryz.results167, go_sem]) rfl ⟨.slice (some ⟨g, 0, none⟩) j j, by rw [unhide HA], by rw [(hL_yes (by rw [← unhide HB0]; exact unhide HA)).1, (hL_yes (by rw [← unhide HB0]; exact unhide HA)).2, ← unhide HDL]; exact unhide DD, unhide K7⟩

set_option maxHeartbeats 4000000 in
theorem toldIvMatH_impl {b0 n lo : Nat} {S : Nat → Prop} {v : Value} {G : Nat → Nat} {F : Nat → DE} (m : Int) (w0 w : World) (hn0 : 0 < n) (hn : n ≤ 100) (nm : Nums b0 S w0 (2 * n) G F) (kw : Kept 0 0 w0 w) (own : w.ownsRow lo 79 2 v n (ptrs G (2 * n))) (hlo : w0.heap.size ≤ lo) (hF : ∀ p, p < 2 * n → TelOk (F p)) (T : TabB w) (hT : 1 < b0) :
    Calls Tryz.prog 108 #[.int .i64 m, v, .func (.func 110) #[] #[]] w fun e w' => ∃ v', e = .returned (.tuple #[.agg #[.int .i64 (telN (hBp F) n m), v'], .bool (allB (hBp F) n)]) ∧ IvsO w.heap.size w'.heap.size w' v' (hL F n) (hC F n) ∧ Kept b0 w0.heap.size w w' := by
  obtain ⟨W, hW⟩ : ∃ W, W = (w.alloc (.cells #[.int .i64 0, .slice none 0 0] 28)) := ⟨_, rfl⟩
  have k0 : Kept 0 0 w W := by rw [hW]; exact (Kept.refl 0 0 w).alloc _
  have R0 : W.cell? ⟨w.heap.size, 0, none⟩ = some (.int .i64 0) := by rw [hW]; exact new_cell2 _ _ _ _ _ _ rfl rfl
  have R1 : W.cell? ⟨w.heap.size, 1, none⟩ = some (.slice none 0 0) := by rw [hW]; exact new_cell2 _ _ _ _ _ _ rfl rfl
  have Rf0 : W.frozen? ⟨w.heap.size, 0, none⟩ = false := by rw [hW]; exact new_loose2 _ _ _ _ _ rfl
  have Rf1 : W.frozen? ⟨w.heap.size, 1, none⟩ = false := by rw [hW]; exact new_loose2 _ _ _ _ _ rfl
  have sW : W.heap.size = w.heap.size + 1 := by rw [hW]; simp
  have ta := toldAllH_impl w0 W hn0 hn nm (kw.trans k0) (own_kept2 own k0) hlo hF (fun q hq => k0.cell0 (T q hq)) hT
  obtain ⟨X1, hX1⟩ : ∃ x, x = telN (hBp F) n m := ⟨_, rfl⟩
  obtain ⟨X2, hX2⟩ : ∃ x, x = allB (hBp F) n := ⟨_, rfl⟩
  obtain ⟨X3, hX3⟩ : ∃ x, x = hL F n := ⟨_, rfl⟩
  obtain ⟨X4, hX4⟩ : ∃ x, x = hC F n := ⟨_, rfl⟩
  rw [← hX2, ← hX3, ← hX4] at ta
  rw [← hX1, ← hX2, ← hX3, ← hX4]
  have H1 : Hid (X1 = if X2 = true then m else 0) := by show _ = _; rw [hX1, hX2]; rfl
  have H3 : Hid (X2 = false → X3 = [] ∧ X4 = 0) := fun h => by rw [hX2] at h; rw [hX3, hX4]; exact hL_no h
  obtain ⟨a0, c0, hv0⟩ := own_someH hn0 own
  subst hv0
  have SW := hide sW
  have HKW := hide kw.size
  have K0 := hide k0
  clear hX1 hX2 hX3 hX4 sW k0 own nm kw hlo hF T hT hn
  go_enter Tryz.func108, Tryz.ntmps108
  go_wp2_with fail
  rw [← hW]
  clear hW
  refine ta.mono ?_
  rintro e w1 ⟨v1, rfl, d1, k1⟩
  obtain ⟨a1, c1, hv1⟩ := d1.form'
  subst hv1
  have sW := unhide SW
  have z1 := k1.size
  have hs0 : w0.heap.size ≤ w.heap.size := unhide HKW
  have P0 := k1.cellOut (a := ⟨w.heap.size, 0, none⟩) (.inr hs0) R0
  have P1 := k1.cellOut (a := ⟨w.heap.size, 1, none⟩) (.inr hs0) R1
  have Pf0 := k1.looseOut (a := ⟨w.heap.size, 0, none⟩) (.inr hs0) (World.block_lt_of_cell? _ _ R0) Rf0
  have Pf1 := k1.looseOut (a := ⟨w.heap.size, 1, none⟩) (.inr hs0) (World.block_lt_of_cell? _ _ R1) Rf1
  have K1 := hide ((unhide K0).any.trans k1)
  have D1 := hide d1
  clear ta R0 R1 Rf0 Rf1 k1 d1
  cases X2
  · have HB := hide ((unhide H3) rfl)
    have HM := hide (show X1 = 0 from unhide H1)
    have K7 : Hid (Kept b0 w0.heap.size w ((w1.setCell ⟨w.heap.size, 0, none⟩ (.int .i64 0)).setCell ⟨w.heap.size, 1, none⟩ (.slice none 0 0))) := ((unhide K1).setNew (p := ⟨w.heap.size, 0, none⟩) (Nat.le_refl _) (.int .i64 0)).setNew (p := ⟨w.heap.size, 1, none⟩) (Nat.le_refl _) (.slice none 0 0)
    clear H1 H3 D1 K1 K0
    have G0 := cell_off _ _ _ 1 (.slice none 0 0) _ (cell_on _ _ _ (.int .i64 0) _ P0) (show (0 : Nat) ≠ 1 by omega)
    have G1 := cell_on _ _ _ (.slice none 0 0) _ (cell_off _ _ _ 0 (.int .i64 0) _ P1 (show (1 : Nat) ≠ 0 by omega))
    go_wp2
    exact bodyPost_ret (v := .tuple #[.agg #[.int .i64 0, .slice none 0 0], .bool false]) (by simp [results, Tryz.results108, go_sem, G0, G1]) rfl ⟨.slice none 0 0, by rw [unhide HM], by rw [(unhide HB).1, (unhide HB).2]; exact IvsO.nil _ _ _, unhide K7⟩
  · have HM := hide (show X1 = m from unhide H1)
    have ks : Kept w.heap.size (w.heap.size + 1) w1 ((w1.setCell ⟨w.heap.size, 0, none⟩ (.int .i64 m)).setCell ⟨w.heap.size, 1, none⟩ (.slice a1 X4 c1)) :=
      ((Kept.refl _ _ _).setCell (p := ⟨w.heap.size, 0, none⟩) (Nat.le_refl _) (Nat.lt_succ_self _) _).setCell (p := ⟨w.heap.size, 1, none⟩) (Nat.le_refl _) (Nat.lt_succ_self _) _
    have hsz : ((w1.setCell ⟨w.heap.size, 0, none⟩ (.int .i64 m)).setCell ⟨w.heap.size, 1, none⟩ (.slice a1 X4 c1)).heap.size = w1.heap.size := by rw [size_set, size_set]
    have DD := hide (((unhide D1).kept ks (by omega)).wider (lo' := w.heap.size) (hi' := ((w1.setCell ⟨w.heap.size, 0, none⟩ (.int .i64 m)).setCell ⟨w.heap.size, 1, none⟩ (.slice a1 X4 c1)).heap.size) (by omega) (by omega))
    have K7 : Hid (Kept b0 w0.heap.size w ((w1.setCell ⟨w.heap.size, 0, none⟩ (.int .i64 m)).setCell ⟨w.heap.size, 1, none⟩ (.slice a1 X4 c1))) := ((unhide K1).setNew (p := ⟨w.heap.size, 0, none⟩) (Nat.le_refl _) (.int .i64 m)).setNew (p := ⟨w.heap.size, 1, none⟩) (Nat.le_refl _) (.slice a1 X4 c1)
    have G0 := cell_off _ _ _ 1 (.slice a1 X4 c1) _ (cell_on _ _ _ (.int .i64 m) _ P0) (show (0 : Nat) ≠ 1 by omega)
    have G1 := cell_on _ _ _ (.slice a1 X4 c1) _ (cell_off _ _ _ 0 (.int .i64 m) _ P1 (show (1 : Nat) ≠ 0 by omega))
    clear H1 H3 ks hsz D1 K1 K0
    go_wp2
    exact bodyPost_ret (v := .tuple #[.agg #[.int .i64 m, .slice a1 X4 c1], .bool true]) (by simp [results, Tryz.results108, go_sem, G0, G1]) rfl ⟨_, by rw [unhide HM], unhide DD, unhide K7⟩

theorem in_concatH : ∀ (w : World) (args : Array Value), (callFunc 109 args).run Tryz.prog w = .ok (.enter 109 args) w := enters Tryz.func109 (by decide) (fun h => by cases h)

theorem in_toldIvMatH : ∀ (w : World) (args : Array Value), (callFunc 108 args).run Tryz.prog w = .ok (.enter 108 args) w := enters Tryz.func108 (by decide) (fun h => by cases h)

set_option maxHeartbeats 8000000 in
theorem toldHeld_impl {S : Nat → Prop} {R n b : Nat} {G : Nat → Nat} {F : Nat → DE} (h0 : 0 < n) (hn : n ≤ 10) (w : World) (s : SqH S w R n n G) (nm : Nums b S w (2 * (n * n)) G F) (hF : ∀ p, p < 2 * (n * n) → TelOk (F p)) (T : TabB w) (hT : 1 < b) :
    Calls Tryz.prog 54 #[.agg #[.slice (some ⟨R, 0, none⟩) n n]] w fun e w' => ∃ v', e = .returned (.tuple #[.agg #[.int .i64 (telN (hBp F) (n * n) (n : Int)), v'], .bool (allB (hBp F) (n * n))]) ∧ IvsO w.heap.size w'.heap.size w' v' (hL F (n * n)) (hC F (n * n)) ∧ Kept b w.heap.size w w' := by
  obtain ⟨X1, hX1⟩ : ∃ x, x = telN (hBp F) (n * n) (n : Int) := ⟨_, rfl⟩
  obtain ⟨X2, hX2⟩ : ∃ x, x = allB (hBp F) (n * n) := ⟨_, rfl⟩
  obtain ⟨X3, hX3⟩ : ∃ x, x = hL F (n * n) := ⟨_, rfl⟩
  obtain ⟨X4, hX4⟩ : ∃ x, x = hC F (n * n) := ⟨_, rfl⟩
  rw [← hX1, ← hX2, ← hX3, ← hX4]
  have HX1 := hide hX1
  have HX2 := hide hX2
  have HX3 := hide hX3
  have HX4 := hide hX4
  clear hX1 hX2 hX3 hX4
  obtain ⟨W, hW⟩ : ∃ W, W = (w.alloc (.cells #[.slice (some ⟨R, 0, none⟩) n n] 76)).alloc (.cells #[.int .i64 0, .slice none 0 0] 28) := ⟨_, rfl⟩
  have k0 : Kept 0 0 w W := by rw [hW]; exact ((Kept.refl 0 0 w).alloc _).alloc _
  have c0 : W.cell? ⟨w.heap.size, 0, none⟩ = some (.slice (some ⟨R, 0, none⟩) n n) := by rw [hW]; exact old_cell _ (new_cell2 _ _ _ _ _ _ (by simp) rfl)
  have q0 : W.cell? ⟨w.heap.size + 1, 0, none⟩ = some (.int .i64 0) := by rw [hW]; exact new_cell2 _ _ _ _ _ _ (by simp) rfl
  have qf0 : W.frozen? ⟨w.heap.size + 1, 0, none⟩ = false := by rw [hW]; exact new_loose2 _ _ _ _ _ (by simp)
  have q1 : W.cell? ⟨w.heap.size + 1, 1, none⟩ = some (.slice none 0 0) := by rw [hW]; exact new_cell2 _ _ _ _ _ _ (by simp) rfl
  have qf1 : W.frozen? ⟨w.heap.size + 1, 1, none⟩ = false := by rw [hW]; exact new_loose2 _ _ _ _ _ (by simp)
  have sW : W.heap.size = w.heap.size + 2 := by rw [hW]; simp
  have hnn : n * n ≤ 100 := Nat.mul_le_mul hn hn
  have S0 := hide sW
  clear sW
  go_enter Tryz.func54, Tryz.ntmps54
  go_wp2_with fail
  rw [← hW]
  clear hW
  have kd := (Kept.refl 0 0 W).drew
  have hcc := concatH_impl (n := n) h0 (by omega) W.drew (s.kept (k0.trans kd))
  have c0d := kd.cell0 c0
  have K0 := hide (k0.trans kd)
  have HF := hide hF
  have HT := hide hT
  have TT := hide T
  have NM := hide nm
  clear s k0 kd hF hT T nm c0
  refine wp_region_held_drew (S := (fun w' => w'.cell? ⟨w.heap.size, 0, none⟩ = some (.slice (some ⟨R, 0, none⟩) n n))) (by kernel_rfl) ?_ (fun hHeld => ?_)
  · exact c0d
  refine wpAnyH_take (i := 0) (oi := _) (v := .pointer (some ⟨w.heap.size, 0, none⟩)) rfl (by kernel_rfl) (by kernel_rfl) (by kernel_rfl) (fun _ _ _ h => h) (Or.inl ⟨by rfl, ?_⟩) hHeld ?_
  · intro wq hSw
    try dsimp only at hSw
    go_simp
  try simp only [Act.put, List.getElem_toArray, List.getElem_cons_succ, List.getElem_cons_zero, List.setIfInBounds_toArray, List.set_cons_zero, List.set_cons_succ]
  refine wpAnyH_take (i := 1) (oi := _) (v := .slice (some ⟨R, 0, none⟩) n n) rfl (by kernel_rfl) (by kernel_rfl) (by kernel_rfl) (fun _ _ _ h => h) (Or.inl ⟨by rfl, ?_⟩) hHeld ?_
  · intro wq hSw
    try dsimp only at hSw
    go_simp
  try simp only [Act.put, List.getElem_toArray, List.getElem_cons_succ, List.getElem_cons_zero, List.setIfInBounds_toArray, List.set_cons_zero, List.set_cons_succ]
  refine wpAnyH_take (i := 2) (oi := _) (v := .int .i64 (n : Int)) rfl (by kernel_rfl) (by kernel_rfl) (by kernel_rfl) (fun _ _ _ h => h) (Or.inl ⟨by rfl, ?_⟩) hHeld ?_
  · intro wq hSw
    try dsimp only at hSw
    go_simp
  try simp only [Act.put, List.getElem_toArray, List.getElem_cons_succ, List.getElem_cons_zero, List.setIfInBounds_toArray, List.set_cons_zero, List.set_cons_succ]
  refine wpAnyH_take (i := 3) (oi := _) (v := .pointer (some ⟨w.heap.size, 0, none⟩)) rfl (by kernel_rfl) (by kernel_rfl) (by kernel_rfl) (fun _ _ _ h => h) (Or.inl ⟨by rfl, ?_⟩) hHeld ?_
  · intro wq hSw
    try dsimp only at hSw
    go_simp
  try simp only [Act.put, List.getElem_toArray, List.getElem_cons_succ, List.getElem_cons_zero, List.setIfInBounds_toArray, List.set_cons_zero, List.set_cons_succ]
  refine wpAnyH_take (i := 4) (oi := _) (v := .slice (some ⟨R, 0, none⟩) n n) rfl (by kernel_rfl) (by kernel_rfl) (by kernel_rfl) (fun _ _ _ h => h) (Or.inl ⟨by rfl, ?_⟩) hHeld ?_
  · intro wq hSw
    try dsimp only at hSw
    go_simp
  try simp only [Act.put, List.getElem_toArray, List.getElem_cons_succ, List.getElem_cons_zero, List.setIfInBounds_toArray, List.set_cons_zero, List.set_cons_succ]
  refine wpAnyH_ready (rs := [5]) (by kernel_rfl) (by simp) ?_
  refine AllReadyH.cons rfl (fun KK hK => ?_) AllReadyH.nil
  simp only [List.getElem_toArray, List.getElem_cons_succ, List.getElem_cons_zero]
  rw [if_pos (by rfl)]
  refine wps1 109 (.tmp 8) _ rfl in_concatH (.slice (some ⟨R, 0, none⟩) n n) rfl hcc ?_
  rintro e w1 ⟨v1, rfl, o1, k1⟩
  refine ⟨_, rfl, ?_⟩
  have c1d := k1.cell0 c0d
  have hsz1 : W.heap.size ≤ w1.heap.size := k1.size
  have K1 := hide ((unhide K0).trans k1)
  replace qf0 := k1.loose0 (W := W.drew) (World.block_lt_of_cell? W ⟨w.heap.size + 1, 0, none⟩ q0) qf0
  replace qf1 := k1.loose0 (W := W.drew) (World.block_lt_of_cell? W ⟨w.heap.size + 1, 1, none⟩ q1) qf1
  replace q0 := k1.cell0 (W := W.drew) q0
  replace q1 := k1.cell0 (W := W.drew) q1
  have ss := unhide S0
  have hsd : W.drew.heap.size = W.heap.size := rfl
  have htm := toldIvMatH_impl (b0 := b) (n := n * n) (lo := W.drew.heap.size) (G := G) (F := F) (n : Int) w w1 (Nat.mul_pos h0 h0) hnn (unhide NM) (unhide K1) o1 (by rw [hsd, ss]; omega) (unhide HF) (fun q hq => (unhide K1).cell0 (unhide TT q hq)) (unhide HT)
  clear hcc o1 k1 hsd
  clear hHeld
  refine hK.out _ _ ?_ (fun hHeld => ?_)
  · exact c1d
  clear hK KK
  try simp only [Act.put, List.getElem_toArray, List.getElem_cons_succ, List.getElem_cons_zero, List.setIfInBounds_toArray, List.set_cons_zero, List.set_cons_succ]
  refine wpAnyH_ready (rs := [6]) (by kernel_rfl) (by simp) ?_
  refine AllReadyH.cons rfl (fun KK hK => ?_) AllReadyH.nil
  simp only [List.getElem_toArray, List.getElem_cons_succ, List.getElem_cons_zero]
  rw [if_pos (by rfl)]
  rw [← unhide HX1, ← unhide HX2, ← unhide HX3, ← unhide HX4] at htm
  refine wpt3 108 (.tmp 6) (.tmp 9) (.func 110) _ rfl in_toldIvMatH (.int .i64 (n : Int)) v1 (.func (.func 110) #[] #[]) rfl rfl rfl htm ?_
  rintro e w2 ⟨v2, rfl, d2, k2⟩
  refine ⟨_, rfl, ?_⟩
  obtain ⟨a2, e2, hv2⟩ := d2.form'
  subst hv2
  have c2d := k2.cellOut (a := ⟨w.heap.size, 0, none⟩) (.inr (Nat.le_refl _)) c1d
  replace qf0 := k2.looseOut (a := ⟨w.heap.size + 1, 0, none⟩) (.inr (by dsimp only; omega)) (World.block_lt_of_cell? _ _ q0) qf0
  replace qf1 := k2.looseOut (a := ⟨w.heap.size + 1, 1, none⟩) (.inr (by dsimp only; omega)) (World.block_lt_of_cell? _ _ q1) qf1
  replace q0 := k2.cellOut (a := ⟨w.heap.size + 1, 0, none⟩) (.inr (by dsimp only; omega)) q0
  replace q1 := k2.cellOut (a := ⟨w.heap.size + 1, 1, none⟩) (.inr (by dsimp only; omega)) q1
  have K2 := hide ((unhide K1).any.trans k2)
  have D2 := hide d2
  have hsz2 := k2.size
  clear htm k2 d2
  clear hHeld
  refine hK.out _ _ ?_ (fun hHeld => ?_)
  · exact c2d
  clear hK KK
  try simp only [Act.put, List.getElem_toArray, List.getElem_cons_succ, List.getElem_cons_zero, List.setIfInBounds_toArray, List.set_cons_zero, List.set_cons_succ]
  refine wpAnyH_take (i := 7) (oi := _) (v := .agg #[.int .i64 X1, .slice a2 X4 e2]) rfl (by kernel_rfl) (by kernel_rfl) (by kernel_rfl) (fun _ _ _ h => h) (Or.inl ⟨by rfl, ?_⟩) hHeld ?_
  · intro wq hSw
    try dsimp only at hSw
    go_simp
  try simp only [Act.put, List.getElem_toArray, List.getElem_cons_succ, List.getElem_cons_zero, List.setIfInBounds_toArray, List.set_cons_zero, List.set_cons_succ]
  refine wpAnyH_take (i := 8) (oi := _) (v := .bool X2) rfl (by kernel_rfl) (by kernel_rfl) (by kernel_rfl) (fun _ _ _ h => h) (Or.inl ⟨by rfl, ?_⟩) hHeld ?_
  · intro wq hSw
    try dsimp only at hSw
    go_simp
  try simp only [Act.put, List.getElem_toArray, List.getElem_cons_succ, List.getElem_cons_zero, List.setIfInBounds_toArray, List.set_cons_zero, List.set_cons_succ]
  refine wpAnyH_ready (rs := [9]) (by kernel_rfl) (by simp) ?_
  refine AllReadyH.cons rfl (fun KK hK => ?_) AllReadyH.nil
  simp only [List.getElem_toArray, List.getElem_cons_succ, List.getElem_cons_zero]
  rw [if_pos (by rfl)]
  go_simp
  clear hHeld
  refine hK.out _ _ ?_ (fun hHeld => ?_)
  · exact cell_aside _ (by dsimp only; omega) (cell_aside _ (by dsimp only; omega) c2d)
  clear hK KK
  try simp only [Act.put, List.getElem_toArray, List.getElem_cons_succ, List.getElem_cons_zero, List.setIfInBounds_toArray, List.set_cons_zero, List.set_cons_succ]
  refine wpAnyH_take (i := 10) (oi := _) (v := .bool X2) rfl (by kernel_rfl) (by kernel_rfl) (by kernel_rfl) (fun _ _ _ h => h) (Or.inl ⟨by rfl, ?_⟩) hHeld ?_
  · intro wq hSw
    try dsimp only at hSw
    go_simp
  try simp only [Act.put, List.getElem_toArray, List.getElem_cons_succ, List.getElem_cons_zero, List.setIfInBounds_toArray, List.set_cons_zero, List.set_cons_succ]
  refine wpAnyH_done (by kernel_rfl) ?_ _
  clear hHeld
  have ks : Kept (w.heap.size + 1) (w.heap.size + 2) w2 ((w2.setCell ⟨w.heap.size + 1, 0, none⟩ (.int .i64 X1)).setCell ⟨w.heap.size + 1, 1, none⟩ (.slice a2 X4 e2)) := ((Kept.refl _ _ _).setCell (p := ⟨w.heap.size + 1, 0, none⟩) (Nat.le_refl _) (Nat.lt_succ_self _) _).setCell (p := ⟨w.heap.size + 1, 1, none⟩) (Nat.le_refl _) (Nat.lt_succ_self _) _
  have hsz : ((w2.setCell ⟨w.heap.size + 1, 0, none⟩ (.int .i64 X1)).setCell ⟨w.heap.size + 1, 1, none⟩ (.slice a2 X4 e2)).heap.size = w2.heap.size := by rw [size_set, size_set]
  have DD := hide (((unhide D2).kept ks (by omega)).wider (lo' := w.heap.size) (hi' := ((w2.setCell ⟨w.heap.size + 1, 0, none⟩ (.int .i64 X1)).setCell ⟨w.heap.size + 1, 1, none⟩ (.slice a2 X4 e2)).heap.size) (by omega) (by omega))
  have K7 : Hid (Kept b w.heap.size w ((w2.setCell ⟨w.heap.size + 1, 0, none⟩ (.int .i64 X1)).setCell ⟨w.heap.size + 1, 1, none⟩ (.slice a2 X4 e2))) := ⟨ks.os.trans (unhide K2).os, ks.tape.trans (unhide K2).tape, ks.output.trans (unhide K2).output, Nat.le_trans (unhide K2).size ks.size, fun q hq ho => (ks.block q (Nat.lt_of_lt_of_le hq (unhide K2).size) (by omega)).trans ((unhide K2).block q hq ho)⟩
  have G0 := cell_off _ _ _ 1 (.slice a2 X4 e2) _ (cell_on _ _ _ (.int .i64 X1) _ q0) (show (0 : Nat) ≠ 1 by omega)
  have G1 := cell_on _ _ _ (.slice a2 X4 e2) _ (cell_off _ _ _ 0 (.int .i64 X1) _ q1 (show (1 : Nat) ≠ 0 by omega))
  clear ks hsz D2 K2 K1 K0
  go_wp2_with fail
  exact bodyPost_ret (v := .tuple #[.agg #[.int .i64 X1, .slice a2 X4 e2], .bool X2]) (by simp [results, Tryz.results54, go_sem, G0, G1]) rfl ⟨_, rfl, unhide DD, unhide K7⟩

end Go.Proofs.YthahoabkehcgbaaGreatDoor

