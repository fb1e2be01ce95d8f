/-
  Contracts that the proofs of this seat share: Dys, Dys2, Dys3.
-/
import Derived.Test.YthahoabkehcgbaaGreatDoorqoBJ
namespace Go.Proofs.YthahoabkehcgbaaGreatDoor
open Go.RowKit
set_option linter.unusedVariables false

/-- A sign, the limbs, a power of two. -/
abbrev DE := Bool × List Int × Int
def de0 : DE := (false, [], 0)

/-- The three cells from ⟨g, o⟩ on hold the number d; its limbs are a row between lo and hi. -/
def DyAt (bw : Bool) (lo hi : Nat) (w : World) (g o : Nat) (d : DE) : Prop :=
  ∃ u, w.cell? ⟨g, o, none⟩ = some (.bool d.1) ∧ w.cell? ⟨g, o + 1, none⟩ = some u ∧ w.cell? ⟨g, o + 2, none⟩ = some (.int .i64 d.2.2) ∧ Row .i64 bw lo hi w u d.2.1
theorem DyAt.kept {bw : Bool} {lo hi l h : Nat} {w w' : World} {g o : Nat} {d : DE} (r : DyAt bw lo hi w g o d) (q : Kept l h w w') (hd : hi ≤ l ∨ h ≤ lo ∨ h ≤ l) (hg : g < l ∨ h ≤ g) : DyAt bw lo hi w' g o d := by
  obtain ⟨u, c0, c1, c2, r⟩ := r
  have hb := q.block g (World.block_lt_of_cell? _ ⟨g, o, none⟩ c0) hg
  exact ⟨u, (World.cell?_of_block (w := w) (a := ⟨g, o, none⟩) hb).trans c0, (World.cell?_of_block (w := w) (a := ⟨g, o + 1, none⟩) hb).trans c1, (World.cell?_of_block (w := w) (a := ⟨g, o + 2, none⟩) hb).trans c2, r.kept q hd⟩

/-- The slice value v has the numbers ds as its elements; all blocks lie from lo up to hi. -/
def Dys (lo hi : Nat) (w : World) (v : Value) (ds : List DE) : Prop :=
  ∃ a c, v = .slice a ds.length c ∧ ds.length ≤ c ∧ c ≤ maxLen ∧
    (ds ≠ [] → ∃ g off, a = some ⟨g, off, none⟩ ∧ lo ≤ g ∧ g < hi ∧ g < w.heap.size ∧ ∀ i, i < ds.length → DyAt false lo hi w g (off + i * 3) (ds.getD i de0))

theorem Dys.kept {lo hi l h : Nat} {w w' : World} {v : Value} {ds : List DE} (r : Dys lo hi w v ds) (q : Kept l h w w') (hd : hi ≤ l ∨ h ≤ lo ∨ h ≤ l) : Dys lo hi w' v ds := by
  obtain ⟨a, c, rfl, h1, h2, h3⟩ := r
  refine ⟨a, c, rfl, h1, h2, fun hz => ?_⟩
  obtain ⟨g, off, rfl, hl, hh, hs, hc⟩ := h3 hz
  exact ⟨g, off, rfl, hl, hh, Nat.lt_of_lt_of_le hs q.size, fun i hi' => (hc i hi').kept q hd (by omega)⟩
theorem Dys.wider {lo hi lo' hi' : Nat} {w : World} {v : Value} {ds : List DE} (r : Dys lo hi w v ds) (h1 : lo' ≤ lo) (h2 : hi ≤ hi') : Dys lo' hi' w v ds := by
  obtain ⟨a, c, rfl, q1, q2, q3⟩ := r
  refine ⟨a, c, rfl, q1, q2, fun hz => ?_⟩
  obtain ⟨g, off, rfl, hl, hh, hs, hc⟩ := q3 hz
  refine ⟨g, off, rfl, by omega, by omega, hs, fun i hi => ?_⟩
  obtain ⟨u, c0, c1, c2, r⟩ := hc i hi
  exact ⟨u, c0, c1, c2, r.wider h1 h2⟩
theorem Dys.form {lo hi : Nat} {w : World} {v : Value} {ds : List DE} (r : Dys lo hi w v ds) : ∃ a c, v = .slice a ds.length c ∧ ds.length ≤ c ∧ c ≤ maxLen := by
  obtain ⟨a, c, rfl, q1, q2, _⟩ := r
  exact ⟨a, c, rfl, q1, q2⟩
theorem Dys.at {lo hi n c : Nat} {w : World} {a : Option Addr} {ds : List DE} (r : Dys lo hi w (.slice a n c) ds) {i : Nat} (hi' : i < ds.length) :
    ∃ g off l, a = some ⟨g, off, none⟩ ∧ lo ≤ g ∧ g < hi ∧ g < w.heap.size ∧ ∃ b k, w.cell? ⟨g, off + i * 3, none⟩ = some (.bool (ds.getD i de0).1) ∧ w.cell? ⟨g, off + i * 3 + 1, none⟩ = some (.slice b l k) ∧ w.cell? ⟨g, off + i * 3 + 2, none⟩ = some (.int .i64 (ds.getD i de0).2.2) ∧ l = (ds.getD i de0).2.1.length ∧ Row .i64 false lo hi w (.slice b l k) (ds.getD i de0).2.1 := by
  obtain ⟨a', c', e, q1, q2, q3⟩ := r
  cases e
  obtain ⟨g, off, rfl, hl, hh, hs, hc⟩ := q3 (by intro e; simp [e] at hi')
  obtain ⟨u, c0, c1, c2, r⟩ := hc i hi'
  obtain ⟨b, k, rfl⟩ := Row.form' r
  exact ⟨g, off, _, rfl, hl, hh, hs, b, k, c0, c1, c2, rfl, r⟩

/-- How many limbs the first k of them have. -/
def limT (ds : List DE) : Nat → Nat
  | 0 => 0
  | k + 1 => limT ds k + (ds.getD k de0).2.1.length
theorem limT_mono (ds : List DE) : ∀ {a b : Nat}, a ≤ b → limT ds a ≤ limT ds b
  | a, 0, h => by have : a = 0 := by omega
                  subst this; exact Nat.le_refl _
  | a, b + 1, h => by
    rcases Nat.lt_or_ge a (b + 1) with h1 | h1
    · have := limT_mono ds (a := a) (b := b) (by omega)
      show _ ≤ limT ds b + _
      omega
    · have : a = b + 1 := by omega
      subst this; exact Nat.le_refl _
/-- What a list of them takes. -/
def szT (ds : List DE) : Int := ds.length + limT ds ds.length

theorem szT_len (ds : List DE) : (ds.length : Int) ≤ szT ds ∧ 0 ≤ szT ds := by unfold szT; omega
theorem szT_each (ds : List DE) (i : Nat) (h : i < ds.length) : ((ds.getD i de0).2.1.length : Int) ≤ szT ds := by
  have h1 : limT ds (i + 1) = limT ds i + (ds.getD i de0).2.1.length := rfl
  have h2 := limT_mono ds (a := i + 1) (b := ds.length) h
  unfold szT
  omega
theorem Dys.form' {lo hi : Nat} {w : World} {v : Value} {ds : List DE} (r : Dys lo hi w v ds) : ∃ a c, v = .slice a ds.length c := by
  obtain ⟨a, c, rfl, _⟩ := r
  exact ⟨a, c, rfl⟩

end Go.Proofs.YthahoabkehcgbaaGreatDoor

namespace Go.Proofs.YthahoabkehcgbaaGreatDoor
open Go.RowKit
set_option linter.unusedVariables false
set_option maxRecDepth 8000

theorem Row.block1 {k : IntKind} {bw : Bool} {lo hi : Nat} {w : World} {v : Value} {zs : List Int} (r : Row k bw lo hi w v zs) : ∃ b, (zs ≠ [] → lo ≤ b ∧ b < hi) ∧ Row k bw b (b + 1) w v zs := by
  obtain ⟨a, c, rfl, h1, h2, h3⟩ := r
  by_cases hz : zs = []
  · exact ⟨lo, fun e => absurd hz e, a, c, rfl, h1, h2, fun e => absurd hz e⟩
  · obtain ⟨g, off, rfl, hl, hh, rest⟩ := h3 hz
    exact ⟨g, fun _ => ⟨hl, hh⟩, _, c, rfl, h1, h2, fun _ => ⟨g, off, rfl, Nat.le_refl _, Nat.lt_succ_self _, rest⟩⟩
theorem Row.none {k : IntKind} {bw bw' : Bool} {lo hi lo' hi' : Nat} {w w' : World} {v : Value} {zs : List Int} (r : Row k bw lo hi w v zs) (h : zs = []) : Row k bw' lo' hi' w' v zs := by
  obtain ⟨a, c, rfl, h1, h2, h3⟩ := r
  exact ⟨a, c, rfl, h1, h2, fun e => absurd h e⟩
theorem DyAt.keptE {bw : Bool} {lo hi l h : Nat} {w w' : World} {g o : Nat} {d : DE} (r : DyAt bw lo hi w g o d) (q : Kept l h w w') (hd : d.2.1 ≠ [] → hi ≤ l ∨ h ≤ lo ∨ h ≤ l) (hg : g < l ∨ h ≤ g) : DyAt bw lo hi w' g o d := by
  by_cases e : d.2.1 = []
  · obtain ⟨u, c0, c1, c2, r⟩ := r
    have hb := q.block g (World.block_lt_of_cell? _ ⟨g, o, none⟩ c0) hg
    exact ⟨u, (World.cell?_of_block (w := w) (a := ⟨g, o, none⟩) hb).trans c0, (World.cell?_of_block (w := w) (a := ⟨g, o + 1, none⟩) hb).trans c1, (World.cell?_of_block (w := w) (a := ⟨g, o + 2, none⟩) hb).trans c2, r.none e⟩
  · exact r.kept q (hd e) hg

/-- The list v is a call's own: its cells may be written, and no two of its numbers share memory. -/
def DysO (lo hi : Nat) (w : World) (v : Value) (ds : List DE) : Prop :=
  ∃ a c, v = .slice a ds.length c ∧ ds.length ≤ c ∧ c ≤ maxLen ∧
    (ds ≠ [] → ∃ (g off : Nat) (b : Nat → Nat), a = some ⟨g, off, none⟩ ∧ lo ≤ g ∧ g < hi ∧ g < w.heap.size ∧
      (∀ i, i < ds.length → ((ds.getD i de0).2.1 ≠ [] → lo ≤ b i ∧ b i < hi ∧ b i ≠ g) ∧ DyAt true (b i) (b i + 1) w g (off + i * 3) (ds.getD i de0)) ∧
      (∀ k, k < ds.length * 3 → w.frozen? ⟨g, off + k, none⟩ = false) ∧ ∀ i j, i < j → j < ds.length → (ds.getD i de0).2.1 ≠ [] → (ds.getD j de0).2.1 ≠ [] → b i ≠ b j)

theorem DyAt.read {bw : Bool} {lo hi lo' hi' : Nat} {w : World} {g o : Nat} {d : DE} (r : DyAt bw lo hi w g o d) (h : d.2.1 ≠ [] → lo' ≤ lo ∧ hi ≤ hi') : DyAt false lo' hi' w g o d := by
  obtain ⟨u, c0, c1, c2, r⟩ := r
  by_cases e : d.2.1 = []
  · exact ⟨u, c0, c1, c2, r.none e⟩
  · exact ⟨u, c0, c1, c2, r.read.wider (h e).1 (h e).2⟩
theorem DysO.read {lo hi : Nat} {w : World} {v : Value} {ds : List DE} (r : DysO lo hi w v ds) : Dys lo hi w v ds := by
  obtain ⟨a, c, rfl, h1, h2, h3⟩ := r
  refine ⟨a, c, rfl, h1, h2, fun hz => ?_⟩
  obtain ⟨g, off, b, rfl, hl, hh, hs, hc, -, -⟩ := h3 hz
  exact ⟨g, off, rfl, hl, hh, hs, fun i hi' => by obtain ⟨q1, q4⟩ := hc i hi'; exact q4.read (fun e => by have := q1 e; omega)⟩
theorem DysO.kept {lo hi l h : Nat} {w w' : World} {v : Value} {ds : List DE} (r : DysO lo hi w v ds) (q : Kept l h w w') (hd : hi ≤ l ∨ h ≤ lo ∨ h ≤ l) : DysO lo hi w' v ds := by
  obtain ⟨a, c, rfl, h1, h2, h3⟩ := r
  refine ⟨a, c, rfl, h1, h2, fun hz => ?_⟩
  obtain ⟨g, off, b, rfl, hl, hh, hs, hc, hf, hi'⟩ := h3 hz
  exact ⟨g, off, b, rfl, hl, hh, Nat.lt_of_lt_of_le hs q.size, fun i hi' => by obtain ⟨q1, q4⟩ := hc i hi'; exact ⟨q1, q4.keptE q (fun e => by have := q1 e; omega) (by omega)⟩,
    fun k hk => (World.frozen?_of_block (w := w) (a := ⟨g, off + k, none⟩) (q.block g hs (by omega))).trans (hf k hk), hi'⟩
theorem DysO.wider {lo hi lo' hi' : Nat} {w : World} {v : Value} {ds : List DE} (r : DysO lo hi w v ds) (h1 : lo' ≤ lo) (h2 : hi ≤ hi') : DysO lo' hi' w v ds := by
  obtain ⟨a, c, rfl, q1, q2, q3⟩ := r
  refine ⟨a, c, rfl, q1, q2, fun hz => ?_⟩
  obtain ⟨g, off, b, rfl, hl, hh, hs, hc, hf, hi'⟩ := q3 hz
  exact ⟨g, off, b, rfl, by omega, by omega, hs, fun i hi => by obtain ⟨q1, q4⟩ := hc i hi; exact ⟨fun e => by have := q1 e; omega, q4⟩, hf, hi'⟩

theorem DysO.form' {lo hi : Nat} {w : World} {v : Value} {ds : List DE} (r : DysO lo hi w v ds) : ∃ a c, v = .slice a ds.length c := by
  obtain ⟨a, c, rfl, _⟩ := r
  exact ⟨a, c, rfl⟩

theorem cells_of_setCell {w : World} {g o p : Nat} {u x : Value} (h : w.cell? ⟨g, o, none⟩ = some x) : ∃ y, (w.setCell ⟨g, p, none⟩ u).cell? ⟨g, o, none⟩ = some y := ⟨_, cell_set _ _ _ _ _ _ h⟩

/-- A number is stored into three cells. -/
theorem DyAt.store {w : World} {g o b : Nat} {s : Bool} {u : Value} {y : Int} {z : List Int} (h0 : ∃ x, w.cell? ⟨g, o, none⟩ = some x) (h1 : ∃ x, w.cell? ⟨g, o + 1, none⟩ = some x) (h2 : ∃ x, w.cell? ⟨g, o + 2, none⟩ = some x) (r : Row .i64 true b (b + 1) w u z) (hb : z ≠ [] → b ≠ g) :
    DyAt true b (b + 1) (((w.setCell ⟨g, o, none⟩ (.bool s)).setCell ⟨g, o + 1, none⟩ u).setCell ⟨g, o + 2, none⟩ (.int .i64 y)) g o (s, z, y) := by
  obtain ⟨x0, h0⟩ := h0
  obtain ⟨x1, h1⟩ := h1
  obtain ⟨x2, h2⟩ := h2
  have k : Kept g (g + 1) w (((w.setCell ⟨g, o, none⟩ (.bool s)).setCell ⟨g, o + 1, none⟩ u).setCell ⟨g, o + 2, none⟩ (.int .i64 y)) :=
    (((Kept.refl g (g + 1) w).setCell (p := ⟨g, o, none⟩) (Nat.le_refl _) (Nat.lt_succ_self _) _).setCell (p := ⟨g, o + 1, none⟩) (Nat.le_refl _) (Nat.lt_succ_self _) _).setCell (p := ⟨g, o + 2, none⟩) (Nat.le_refl _) (Nat.lt_succ_self _) _
  have rr : Row .i64 true b (b + 1) (((w.setCell ⟨g, o, none⟩ (.bool s)).setCell ⟨g, o + 1, none⟩ u).setCell ⟨g, o + 2, none⟩ (.int .i64 y)) u z := by
    by_cases e : z = []
    · exact r.none e
    · have := hb e
      exact r.kept k (by omega)
  refine ⟨u, ?_, ?_, ?_, rr⟩
  · exact cell_off _ _ _ _ _ _ (cell_off _ _ _ _ _ _ (cell_on _ _ _ _ _ h0) (by omega)) (by omega)
  · refine cell_off _ _ _ _ _ _ (cell_on _ _ _ _ x1 ?_) (by omega)
    exact cell_off _ _ _ _ _ _ h1 (by omega)
  · refine cell_on _ _ _ _ x2 ?_
    exact cell_off _ _ _ _ _ _ (cell_off _ _ _ _ _ _ h2 (by omega)) (by omega)
theorem DyAt.stored {bw : Bool} {lo hi : Nat} {w : World} {g o p : Nat} {d : DE} (h : DyAt bw lo hi w g o d) (x0 x1 x2 : Value) (hg : d.2.1 ≠ [] → g < lo ∨ hi ≤ g) (hp : o + 3 ≤ p ∨ p + 3 ≤ o) :
    DyAt bw lo hi (((w.setCell ⟨g, p, none⟩ x0).setCell ⟨g, p + 1, none⟩ x1).setCell ⟨g, p + 2, none⟩ x2) g o d := by
  obtain ⟨u, c0, c1, c2, r⟩ := h
  have k : Kept g (g + 1) w (((w.setCell ⟨g, p, none⟩ x0).setCell ⟨g, p + 1, none⟩ x1).setCell ⟨g, p + 2, none⟩ x2) :=
    (((Kept.refl g (g + 1) w).setCell (p := ⟨g, p, none⟩) (Nat.le_refl _) (Nat.lt_succ_self _) _).setCell (p := ⟨g, p + 1, none⟩) (Nat.le_refl _) (Nat.lt_succ_self _) _).setCell (p := ⟨g, p + 2, none⟩) (Nat.le_refl _) (Nat.lt_succ_self _) _
  have rr : Row .i64 bw lo hi (((w.setCell ⟨g, p, none⟩ x0).setCell ⟨g, p + 1, none⟩ x1).setCell ⟨g, p + 2, none⟩ x2) u d.2.1 := by
    by_cases e : d.2.1 = []
    · exact r.none e
    · have := hg e
      exact r.kept k (by omega)
  refine ⟨u, ?_, ?_, ?_, rr⟩
  · exact cell_off _ _ _ _ _ _ (cell_off _ _ _ _ _ _ (cell_off _ _ _ _ _ _ c0 (by omega)) (by omega)) (by omega)
  · exact cell_off _ _ _ _ _ _ (cell_off _ _ _ _ _ _ (cell_off _ _ _ _ _ _ c1 (by omega)) (by omega)) (by omega)
  · exact cell_off _ _ _ _ _ _ (cell_off _ _ _ _ _ _ (cell_off _ _ _ _ _ _ c2 (by omega)) (by omega)) (by omega)

/-- A list that is being filled: its first j numbers are there. -/
structure Fill (lo g n : Nat) (ds : List DE) (j : Nat) (w : World) : Prop where
  lt : g < w.heap.size
  got : ∃ b : Nat → Nat, (∀ i, i < j → ((ds.getD i de0).2.1 ≠ [] → g < b i ∧ b i < w.heap.size) ∧ DyAt true (b i) (b i + 1) w g (i * 3) (ds.getD i de0)) ∧ ∀ i i', i < i' → i' < j → (ds.getD i de0).2.1 ≠ [] → (ds.getD i' de0).2.1 ≠ [] → b i < b i'
  cell : ∀ k, k < n * 3 → ∃ u, w.cell? ⟨g, k, none⟩ = some u
  loose : ∀ k, k < n * 3 → w.frozen? ⟨g, k, none⟩ = false

theorem Fill.step {lo g n j : Nat} {ds : List DE} {w w' : World} {s : Bool} {u : Value} {y : Int} {z : List Int} (h : Fill lo g n ds j w) (hj : j < n) (k : Kept 0 0 w w') (r : Row .i64 true w.heap.size w'.heap.size w' u z) (he : ds.getD j de0 = (s, z, y)) :
    Fill lo g n ds (j + 1) (((w'.setCell ⟨g, j * 3, none⟩ (.bool s)).setCell ⟨g, j * 3 + 1, none⟩ u).setCell ⟨g, j * 3 + 2, none⟩ (.int .i64 y)) := by
  obtain ⟨hlt, ⟨b, hb, hmono⟩, hcell, hloose⟩ := h
  obtain ⟨q, hq1, hq⟩ := r.block1
  have hz : (ds.getD j de0).2.1 = z := by rw [he]
  have hsz := k.size
  have hcell' : ∀ k, k < n * 3 → ∃ u, w'.cell? ⟨g, k, none⟩ = some u := fun k' hk' => by obtain ⟨x, hx⟩ := hcell k' hk'; exact ⟨x, k.cell0 hx⟩
  refine ⟨by rw [size_set, size_set, size_set]; omega, ⟨fun i => if i = j then q else b i, fun i hi => ?_, fun i i' h1 h2 e1 e2 => ?_⟩, fun k' hk' => ?_, fun k' hk' => ?_⟩
  · dsimp only
    by_cases e : i = j
    · subst e
      rw [if_pos rfl, he]
      exact ⟨fun e => by have := hq1 e; rw [size_set, size_set, size_set]; omega, DyAt.store (hcell' _ (by omega)) (hcell' _ (by omega)) (hcell' _ (by omega)) hq (fun e => by have := hq1 e; omega)⟩
    · rw [if_neg e]
      obtain ⟨q1, q3⟩ := hb i (by omega)
      exact ⟨fun e => by have := q1 e; rw [size_set, size_set, size_set]; omega, (q3.keptE k (by omega) (by omega)).stored _ _ _ (fun e => by have := q1 e; omega) (by omega)⟩
  · dsimp only
    rw [if_neg (show ¬ i = j by omega)]
    have := (hb i (by omega)).1 e1
    by_cases e : i' = j
    · rw [if_pos e]; subst e; rw [hz] at e2; have := hq1 e2; omega
    · rw [if_neg e]; exact hmono i i' h1 (by omega) e1 e2
  · obtain ⟨x, hx⟩ := hcell' k' hk'
    obtain ⟨x1, hx1⟩ := cells_of_setCell (p := j * 3) (u := .bool s) hx
    obtain ⟨x2, hx2⟩ := cells_of_setCell (p := j * 3 + 1) (u := u) hx1
    exact cells_of_setCell (p := j * 3 + 2) (u := .int .i64 y) hx2
  · rw [frozen_set, frozen_set, frozen_set]
    exact k.loose0 (a := ⟨g, k', none⟩) hlt (hloose k' hk')
theorem Fill.done {lo g n : Nat} {ds : List DE} {w : World} (h : Fill lo g n ds n w) (hn : n = ds.length) (hm : n ≤ maxLen) : DysO g w.heap.size w (.slice (some ⟨g, 0, none⟩) n n) ds := by
  subst hn
  obtain ⟨b, hb, hmono⟩ := h.got
  exact ⟨_, _, rfl, Nat.le_refl _, hm, fun _ => ⟨g, 0, b, rfl, Nat.le_refl _, h.lt, h.lt, fun i hi => by
    obtain ⟨q1, q3⟩ := hb i hi
    exact ⟨fun e => by have := q1 e; omega, by rw [Nat.zero_add]; exact q3⟩, fun k hk => by rw [Nat.zero_add]; exact h.loose k hk, fun i j h1 h2 e1 e2 => by have := hmono i j h1 h2 e1 e2; omega⟩⟩

end Go.Proofs.YthahoabkehcgbaaGreatDoor

namespace Go.Proofs.YthahoabkehcgbaaGreatDoor
open Go.RowKit
set_option linter.unusedVariables false
set_option maxRecDepth 8000
set_option linter.unusedSimpArgs false

end Go.Proofs.YthahoabkehcgbaaGreatDoor

