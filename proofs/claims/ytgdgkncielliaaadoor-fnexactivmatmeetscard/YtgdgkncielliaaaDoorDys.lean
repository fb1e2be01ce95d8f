/-
  Lists of dyadic numbers in memory: what can be read of them, and what stays of them.
-/
import Derived.Test.YtgdgkncielliaaaDoorBJ
namespace Go.Proofs.YtgdgkncielliaaaDoor
open Go.RowKit
set_option linter.unusedVariables false

/-- A sign, the limbs, a power of two. -/
abbrev DE := Bool × List Int × Int
def de0 : DE := (false, [], 0)

/-- The three cells from ⟨g, o⟩ on hold the number d; its limbs are a row between lo and hi. -/
def DyAt (bw : Bool) (lo hi : Nat) (w : World) (g o : Nat) (d : DE) : Prop :=
  ∃ u, w.cell? ⟨g, o, none⟩ = some (.bool d.1) ∧ w.cell? ⟨g, o + 1, none⟩ = some u ∧ w.cell? ⟨g, o + 2, none⟩ = some (.int .i64 d.2.2) ∧ Row .i64 bw lo hi w u d.2.1
theorem DyAt.kept {bw : Bool} {lo hi l h : Nat} {w w' : World} {g o : Nat} {d : DE} (r : DyAt bw lo hi w g o d) (q : Kept l h w w') (hd : hi ≤ l ∨ h ≤ lo ∨ h ≤ l) (hg : g < l ∨ h ≤ g) : DyAt bw lo hi w' g o d := by
  obtain ⟨u, c0, c1, c2, r⟩ := r
  have hb := q.block g (World.block_lt_of_cell? _ ⟨g, o, none⟩ c0) hg
  exact ⟨u, (World.cell?_of_block (w := w) (a := ⟨g, o, none⟩) hb).trans c0, (World.cell?_of_block (w := w) (a := ⟨g, o + 1, none⟩) hb).trans c1, (World.cell?_of_block (w := w) (a := ⟨g, o + 2, none⟩) hb).trans c2, r.kept q hd⟩

/-- The slice value v has the numbers ds as its elements; all blocks lie from lo up to hi. -/
def Dys (lo hi : Nat) (w : World) (v : Value) (ds : List DE) : Prop :=
  ∃ a c, v = .slice a ds.length c ∧ ds.length ≤ c ∧ c ≤ maxLen ∧
    (ds ≠ [] → ∃ g off, a = some ⟨g, off, none⟩ ∧ lo ≤ g ∧ g < hi ∧ g < w.heap.size ∧ ∀ i, i < ds.length → DyAt false lo hi w g (off + i * 3) (ds.getD i de0))

theorem Dys.kept {lo hi l h : Nat} {w w' : World} {v : Value} {ds : List DE} (r : Dys lo hi w v ds) (q : Kept l h w w') (hd : hi ≤ l ∨ h ≤ lo ∨ h ≤ l) : Dys lo hi w' v ds := by
  obtain ⟨a, c, rfl, h1, h2, h3⟩ := r
  refine ⟨a, c, rfl, h1, h2, fun hz => ?_⟩
  obtain ⟨g, off, rfl, hl, hh, hs, hc⟩ := h3 hz
  exact ⟨g, off, rfl, hl, hh, Nat.lt_of_lt_of_le hs q.size, fun i hi' => (hc i hi').kept q hd (by omega)⟩
theorem Dys.wider {lo hi lo' hi' : Nat} {w : World} {v : Value} {ds : List DE} (r : Dys lo hi w v ds) (h1 : lo' ≤ lo) (h2 : hi ≤ hi') : Dys lo' hi' w v ds := by
  obtain ⟨a, c, rfl, q1, q2, q3⟩ := r
  refine ⟨a, c, rfl, q1, q2, fun hz => ?_⟩
  obtain ⟨g, off, rfl, hl, hh, hs, hc⟩ := q3 hz
  refine ⟨g, off, rfl, by omega, by omega, hs, fun i hi => ?_⟩
  obtain ⟨u, c0, c1, c2, r⟩ := hc i hi
  exact ⟨u, c0, c1, c2, r.wider h1 h2⟩
theorem Dys.form {lo hi : Nat} {w : World} {v : Value} {ds : List DE} (r : Dys lo hi w v ds) : ∃ a c, v = .slice a ds.length c ∧ ds.length ≤ c ∧ c ≤ maxLen := by
  obtain ⟨a, c, rfl, q1, q2, _⟩ := r
  exact ⟨a, c, rfl, q1, q2⟩
theorem Dys.at {lo hi n c : Nat} {w : World} {a : Option Addr} {ds : List DE} (r : Dys lo hi w (.slice a n c) ds) {i : Nat} (hi' : i < ds.length) :
    ∃ g off l, a = some ⟨g, off, none⟩ ∧ lo ≤ g ∧ g < hi ∧ g < w.heap.size ∧ ∃ b k, w.cell? ⟨g, off + i * 3, none⟩ = some (.bool (ds.getD i de0).1) ∧ w.cell? ⟨g, off + i * 3 + 1, none⟩ = some (.slice b l k) ∧ w.cell? ⟨g, off + i * 3 + 2, none⟩ = some (.int .i64 (ds.getD i de0).2.2) ∧ l = (ds.getD i de0).2.1.length ∧ Row .i64 false lo hi w (.slice b l k) (ds.getD i de0).2.1 := by
  obtain ⟨a', c', e, q1, q2, q3⟩ := r
  cases e
  obtain ⟨g, off, rfl, hl, hh, hs, hc⟩ := q3 (by intro e; simp [e] at hi')
  obtain ⟨u, c0, c1, c2, r⟩ := hc i hi'
  obtain ⟨b, k, rfl⟩ := Row.form' r
  exact ⟨g, off, _, rfl, hl, hh, hs, b, k, c0, c1, c2, rfl, r⟩

/-- How many limbs the first k of them have. -/
def limT (ds : List DE) : Nat → Nat
  | 0 => 0
  | k + 1 => limT ds k + (ds.getD k de0).2.1.length
theorem limT_mono (ds : List DE) : ∀ {a b : Nat}, a ≤ b → limT ds a ≤ limT ds b
  | a, 0, h => by have : a = 0 := by omega
                  subst this; exact Nat.le_refl _
  | a, b + 1, h => by
    rcases Nat.lt_or_ge a (b + 1) with h1 | h1
    · have := limT_mono ds (a := a) (b := b) (by omega)
      show _ ≤ limT ds b + _
      omega
    · have : a = b + 1 := by omega
      subst this; exact Nat.le_refl _
/-- What a list of them takes. -/
def szT (ds : List DE) : Int := ds.length + limT ds ds.length

theorem szT_len (ds : List DE) : (ds.length : Int) ≤ szT ds ∧ 0 ≤ szT ds := by unfold szT; omega
theorem szT_each (ds : List DE) (i : Nat) (h : i < ds.length) : ((ds.getD i de0).2.1.length : Int) ≤ szT ds := by
  have h1 : limT ds (i + 1) = limT ds i + (ds.getD i de0).2.1.length := rfl
  have h2 := limT_mono ds (a := i + 1) (b := ds.length) h
  unfold szT
  omega
theorem Dys.form' {lo hi : Nat} {w : World} {v : Value} {ds : List DE} (r : Dys lo hi w v ds) : ∃ a c, v = .slice a ds.length c := by
  obtain ⟨a, c, rfl, _⟩ := r
  exact ⟨a, c, rfl⟩

end Go.Proofs.YtgdgkncielliaaaDoor
