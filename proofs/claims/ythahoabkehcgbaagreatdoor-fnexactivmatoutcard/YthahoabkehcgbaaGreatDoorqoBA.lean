/-
  Contracts that the proofs of this seat share: Base, Zq, Help, Num, Num2, Own, Nat1, Nat2, HelpN, Nat3, Nat5.
-/
import Derived.WalkKit
import Derived.Deep.Draws
import Derived.Laws.IdiomStrings
import Derived.Test.YthahoabkehcgbaaGreatDoorRows
import Derived.Deep.QuietTactic
import Derived.BigQuiet
import Derived.Lib.AppendZerosOnto
import Derived.Deep.RegionLaw
import Derived.Lib.AppendZeros
namespace Go.Proofs.YthahoabkehcgbaaGreatDoor
open Go.RowKit

/-- Every block that was there stands, but for those from lo up to hi. -/
structure Kept (lo hi : Nat) (w w' : World) : Prop where
  os : w'.os = w.os
  tape : w'.tape = w.tape
  output : w'.output = w.output
  size : w.heap.size ≤ w'.heap.size
  block : ∀ i, i < w.heap.size → (i < lo ∨ hi ≤ i) → w'.heap[i]? = w.heap[i]?

theorem Kept.refl (lo hi : Nat) (w : World) : Kept lo hi w w := ⟨rfl, rfl, rfl, Nat.le_refl _, fun _ _ _ => rfl⟩
theorem Kept.trans {lo hi : Nat} {a b c : World} (h : Kept lo hi a b) (k : Kept lo hi b c) : Kept lo hi a c :=
  ⟨k.os.trans h.os, k.tape.trans h.tape, k.output.trans h.output, Nat.le_trans h.size k.size, fun i hi' ho => (k.block i (Nat.lt_of_lt_of_le hi' h.size) ho).trans (h.block i hi' ho)⟩
theorem Kept.wider {lo hi lo' hi' : Nat} {a b : World} (h : Kept lo hi a b) (h1 : lo' ≤ lo) (h2 : hi ≤ hi') : Kept lo' hi' a b :=
  ⟨h.os, h.tape, h.output, h.size, fun i hi ho => h.block i hi (by omega)⟩
theorem Kept.any {lo hi B : Nat} {a b : World} (h : Kept B B a b) : Kept lo hi a b :=
  ⟨h.os, h.tape, h.output, h.size, fun i hi _ => h.block i hi (by omega)⟩
theorem Kept.drew {lo hi : Nat} {a w : World} (h : Kept lo hi a w) : Kept lo hi a w.drew := ⟨h.os, h.tape, h.output, h.size, h.block⟩
theorem Kept.drewN {lo hi : Nat} {a w : World} (h : Kept lo hi a w) (n : Nat) : Kept lo hi a (w.drewN n) := ⟨h.os, h.tape, h.output, h.size, h.block⟩
theorem Kept.alloc {lo hi : Nat} {a w : World} (h : Kept lo hi a w) (o : Obj) : Kept lo hi a (w.alloc o) :=
  h.trans ⟨rfl, rfl, rfl, by simp, fun k hk _ => Below.heap_alloc _ _ _ hk⟩
theorem Kept.setCell {lo hi : Nat} {a w : World} (h : Kept lo hi a w) {p : Addr} (hp : lo ≤ p.block) (hq : p.block < hi) (u : Value) : Kept lo hi a (w.setCell p u) :=
  h.trans ⟨rfl, rfl, rfl, by simp [World.setCell], fun k _ ho => Below.heap_setCell _ _ _ _ (by omega)⟩
theorem Kept.below {lo hi B : Nat} {w w' : World} (h : Kept lo hi w w') (hB : B ≤ lo) (hs : B ≤ w.heap.size) : Below B w w' :=
  ⟨h.os, h.tape, h.output, h.size, fun k hk => h.block k (by omega) (.inl (by omega))⟩
theorem Kept.toBelow {w w' : World} {B : Nat} (h : Kept B B w w') : Below w.heap.size w w' :=
  ⟨h.os, h.tape, h.output, h.size, fun i hi' => h.block i hi' (by omega)⟩

/-- The slice value v has the numbers zs as its elements; its cells lie in a block from lo up to hi; where 'wr' says so they may be written. -/
def Row (k : IntKind) (wr : Bool) (lo hi : Nat) (w : World) (v : Value) (zs : List Int) : Prop :=
  ∃ a c, v = .slice a zs.length c ∧ zs.length ≤ c ∧ c ≤ maxLen ∧
    (zs ≠ [] → ∃ g off, a = some ⟨g, off, none⟩ ∧ lo ≤ g ∧ g < hi ∧ g < w.heap.size ∧
      (∀ i, i < zs.length → w.cell? ⟨g, off + i, none⟩ = some (.int k (zs.getD i 0))) ∧
      (wr = true → ∀ i, i < zs.length → w.frozen? ⟨g, off + i, none⟩ = false))

theorem Row.kept {k : IntKind} {wr : Bool} {lo hi l h : Nat} {w w' : World} {v : Value} {zs : List Int} (r : Row k wr lo hi w v zs) (q : Kept l h w w') (hd : hi ≤ l ∨ h ≤ lo ∨ h ≤ l) : Row k wr lo hi w' v zs := by
  obtain ⟨a, c, rfl, h1, h2, h3⟩ := r
  refine ⟨a, c, rfl, h1, h2, fun hz => ?_⟩
  obtain ⟨g, off, rfl, hl, hh, hs, hc, hf⟩ := h3 hz
  have hb := q.block g hs (by omega)
  exact ⟨g, off, rfl, hl, hh, Nat.lt_of_lt_of_le hs q.size, fun i hi' => (World.cell?_of_block (w := w) (a := ⟨g, off + i, none⟩) hb).trans (hc i hi'),
    fun e i hi' => (World.frozen?_of_block (w := w) (a := ⟨g, off + i, none⟩) hb).trans (hf e i hi')⟩
theorem Row.wider {k : IntKind} {wr : Bool} {lo hi lo' hi' : Nat} {w : World} {v : Value} {zs : List Int} (r : Row k wr lo hi w v zs) (h1 : lo' ≤ lo) (h2 : hi ≤ hi') : Row k wr lo' hi' w v zs := by
  obtain ⟨a, c, rfl, q1, q2, q3⟩ := r
  refine ⟨a, c, rfl, q1, q2, fun hz => ?_⟩
  obtain ⟨g, off, rfl, hl, hh, rest⟩ := q3 hz
  exact ⟨g, off, rfl, by omega, by omega, rest⟩
theorem Row.tight {k : IntKind} {wr : Bool} {lo hi : Nat} {w : World} {v : Value} {zs : List Int} (r : Row k wr lo hi w v zs) : Row k wr lo w.heap.size w v zs := by
  obtain ⟨a, c, rfl, q1, q2, q3⟩ := r
  refine ⟨a, c, rfl, q1, q2, fun hz => ?_⟩
  obtain ⟨g, off, rfl, hl, hh, hs, rest⟩ := q3 hz
  exact ⟨g, off, rfl, hl, hs, hs, rest⟩
theorem Row.len {k : IntKind} {wr : Bool} {lo hi : Nat} {w : World} {v : Value} {zs : List Int} (r : Row k wr lo hi w v zs) : zs.length ≤ maxLen := by
  obtain ⟨a, c, rfl, q1, q2, q3⟩ := r; omega
theorem Row.nil (k : IntKind) (wr : Bool) (lo hi : Nat) (w : World) : Row k wr lo hi w (.slice none 0 0) [] :=
  ⟨none, 0, rfl, Nat.le_refl _, Nat.zero_le _, fun h => absurd rfl h⟩
theorem Row.drewN {k : IntKind} {wr : Bool} {lo hi : Nat} {w : World} {v : Value} {zs : List Int} (r : Row k wr lo hi w v zs) (n : Nat) : Row k wr lo hi (w.drewN n) v zs :=
  r.kept ((Kept.refl 0 0 w).drewN n) (by omega)
theorem Row.read {k : IntKind} {wr : Bool} {lo hi : Nat} {w : World} {v : Value} {zs : List Int} (r : Row k wr lo hi w v zs) : Row k false lo hi w v zs := by
  obtain ⟨a, c, rfl, q1, q2, q3⟩ := r
  refine ⟨a, c, rfl, q1, q2, fun hz => ?_⟩
  obtain ⟨g, off, rfl, hl, hh, hs, hc, _⟩ := q3 hz
  exact ⟨g, off, rfl, hl, hh, hs, hc, fun e => by cases e⟩

theorem Row.at {k : IntKind} {lo hi : Nat} {w : World} {g off n c : Nat} {zs : List Int} (r : Row k true lo hi w (.slice (some ⟨g, off, none⟩) n c) zs) {j : Nat} (hj : j < n) :
    w.cell? ⟨g, off + j, none⟩ = some (.int k (zs.getD j 0)) ∧ w.frozen? ⟨g, off + j, none⟩ = false ∧ lo ≤ g ∧ g < hi ∧ g < w.heap.size ∧ n = zs.length := by
  obtain ⟨a, c', e, q1, q2, q3⟩ := r
  simp only [Value.slice.injEq] at e
  obtain ⟨rfl, rfl, rfl⟩ := e
  have hz : zs ≠ [] := by intro e; simp [e] at hj
  obtain ⟨g', off', e, hl, hh, hs, hc, hf⟩ := q3 hz
  simp only [Option.some.injEq, Addr.mk.injEq, and_true] at e
  obtain ⟨rfl, rfl⟩ := e
  exact ⟨hc j hj, hf rfl j hj, hl, hh, hs, rfl⟩
theorem getD_set (zs : List Int) (i j : Nat) (z : Int) (hi : i < zs.length) : (zs.set j z).getD i 0 = if i = j then z else zs.getD i 0 := by
  simp only [List.getD, List.getElem?_set]
  by_cases h : j = i
  · subst h; simp [hi]
  · simp [h, Ne.symm h]
theorem cell_set (w : World) (g o p : Nat) (u v : Value) (h : w.cell? ⟨g, o, none⟩ = some v) : (w.setCell ⟨g, p, none⟩ u).cell? ⟨g, o, none⟩ = some (if o = p then u else v) := by
  unfold World.cell? World.setCell at *
  simp only [Array.getElem?_modify] at *
  cases hb : w.heap[g]? with
  | none => simp [hb] at h
  | some b =>
    cases b with
    | cells c t fz =>
      simp [hb] at h ⊢
      by_cases e : o = p
      · subst e
        have hlt : o < c.size := (Array.getElem?_eq_some_iff.1 h).1
        simp [hlt]
      · simp [Ne.symm e, e, h]
    | _ => simp [hb] at h
theorem frozen_set (w : World) (g p : Nat) (q : Addr) (u : Value) : (w.setCell ⟨g, p, none⟩ u).frozen? q = w.frozen? q := by
  unfold World.frozen? World.setCell
  simp only [Array.getElem?_modify]
  by_cases e : g = q.block
  · subst e
    cases hb : w.heap[q.block]? with
    | none => simp
    | some b => cases b <;> simp
  · simp [e]
theorem Row.set {k : IntKind} {lo hi : Nat} {w : World} {g off n c : Nat} {zs : List Int} (r : Row k true lo hi w (.slice (some ⟨g, off, none⟩) n c) zs) (j : Nat) (hn : 0 < n) (z : Int) :
    Row k true lo hi (w.setCell ⟨g, off + j, none⟩ (.int k z)) (.slice (some ⟨g, off, none⟩) n c) (zs.set j z) := by
  have hat := fun i (hi : i < n) => r.at hi
  have h0 := hat 0 hn
  obtain ⟨a, c', e, q1, q2, q3⟩ := r
  simp only [Value.slice.injEq] at e
  obtain ⟨rfl, rfl, rfl⟩ := e
  refine ⟨_, _, by rw [List.length_set], by rw [List.length_set]; exact q1, q2, fun _ => ⟨g, off, rfl, h0.2.2.1, h0.2.2.2.1, by simpa [World.setCell] using h0.2.2.2.2.1, fun i hi => ?_, fun _ i hi => ?_⟩⟩
  · rw [List.length_set] at hi
    rw [cell_set _ _ _ _ _ _ (hat i hi).1, getD_set zs i j z hi]
    by_cases e : i = j
    · subst e; simp
    · rw [if_neg (by omega), if_neg e]
  · rw [List.length_set] at hi
    rw [frozen_set]
    exact (hat i hi).2.1

/-- What a mark from s on leaves in n places. -/
def marks (k : IntKind) (s : Int) (n : Nat) : List Int := (List.range n).map fun i : Nat => k.wrap (s + (i : Int))
theorem marks_length (k : IntKind) (s : Int) (n : Nat) : (marks k s n).length = n := by simp [marks]
theorem marks_succ (k : IntKind) (s : Int) (n : Nat) : marks k s (n + 1) = marks k s n ++ [k.wrap (s + n)] := by simp [marks, List.range_succ]
theorem marks_at (k : IntKind) (s : Int) (n i : Nat) (h : i < n) : (marks k s n).getD i 0 = k.wrap (s + i) := by simp [marks, List.getD, h]
theorem marks_step (k : IntKind) (s : Int) (zs : List Int) (j : Nat) (h : j < zs.length) : (marks k s j ++ zs.drop j).set j (k.wrap (s + j)) = marks k s (j + 1) ++ zs.drop (j + 1) := by
  rw [marks_succ, List.set_append_right _ _ (by simp [marks_length])]
  simp only [marks_length, Nat.sub_self]
  rw [List.drop_eq_getElem_cons h, List.set_cons_zero, List.append_assoc]
  rfl
theorem marks_all (k : IntKind) (s : Int) (zs : List Int) : marks k s zs.length ++ zs.drop zs.length = marks k s zs.length := by simp

/-- What the laws on append and make own is such a row. -/
theorem Row.own {k : IntKind} {base : Nat} {e : TypeId} {w : World} {v : Value} {n : Nat} {zs : List Int} (h : w.ownsRow base e 1 v n (zs.map (Value.int k))) : Row k true base w.heap.size w v zs := by
  obtain ⟨hl, h2⟩ := h
  have hn : n = zs.length := by simpa using hl.symm
  subst hn
  rcases h2 with ⟨rfl, h0⟩ | ⟨g, cap, cur, rfl, hb, hg, hle, hm, hs, htake⟩
  · have : zs = [] := List.length_eq_zero_iff.1 h0
    subst this
    exact Row.nil _ _ _ _ _
  · refine ⟨_, _, rfl, hle, hm, fun _ => ⟨g, 0, rfl, hb, (Array.getElem?_eq_some_iff.1 hg).1, (Array.getElem?_eq_some_iff.1 hg).1, fun i hi => ?_, fun _ i hi => ?_⟩⟩
    · have hx : (zs.map (Value.int k))[i]? = some (.int k (zs.getD i 0)) := by simp [List.getD, hi]
      rw [← htake, List.getElem?_take] at hx
      rw [Nat.mul_one, if_pos hi] at hx
      simpa [World.cell?, hg] using hx
    · simp [World.frozen?, hg]
theorem made_zero (k : IntKind) (n : Nat) : (madeCells (Value.int k 0).cells (n * 1)).toList = (List.replicate n (0 : Int)).map (Value.int k) := by
  apply List.ext_getElem
  · simp [madeCells]
  · intro i h1 h2
    simp [madeCells, Value.cells, Nat.mod_one]
theorem fill_step (zs : List Int) (j : Nat) (h : j < zs.length) : (zs.take j ++ List.replicate (zs.length - j) 0).set j (zs.getD j 0) = zs.take (j + 1) ++ List.replicate (zs.length - (j + 1)) 0 := by
  obtain ⟨m, hm⟩ : ∃ m, zs.length - j = m + 1 := ⟨zs.length - j - 1, by omega⟩
  rw [List.set_append_right _ _ (by simp; omega), hm, show zs.length - (j + 1) = m from by omega, List.replicate_succ, List.length_take, Nat.min_eq_left (by omega), Nat.sub_self, List.set_cons_zero, List.take_succ_eq_append_getElem h, List.append_assoc]
  simp [List.getD, h]

/-- A row written out in a new block. -/
theorem Row.lit (k : IntKind) (w : World) (t : TypeId) (zs : List Int) (hn : zs.length ≤ maxLen) :
    Row k true w.heap.size (w.alloc (.cells (zs.map (Value.int k)).toArray t)).heap.size (w.alloc (.cells (zs.map (Value.int k)).toArray t)) (.slice (some ⟨w.heap.size, 0, none⟩) zs.length zs.length) zs := by
  have hg : (w.alloc (.cells (zs.map (Value.int k)).toArray t)).heap[w.heap.size]? = some (.cells (zs.map (Value.int k)).toArray t) := heap_alloc_new w _
  refine ⟨_, _, rfl, Nat.le_refl _, hn, fun _ => ⟨w.heap.size, 0, rfl, Nat.le_refl _, by simp, by simp, fun i hi => ?_, fun _ i hi => ?_⟩⟩
  · simp only [World.cell?, hg]
    simp [List.getD, hi]
  · simp only [World.frozen?, hg]
    simp

/-- A string's bytes as numbers. -/
def bytesOf (s : ByteArray) : List Int := s.data.toList.map fun b => (b.toNat : Int)
theorem bytesOf_length (s : ByteArray) : (bytesOf s).length = s.size := by simp [bytesOf]
/-- The row that a conversion of a string makes. -/
theorem Row.conv (w : World) (t : TypeId) (s : ByteArray) (cap : Nat) (h1 : s.size ≤ cap) (h2 : cap ≤ maxLen) :
    Row .u8 true w.heap.size (w.alloc (.cells (bytesRow s cap) t ((bytesRow s cap).size, (bytesRow s cap).size + 1))).drew.heap.size (w.alloc (.cells (bytesRow s cap) t ((bytesRow s cap).size, (bytesRow s cap).size + 1))).drew
      (.slice (some ⟨w.heap.size, 0, none⟩) s.size cap) (bytesOf s) := by
  have hg : (w.alloc (.cells (bytesRow s cap) t ((bytesRow s cap).size, (bytesRow s cap).size + 1))).drew.heap[w.heap.size]? = some (.cells (bytesRow s cap) t ((bytesRow s cap).size, (bytesRow s cap).size + 1)) := heap_alloc_new w _
  have hl := bytesOf_length s
  have hsz : (w.alloc (.cells (bytesRow s cap) t ((bytesRow s cap).size, (bytesRow s cap).size + 1))).drew.heap.size = w.heap.size + 1 := by show (w.heap.push _).size = _; simp
  refine ⟨_, _, by rw [hl], by rw [hl]; exact h1, h2, fun _ => ⟨w.heap.size, 0, rfl, Nat.le_refl _, by rw [hsz]; omega, by rw [hsz]; omega, fun i hi => ?_, fun _ i hi => ?_⟩⟩
  · rw [hl] at hi
    have hi' : i < s.data.size := hi
    simp only [World.cell?, hg]
    simp only [Nat.zero_add, Option.isSome_none, Bool.false_eq_true, if_false]
    rw [bytesRow_at s cap i hi']
    simp only [bytesOf, List.getD, List.getElem?_map, Array.getElem?_toList]
    rw [Array.getElem?_eq_getElem hi']
    rfl
  · rw [hl] at hi
    simp only [World.frozen?, hg]
    simp [bytesRow]
    omega

/-- What an append reads of a row. -/
theorem Row.news {k : IntKind} {bw : Bool} {lo hi : Nat} {w : World} {v : Value} {zs : List Int} (r : Row k bw lo hi w v zs) (hz : zs ≠ []) :
    ∃ g off c, v = .slice (some ⟨g, off, none⟩) zs.length c ∧ lo ≤ g ∧ g < hi ∧ ∀ j u, (zs.map (Value.int k))[j]? = some u → w.cell? ((⟨g, off, none⟩ : Addr).add j) = some u := by
  obtain ⟨a, c, rfl, q1, m1, q3⟩ := r
  obtain ⟨g, off, rfl, h1, h2, _, hc, _⟩ := q3 hz
  refine ⟨g, off, c, rfl, h1, h2, fun j u hj => ?_⟩
  have hjl : j < zs.length := by
    rcases Nat.lt_or_ge j zs.length with h | h
    · exact h
    · simp [List.getElem?_eq_none h] at hj
  rw [Addr.add_lit, hc j hjl]
  simp [hjl] at hj
  rw [← hj]
  simp [List.getD, hjl]
theorem ints_one (k : IntKind) (zs : List Int) : ∀ u ∈ zs.map (Value.int k), u.oneCell' = true := by
  intro u hu; simp at hu; obtain ⟨z, _, rfl⟩ := hu; rfl
theorem Kept.toGrown {B : Nat} {w w' : World} (h : Kept B B w w') : w.grownBy w' none := ⟨h.os, h.tape, h.output, h.size, fun k hk _ => h.block k hk (by omega)⟩
theorem own_kept {B base : Nat} {e : TypeId} {w w' : World} {v : Value} {n : Nat} {xs : List Value} (h : w.ownsRow base e 1 v n xs) (q : Kept B B w w') : w'.ownsRow base e 1 v n xs :=
  h.kept q.toGrown (by cases v.ownBlock <;> simp)
theorem row_cell {bw : Bool} {lo hi : Nat} {w : World} {a : Option Addr} {n c : Nat} {zs : List Int} {k : IntKind} (r : Row k bw lo hi w (.slice a n c) zs) :
    n = zs.length ∧ n ≤ c ∧ c ≤ maxLen ∧ ∀ j, j < zs.length → ∃ g off, a = some ⟨g, off, none⟩ ∧ w.cell? ⟨g, off + j, none⟩ = some (.int k (zs.getD j 0)) := by
  obtain ⟨a', c', e, q1, q2, q3⟩ := r
  simp only [Value.slice.injEq] at e
  obtain ⟨rfl, rfl, rfl⟩ := e
  refine ⟨rfl, q1, q2, fun j hj => ?_⟩
  obtain ⟨g, off, e, _, _, _, hc, _⟩ := q3 (by intro e; simp [e] at hj)
  exact ⟨g, off, e, hc j hj⟩

theorem size_set (w : World) (p : Addr) (u : Value) : (w.setCell p u).heap.size = w.heap.size := by simp [World.setCell]
theorem cell_far (w : World) (g : Nat) (p : Nat) (q : Addr) (u : Value) (h : q.block ≠ g) : (w.setCell ⟨g, p, none⟩ u).cell? q = w.cell? q :=
  World.cell?_of_block (Below.heap_setCell _ _ _ _ h)
theorem cell_off (w : World) (g o p : Nat) (u v : Value) (h : w.cell? ⟨g, o, none⟩ = some v) (hne : o ≠ p) : (w.setCell ⟨g, p, none⟩ u).cell? ⟨g, o, none⟩ = some v := by
  rw [cell_set _ _ _ _ _ _ h, if_neg hne]
theorem cell_on (w : World) (g o : Nat) (u v : Value) (h : w.cell? ⟨g, o, none⟩ = some v) : (w.setCell ⟨g, o, none⟩ u).cell? ⟨g, o, none⟩ = some u := by
  rw [cell_set _ _ _ _ _ _ h, if_pos rfl]

theorem hide {p : Prop} (h : p) : Hid p := h
theorem unhide {p : Prop} (h : Hid p) : p := h
theorem ret_int {k : IntKind} {a b : Int} (h : a = b) : Ending.returned (.int k a) = .returned (.int k b) := by rw [h]
end Go.Proofs.YthahoabkehcgbaaGreatDoor

namespace Go.Proofs.YthahoabkehcgbaaGreatDoor
open Go.RowKit

theorem zq1 {α : Type _} {xs : List α} {i : Nat} (h : i < xs.toArray.size) : xs.toArray[i] = xs[i]'(by simpa using h) := List.getElem_toArray h
theorem zq2 {α : Type _} {a : α} {xs : List α} {i : Nat} (h : i + 1 < (a :: xs).length) : (a :: xs)[i + 1] = xs[i]'(by simpa using h) := List.getElem_cons_succ ..
theorem zq3 {α : Type _} {a : α} {xs : List α} (h : 0 < (a :: xs).length) : (a :: xs)[0] = a := rfl
theorem zq4 {α : Type _} {xs : List α} {i : Nat} {a : α} : xs.toArray.setIfInBounds i a = (xs.set i a).toArray := List.setIfInBounds_toArray ..
theorem zq5 {α : Type _} {x : α} {xs : List α} {a : α} : (x :: xs).set 0 a = a :: xs := rfl
theorem zq6 {α : Type _} {x : α} {xs : List α} {i : Nat} {a : α} : (x :: xs).set (i + 1) a = x :: xs.set i a := rfl
theorem zbl {w : World} {a : Addr} {v : Value} (h : w.cell? a = some v) : a.block < w.heap.size := World.block_lt_of_cell? _ _ h

end Go.Proofs.YthahoabkehcgbaaGreatDoor

namespace Go.Proofs.YthahoabkehcgbaaGreatDoor
open Go.RowKit

set_option maxHeartbeats 400000 in
theorem eqIntS_same {wr1 wr2 : Bool} {l1 h1 l2 h2 : Nat} {v1 v2 : Value} {zs : List Int} (w : World) (r1 : Row .i64 wr1 l1 h1 w v1 zs) (r2 : Row .i64 wr2 l2 h2 w v2 zs) :
    Calls Tryz.prog 184 #[v1, v2] w fun e w' => e = .returned (.bool true) ∧ ∃ n, w' = w.drewN n := by
  obtain ⟨a1, c1, rfl, q1, m1, q3⟩ := r1
  obtain ⟨a2, c2, rfl, q2, m2, q4⟩ := r2
  unfold maxLen at m1 m2
  go_enter Tryz.func184, Tryz.ntmps184
  go_wp2
  go_loopw [5] (fun i wr => ∃ k n : Nat, k ≤ zs.length ∧ i = .int .i64 k ∧ wr = w.drewN n) (fun i _ => zs.length - (intOf i).toNat)
  case atStart => exact ⟨0, 0, Nat.zero_le _, rfl, rfl⟩
  case round =>
    obtain ⟨k, n, hk, rfl, rfl⟩ := hrel
    by_cases hlt : k < zs.length
    · have hz : zs ≠ [] := by intro e; simp [e] at hlt
      obtain ⟨g1, o1, rfl, _, _, _, hc1, _⟩ := q3 hz
      obtain ⟨g2, o2, rfl, _, _, _, hc2, _⟩ := q4 hz
      have x1 := hc1 k hlt
      have x2 := hc2 k hlt
      have hlt' : (k : Int) < (zs.length : Int) := by omega
      clear hc1 hc2 q3 q4
      go_wp2
      go_quiet (fail)
      go_wp2
      go_roundw
      case rel => exact ⟨k + 1, _, by omega, by go_num, rfl⟩
      case measure => simp [intOf]; omega
    · have hlt' : ¬ (k : Int) < (zs.length : Int) := by omega
      clear q3 q4
      go_wp2
      go_ret
      exact ⟨rfl, _, rfl⟩

set_option maxHeartbeats 400000 in
theorem heldIntS_any {wr : Bool} {lo hi : Nat} {v : Value} {n : Nat} (w : World) (s : Int) (hs0 : 0 ≤ s) (hs1 : s ≤ 1000000) (hn : n ≤ 1099511627776) (r : Row .i64 wr lo hi w v (marks .i64 s n)) :
    Calls Tryz.prog 95 #[v, .int .i64 s] w fun e w' => e = .returned (.int .i64 (s + n)) ∧ w' = w := by
  obtain ⟨a, c, rfl, q1, m1, q3⟩ := r
  rw [marks_length] at q1 q3 ⊢
  have hat : ∀ j, j < n → ∃ g off, a = some ⟨g, off, none⟩ ∧ w.cell? ⟨g, off + j, none⟩ = some (.int .i64 (s + j)) := by
    intro j hj
    obtain ⟨g, off, e, _, _, _, hc, _⟩ := q3 (by intro e; have := congrArg List.length e; rw [marks_length] at this; simp at this; omega)
    exact ⟨g, off, e, by rw [hc j hj, marks_at _ _ _ _ hj, wrap_small _ (by omega) (by omega)]⟩
  clear q3 q1 m1
  go_enter Tryz.func95, Tryz.ntmps95
  go_wp2
  go_loop [1, 5] (fun kk i => ∃ j : Nat, j ≤ n ∧ i = .int .i64 j ∧ kk = .int .i64 (s + j)) (fun _ i => n - (intOf i).toNat)
  case atStart => exact ⟨0, Nat.zero_le _, rfl, by simp⟩
  case round =>
    obtain ⟨j, hj, rfl, rfl⟩ := hrel
    by_cases hlt : j < n
    · obtain ⟨g, off, rfl, hc⟩ := hat j hlt
      clear hat
      go_wp2
      go_round
      case rel => exact ⟨j + 1, by omega, by go_num, by go_num⟩
      case measure => simp [intOf]; omega
    · have e : j = n := by omega
      subst e
      clear hat
      go_wp2
      go_ret
      exact ⟨rfl, rfl⟩

end Go.Proofs.YthahoabkehcgbaaGreatDoor

namespace Go.Proofs.YthahoabkehcgbaaGreatDoor

/-- The number that limbs stand for. -/
def val : List Int → Int
  | [] => 0
  | x :: t => x + 65536 * val t
/-- Each limb in 0 .. 65535. -/
def Lim (zs : List Int) : Prop := ∀ z ∈ zs, 0 ≤ z ∧ z ≤ 65535
/-- Limbs, the last one not nought. -/
def Nrm (zs : List Int) : Prop := Lim zs ∧ ∀ z, zs.getLast? = some z → z ≠ 0
def limbsF : Nat → Nat → List Int
  | 0, _ => []
  | f + 1, n => if n = 0 then [] else ((n % 65536 : Nat) : Int) :: limbsF f (n / 65536)
/-- The limbs of a number, no needless nought. -/
def limbs (n : Nat) : List Int := limbsF n n

theorem pow_nat (k : Nat) : (65536 : Int) ^ k = ((65536 ^ k : Nat) : Int) := by simp
theorem pow_mono {a b : Nat} (h : a ≤ b) : (65536 : Int) ^ a ≤ 65536 ^ b := by
  rw [pow_nat, pow_nat]
  exact Int.ofNat_le.2 (Nat.pow_le_pow_right (by decide) h)
theorem val_append (xs ys : List Int) : val (xs ++ ys) = val xs + 65536 ^ xs.length * val ys := by
  induction xs with
  | nil => simp [val]
  | cons x t ih =>
    simp only [List.cons_append, val, ih, List.length_cons, Int.pow_succ]
    rw [Int.mul_add, Int.mul_comm (65536 ^ t.length) 65536, Int.mul_assoc, Int.add_assoc]
theorem val_nonneg {zs : List Int} (h : Lim zs) : 0 ≤ val zs := by
  induction zs with
  | nil => simp [val]
  | cons x t ih =>
    have hx := h x (by simp)
    have := ih (fun z hz => h z (by simp [hz]))
    simp only [val]; omega
theorem val_lt {zs : List Int} (h : Lim zs) : val zs < 65536 ^ zs.length := by
  induction zs with
  | nil => simp [val]
  | cons x t ih =>
    have hx := h x (by simp)
    have := ih (fun z hz => h z (by simp [hz]))
    simp only [val, List.length_cons, Int.pow_succ]
    generalize (65536 : Int) ^ t.length = P at *
    omega
theorem limbsF_val : ∀ f n, n ≤ f → val (limbsF f n) = n
  | 0, n, h => by have : n = 0 := by omega
                  subst this; rfl
  | f + 1, n, h => by
    unfold limbsF
    split
    · rename_i h0; subst h0; rfl
    · simp only [val]
      rw [limbsF_val f (n / 65536) (by omega)]
      omega
theorem limbs_val (n : Nat) : val (limbs n) = n := limbsF_val n n (Nat.le_refl _)
theorem limbsF_lim : ∀ f n, Lim (limbsF f n)
  | 0, n => by intro z hz; simp [limbsF] at hz
  | f + 1, n => by
    intro z hz
    unfold limbsF at hz
    split at hz
    · simp at hz
    · rcases List.mem_cons.1 hz with h | h
      · subst h; omega
      · exact limbsF_lim f _ z h
theorem limbs_lim (n : Nat) : Lim (limbs n) := limbsF_lim n n
theorem limbsF_last : ∀ f n, n ≤ f → ∀ z, (limbsF f n).getLast? = some z → z ≠ 0
  | 0, n, h, z, hz => by simp [limbsF] at hz
  | f + 1, n, h, z, hz => by
    unfold limbsF at hz
    split at hz
    · simp at hz
    · rename_i h0
      by_cases h1 : n / 65536 = 0
      · have e : limbsF f (n / 65536) = [] := by rw [h1]; cases f <;> simp [limbsF]
        rw [e] at hz
        simp at hz
        subst hz; omega
      · have hne : limbsF f (n / 65536) ≠ [] := by
          intro e
          have := limbsF_val f (n / 65536) (by omega)
          rw [e] at this
          simp [val] at this; omega
        rw [List.getLast?_cons_of_ne_nil hne] at hz
        exact limbsF_last f (n / 65536) (by omega) z hz
theorem limbs_nrm (n : Nat) : Nrm (limbs n) := ⟨limbs_lim n, limbsF_last n n (Nat.le_refl _)⟩
theorem Nrm.tail {x : Int} {t : List Int} (h : Nrm (x :: t)) : Nrm t :=
  ⟨fun z hz => h.1 z (by simp [hz]), fun z hz => h.2 z (by
    cases t with
    | nil => simp at hz
    | cons y s => simpa using hz)⟩
theorem nrm_nil {zs : List Int} (h : Nrm zs) (h0 : val zs = 0) : zs = [] := by
  induction zs with
  | nil => rfl
  | cons x t ih =>
    exfalso
    have hx := h.1 x (by simp)
    have ht := h.tail
    have hv := val_nonneg ht.1
    simp only [val] at h0
    have ht0 : t = [] := ih ht (by omega)
    subst ht0
    simp [val] at h0
    exact h.2 x (by simp) h0
theorem nrm_unique : ∀ {xs ys : List Int}, Nrm xs → Nrm ys → val xs = val ys → xs = ys
  | [], ys, _, hy, h => (nrm_nil hy (by simpa [val] using h.symm)).symm
  | x :: t, [], hx, _, h => nrm_nil hx (by simpa [val] using h)
  | x :: t, y :: s, hx, hy, h => by
    have a := hx.1 x (by simp)
    have b := hy.1 y (by simp)
    simp only [val] at h
    have e : x = y := by omega
    have e2 : val t = val s := by omega
    rw [e, nrm_unique hx.tail hy.tail e2]
theorem nrm_limbs {zs : List Int} (h : Nrm zs) : zs = limbs (val zs).toNat :=
  nrm_unique h (limbs_nrm _) (by rw [limbs_val]; have := val_nonneg h.1; omega)
theorem limbs_inj {m n : Nat} (h : limbs m = limbs n) : m = n := by
  have := congrArg val h
  rw [limbs_val, limbs_val] at this; omega
theorem limbs_zero : limbs 0 = [] := rfl
theorem limbs_eq_nil {n : Nat} : limbs n = [] ↔ n = 0 := ⟨fun h => limbs_inj (by rw [h, limbs_zero]), fun h => by rw [h, limbs_zero]⟩
/-- A number has at most k limbs just if it is below the base to the power of k. -/
theorem nrm_pow {zs : List Int} (h : Nrm zs) (hne : zs ≠ []) : (65536 : Int) ^ (zs.length - 1) ≤ val zs := by
  induction zs with
  | nil => exact absurd rfl hne
  | cons x t ih =>
    have hx := h.1 x (by simp)
    by_cases ht : t = []
    · subst ht
      have := h.2 x (by simp)
      simp [val]; omega
    · have := ih h.tail ht
      have hl : t.length = (t.length - 1) + 1 := by have := List.length_pos_iff.2 ht; omega
      simp only [val, List.length_cons, Nat.add_sub_cancel]
      rw [hl, Int.pow_succ]
      generalize (65536 : Int) ^ (t.length - 1) = P at *
      omega
theorem limbs_length_le (n k : Nat) : (limbs n).length ≤ k ↔ (n : Int) < 65536 ^ k := by
  constructor
  · intro h
    have h1 := val_lt (limbs_lim n)
    rw [limbs_val] at h1
    exact Int.lt_of_lt_of_le h1 (pow_mono h)
  · intro h
    rcases Nat.lt_or_ge k (limbs n).length with h1 | h1
    · have hne : limbs n ≠ [] := by intro e; simp [e] at h1
      have h2 := nrm_pow (limbs_nrm n) hne
      rw [limbs_val] at h2
      have h3 : (65536 : Int) ^ k ≤ 65536 ^ ((limbs n).length - 1) := pow_mono (by omega)
      omega
    · exact h1

theorem val_zeros (n : Nat) : val (List.replicate n 0) = 0 := by
  induction n with
  | zero => rfl
  | succ n ih => simp [List.replicate_succ, val, ih]
/-- What is left of limbs when noughts at the end have gone, by the number of those that stay. -/
theorem take_limbs (zs : List Int) (h : Lim zs) (n : Nat) (hn : n ≤ zs.length) (hz : ∀ i, n ≤ i → i < zs.length → zs.getD i 0 = 0) (hl : n = 0 ∨ zs.getD (n - 1) 0 ≠ 0) : zs.take n = limbs (val zs).toNat := by
  have hd : zs.drop n = List.replicate (zs.length - n) 0 := by
    apply List.ext_getElem
    · simp
    · intro i h1 h2
      have := hz (n + i) (by omega) (by simp at h1; omega)
      simp at h1
      simp [List.getD] at this
      rw [List.getElem?_eq_getElem (by omega)] at this
      simpa using this
  have hv : val zs = val (zs.take n) := by
    conv => lhs; rw [← List.take_append_drop n zs, val_append, hd, val_zeros]
    simp
  have hnr : Nrm (zs.take n) := by
    refine ⟨fun z hz' => h z (List.mem_of_mem_take hz'), fun z hz' => ?_⟩
    rcases hl with h0 | h0
    · subst h0; simp at hz'
    · rw [List.getLast?_eq_getElem?] at hz'
      simp only [List.length_take, Nat.min_eq_left hn] at hz'
      by_cases hn0 : n = 0
      · subst hn0; simp at hz'
      · rw [List.getElem?_take_of_lt (by omega)] at hz'
        simp [List.getD, hz'] at h0
        exact h0
  rw [hv]
  exact nrm_limbs hnr
end Go.Proofs.YthahoabkehcgbaaGreatDoor

namespace Go.Proofs.YthahoabkehcgbaaGreatDoor
set_option linter.unusedVariables false

theorem val_drop (zs : List Int) (i : Nat) : val (zs.drop i) = zs.getD i 0 + 65536 * val (zs.drop (i + 1)) := by
  by_cases h : i < zs.length
  · rw [List.drop_eq_getElem_cons h]
    simp [val, List.getD, h]
  · rw [List.drop_eq_nil_of_le (by omega), List.drop_eq_nil_of_le (by omega)]
    simp [val, List.getD, List.getElem?_eq_none (Nat.le_of_not_lt h)]
theorem val_snoc (zs : List Int) (x : Int) : val (zs ++ [x]) = val zs + 65536 ^ zs.length * x := by
  rw [val_append]; simp [val]
theorem Lim.snoc {zs : List Int} (h : Lim zs) {x : Int} (h0 : 0 ≤ x) (h1 : x ≤ 65535) : Lim (zs ++ [x]) := fun z hz => by
  rcases List.mem_append.1 hz with a | a
  · exact h z a
  · simp at a; subst a; exact ⟨h0, h1⟩
theorem Lim.at {zs : List Int} (h : Lim zs) (i : Nat) : 0 ≤ zs.getD i 0 ∧ zs.getD i 0 ≤ 65535 := by
  by_cases hi : i < zs.length
  · have : zs.getD i 0 = zs[i] := by simp [List.getD, hi]
    rw [this]; exact h _ (List.getElem_mem hi)
  · have : zs.getD i 0 = 0 := by simp [List.getD, List.getElem?_eq_none (Nat.le_of_not_lt hi)]
    rw [this]; omega
theorem Lim.set {zs : List Int} (h : Lim zs) (i : Nat) {x : Int} (h0 : 0 ≤ x) (h1 : x ≤ 65535) : Lim (zs.set i x) := fun z hz => by
  rcases List.mem_or_eq_of_mem_set hz with a | a
  · exact h z a
  · subst a; exact ⟨h0, h1⟩
theorem Lim.zeros (n : Nat) : Lim (List.replicate n 0) := fun z hz => by have := List.eq_of_mem_replicate hz; omega
theorem Lim.nil : Lim [] := fun z hz => by simp at hz
theorem val_set (zs : List Int) (i : Nat) (x : Int) (h : i < zs.length) : val (zs.set i x) = val zs + 65536 ^ i * (x - zs.getD i 0) := by
  induction zs generalizing i with
  | nil => simp at h
  | cons y t ih =>
    cases i with
    | zero => simp [val]; omega
    | succ i =>
      have hi : i < t.length := by simpa using h
      simp only [List.set_cons_succ, val, ih i hi]
      have e : (y :: t).getD (i + 1) 0 = t.getD i 0 := by simp [List.getD]
      rw [e, Int.pow_succ, Int.mul_add, Int.mul_comm (65536 ^ i) 65536, Int.mul_assoc, Int.add_assoc]

/-- One limb of a sum. -/
theorem add_step (out : List Int) (i : Nat) (hi : out.length = i) (c A B a b A' B' S : Int) (hA : A = a + 65536 * A') (hB : B = b + 65536 * B') (h : val out + 65536 ^ i * (c + A + B) = S) :
    val (out ++ [(c + a + b) % 65536]) + 65536 ^ (i + 1) * ((c + a + b) / 65536 + A' + B') = S := by
  rw [val_snoc, hi, ← h, Int.pow_succ]
  have e : c + A + B = (c + a + b) % 65536 + 65536 * ((c + a + b) / 65536 + A' + B') := by omega
  generalize (c + a + b) / 65536 + A' + B' = q at *
  rw [e, Int.mul_add, Int.mul_assoc, Int.add_assoc]
/-- One limb of a row of a product. -/
theorem mul_step (out : List Int) (j : Nat) (hj : j < out.length) (c a b o T : Int) (ho : out.getD j 0 = o) (h : val out + 65536 ^ j * c = T) :
    val (out.set j ((o + a * b + c) % 65536)) + 65536 ^ (j + 1) * ((o + a * b + c) / 65536) = T + 65536 ^ j * (a * b) := by
  rw [val_set _ _ _ hj, ho, ← h, Int.pow_succ]
  have e : (o + a * b + c) % 65536 - o + 65536 * ((o + a * b + c) / 65536) = c + a * b := by
    generalize a * b = m; omega
  have e2 : 65536 ^ j * ((o + a * b + c) % 65536 - o) + 65536 ^ j * 65536 * ((o + a * b + c) / 65536) = 65536 ^ j * (c + a * b) := by
    rw [Int.mul_assoc, ← Int.mul_add, e]
  rw [Int.mul_add] at e2
  generalize (65536 : Int) ^ j * (a * b) = m at *
  omega
/-- One limb of a short quotient, from the high end on. -/
theorem small_step (A a d r Q A' : Int) (hd : 0 < d) (hA : A = a + 65536 * A') (h : A' = Q * d + r) (h0 : 0 ≤ r) (h1 : r < d) (ha : 0 ≤ a) :
    A = ((r * 65536 + a) / d + 65536 * Q) * d + (r * 65536 + a) % d ∧ 0 ≤ (r * 65536 + a) % d ∧ (r * 65536 + a) % d < d ∧ 0 ≤ (r * 65536 + a) / d := by
  have e := Int.mul_ediv_add_emod (r * 65536 + a) d
  refine ⟨?_, Int.emod_nonneg _ (by omega), Int.emod_lt_of_pos _ hd, Int.ediv_nonneg (by omega) (by omega)⟩
  rw [Int.add_mul, Int.mul_assoc, hA, h]
  have e2 : (r * 65536 + a) / d * d = d * ((r * 65536 + a) / d) := Int.mul_comm _ _
  generalize (r * 65536 + a) / d * d = m at *
  generalize d * ((r * 65536 + a) / d) = m' at *
  generalize Q * d = n at *
  omega
theorem small_lt (a d r : Int) (h1 : r < d) (h0 : 0 ≤ r) (hd : 0 < d) (ha : a ≤ 65535) : (r * 65536 + a) / d ≤ 65535 := by
  have : r * 65536 + a < 65536 * d := by omega
  have := Int.ediv_lt_of_lt_mul hd this
  omega

/-- The value from a place on is the value there with the lower limbs cut off. -/
theorem val_take_drop (zs : List Int) (i : Nat) (h : i ≤ zs.length) : val zs = val (zs.take i) + 65536 ^ i * val (zs.drop i) := by
  conv => lhs; rw [← List.take_append_drop i zs, val_append]
  simp [Nat.min_eq_left h]
theorem val_take_succ (zs : List Int) (i : Nat) (h : i < zs.length) : val (zs.take (i + 1)) = val (zs.take i) + 65536 ^ i * zs.getD i 0 := by
  rw [List.take_succ_eq_append_getElem h, val_snoc]
  simp [List.getD, h, Nat.min_eq_left (Nat.le_of_lt h)]
end Go.Proofs.YthahoabkehcgbaaGreatDoor

namespace Go.Proofs.YthahoabkehcgbaaGreatDoor
open Go.RowKit

theorem run_append_none {P : Program} (w : World) (t ty e : TypeId) (i : TypeInfo) (ht : P.underlying t = some (.slice e)) (hi : P.info? e = some i) (a : Addr) (n cap c : Nat) (hn : n ≤ cap) :
    (Builtin.append_ #[t, t] ty #[.slice (some a) n cap, .slice none 0 c]).run P w = .ok (.slice (some a) n cap) w := by
  simp [Builtin.append_, run_underlying ht, sizeOf, typeInfo, hi, Builtin.lenOf, Builtin.firstCells, hn, storeCells]
theorem run_append_zero {P : Program} (w : World) (t ty e : TypeId) (i : TypeInfo) (ht : P.underlying t = some (.slice e)) (hi : P.info? e = some i) (a : Addr) (b : Option Addr) (n cap c : Nat) (hn : n ≤ cap) :
    (Builtin.append_ #[t, t] ty #[.slice (some a) n cap, .slice b 0 c]).run P w = .ok (.slice (some a) n cap) w := by
  cases b with
  | none => exact run_append_none w t ty e i ht hi a n cap c hn
  | some b => simp [Builtin.append_, run_underlying ht, sizeOf, typeInfo, hi, Builtin.lenOf, Builtin.firstCells, hn, storeCells, loadCells, loadCellsFrom]
theorem Row.empty (k : IntKind) (wr : Bool) (lo hi : Nat) (w : World) (a : Option Addr) (c : Nat) (hc : c ≤ maxLen) : Row k wr lo hi w (.slice a 0 c) [] :=
  ⟨a, c, rfl, Nat.zero_le _, hc, fun h => absurd rfl h⟩

theorem own_set {k0 : IntKind} {w : World} {base g cap : Nat} {e : TypeId} {zs : List Int} (h : w.ownsRow base e 1 (.slice (some ⟨g, 0, none⟩) zs.length cap) zs.length (zs.map (Value.int k0))) (j : Nat) (z : Int) :
    (w.setCell ⟨g, j, none⟩ (.int k0 z)).ownsRow base e 1 (.slice (some ⟨g, 0, none⟩) zs.length cap) (zs.set j z).length ((zs.set j z).map (Value.int k0)) := by
  rcases h.2 with ⟨h0, _⟩ | ⟨g', cap', cur, hv, hb, hg, hnc, hcm, hcs, htake⟩
  · cases h0
  · simp only [Value.slice.injEq, Option.some.injEq, Addr.mk.injEq, and_true, true_and] at hv
    obtain ⟨rfl, rfl⟩ := hv
    refine ⟨by simp, .inr ⟨g, cap, cur.setIfInBounds j (.int k0 z), by simp, hb, ?_, by simpa using hnc, hcm, by simpa using hcs, ?_⟩⟩
    · unfold World.setCell
      simp [Array.getElem?_modify, hg]
    · simp only [List.length_set, Nat.mul_one] at htake ⊢
      rw [Array.toList_setIfInBounds, List.take_set, htake, List.map_set]
theorem own_take {k0 : IntKind} {w : World} {base : Nat} {g cap : Nat} {e : TypeId} {zs : List Int} (h : w.ownsRow base e 1 (.slice (some ⟨g, 0, none⟩) zs.length cap) zs.length (zs.map (Value.int k0))) (j : Nat) (hj : j ≤ zs.length) :
    w.ownsRow base e 1 (.slice (some ⟨g, 0, none⟩) j cap) (zs.take j).length ((zs.take j).map (Value.int k0)) := by
  rcases h.2 with ⟨h0, _⟩ | ⟨g', cap', cur, hv, hb, hg, hnc, hcm, hcs, htake⟩
  · cases h0
  · simp only [Value.slice.injEq, Option.some.injEq, Addr.mk.injEq, and_true, true_and] at hv
    obtain ⟨rfl, rfl⟩ := hv
    have hl : (zs.take j).length = j := by simp; omega
    refine ⟨by simp, .inr ⟨g, cap, cur, by rw [hl], hb, hg, by rw [hl]; omega, hcm, hcs, ?_⟩⟩
    rw [hl, Nat.mul_one, List.map_take, ← htake, Nat.mul_one, List.take_take, Nat.min_eq_left hj]
theorem own_form {w : World} {base : Nat} {e : TypeId} {v : Value} {n : Nat} {xs : List Value} (h : w.ownsRow base e 1 v n xs) (hn : 0 < n) : ∃ g cap, v = .slice (some ⟨g, 0, none⟩) n cap ∧ base ≤ g ∧ n ≤ cap ∧ cap ≤ maxLen ∧ g < w.heap.size ∧ w.frozen? ⟨g, 0, none⟩ = false := by
  rcases h.2 with ⟨_, h0⟩ | ⟨g, cap, cur, hv, hb, hg, hnc, hcm, _⟩
  · omega
  · exact ⟨g, cap, hv, hb, hnc, hcm, (Array.getElem?_eq_some_iff.1 hg).1, by simp [World.frozen?, hg]⟩
theorem own_slice {w : World} {base : Nat} {e : TypeId} {v : Value} {n : Nat} {xs : List Value} (h : w.ownsRow base e 1 v n xs) : ∃ a cap, v = .slice a n cap := by
  rcases h.2 with ⟨rfl, rfl⟩ | ⟨g, cap, cur, hv, _⟩
  · exact ⟨none, 0, rfl⟩
  · exact ⟨_, cap, hv⟩
theorem own_cell {k0 : IntKind} {w : World} {base g cap : Nat} {e : TypeId} {zs : List Int} (h : w.ownsRow base e 1 (.slice (some ⟨g, 0, none⟩) zs.length cap) zs.length (zs.map (Value.int k0))) (j : Nat) (hj : j < zs.length) :
    w.cell? ⟨g, j, none⟩ = some (.int k0 (zs.getD j 0)) ∧ w.frozen? ⟨g, j, none⟩ = false := by
  have h1 := h.cells (g := g) rfl j (.int k0 (zs.getD j 0)) (by simp [List.getD, hj])
  rw [Addr.add_lit, Nat.zero_add] at h1
  refine ⟨h1, ?_⟩
  rcases h.2 with ⟨h0, _⟩ | ⟨g', cap', cur, hv, hb, hg, _⟩
  · cases h0
  · cases hv
    simp [World.frozen?, hg]
theorem Kept.setNew {lo hi : Nat} {a w : World} (h : Kept lo hi a w) {p : Addr} (hp : a.heap.size ≤ p.block) (u : Value) : Kept lo hi a (w.setCell p u) :=
  ⟨h.os, h.tape, h.output, by have := h.size; simpa [World.setCell] using this, fun i hi' ho => (Below.heap_setCell _ _ _ _ (by omega)).trans (h.block i hi' ho)⟩
theorem Kept.growNew {lo hi : Nat} {a w w' : World} {row : Option Nat} (h : Kept lo hi a w) (hg : w.grownBy w' row) (hr : ∀ k, row = some k → a.heap.size ≤ k) : Kept lo hi a w' :=
  ⟨hg.os.trans h.os, hg.tape.trans h.tape, hg.output.trans h.output, Nat.le_trans h.size hg.size, fun i hi' ho => (hg.block i (Nat.lt_of_lt_of_le hi' h.size) (fun e => by have := hr i e.symm; omega)).trans (h.block i hi' ho)⟩

theorem lit_cell {W : World} {a : Addr} {v : Value} (h : W.cell? a = some v) : ∀ j u, [v][j]? = some u → W.cell? (a.add j) = some u := by
  intro j u hj
  match j, hj with
  | 0, hj => simp at hj; subst hj; rw [Addr.add_zero']; exact h
theorem new_cell_at (W : World) (v : Value) (t : TypeId) (n : Nat) (hn : n = W.heap.size) : (W.alloc (.cells #[v] t)).cell? ⟨n, 0, none⟩ = some v := by
  subst hn
  have hg : (W.alloc (.cells #[v] t)).heap[W.heap.size]? = some (.cells #[v] t) := heap_alloc_new W _
  simp only [World.cell?, hg]
  rfl
theorem own_nil_at (W : World) (t : TypeId) (base n : Nat) (hn : n = W.heap.size) (hb : base ≤ n) : (W.alloc (.cells #[] t)).ownsRow base t 1 (.slice (some ⟨n, 0, none⟩) 0 0) 0 [] := by
  subst hn
  exact ⟨rfl, .inr ⟨W.heap.size, 0, #[], rfl, hb, heap_alloc_new W _, Nat.le_refl _, Nat.zero_le _, rfl, rfl⟩⟩
theorem drew_cell {W : World} {a : Addr} {v : Value} (h : W.cell? a = some v) : W.drew.cell? a = some v := h
theorem old_cell {W : World} {a : Addr} {v : Value} (o : Obj) (h : W.cell? a = some v) : (W.alloc o).cell? a = some v := by
  have hlt : a.block < W.heap.size := World.block_lt_of_cell? W a h
  rw [← h]
  exact World.cell?_of_block (Below.heap_alloc _ _ _ hlt)
theorem own_less {w : World} {base base' : Nat} {e : TypeId} {v : Value} {n : Nat} {xs : List Value} (h : w.ownsRow base e 1 v n xs) (hb : base' ≤ base) : w.ownsRow base' e 1 v n xs :=
  ⟨h.1, h.2.elim Or.inl (fun ⟨g, cap, cur, hv, hg, r⟩ => Or.inr ⟨g, cap, cur, hv, Nat.le_trans hb hg, r⟩)⟩
/-- An append to a row of the call's own, as one step of a statement whose order is left open. -/
theorem step_append_own {P : Program} {ops : Array Oper} {o : Oper} {a : Act} {w : World} {K : Act → World → Prop} {Q : Exit → Act → World → Prop} {E : Prop}
    (hg : o.guard = none) (s x : Operand) (t : TypeId) (hop : o.op = Op.call { callee := Callee.builtin Builtin.append, args := #[s, x], argTypes := #[t, t] })
    (base : Nat) (e : TypeId) (i : TypeInfo) (z : Value) (size bytes : Nat) (ht : P.underlying t = some (.slice e)) (hi : P.info? e = some i) (hz : i.zero = some z)
    (hsize : i.size = size) (hby : i.bytes = bytes) (hzs : z.cells.size = size) (hsz : 0 < size)
    (v : Value) (n : Nat) (xs : List Value) (hs : a.eval s = v) (hown : w.ownsRow base e size v n xs)
    (ad : Addr) (m c : Nat) (news : List Value) (hx : a.eval x = .slice (some ad) m c) (hl : news.length = m * size) (hnews : ∀ j u, news[j]? = some u → w.cell? (ad.add j) = some u) (h1 : ∀ u ∈ news, u.oneCell' = true)
    (h63 : n + m ≤ maxLen) (hbytes : (n + m) * bytes ≤ 140737488355328) (hbase : base ≤ w.heap.size)
    (hK : ∀ v' w', w'.ownsRow base e size v' (n + m) (xs ++ news) → w.grownBy w' v.ownBlock → (∀ k, v.ownBlock = some k → base ≤ k) → K (a.put o.dst v') w') :
    if Region.wanted o (yielded ops a.tmps) = true then Oper.wp P o a w K Q else E := by
  have hw : Region.wanted o (yielded ops a.tmps) = true := by simp [Region.wanted, hg]
  rw [if_pos hw]
  exact wp_append_own w s x t hop base e i z size bytes ht hi hz hsize hby hzs hsz v n xs hs hown ad m c news hx hl hnews h1 h63 hbytes hbase (fun v' w' h2 h3 _ => hK v' w' h2 h3 (fun k hk => (hown.lt k hk).1))

end Go.Proofs.YthahoabkehcgbaaGreatDoor

namespace Go.Proofs.YthahoabkehcgbaaGreatDoor
open Go.RowKit
set_option linter.unusedVariables false
set_option maxRecDepth 8000

def limB (zs : List Int) : Bool := zs.all fun z => decide (0 ≤ z) && decide (z ≤ 65535)
/-- Is it a number as chapter 2 wants it? -/
def okB (zs : List Int) : Bool := decide (zs.length ≤ 100) && limB zs && (decide (zs.length = 0) || decide (0 < zs.getD (zs.length - 1) 0))
theorem limB_iff (zs : List Int) : limB zs = true ↔ Lim zs := by
  unfold limB Lim; simp
theorem limB_bad {zs : List Int} {k : Nat} (hk : k < zs.length) (h : zs.getD k 0 < 0 ∨ 65535 < zs.getD k 0) : limB zs = false := by
  cases hb : limB zs
  · rfl
  · have := ((limB_iff zs).1 hb).at k; omega
theorem okB_iff (zs : List Int) : okB zs = true ↔ zs.length ≤ 100 ∧ Nrm zs := by
  unfold okB Nrm
  simp only [Bool.and_eq_true, decide_eq_true_eq, limB_iff, Bool.or_eq_true]
  constructor
  · rintro ⟨⟨h1, h2⟩, h3⟩
    refine ⟨h1, h2, fun z hz e => ?_⟩
    rw [List.getLast?_eq_getElem?] at hz
    rcases h3 with h3 | h3
    · simp [List.length_eq_zero_iff.1 h3] at hz
    · simp [List.getD, hz] at h3; omega
  · rintro ⟨h1, h2, h3⟩
    refine ⟨⟨h1, h2⟩, ?_⟩
    by_cases h0 : zs.length = 0
    · exact .inl h0
    · refine .inr ?_
      have hl : zs.length - 1 < zs.length := by omega
      have := h3 (zs.getD (zs.length - 1) 0) (by rw [List.getLast?_eq_getElem?]; simp [List.getD, hl])
      have := h2.at (zs.length - 1)
      omega
set_option maxHeartbeats 1000000 in
theorem ok_spec {bw : Bool} {lo hi : Nat} {v : Value} {zs : List Int} (w : World) (r : Row .i64 bw lo hi w v zs) :
    Calls Tryz.prog 177 #[.agg #[v]] w fun e w' => e = .returned (.bool (okB zs)) ∧ Kept 0 0 w w' := by
  have rr := r
  obtain ⟨a, c, rfl, q1, m1, q3⟩ := r
  unfold maxLen at m1
  by_cases hbig : 100 < (zs.length : Int)
  · have e0 : okB zs = false := by unfold okB; rw [decide_eq_false (by omega)]; rfl
    rw [e0]
    go_enter Tryz.func177, Tryz.ntmps177
    go_wp2
    go_ret
    exact ⟨rfl, (Kept.refl _ _ _).alloc _⟩
  · have h100 : zs.length ≤ 100 := by omega
    have hat := (row_cell (rr.kept ((Kept.refl 0 0 w).alloc (.cells #[.slice a zs.length c] 48)) (by omega))).2.2.2
    have e1 : okB zs = (limB zs && (decide (zs.length = 0) || decide (0 < zs.getD (zs.length - 1) 0))) := by unfold okB; rw [decide_eq_true h100]; simp
    generalize okB zs = K at *
    have HE := hide e1
    clear e1 q3 rr
    go_enter Tryz.func177, Tryz.ntmps177
    go_wp2
    go_loop [3] (fun i => ∃ k : Nat, k ≤ zs.length ∧ i = .int .i64 k ∧ Hid (∀ m, m < k → 0 ≤ zs.getD m 0 ∧ zs.getD m 0 ≤ 65535)) (fun i => zs.length - (intOf i).toNat)
    case atStart => exact ⟨0, Nat.zero_le _, rfl, fun m hm => absurd hm (Nat.not_lt_zero _)⟩
    case round =>
      obtain ⟨k, hk, rfl, hall⟩ := hrel
      by_cases hlt : k < zs.length
      · have hlt' : (k : Int) < (zs.length : Int) := by omega
        obtain ⟨g, off, rfl, hc⟩ := hat k hlt
        have hbad := limB_bad (zs := zs) hlt
        generalize hz : zs.getD k 0 = z at *
        have HZ := hide hz
        have HB := hide hbad
        clear hat hz hbad
        by_cases z0 : z < 0
        · have e2 := unhide HE
          rw [unhide HB (.inl z0)] at e2
          simp at e2
          subst e2
          go_wp2
          go_ret
          exact ⟨rfl, (Kept.refl _ _ _).alloc _⟩
        by_cases z1 : 65536 ≤ z
        · have e2 := unhide HE
          rw [unhide HB (.inr (by omega))] at e2
          simp at e2
          subst e2
          go_wp2
          go_ret
          exact ⟨rfl, (Kept.refl _ _ _).alloc _⟩
        · go_wp2
          go_round
          case rel => exact ⟨k + 1, by omega, by go_num, fun m hm => by
            rcases Nat.lt_succ_iff_lt_or_eq.1 hm with h | h
            · exact hall.out m h
            · subst h; rw [unhide HZ]; omega⟩
          case measure => simp [intOf]; omega
      · have hlt' : ¬ (k : Int) < (zs.length : Int) := by omega
        have hlim : limB zs = true := (limB_iff zs).2 (fun z hz => by
          obtain ⟨i, hi, rfl⟩ := List.getElem_of_mem hz
          have := hall.out i (by omega)
          simpa [List.getD, hi] using this)
        have e2 := unhide HE
        rw [hlim, Bool.true_and] at e2
        by_cases h0 : zs.length = 0
        · rw [decide_eq_true h0] at e2
          simp at e2
          subst e2
          have h0' : ((zs.length : Int) == 0) = true := by simp [h0]
          have H0 := hide h0
          clear hat h0 hlim
          go_wp2
          go_ret
          exact ⟨rfl, (Kept.refl _ _ _).alloc _⟩
        · rw [decide_eq_false h0, Bool.false_or] at e2
          have h0' : ((zs.length : Int) == 0) = false := beq_eq_false_iff_ne.2 (by omega)
          obtain ⟨g, off, rfl, hc⟩ := hat (zs.length - 1) (by omega)
          have hl1 : 1 ≤ zs.length := by omega
          generalize zs.getD (zs.length - 1) 0 = z at *
          subst e2
          clear hat hlim h0 hall HE
          go_wp2
          go_ret
          exact ⟨by first | rfl | simp, (Kept.refl _ _ _).alloc _⟩

end Go.Proofs.YthahoabkehcgbaaGreatDoor

namespace Go.Proofs.YthahoabkehcgbaaGreatDoor
open Go.RowKit
set_option linter.unusedVariables false
set_option maxRecDepth 8000

theorem Tryz.info3 : (Tryz.prog.info? 3).map (fun i => (i.zero, i.size, i.bytes)) = some (some (.int .i64 0), 1, 8) := by kernel_rfl

set_option maxHeartbeats 2000000 in
theorem norm_spec {bw : Bool} {lo hi : Nat} {v : Value} {zs : List Int} (w : World) (r : Row .i64 bw lo hi w v zs) (hl : Lim zs) (hlen : zs.length ≤ 1000000) :
    Calls Tryz.prog 197 #[v] w fun e w' => ∃ v', e = .returned (.agg #[v']) ∧ Row .i64 true w.heap.size w'.heap.size w' v' (limbs (val zs).toNat) ∧ Kept 0 0 w w' := by
  have rr := r.read.tight
  obtain ⟨a, c, rfl, q1, m1, q3⟩ := r
  unfold maxLen at m1
  obtain ⟨i0, hi0, hz0, hz1, hz2⟩ := info_parts Tryz.info3
  clear q3
  go_enter Tryz.func197, Tryz.ntmps197
  go_wp2
  have r1 := rr.kept ((Kept.refl 0 0 w).alloc (.cells #[.slice none 0 0] 48)) (by omega)
  have hat := (row_cell r1).2.2.2
  have hs1 : (w.alloc (.cells #[.slice none 0 0] 48)).heap.size = w.heap.size + 1 := by simp
  have HS1 := hide hs1
  clear hs1
  go_loop [3] (fun n => ∃ k : Nat, k ≤ zs.length ∧ n = .int .i64 k ∧ Hid (∀ i, k ≤ i → i < zs.length → zs.getD i 0 = 0)) (fun n => (intOf n).toNat)
  case atStart => exact ⟨zs.length, Nat.le_refl _, rfl, fun i h1 h2 => by omega⟩
  case round =>
    obtain ⟨k, hk, rfl, hall⟩ := hrel
    by_cases hk0 : k = 0
    · subst hk0
      have ht := take_limbs zs hl 0 (Nat.zero_le _) (fun i h1 h2 => hall.out i h1 h2) (.inl rfl)
      rw [List.take_zero] at ht
      have HT := hide ht
      clear ht hat hall
      have hrun := fun ty => run_append_zero (P := Tryz.prog) ((w.alloc (.cells #[.slice none 0 0] 48)).alloc (.cells #[] 3)) 39 ty 3 i0 Tryz.underlying39 hi0 ⟨w.heap.size + 1, 0, none⟩ a 0 0 c (Nat.le_refl _)
      have HRUN := hide hrun
      clear hrun
      go_wp2_with (at_builtin; refine Lib.wpList_append_run _ rfl _ _ _ _ rfl _ _ rfl rfl _ _ (unhide HRUN _) ?_)
      refine bodyPost_ret (v := .agg #[.slice (some ⟨w.heap.size + 1, 0, none⟩) 0 0]) (by simp [results, Tryz.results197, go_sem]) rfl ⟨_, rfl, ?_, ((Kept.refl _ _ _).alloc _).alloc _⟩
      rw [← unhide HT]
      exact Row.empty _ _ _ _ _ _ _ (Nat.zero_le _)
    · obtain ⟨g, off, rfl, hc⟩ := hat (k - 1) (by omega)
      have hk1 : 1 ≤ k := by omega
      have hpos : (0 : Int) < (k : Int) := by omega
      by_cases hz : zs.getD (k - 1) 0 = 0
      · have hbz : (zs.getD (k - 1) 0 == 0) = true := beq_iff_eq.2 hz
        have HZ := hide hz
        generalize zs.getD (k - 1) 0 = z at hc hbz
        clear hat hz
        go_wp2
        go_round
        case rel => exact ⟨k - 1, by omega, by go_num, fun i h1 h2 => by
          rcases Nat.lt_or_ge i k with h | h
          · have : i = k - 1 := by omega
            subst this; exact unhide HZ
          · exact hall.out i h h2⟩
        case measure => simp [intOf]; omega
      · have hbz : (zs.getD (k - 1) 0 == 0) = false := beq_eq_false_iff_ne.2 hz
        have ht := take_limbs zs hl k hk (fun i h1 h2 => hall.out i h1 h2) (.inr hz)
        have HT := hide ht
        have hne : zs ≠ [] := by intro e; subst e; simp at hk; omega
        obtain ⟨g', o', c', e', -, -, hnews⟩ := (r1.kept ((Kept.refl 0 0 _).alloc (.cells #[] 3)) (by omega)).news hne
        cases e'
        have hnk : ∀ j u, ((zs.take k).map (Value.int .i64))[j]? = some u → ((w.alloc (.cells #[.slice none 0 0] 48)).alloc (.cells #[] 3)).cell? ((⟨g, off, none⟩ : Addr).add j) = some u := fun j u hj => hnews j u (by
          rw [List.map_take, List.getElem?_take] at hj
          split at hj
          · exact hj
          · cases hj)
        have hown0 := own_nil_at (w.alloc (.cells #[.slice none 0 0] 48)) 3 (w.heap.size + 1) (w.heap.size + 1) (unhide HS1).symm (Nat.le_refl _)
        have hlk : ((zs.take k).map (Value.int .i64)).length = k * 1 := by simp; omega
        generalize zs.getD (k - 1) 0 = z at hc hbz
        have HN := hide hnk
        have HB : Hid (w.heap.size + 1 ≤ ((w.alloc (.cells #[.slice none 0 0] 48)).alloc (.cells #[] 3)).heap.size) := by show _ ≤ _; simp
        clear hat hz ht hnews hnk hall hne
        go_wp2_with (at_builtin; refine wpList_append_own _ rfl _ _ 39 rfl (w.heap.size + 1) 3 i0 (.int .i64 0) 1 8 Tryz.underlying39 hi0 hz0 hz1 hz2 rfl (by decide) _ _ _ rfl hown0 ⟨g, off, none⟩ k c ((zs.take k).map (Value.int .i64)) rfl hlk (unhide HN) (ints_one _ _) ?c3 ?c4 (unhide HB) ?_)
        case c3 => unfold maxLen; omega
        case c4 => omega
        intro v4 w4 hown4 hgrow _
        obtain ⟨a4, c4, hv4⟩ := own_slice hown4
        subst hv4
        have hcr : w4.cell? ⟨w.heap.size, 0, none⟩ = some (.slice none 0 0) := by
          have h1 : ((w.alloc (.cells #[.slice none 0 0] 48)).alloc (.cells #[] 3)).cell? ⟨w.heap.size, 0, none⟩ = some (.slice none 0 0) := old_cell _ (new_cell_at _ _ _ _ rfl)
          exact hgrow.cell h1 (by simp [Value.ownBlock])
        have hfr : w4.frozen? ⟨w.heap.size, 0, none⟩ = false := by
          have hb := hgrow.block w.heap.size (by simp; omega) (by simp [Value.ownBlock])
          have h1 : ((w.alloc (.cells #[.slice none 0 0] 48)).alloc (.cells #[] 3)).heap[w.heap.size]? = some (.cells #[.slice none 0 0] 48) := by
            rw [Below.heap_alloc _ _ _ (by simp)]; exact heap_alloc_new w _
          rw [h1] at hb
          simp [World.frozen?, hb]
        have kk : Kept 0 0 w (w4.setCell ⟨w.heap.size, 0, none⟩ (.slice a4 k c4)) := ((((Kept.refl 0 0 w).alloc _).alloc _).growNew hgrow (fun q hq => by simp [Value.ownBlock] at hq; omega)).setNew (p := ⟨w.heap.size, 0, none⟩) (Nat.le_refl _) (.slice a4 k c4)
        have ho5 := ownsRow_setCell_below hown4 (a := ⟨w.heap.size, 0, none⟩) (Nat.lt_succ_self _) (.slice a4 k c4)
        have hr5 : Row .i64 true w.heap.size (w4.setCell ⟨w.heap.size, 0, none⟩ (.slice a4 k c4)).heap.size (w4.setCell ⟨w.heap.size, 0, none⟩ (.slice a4 k c4)) (.slice a4 k c4) (limbs (val zs).toNat) := by
          have h5 : (w4.setCell ⟨w.heap.size, 0, none⟩ (.slice a4 k c4)).ownsRow (w.heap.size + 1) 3 1 (.slice a4 k c4) k ((limbs (val zs).toNat).map (Value.int .i64)) := by
            rw [← unhide HT]; simpa using ho5
          exact (Row.own h5).wider (Nat.le_succ _) (Nat.le_refl _)
        clear hown4 hgrow ho5 hown0 HN HB hlk hbz hc hi0 hz0 hz1 hz2 HT rr r1
        go_wp2
        exact bodyPost_ret (v := .agg #[(.slice a4 k c4)]) (by simp [results, Tryz.results197, go_sem, hcr]) rfl ⟨_, rfl, hr5, kk⟩

end Go.Proofs.YthahoabkehcgbaaGreatDoor

namespace Go.Proofs.YthahoabkehcgbaaGreatDoor
open Go.RowKit
set_option linter.unusedVariables false
set_option maxRecDepth 8000

theorem Kept.cell0 {W w' : World} (k : Kept 0 0 W w') {a : Addr} {v : Value} (h : W.cell? a = some v) : w'.cell? a = some v := by
  have hlt : a.block < W.heap.size := World.block_lt_of_cell? W a h
  rw [← h]
  exact World.cell?_of_block (k.block _ hlt (by omega))
theorem Kept.loose0 {W w' : World} (k : Kept 0 0 W w') {a : Addr} (hb : a.block < W.heap.size) (h : W.frozen? a = false) : w'.frozen? a = false := by
  rw [← h]
  exact World.frozen?_of_block (k.block _ hb (by omega))
theorem loose_old {W : World} {a : Addr} {o : Obj} (hb : a.block < W.heap.size) (h : W.frozen? a = false) : (W.alloc o).frozen? a = false := ((Kept.refl 0 0 W).alloc o).loose0 hb h
theorem new_loose' (w : World) (cs : Array Value) (t : TypeId) (n : Nat) (hn : n = w.heap.size) : (w.alloc (.cells cs t)).frozen? ⟨n, 0, none⟩ = false := by
  subst hn
  have hg : (w.alloc (.cells cs t)).heap[w.heap.size]? = some (.cells cs t) := heap_alloc_new w _
  simp only [World.frozen?, hg]
  rfl
theorem Row.form' {k : IntKind} {bw : Bool} {lo hi : Nat} {w : World} {v : Value} {zs : List Int} (r : Row k bw lo hi w v zs) : ∃ a c, v = .slice a zs.length c := by
  obtain ⟨a, c, h, -⟩ := r
  exact ⟨a, c, h⟩
theorem Kept.cellOut {lo hi : Nat} {W w' : World} (k : Kept lo hi W w') {a : Addr} {v : Value} (ho : a.block < lo ∨ hi ≤ a.block) (h : W.cell? a = some v) : w'.cell? a = some v := by
  have hlt : a.block < W.heap.size := World.block_lt_of_cell? W a h
  rw [← h]
  exact World.cell?_of_block (k.block _ hlt ho)
theorem Row.set_other {k : IntKind} {bw : Bool} {lo hi : Nat} {w : World} {v : Value} {zs : List Int} (r : Row k bw lo hi w v zs) {p : Addr} (hp : p.block < lo ∨ hi ≤ p.block) (u : Value) : Row k bw lo hi (w.setCell p u) v zs :=
  r.kept (l := p.block) (h := p.block + 1) ((Kept.refl _ _ _).setCell (Nat.le_refl _) (Nat.lt_succ_self _) u) (by omega)

set_option maxHeartbeats 1000000 in
theorem szNat_any {bw : Bool} {lo hi : Nat} {v : Value} {zs : List Int} (w : World) (s : Int) (hs0 : 0 ≤ s) (hs1 : s ≤ 1048576) (r : Row .i64 bw lo hi w v zs) :
    Calls Tryz.prog 121 #[.agg #[v], .int .i64 s] w fun e w' => e = .returned (.int .i64 (if (zs.length : Int) ≤ s then s - zs.length else -1)) ∧ Kept 0 0 w w' := by
  obtain ⟨a, c, rfl, q1, m1, q3⟩ := r
  unfold maxLen at m1
  clear q3
  have hw : (s - (zs.length : Int) + 9223372036854775808) % 18446744073709551616 - 9223372036854775808 = s - zs.length := by omega
  by_cases h : (zs.length : Int) ≤ s
  · rw [if_pos h]
    have h' : ¬ (s - (zs.length : Int)) < 0 := by omega
    go_enter Tryz.func121, Tryz.ntmps121
    go_wp2
    go_ret
    exact ⟨rfl, (Kept.refl _ _ _).alloc _⟩
  · rw [if_neg h]
    have h' : (s - (zs.length : Int)) < 0 := by omega
    go_enter Tryz.func121, Tryz.ntmps121
    go_wp2
    go_ret
    exact ⟨rfl, (Kept.refl _ _ _).alloc _⟩

theorem Tryz.info3i : (Tryz.prog.info? 3).map (fun i => (i.zero, i.size, i.bytes)) = some (some (.int .i64 0), 1, 8) := by kernel_rfl

set_option maxHeartbeats 1000000 in
theorem toIntS_any {bw : Bool} {lo hi : Nat} {v : Value} {zs : List Int} (w : World) (hn : zs.length ≤ 1099511627776) (r : Row .i64 bw lo hi w v zs) :
    Calls Tryz.prog 181 #[v] w fun e w' => ∃ v', e = .returned v' ∧ Row .i64 true w.heap.size w'.heap.size w' v' zs ∧ Kept 0 0 w w' := by
  have r' := r.read.tight
  obtain ⟨a, c, rfl, q1, m1, q3⟩ := r
  obtain ⟨i0, hi0, hz0, hz1, hz2⟩ := info_parts Tryz.info3i
  have hb0 : i0.bytes * zs.length ≤ 281474976710656 := by rw [hz2]; omega
  have hm0 : zs.length ≤ maxLen := by unfold maxLen; omega
  clear q3 q1 m1
  go_enter Tryz.func181, Tryz.ntmps181
  go_wp2_with (at_make; refine wpList_make_full _ rfl _ _ 39 rfl w.heap.size 3 i0 (.int .i64 0) 1 Tryz.underlying39 hi0 hz0 hz1 .i64 .i64 _ _ zs.length rfl rfl rfl rfl hb0 hm0 (Nat.le_refl _) ?_; intro w1 hown hgrow)
  rw [made_zero] at hown
  have r0 := Row.own hown
  have hk0 : Kept 0 0 w w1 := ⟨hgrow.os, hgrow.tape, hgrow.output, hgrow.size, fun i hi _ => hgrow.block i hi (by simp)⟩
  have r1 : Row .i64 false lo w.heap.size w1 (.slice a zs.length c) zs := r'.kept hk0 (by omega)
  have r0' : Row .i64 true w.heap.size w1.heap.size w1 (.slice (some ⟨w.heap.size, 0, none⟩) zs.length zs.length) (zs.take 0 ++ List.replicate (zs.length - 0) 0) := by simpa using r0
  clear hown hgrow hi0 hz0 hz1 hz2 hb0 r' r0 hm0
  go_loopw [4] (fun i wx => ∃ j : Nat, j ≤ zs.length ∧ i = .int .i64 j ∧ Row .i64 true w.heap.size w1.heap.size wx (.slice (some ⟨w.heap.size, 0, none⟩) zs.length zs.length) (zs.take j ++ List.replicate (zs.length - j) 0) ∧ Kept w.heap.size w1.heap.size w1 wx ∧ wx.heap.size = w1.heap.size) (fun i _ => zs.length - (intOf i).toNat)
  case atStart => exact ⟨0, Nat.zero_le _, rfl, r0', Kept.refl _ _ _, rfl⟩
  case round =>
    clear r0'
    obtain ⟨j, hj, rfl, hr, hk, hsz⟩ := hrel
    have HSZ : Hid (wr.heap.size = w1.heap.size) := hsz
    clear hsz
    by_cases hlt : j < zs.length
    · obtain ⟨hc, hf, hl, hh, hgs, -⟩ := hr.at hlt
      generalize (zs.take j ++ List.replicate (zs.length - j) 0).getD j 0 = z at hc
      have r2 := r1.kept hk (by omega)
      have hpos : 0 < zs.length := by omega
      obtain ⟨a', c', e', q1, m1, q3⟩ := r2
      simp only [Value.slice.injEq, true_and] at e'
      obtain ⟨rfl, rfl⟩ := e'
      obtain ⟨g, off, rfl, g1, g2, g3, hcs, -⟩ := q3 (List.length_pos_iff.1 hpos)
      have hx := hcs j hlt
      simp only [Nat.zero_add] at hc hf
      clear q3 hcs r1 hk0 q1 m1
      go_wp2
      have hs := hr.set j hpos (zs.getD j 0)
      rw [fill_step _ _ hlt] at hs
      have hk' := hk.setCell (p := ⟨w.heap.size, 0 + j, none⟩) hl hh (.int .i64 (zs.getD j 0))
      simp only [Nat.zero_add] at hs hk'
      go_roundw
      case rel => exact ⟨j + 1, by omega, by go_num, by simpa [List.getD, hlt] using hs, by simpa [List.getD, hlt] using hk', by simpa [World.setCell] using HSZ.out⟩
      case measure => simp [intOf]; omega
    · have e : j = zs.length := by omega
      subst e
      simp only [List.take_length, Nat.sub_self, List.replicate_zero, List.append_nil] at hr
      clear r1
      go_wp2
      go_ret
      refine ⟨.slice (some ⟨w.heap.size, 0, none⟩) zs.length zs.length, rfl, by rw [HSZ.out]; exact hr, ?_⟩
      exact ⟨hk.os.trans hk0.os, hk.tape.trans hk0.tape, hk.output.trans hk0.output, Nat.le_trans hk0.size hk.size, fun i hi _ => (hk.block i (Nat.lt_of_lt_of_le hi hk0.size) (.inl hi)).trans (hk0.block i hi (by omega))⟩

set_option maxHeartbeats 1000000 in
theorem eqNat_same {b1 b2 : Bool} {l1 h1 l2 h2 : Nat} {v1 v2 : Value} {zs : List Int} (w : World) (r1 : Row .i64 b1 l1 h1 w v1 zs) (r2 : Row .i64 b2 l2 h2 w v2 zs) :
    Calls Tryz.prog 130 #[.agg #[v1], .agg #[v2]] w fun e w' => e = .returned (.bool true) ∧ Kept 0 0 w w' := by
  have kk := ((Kept.refl 0 0 w).alloc (.cells #[v1] 48)).alloc (.cells #[v2] 48)
  have s1 := r1.kept kk (by omega)
  have s2 := r2.kept kk (by omega)
  have KK := hide kk
  obtain ⟨a1, c1, rfl, -⟩ := r1
  obtain ⟨a2, c2, rfl, -⟩ := r2
  clear kk
  go_enter Tryz.func130, Tryz.ntmps130
  go_wp2_with fail
  refine (eqIntS_same _ s1 s2).mono ?_
  rintro e w6 ⟨rfl, n6, rfl⟩
  clear s1 s2
  go_wp2
  go_ret
  exact ⟨rfl, (unhide KK).drewN n6⟩

set_option maxHeartbeats 1000000 in
theorem toNat_any {bw : Bool} {lo hi : Nat} {v : Value} {zs : List Int} (w : World) (hn : zs.length ≤ 1099511627776) (r : Row .i64 bw lo hi w v zs) :
    Calls Tryz.prog 126 #[.agg #[v]] w fun e w' => ∃ v', e = .returned (.agg #[v']) ∧ Row .i64 true w.heap.size w'.heap.size w' v' zs ∧ Kept 0 0 w w' := by
  have s1 := r.kept ((((Kept.refl 0 0 w).alloc (.cells #[v] 41)).alloc (.cells #[.slice none 0 0] 48)).alloc (.cells #[.slice none 0 0] 48)) (by omega)
  obtain ⟨a1, c1, rfl, -⟩ := r
  go_enter Tryz.func126, Tryz.ntmps126
  go_wp2_with fail
  generalize hW : ((w.alloc (.cells #[.slice a1 zs.length c1] 41)).alloc (.cells #[.slice none 0 0] 48)).alloc (.cells #[.slice none 0 0] 48) = W at *
  have c1' : W.cell? ⟨w.heap.size + 1, 0, none⟩ = some (.slice none 0 0) := by rw [← hW]; exact old_cell _ (new_cell_at _ _ _ _ (by simp))
  have c2' : W.cell? ⟨w.heap.size + 1 + 1, 0, none⟩ = some (.slice none 0 0) := by rw [← hW]; exact new_cell_at _ _ _ _ (by simp)
  have f1' : W.frozen? ⟨w.heap.size + 1, 0, none⟩ = false := by rw [← hW]; exact loose_old (by simp) (new_loose' _ _ _ _ (by simp))
  have f2' : W.frozen? ⟨w.heap.size + 1 + 1, 0, none⟩ = false := by rw [← hW]; exact new_loose' _ _ _ _ (by simp)
  have hs : W.heap.size = w.heap.size + 3 := by rw [← hW]; simp
  have hk : Kept 0 0 w W := by rw [← hW]; exact (((Kept.refl 0 0 w).alloc _).alloc _).alloc _
  clear hW
  refine (toIntS_any _ hn s1).mono ?_
  rintro e w6 ⟨v6, rfl, r6, k6⟩
  have c3 := k6.cell0 c1'
  have c4 := k6.cell0 c2'
  have f3 := k6.loose0 (by simp; omega) f1'
  have f4 := k6.loose0 (by simp; omega) f2'
  have R : Hid (Row .i64 true w.heap.size ((w6.setCell ⟨w.heap.size + 1 + 1, 0, none⟩ v6).setCell ⟨w.heap.size + 1, 0, none⟩ v6).heap.size ((w6.setCell ⟨w.heap.size + 1 + 1, 0, none⟩ v6).setCell ⟨w.heap.size + 1, 0, none⟩ v6) v6 zs) := by
    have h1 := r6.set_other (p := ⟨w.heap.size + 1 + 1, 0, none⟩) (by simp; omega) v6
    have h2 := h1.set_other (p := ⟨w.heap.size + 1, 0, none⟩) (by simp; omega) v6
    exact h2.wider (by omega) (by simp [World.setCell])
  have K : Hid (Kept 0 0 w ((w6.setCell ⟨w.heap.size + 1 + 1, 0, none⟩ v6).setCell ⟨w.heap.size + 1, 0, none⟩ v6)) := ((hk.trans k6).setNew (p := ⟨w.heap.size + 1 + 1, 0, none⟩) (by simp; omega) _).setNew (p := ⟨w.heap.size + 1, 0, none⟩) (by simp) _
  obtain ⟨a6, c6, rfl, -⟩ := r6
  clear s1 c1' c2' f1' f2' hs hk k6
  go_wp2
  exact bodyPost_ret (v := .agg #[.slice a6 zs.length c6]) (by simp [results, Tryz.results126, go_sem, c3]) rfl ⟨_, rfl, unhide R, unhide K⟩

end Go.Proofs.YthahoabkehcgbaaGreatDoor

namespace Go.Proofs.YthahoabkehcgbaaGreatDoor
open Go.RowKit
set_option linter.unusedVariables false
set_option maxRecDepth 8000

theorem Lim.drop {zs : List Int} (h : Lim zs) (k : Nat) : Lim (zs.drop k) := fun z hz => h z (List.mem_of_mem_drop hz)
theorem Lim.take {zs : List Int} (h : Lim zs) (k : Nat) : Lim (zs.take k) := fun z hz => h z (List.mem_of_mem_take hz)
/-- Greater, less, equal. -/
def cmpI (a b : Int) : Int := if a < b then -1 else if b < a then 1 else 0
theorem val_lt_of_drop {xs ys : List Int} (hx : Lim xs) (hy : Lim ys) (hl : xs.length = ys.length) (k : Nat) (hk : k ≤ xs.length) (h : val (xs.drop k) < val (ys.drop k)) : val xs < val ys := by
  rw [val_take_drop xs k hk, val_take_drop ys k (by omega)]
  have h1 := val_lt (hx.take k)
  have h2 := val_nonneg (hy.take k)
  rw [List.length_take, Nat.min_eq_left hk] at h1
  have h3 : (65536 : Int) ^ k * (val (xs.drop k) + 1) ≤ 65536 ^ k * val (ys.drop k) := Int.mul_le_mul_of_nonneg_left (by omega) (Int.le_of_lt (Int.pow_pos (by decide)))
  rw [Int.mul_add] at h3
  omega
theorem val_lt_of_len {xs ys : List Int} (hx : Lim xs) (hy : Nrm ys) (hl : xs.length < ys.length) : val xs < val ys := by
  have h1 := val_lt hx
  have h2 := nrm_pow hy (by intro e; subst e; simp at hl)
  have h3 := pow_mono (a := xs.length) (b := ys.length - 1) (by omega)
  omega

/-- How many bits a number has. -/
def bitsN (n : Nat) : Nat := if n = 0 then 0 else n.log2 + 1
theorem bitsN_half (n : Nat) (h : 0 < n) : bitsN n = bitsN (n / 2) + 1 := by
  unfold bitsN
  rw [if_neg (by omega), Nat.log2_def]
  by_cases h2 : 2 ≤ n
  · rw [if_pos h2, if_neg (by omega)]
  · rw [if_neg h2, if_pos (by omega)]
theorem bitsN_le (n k : Nat) : bitsN n ≤ k ↔ n < 2 ^ k := by
  unfold bitsN
  by_cases h : n = 0
  · subst h; simp [Nat.pow_pos]
  · rw [if_neg h, ← Nat.log2_lt h]; omega
theorem pow_limb (k : Nat) : (65536 : Int) ^ k = ((2 ^ (16 * k) : Nat) : Int) := by
  rw [Nat.pow_mul]; simp
end Go.Proofs.YthahoabkehcgbaaGreatDoor

namespace Go.Proofs.YthahoabkehcgbaaGreatDoor
open Go.RowKit
set_option linter.unusedVariables false
set_option maxRecDepth 8000

theorem limbs_cons (n : Nat) (h : n ≠ 0) : limbs n = ((n % 65536 : Nat) : Int) :: limbs (n / 65536) := by
  obtain ⟨f, rfl⟩ : ∃ f, n = f + 1 := ⟨n - 1, by omega⟩
  show limbsF (f + 1) (f + 1) = _
  unfold limbsF
  rw [if_neg h]
  congr 1
  have hk : (f + 1) / 65536 ≤ f := by omega
  exact nrm_unique ⟨limbsF_lim _ _, limbsF_last _ _ hk⟩ (limbs_nrm _) (by rw [limbsF_val _ _ hk, limbs_val])

theorem Tryz.info3' : (Tryz.prog.info? 3).map (fun i => (i.zero, i.size, i.bytes)) = some (some (.int .i64 0), 1, 8) := by kernel_rfl

/-- The value v is a list of the call's own; the result's cell lies at b, still nought; nothing older has changed. -/
def Grow (b : Nat) (w wr : World) (v : Value) (zs : List Int) : Prop :=
  wr.ownsRow (b + 1) 3 1 v zs.length (zs.map (Value.int .i64)) ∧ w.heap.size ≤ b ∧ b < wr.heap.size ∧ Kept 0 0 w wr ∧ wr.cell? ⟨b, 0, none⟩ = some (.slice none 0 0) ∧ wr.frozen? ⟨b, 0, none⟩ = false

theorem Grow.alloc {b : Nat} {w wr : World} {v : Value} {zs : List Int} (h : Grow b w wr v zs) (o : Obj) : Grow b w (wr.alloc o) v zs := by
  obtain ⟨h1, h2, h3, h4, h5, h6⟩ := h
  refine ⟨own_kept h1 ((Kept.refl 0 0 wr).alloc o), h2, by simp; omega, h4.alloc o, old_cell o h5, ?_⟩
  have : (wr.alloc o).heap[b]? = wr.heap[b]? := Below.heap_alloc _ _ _ h3
  simpa [World.frozen?, this] using h6
theorem Grow.drewN {b : Nat} {w wr : World} {v : Value} {zs : List Int} (h : Grow b w wr v zs) (n : Nat) : Grow b w (wr.drewN n) v zs := by
  obtain ⟨h1, h2, h3, h4, h5, h6⟩ := h
  exact ⟨own_kept h1 ((Kept.refl 0 0 wr).drewN n), h2, h3, h4.drewN n, h5, h6⟩
theorem Grow.kept {b : Nat} {w wr wx : World} {v : Value} {zs : List Int} (h : Grow b w wr v zs) (k : Kept 0 0 wr wx) : Grow b w wx v zs := by
  obtain ⟨h1, h2, h3, h4, h5, h6⟩ := h
  have hb := k.block b h3 (by omega)
  refine ⟨own_kept h1 k, h2, Nat.lt_of_lt_of_le h3 k.size, h4.trans k, ?_, ?_⟩
  · rw [← h5]; exact World.cell?_of_block hb
  · simpa [World.frozen?, hb] using h6
theorem Grow.form {b : Nat} {w wr : World} {v : Value} {zs : List Int} (h : Grow b w wr v zs) : ∃ a c, v = .slice a zs.length c := own_slice h.1
theorem Grow.row {b : Nat} {w wr : World} {v : Value} {zs : List Int} (h : Grow b w wr v zs) : Row .i64 true (b + 1) wr.heap.size wr v zs := Row.own h.1
theorem Grow.start {b : Nat} {w wr : World} (hb : w.heap.size ≤ b) (h : b < wr.heap.size) (k : Kept 0 0 w wr) (hc : wr.cell? ⟨b, 0, none⟩ = some (.slice none 0 0)) (hf : wr.frozen? ⟨b, 0, none⟩ = false) : Grow b w wr (.slice none 0 0) [] :=
  ⟨⟨rfl, .inl ⟨rfl, rfl⟩⟩, hb, h, k, hc, hf⟩

/-- One more limb. -/
theorem wpList_grow {ops : Array Oper} {rest : List Oper} {o : Oper} {a : Act} {Q : Exit → Act → World → Prop} {b : Nat} {w wr : World} {v : Value} {zs : List Int} (hgd : o.guard = none) (s x : Operand)
    (ho : o.op = .call { callee := .builtin .append, args := #[s, x], argTypes := #[39, 39] }) (hs : a.eval s = v) (ad : Addr) (hx : a.eval x = .slice (some ad) 1 1) (z : Int)
    (hc : wr.cell? ad = some (.int .i64 z)) (hg : Grow b w wr v zs) (hn : zs.length ≤ 1000000)
    (h : ∀ v' w', Grow b w w' v' (zs ++ [z]) → wpList Tryz.prog ops Q rest (a.put o.dst v') w') : wpList Tryz.prog ops Q (o :: rest) a wr := by
  obtain ⟨i0, hi0, hz0, hz1, hz2⟩ := info_parts Tryz.info3'
  obtain ⟨h1, h2, h3, h4, h5, h6⟩ := hg
  refine wpList_append_own _ hgd _ _ 39 ho (b + 1) 3 i0 (.int .i64 0) 1 8 Tryz.underlying39 hi0 hz0 hz1 hz2 rfl (by decide) _ _ _ hs h1 ad 1 1 [.int .i64 z] hx rfl (lit_cell hc) ?_ ?_ ?_ ?_ ?_
  · intro u hu; simp at hu; subst hu; rfl
  · unfold maxLen; omega
  · omega
  · omega
  · intro v' w' hown hgrow _
    refine h v' w' ⟨by simpa using hown, h2, Nat.lt_of_lt_of_le h3 hgrow.size, h4.growNew hgrow (fun k hk => by have := (h1.lt k hk).1; omega), ?_, ?_⟩
    · exact hgrow.cell h5 (fun e => by have := (h1.lt b e.symm).1; omega)
    · have hb := hgrow.block b h3 (fun e => by have := (h1.lt b e.symm).1; omega)
      simpa [World.frozen?, hb] using h6

theorem new_loose (w : World) (cs : Array Value) (t : TypeId) (n : Nat) (hn : n = w.heap.size) : (w.alloc (.cells cs t)).frozen? ⟨n, 0, none⟩ = false := by
  subst hn
  have hg : (w.alloc (.cells cs t)).heap[w.heap.size]? = some (.cells cs t) := heap_alloc_new w _
  simp only [World.frozen?, hg]
  rfl

theorem Grow.ret {b : Nat} {w wr : World} {v : Value} {zs : List Int} (h : Grow b w wr v zs) :
    Kept 0 0 w (wr.setCell ⟨b, 0, none⟩ v) ∧ Row .i64 true w.heap.size (wr.setCell ⟨b, 0, none⟩ v).heap.size (wr.setCell ⟨b, 0, none⟩ v) v zs := by
  obtain ⟨h1, h2, h3, h4, h5, h6⟩ := h
  exact ⟨h4.setNew (p := ⟨b, 0, none⟩) h2 v, (Row.own (ownsRow_setCell_below h1 (a := ⟨b, 0, none⟩) (Nat.lt_succ_self _) v)).wider (by omega) (Nat.le_refl _)⟩

set_option maxHeartbeats 2000000 in
theorem of_spec (w : World) (n : Int) (hn : n ≤ 9223372036854775807) :
    Calls Tryz.prog 162 #[.int .i64 n] w fun e w' => ∃ v', e = .returned (.agg #[v']) ∧ Row .i64 true w.heap.size w'.heap.size w' v' (limbs n.toNat) ∧ Kept 0 0 w w' := by
  have hlen : (limbs n.toNat).length ≤ 4 := (limbs_length_le _ _).2 (by
    have : (65536 : Int) ^ 4 = 18446744073709551616 := by decide
    omega)
  generalize hL : limbs n.toNat = L at *
  have HL := hide hL
  have k0 := (Kept.refl 0 0 w).alloc (.cells #[.slice none 0 0] 48)
  have hg0 : Grow w.heap.size w (w.alloc (.cells #[.slice none 0 0] 48)) (.slice none 0 0) [] :=
    Grow.start (Nat.le_refl _) (by simp) k0 (new_cell_at _ _ _ _ rfl) (new_loose _ _ _ _ rfl)
  clear hL k0
  go_enter Tryz.func162, Tryz.ntmps162
  go_wp2
  generalize w.alloc (.cells #[.slice none 0 0] 48) = w1 at *
  go_loopw [0, 3] (fun m l wr => ∃ (zs : List Int) (i : Int), m = .int .i64 i ∧ i ≤ 9223372036854775807 ∧ Hid (zs ++ limbs i.toNat = L) ∧ Grow w.heap.size w wr l zs) (fun m _ _ => (intOf m).toNat)
  case atStart => exact ⟨[], n, rfl, hn, by have := unhide HL; show _ = _; simpa using this, hg0⟩
  case round =>
    obtain ⟨zs, i, rfl, hi, hzs, hg⟩ := hrel
    by_cases hp : 0 < i
    · have hc := limbs_cons i.toNat (by omega)
      have hz := unhide hzs
      rw [hc] at hz
      have hl : zs.length ≤ 4 := by
        have := congrArg List.length hz
        simp at this; omega
      have e1 : ((i.toNat % 65536 : Nat) : Int) = i % 65536 := by omega
      have e2 : i.toNat / 65536 = (i / 65536).toNat := by omega
      have e3 : i.tmod 65536 = i % 65536 := by rw [Int.tmod_eq_emod_of_nonneg (by omega)]
      have e4 : i.tdiv 65536 = i / 65536 := by rw [Int.tdiv_eq_ediv_of_nonneg (by omega)]
      rw [e1, e2] at hz
      have HZ := hide hz
      clear hc hz e1 e2
      have hg' := hg.alloc (.cells #[.int .i64 (i % 65536)] 3)
      go_wp2_with (at_builtin; refine wpList_grow rfl _ _ rfl rfl _ rfl (i % 65536) ?c1 hg' ?c2 ?_)
      case c1 => exact new_cell_at _ _ _ _ rfl
      case c2 => omega
      intro v' w' hg2
      clear hg' hg
      go_wp2
      go_roundw
      case rel => exact ⟨zs ++ [i % 65536], i / 65536, by go_num, by omega, by show _ = _; rw [← unhide HZ]; simp, hg2⟩
      case measure => simp [intOf]; omega
    · obtain ⟨a, c, rfl⟩ := hg.form
      have e0 : zs = L := by have := unhide hzs; rw [show i.toNat = 0 from by omega, limbs_zero, List.append_nil] at this; exact this
      obtain ⟨k2, r2⟩ := hg.ret
      obtain ⟨h1, h2, h3, h4, h5, h6⟩ := hg
      rw [e0] at r2
      have K2 := hide k2
      have R2 := hide r2
      clear h1 h4 k2 r2 hzs
      subst e0
      go_wp2
      exact bodyPost_ret (v := .agg #[(.slice a zs.length c)]) (by simp [results, Tryz.results162, go_sem, h5]) rfl ⟨_, rfl, unhide R2, unhide K2⟩

end Go.Proofs.YthahoabkehcgbaaGreatDoor

