/-
  What the walks of this seat share, and nothing of the program: a slice of integers that can be read, or written, in a world; worlds that keep every block but those of one range.
-/
import Derived.WalkKit
import Derived.Deep.Draws
import Derived.Laws.IdiomStrings
namespace Go.Proofs.Ytbmogiegeffecaa
open Go.RowKit

/-- Every block that was there stands, but for those from lo up to hi. -/
structure Kept (lo hi : Nat) (w w' : World) : Prop where
  os : w'.os = w.os
  tape : w'.tape = w.tape
  output : w'.output = w.output
  size : w.heap.size ≤ w'.heap.size
  block : ∀ i, i < w.heap.size → (i < lo ∨ hi ≤ i) → w'.heap[i]? = w.heap[i]?

theorem Kept.refl (lo hi : Nat) (w : World) : Kept lo hi w w := ⟨rfl, rfl, rfl, Nat.le_refl _, fun _ _ _ => rfl⟩
theorem Kept.trans {lo hi : Nat} {a b c : World} (h : Kept lo hi a b) (k : Kept lo hi b c) : Kept lo hi a c :=
  ⟨k.os.trans h.os, k.tape.trans h.tape, k.output.trans h.output, Nat.le_trans h.size k.size, fun i hi' ho => (k.block i (Nat.lt_of_lt_of_le hi' h.size) ho).trans (h.block i hi' ho)⟩
theorem Kept.wider {lo hi lo' hi' : Nat} {a b : World} (h : Kept lo hi a b) (h1 : lo' ≤ lo) (h2 : hi ≤ hi') : Kept lo' hi' a b :=
  ⟨h.os, h.tape, h.output, h.size, fun i hi ho => h.block i hi (by omega)⟩
theorem Kept.any {lo hi B : Nat} {a b : World} (h : Kept B B a b) : Kept lo hi a b :=
  ⟨h.os, h.tape, h.output, h.size, fun i hi _ => h.block i hi (by omega)⟩
theorem Kept.drew {lo hi : Nat} {a w : World} (h : Kept lo hi a w) : Kept lo hi a w.drew := ⟨h.os, h.tape, h.output, h.size, h.block⟩
theorem Kept.drewN {lo hi : Nat} {a w : World} (h : Kept lo hi a w) (n : Nat) : Kept lo hi a (w.drewN n) := ⟨h.os, h.tape, h.output, h.size, h.block⟩
theorem Kept.alloc {lo hi : Nat} {a w : World} (h : Kept lo hi a w) (o : Obj) : Kept lo hi a (w.alloc o) :=
  h.trans ⟨rfl, rfl, rfl, by simp, fun k hk _ => Below.heap_alloc _ _ _ hk⟩
theorem Kept.setCell {lo hi : Nat} {a w : World} (h : Kept lo hi a w) {p : Addr} (hp : lo ≤ p.block) (hq : p.block < hi) (u : Value) : Kept lo hi a (w.setCell p u) :=
  h.trans ⟨rfl, rfl, rfl, by simp [World.setCell], fun k _ ho => Below.heap_setCell _ _ _ _ (by omega)⟩
theorem Kept.below {lo hi B : Nat} {w w' : World} (h : Kept lo hi w w') (hB : B ≤ lo) (hs : B ≤ w.heap.size) : Below B w w' :=
  ⟨h.os, h.tape, h.output, h.size, fun k hk => h.block k (by omega) (.inl (by omega))⟩
theorem Kept.ofBelow {w w' : World} {B : Nat} (h : Below B w w') (hi : Nat) (hhi : w'.heap.size ≤ hi) : Kept B hi w w' :=
  ⟨h.os, h.tape, h.output, h.size, fun i hi' ho => h.block i (by have := h.size; omega)⟩
theorem Kept.pure {w w' : World} {B : Nat} (h : Below w.heap.size w w') : Kept B B w w' :=
  ⟨h.os, h.tape, h.output, h.size, fun i hi' _ => h.block i hi'⟩
theorem Kept.toBelow {w w' : World} {B : Nat} (h : Kept B B w w') : Below w.heap.size w w' :=
  ⟨h.os, h.tape, h.output, h.size, fun i hi' => h.block i hi' (by omega)⟩

theorem below_step {B lo hi : Nat} {a b c : World} (h : Below B a b) (k : Kept lo hi b c) (hB : B ≤ a.heap.size) (hd : B ≤ lo ∨ hi ≤ lo) : Below B a c :=
  h.trans ⟨k.os, k.tape, k.output, k.size, fun i hi' => k.block i (by have := h.size; omega) (by omega)⟩

/-- The slice value v has the numbers zs as its elements; its cells lie in a block from lo up to hi; where 'wr' says so they may be written. -/
def Row (k : IntKind) (wr : Bool) (lo hi : Nat) (w : World) (v : Value) (zs : List Int) : Prop :=
  ∃ a c, v = .slice a zs.length c ∧ zs.length ≤ c ∧ c ≤ maxLen ∧
    (zs ≠ [] → ∃ g off, a = some ⟨g, off, none⟩ ∧ lo ≤ g ∧ g < hi ∧ g < w.heap.size ∧
      (∀ i, i < zs.length → w.cell? ⟨g, off + i, none⟩ = some (.int k (zs.getD i 0))) ∧
      (wr = true → ∀ i, i < zs.length → w.frozen? ⟨g, off + i, none⟩ = false))

theorem Row.kept {k : IntKind} {wr : Bool} {lo hi l h : Nat} {w w' : World} {v : Value} {zs : List Int} (r : Row k wr lo hi w v zs) (q : Kept l h w w') (hd : hi ≤ l ∨ h ≤ lo ∨ h ≤ l) : Row k wr lo hi w' v zs := by
  obtain ⟨a, c, rfl, h1, h2, h3⟩ := r
  refine ⟨a, c, rfl, h1, h2, fun hz => ?_⟩
  obtain ⟨g, off, rfl, hl, hh, hs, hc, hf⟩ := h3 hz
  have hb := q.block g hs (by omega)
  exact ⟨g, off, rfl, hl, hh, Nat.lt_of_lt_of_le hs q.size, fun i hi' => (World.cell?_of_block (w := w) (a := ⟨g, off + i, none⟩) hb).trans (hc i hi'),
    fun e i hi' => (World.frozen?_of_block (w := w) (a := ⟨g, off + i, none⟩) hb).trans (hf e i hi')⟩
theorem Row.wider {k : IntKind} {wr : Bool} {lo hi lo' hi' : Nat} {w : World} {v : Value} {zs : List Int} (r : Row k wr lo hi w v zs) (h1 : lo' ≤ lo) (h2 : hi ≤ hi') : Row k wr lo' hi' w v zs := by
  obtain ⟨a, c, rfl, q1, q2, q3⟩ := r
  refine ⟨a, c, rfl, q1, q2, fun hz => ?_⟩
  obtain ⟨g, off, rfl, hl, hh, rest⟩ := q3 hz
  exact ⟨g, off, rfl, by omega, by omega, rest⟩
theorem Row.tight {k : IntKind} {wr : Bool} {lo hi : Nat} {w : World} {v : Value} {zs : List Int} (r : Row k wr lo hi w v zs) : Row k wr lo w.heap.size w v zs := by
  obtain ⟨a, c, rfl, q1, q2, q3⟩ := r
  refine ⟨a, c, rfl, q1, q2, fun hz => ?_⟩
  obtain ⟨g, off, rfl, hl, hh, hs, rest⟩ := q3 hz
  exact ⟨g, off, rfl, hl, hs, hs, rest⟩
theorem Row.len {k : IntKind} {wr : Bool} {lo hi : Nat} {w : World} {v : Value} {zs : List Int} (r : Row k wr lo hi w v zs) : zs.length ≤ maxLen := by
  obtain ⟨a, c, rfl, q1, q2, q3⟩ := r; omega
theorem Row.nil (k : IntKind) (wr : Bool) (lo hi : Nat) (w : World) : Row k wr lo hi w (.slice none 0 0) [] :=
  ⟨none, 0, rfl, Nat.le_refl _, Nat.zero_le _, fun h => absurd rfl h⟩
theorem Row.drewN {k : IntKind} {wr : Bool} {lo hi : Nat} {w : World} {v : Value} {zs : List Int} (r : Row k wr lo hi w v zs) (n : Nat) : Row k wr lo hi (w.drewN n) v zs :=
  r.kept ((Kept.refl 0 0 w).drewN n) (by omega)
theorem Row.read {k : IntKind} {wr : Bool} {lo hi : Nat} {w : World} {v : Value} {zs : List Int} (r : Row k wr lo hi w v zs) : Row k false lo hi w v zs := by
  obtain ⟨a, c, rfl, q1, q2, q3⟩ := r
  refine ⟨a, c, rfl, q1, q2, fun hz => ?_⟩
  obtain ⟨g, off, rfl, hl, hh, hs, hc, _⟩ := q3 hz
  exact ⟨g, off, rfl, hl, hh, hs, hc, fun e => by cases e⟩

theorem Row.at {k : IntKind} {lo hi : Nat} {w : World} {g off n c : Nat} {zs : List Int} (r : Row k true lo hi w (.slice (some ⟨g, off, none⟩) n c) zs) {j : Nat} (hj : j < n) :
    w.cell? ⟨g, off + j, none⟩ = some (.int k (zs.getD j 0)) ∧ w.frozen? ⟨g, off + j, none⟩ = false ∧ lo ≤ g ∧ g < hi ∧ g < w.heap.size ∧ n = zs.length := by
  obtain ⟨a, c', e, q1, q2, q3⟩ := r
  simp only [Value.slice.injEq] at e
  obtain ⟨rfl, rfl, rfl⟩ := e
  have hz : zs ≠ [] := by intro e; simp [e] at hj
  obtain ⟨g', off', e, hl, hh, hs, hc, hf⟩ := q3 hz
  simp only [Option.some.injEq, Addr.mk.injEq, and_true] at e
  obtain ⟨rfl, rfl⟩ := e
  exact ⟨hc j hj, hf rfl j hj, hl, hh, hs, rfl⟩
theorem getD_set (zs : List Int) (i j : Nat) (z : Int) (hi : i < zs.length) : (zs.set j z).getD i 0 = if i = j then z else zs.getD i 0 := by
  simp only [List.getD, List.getElem?_set]
  by_cases h : j = i
  · subst h; simp [hi]
  · simp [h, Ne.symm h]
theorem cell_set (w : World) (g o p : Nat) (u v : Value) (h : w.cell? ⟨g, o, none⟩ = some v) : (w.setCell ⟨g, p, none⟩ u).cell? ⟨g, o, none⟩ = some (if o = p then u else v) := by
  unfold World.cell? World.setCell at *
  simp only [Array.getElem?_modify] at *
  cases hb : w.heap[g]? with
  | none => simp [hb] at h
  | some b =>
    cases b with
    | cells c t fz =>
      simp [hb] at h ⊢
      by_cases e : o = p
      · subst e
        have hlt : o < c.size := (Array.getElem?_eq_some_iff.1 h).1
        simp [hlt]
      · simp [Ne.symm e, e, h]
    | _ => simp [hb] at h
theorem frozen_set (w : World) (g p : Nat) (q : Addr) (u : Value) : (w.setCell ⟨g, p, none⟩ u).frozen? q = w.frozen? q := by
  unfold World.frozen? World.setCell
  simp only [Array.getElem?_modify]
  by_cases e : g = q.block
  · subst e
    cases hb : w.heap[q.block]? with
    | none => simp
    | some b => cases b <;> simp
  · simp [e]
theorem Row.set {k : IntKind} {lo hi : Nat} {w : World} {g off n c : Nat} {zs : List Int} (r : Row k true lo hi w (.slice (some ⟨g, off, none⟩) n c) zs) (j : Nat) (hn : 0 < n) (z : Int) :
    Row k true lo hi (w.setCell ⟨g, off + j, none⟩ (.int k z)) (.slice (some ⟨g, off, none⟩) n c) (zs.set j z) := by
  have hat := fun i (hi : i < n) => r.at hi
  have h0 := hat 0 hn
  obtain ⟨a, c', e, q1, q2, q3⟩ := r
  simp only [Value.slice.injEq] at e
  obtain ⟨rfl, rfl, rfl⟩ := e
  refine ⟨_, _, by rw [List.length_set], by rw [List.length_set]; exact q1, q2, fun _ => ⟨g, off, rfl, h0.2.2.1, h0.2.2.2.1, by simpa [World.setCell] using h0.2.2.2.2.1, fun i hi => ?_, fun _ i hi => ?_⟩⟩
  · rw [List.length_set] at hi
    rw [cell_set _ _ _ _ _ _ (hat i hi).1, getD_set zs i j z hi]
    by_cases e : i = j
    · subst e; simp
    · rw [if_neg (by omega), if_neg e]
  · rw [List.length_set] at hi
    rw [frozen_set]
    exact (hat i hi).2.1

/-- What a mark from s on leaves in n places. -/
def marks (k : IntKind) (s : Int) (n : Nat) : List Int := (List.range n).map fun i : Nat => k.wrap (s + (i : Int))
theorem marks_length (k : IntKind) (s : Int) (n : Nat) : (marks k s n).length = n := by simp [marks]
theorem marks_succ (k : IntKind) (s : Int) (n : Nat) : marks k s (n + 1) = marks k s n ++ [k.wrap (s + n)] := by simp [marks, List.range_succ]
theorem marks_at (k : IntKind) (s : Int) (n i : Nat) (h : i < n) : (marks k s n).getD i 0 = k.wrap (s + i) := by simp [marks, List.getD, h]
theorem marks_step (k : IntKind) (s : Int) (zs : List Int) (j : Nat) (h : j < zs.length) : (marks k s j ++ zs.drop j).set j (k.wrap (s + j)) = marks k s (j + 1) ++ zs.drop (j + 1) := by
  rw [marks_succ, List.set_append_right _ _ (by simp [marks_length])]
  simp only [marks_length, Nat.sub_self]
  rw [List.drop_eq_getElem_cons h, List.set_cons_zero, List.append_assoc]
  rfl
theorem marks_all (k : IntKind) (s : Int) (zs : List Int) : marks k s zs.length ++ zs.drop zs.length = marks k s zs.length := by simp

/-- What the laws on append and make own is such a row. -/
theorem Row.own {k : IntKind} {base : Nat} {e : TypeId} {w : World} {v : Value} {n : Nat} {zs : List Int} (h : w.ownsRow base e 1 v n (zs.map (Value.int k))) : Row k true base w.heap.size w v zs := by
  obtain ⟨hl, h2⟩ := h
  have hn : n = zs.length := by simpa using hl.symm
  subst hn
  rcases h2 with ⟨rfl, h0⟩ | ⟨g, cap, cur, rfl, hb, hg, hle, hm, hs, htake⟩
  · have : zs = [] := List.length_eq_zero_iff.1 h0
    subst this
    exact Row.nil _ _ _ _ _
  · refine ⟨_, _, rfl, hle, hm, fun _ => ⟨g, 0, rfl, hb, (Array.getElem?_eq_some_iff.1 hg).1, (Array.getElem?_eq_some_iff.1 hg).1, fun i hi => ?_, fun _ i hi => ?_⟩⟩
    · have hx : (zs.map (Value.int k))[i]? = some (.int k (zs.getD i 0)) := by simp [List.getD, hi]
      rw [← htake, List.getElem?_take] at hx
      rw [Nat.mul_one, if_pos hi] at hx
      simpa [World.cell?, hg] using hx
    · simp [World.frozen?, hg]
theorem made_zero (k : IntKind) (n : Nat) : (madeCells (Value.int k 0).cells (n * 1)).toList = (List.replicate n (0 : Int)).map (Value.int k) := by
  apply List.ext_getElem
  · simp [madeCells]
  · intro i h1 h2
    simp [madeCells, Value.cells, Nat.mod_one]
theorem fill_step (zs : List Int) (j : Nat) (h : j < zs.length) : (zs.take j ++ List.replicate (zs.length - j) 0).set j (zs.getD j 0) = zs.take (j + 1) ++ List.replicate (zs.length - (j + 1)) 0 := by
  obtain ⟨m, hm⟩ : ∃ m, zs.length - j = m + 1 := ⟨zs.length - j - 1, by omega⟩
  rw [List.set_append_right _ _ (by simp; omega), hm, show zs.length - (j + 1) = m from by omega, List.replicate_succ, List.length_take, Nat.min_eq_left (by omega), Nat.sub_self, List.set_cons_zero, List.take_succ_eq_append_getElem h, List.append_assoc]
  simp [List.getD, h]

/-- A row written out in a new block. -/
theorem Row.lit (k : IntKind) (w : World) (t : TypeId) (zs : List Int) (hn : zs.length ≤ maxLen) :
    Row k true w.heap.size (w.alloc (.cells (zs.map (Value.int k)).toArray t)).heap.size (w.alloc (.cells (zs.map (Value.int k)).toArray t)) (.slice (some ⟨w.heap.size, 0, none⟩) zs.length zs.length) zs := by
  have hg : (w.alloc (.cells (zs.map (Value.int k)).toArray t)).heap[w.heap.size]? = some (.cells (zs.map (Value.int k)).toArray t) := heap_alloc_new w _
  refine ⟨_, _, rfl, Nat.le_refl _, hn, fun _ => ⟨w.heap.size, 0, rfl, Nat.le_refl _, by simp, by simp, fun i hi => ?_, fun _ i hi => ?_⟩⟩
  · simp only [World.cell?, hg]
    simp [List.getD, hi]
  · simp only [World.frozen?, hg]
    simp

/-- A string's bytes as numbers. -/
def bytesOf (s : ByteArray) : List Int := s.data.toList.map fun b => (b.toNat : Int)
theorem bytesOf_length (s : ByteArray) : (bytesOf s).length = s.size := by simp [bytesOf]
/-- The row that a conversion of a string makes. -/
theorem Row.conv (w : World) (t : TypeId) (s : ByteArray) (cap : Nat) (h1 : s.size ≤ cap) (h2 : cap ≤ maxLen) :
    Row .u8 true w.heap.size (w.alloc (.cells (bytesRow s cap) t ((bytesRow s cap).size, (bytesRow s cap).size + 1))).drew.heap.size (w.alloc (.cells (bytesRow s cap) t ((bytesRow s cap).size, (bytesRow s cap).size + 1))).drew
      (.slice (some ⟨w.heap.size, 0, none⟩) s.size cap) (bytesOf s) := by
  have hg : (w.alloc (.cells (bytesRow s cap) t ((bytesRow s cap).size, (bytesRow s cap).size + 1))).drew.heap[w.heap.size]? = some (.cells (bytesRow s cap) t ((bytesRow s cap).size, (bytesRow s cap).size + 1)) := heap_alloc_new w _
  have hl := bytesOf_length s
  have hsz : (w.alloc (.cells (bytesRow s cap) t ((bytesRow s cap).size, (bytesRow s cap).size + 1))).drew.heap.size = w.heap.size + 1 := by show (w.heap.push _).size = _; simp
  refine ⟨_, _, by rw [hl], by rw [hl]; exact h1, h2, fun _ => ⟨w.heap.size, 0, rfl, Nat.le_refl _, by rw [hsz]; omega, by rw [hsz]; omega, fun i hi => ?_, fun _ i hi => ?_⟩⟩
  · rw [hl] at hi
    have hi' : i < s.data.size := hi
    simp only [World.cell?, hg]
    simp only [Nat.zero_add, Option.isSome_none, Bool.false_eq_true, if_false]
    rw [bytesRow_at s cap i hi']
    simp only [bytesOf, List.getD, List.getElem?_map, Array.getElem?_toList]
    rw [Array.getElem?_eq_getElem hi']
    rfl
  · rw [hl] at hi
    simp only [World.frozen?, hg]
    simp [bytesRow]
    omega

/-- A row written out in a new block is owned. -/
theorem own_lit (k : IntKind) (w : World) (t : TypeId) (base : Nat) (hb : base ≤ w.heap.size) (zs : List Int) (hn : zs.length ≤ maxLen) :
    (w.alloc (.cells (zs.map (Value.int k)).toArray t)).ownsRow base t 1 (.slice (some ⟨w.heap.size, 0, none⟩) zs.length zs.length) zs.length (zs.map (Value.int k)) :=
  ⟨by simp, .inr ⟨w.heap.size, zs.length, (zs.map (Value.int k)).toArray, rfl, hb, heap_alloc_new w _, Nat.le_refl _, hn, by simp, by rw [Nat.mul_one]; exact List.take_of_length_le (by simp)⟩⟩
/-- What an append reads of a row. -/
theorem Row.news {k : IntKind} {bw : Bool} {lo hi : Nat} {w : World} {v : Value} {zs : List Int} (r : Row k bw lo hi w v zs) (hz : zs ≠ []) :
    ∃ g off c, v = .slice (some ⟨g, off, none⟩) zs.length c ∧ lo ≤ g ∧ g < hi ∧ ∀ j u, (zs.map (Value.int k))[j]? = some u → w.cell? ((⟨g, off, none⟩ : Addr).add j) = some u := by
  obtain ⟨a, c, rfl, q1, m1, q3⟩ := r
  obtain ⟨g, off, rfl, h1, h2, _, hc, _⟩ := q3 hz
  refine ⟨g, off, c, rfl, h1, h2, fun j u hj => ?_⟩
  have hjl : j < zs.length := by
    rcases Nat.lt_or_ge j zs.length with h | h
    · exact h
    · simp [List.getElem?_eq_none h] at hj
  rw [Addr.add_lit, hc j hjl]
  simp [hjl] at hj
  rw [← hj]
  simp [List.getD, hjl]
theorem ints_one (k : IntKind) (zs : List Int) : ∀ u ∈ zs.map (Value.int k), u.oneCell' = true := by
  intro u hu; simp at hu; obtain ⟨z, _, rfl⟩ := hu; rfl
theorem Kept.toGrown {B : Nat} {w w' : World} (h : Kept B B w w') : w.grownBy w' none := ⟨h.os, h.tape, h.output, h.size, fun k hk _ => h.block k hk (by omega)⟩
theorem own_kept {B base : Nat} {e : TypeId} {w w' : World} {v : Value} {n : Nat} {xs : List Value} (h : w.ownsRow base e 1 v n xs) (q : Kept B B w w') : w'.ownsRow base e 1 v n xs :=
  h.kept q.toGrown (by cases v.ownBlock <;> simp)
theorem Kept.grown {w w' : World} {row : Option Nat} {lo hi : Nat} (hg : w.grownBy w' row) (hr : ∀ k, row = some k → lo ≤ k ∧ k < hi) : Kept lo hi w w' :=
  ⟨hg.os, hg.tape, hg.output, hg.size, fun i hi' ho => hg.block i hi' (fun e => by have := hr i e.symm; omega)⟩

theorem row_cell {bw : Bool} {lo hi : Nat} {w : World} {a : Option Addr} {n c : Nat} {zs : List Int} {k : IntKind} (r : Row k bw lo hi w (.slice a n c) zs) :
    n = zs.length ∧ n ≤ c ∧ c ≤ maxLen ∧ ∀ j, j < zs.length → ∃ g off, a = some ⟨g, off, none⟩ ∧ w.cell? ⟨g, off + j, none⟩ = some (.int k (zs.getD j 0)) := by
  obtain ⟨a', c', e, q1, q2, q3⟩ := r
  simp only [Value.slice.injEq] at e
  obtain ⟨rfl, rfl, rfl⟩ := e
  refine ⟨rfl, q1, q2, fun j hj => ?_⟩
  obtain ⟨g, off, e, _, _, _, hc, _⟩ := q3 (by intro e; simp [e] at hj)
  exact ⟨g, off, e, hc j hj⟩

theorem size_set (w : World) (p : Addr) (u : Value) : (w.setCell p u).heap.size = w.heap.size := by simp [World.setCell]
theorem cell_far (w : World) (g : Nat) (p : Nat) (q : Addr) (u : Value) (h : q.block ≠ g) : (w.setCell ⟨g, p, none⟩ u).cell? q = w.cell? q :=
  World.cell?_of_block (Below.heap_setCell _ _ _ _ h)
theorem cell_off (w : World) (g o p : Nat) (u v : Value) (h : w.cell? ⟨g, o, none⟩ = some v) (hne : o ≠ p) : (w.setCell ⟨g, p, none⟩ u).cell? ⟨g, o, none⟩ = some v := by
  rw [cell_set _ _ _ _ _ _ h, if_neg hne]
theorem cell_on (w : World) (g o : Nat) (u v : Value) (h : w.cell? ⟨g, o, none⟩ = some v) : (w.setCell ⟨g, o, none⟩ u).cell? ⟨g, o, none⟩ = some u := by
  rw [cell_set _ _ _ _ _ _ h, if_pos rfl]

theorem row_at {k : IntKind} {bw : Bool} {lo hi : Nat} {w : World} {g off n c : Nat} {zs : List Int} (r : Row k bw lo hi w (.slice (some ⟨g, off, none⟩) n c) zs) (j : Nat) (hj : j < zs.length) : w.cell? ⟨g, off + j, none⟩ = some (.int k (zs.getD j 0)) := by
  obtain ⟨g', o', e, h⟩ := (row_cell r).2.2.2 j hj
  cases e
  exact h

theorem hide {p : Prop} (h : p) : Hid p := h
theorem unhide {p : Prop} (h : Hid p) : p := h
theorem ret_int {k : IntKind} {a b : Int} (h : a = b) : Ending.returned (.int k a) = .returned (.int k b) := by rw [h]
end Go.Proofs.Ytbmogiegeffecaa
