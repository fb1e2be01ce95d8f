/-
  Contracts that the proofs of this seat share: Wrk, Wrk2, Wrk3.
-/
import Derived.Test.YtpognolidbgkkaaDoorBI
import Derived.ArgAppend
import Derived.Test.YtpognolidbgkkaaDoorBF
namespace Go.Proofs.YtpognolidbgkkaaDoor
open Go.RowKit
set_option linter.unusedVariables false
set_option maxRecDepth 8000
set_option linter.unusedSimpArgs false

/-- The slice value v, of the call's own, has the limbs zs; it may begin behind its block's first cell; what it has room for is there. -/
def OwnA (b : Nat) (w : World) (v : Value) (zs : List Int) : Prop :=
  (v = .slice none 0 0 ∧ zs = []) ∨
   ∃ g off cap cur, v = .slice (some ⟨g, off, none⟩) zs.length cap ∧ b ≤ g ∧ w.heap[g]? = some (.cells cur 3 (0, 0)) ∧ zs.length ≤ cap ∧ cap ≤ maxLen ∧ off + cap ≤ cur.size ∧
     ∀ i, i < zs.length → cur[off + i]? = some (.int .i64 (zs.getD i 0))

theorem OwnA.of {b : Nat} {w : World} {v : Value} {zs : List Int} (h : w.ownsRow b 3 1 v zs.length (zs.map (Value.int .i64))) : OwnA b w v zs := by
  rcases h.2 with ⟨rfl, h0⟩ | ⟨g, cap, cur, rfl, hb, hg, hle, hm, hs, htake⟩
  · exact .inl ⟨rfl, List.length_eq_zero_iff.1 h0⟩
  · refine .inr ⟨g, 0, cap, cur, rfl, hb, hg, hle, hm, by omega, fun i hi => ?_⟩
    have hx : (zs.map (Value.int .i64))[i]? = some (.int .i64 (zs.getD i 0)) := by simp [List.getD, hi]
    rw [← htake, List.getElem?_take, Nat.mul_one, if_pos hi] at hx
    simpa using hx

theorem OwnA.lt {b : Nat} {w : World} {v : Value} {zs : List Int} (h : OwnA b w v zs) {k : Nat} (hk : v.ownBlock = some k) : b ≤ k ∧ k < w.heap.size := by
  rcases h with ⟨rfl, _⟩ | ⟨g, off, cap, cur, rfl, hb, hg, _⟩
  · cases hk
  · simp only [Value.ownBlock, Option.some.injEq] at hk
    subst hk
    exact ⟨hb, (Array.getElem?_eq_some_iff.1 hg).1⟩

theorem OwnA.mod {S : Nat → Prop} {b : Nat} {w w' : World} {v : Value} {zs : List Int} (h : OwnA b w v zs) (k : Mod S w w') (hS : ∀ i, v.ownBlock = some i → ¬ S i) : OwnA b w' v zs := by
  rcases h with h | ⟨g, off, cap, cur, rfl, hb, hg, rest⟩
  · exact .inl h
  · exact .inr ⟨g, off, cap, cur, rfl, hb, (k.block g (Array.getElem?_eq_some_iff.1 hg).1 (hS g rfl)).trans hg, rest⟩
theorem OwnA.kept {b : Nat} {w w' : World} {v : Value} {zs : List Int} (h : OwnA b w v zs) (k : Kept 0 0 w w') : OwnA b w' v zs := h.mod (S := fun _ => False) k.toMod (fun _ _ e => e)
theorem OwnA.aside {b : Nat} {w : World} {v : Value} {zs : List Int} (h : OwnA b w v zs) {P o : Nat} (hne : v.ownBlock ≠ some P) (u : Value) : OwnA b (w.setCell ⟨P, o, none⟩ u) v zs :=
  h.mod (S := fun i => i = P) (Mod.set (S := fun i => i = P) (Mod.refl _ w) (p := ⟨P, o, none⟩) (.inl rfl) u) (fun i hi e => hne (by rw [hi, e]))
theorem OwnA.less {b b' : Nat} {w : World} {v : Value} {zs : List Int} (h : OwnA b w v zs) (hb : ∀ i, v.ownBlock = some i → b' ≤ i) : OwnA b' w v zs := by
  rcases h with h | ⟨g, off, cap, cur, rfl, _, rest⟩
  · exact .inl h
  · exact .inr ⟨g, off, cap, cur, rfl, hb g rfl, rest⟩

theorem OwnA.row {b : Nat} {w : World} {v : Value} {zs : List Int} (h : OwnA b w v zs) : Row .i64 true b w.heap.size w v zs := by
  rcases h with ⟨rfl, rfl⟩ | ⟨g, off, cap, cur, rfl, hb, hg, hle, hm, hs, hc⟩
  · exact Row.nil _ _ _ _ _
  · have hlt := (Array.getElem?_eq_some_iff.1 hg).1
    refine ⟨_, _, rfl, hle, hm, fun _ => ⟨g, off, rfl, hb, hlt, hlt, fun i hi => ?_, fun _ i hi => ?_⟩⟩
    · simpa [World.cell?, hg] using hc i hi
    · simp [World.frozen?, hg]

theorem OwnA.set {b g off n cap : Nat} {w : World} {zs : List Int} (h : OwnA b w (.slice (some ⟨g, off, none⟩) n cap) zs) (j : Nat) (hj : j < zs.length) (z : Int) :
    OwnA b (w.setCell ⟨g, off + j, none⟩ (.int .i64 z)) (.slice (some ⟨g, off, none⟩) n cap) (zs.set j z) := by
  rcases h with ⟨h0, _⟩ | ⟨g', off', cap', cur, hv, hb, hg, hle, hm, hs, hc⟩
  · cases h0
  · simp only [Value.slice.injEq, Option.some.injEq, Addr.mk.injEq, and_true] at hv
    obtain ⟨⟨rfl, rfl⟩, rfl, rfl⟩ := hv
    refine .inr ⟨g, off, cap, cur.setIfInBounds (off + j) (.int .i64 z), by simp, hb, ?_, by simpa using hle, hm, by simpa using hs, fun i hi => ?_⟩
    · unfold World.setCell
      simp [Array.getElem?_modify, hg]
    · rw [List.length_set] at hi
      rw [Array.getElem?_setIfInBounds, getD_set zs i j z hi]
      by_cases e : i = j
      · subst e
        have : off + i < cur.size := by omega
        simp [this]
      · rw [if_neg (by omega), if_neg e]
        exact hc i hi

theorem OwnA.take {b n c : Nat} {a : Option Addr} {w : World} {zs : List Int} (h : OwnA b w (.slice a n c) zs) (j : Nat) (hj : j ≤ n) : OwnA b w (.slice a j c) (zs.take j) := by
  rcases h with ⟨h0, rfl⟩ | ⟨g', off', cap', cur, hv, hb, hg, hle, hm, hs, hc⟩
  · simp only [Value.slice.injEq] at h0
    obtain ⟨rfl, rfl, rfl⟩ := h0
    obtain rfl : j = 0 := by omega
    exact .inl ⟨rfl, rfl⟩
  · simp only [Value.slice.injEq] at hv
    obtain ⟨rfl, rfl, rfl⟩ := hv
    have hl : (zs.take j).length = j := by simp; omega
    refine .inr ⟨g', off', c, cur, by rw [hl], hb, hg, by omega, hm, hs, fun i hi => ?_⟩
    rw [hc i (by omega)]
    simp only [List.getD, List.getElem?_take]
    rw [if_pos (by omega)]

theorem OwnA.drop {b g off n c : Nat} {w : World} {zs : List Int} (h : OwnA b w (.slice (some ⟨g, off, none⟩) n c) zs) (q : Nat) (hn : n = zs.length) (hq : q < n) : OwnA b w (.slice (some ⟨g, off + q, none⟩) (n - q) (c - q)) (zs.drop q) := by
  rcases h with ⟨h0, _⟩ | ⟨g', off', cap', cur, hv, hb, hg, hle, hm, hs, hc⟩
  · cases h0
  · simp only [Value.slice.injEq, Option.some.injEq, Addr.mk.injEq, and_true] at hv
    obtain ⟨⟨rfl, rfl⟩, rfl, rfl⟩ := hv
    refine .inr ⟨g, off + q, c - q, cur, by simp, hb, hg, by simp; omega, by omega, by omega, fun i hi => ?_⟩
    simp only [List.length_drop] at hi
    rw [Nat.add_assoc, hc (q + i) (by omega)]
    simp [List.getD]

theorem OwnA.lost {b n c : Nat} {a : Option Addr} {w : World} {zs : List Int} (h : OwnA b w (.slice a n c) zs) : OwnA b w (.slice (if c = n then a else Option.map (fun x => x.add n) a) 0 (c - n)) [] := by
  rcases h with ⟨h0, rfl⟩ | ⟨g', off', cap', cur, hv, hb, hg, hle, hm, hs, hc⟩
  · simp only [Value.slice.injEq] at h0
    obtain ⟨rfl, rfl, rfl⟩ := h0
    exact .inl ⟨rfl, rfl⟩
  · simp only [Value.slice.injEq] at hv
    obtain ⟨rfl, rfl, rfl⟩ := hv
    by_cases e : c = zs.length
    · rw [if_pos e]
      exact .inr ⟨g', off', c - zs.length, cur, rfl, hb, hg, Nat.zero_le _, by omega, by omega, fun i hi => absurd hi (Nat.not_lt_zero _)⟩
    · rw [if_neg e]
      exact .inr ⟨g', off' + zs.length, c - zs.length, cur, by rw [Option.map_some, Addr.add_lit]; rfl, hb, hg, Nat.zero_le _, by omega, by omega, fun i hi => absurd hi (Nat.not_lt_zero _)⟩

/-- The cell g holds the list v of the call's own, wherever it begins, with the limbs zs. -/
structure Wrk (b : Nat) (w : World) (g : Nat) (v : Value) (zs : List Int) : Prop where
  cell : w.cell? ⟨g, 0, none⟩ = some v
  loose : w.frozen? ⟨g, 0, none⟩ = false
  own : OwnA b w v zs
  apart : v.ownBlock ≠ some g

theorem Wrk.work {b g : Nat} {w : World} {v : Value} {zs : List Int} (h : Wrk b w g v zs) : Work b w g v zs := ⟨h.cell, h.loose, h.own.row, fun _ => h.apart⟩
theorem Wrk.row {b g : Nat} {w : World} {v : Value} {zs : List Int} (h : Wrk b w g v zs) : Row .i64 true b w.heap.size w v zs := h.own.row
theorem Wrk.lt {b g : Nat} {w : World} {v : Value} {zs : List Int} (h : Wrk b w g v zs) : g < w.heap.size := World.block_lt_of_cell? _ ⟨g, 0, none⟩ h.cell
theorem Wrk.form {b g : Nat} {w : World} {v : Value} {zs : List Int} (h : Wrk b w g v zs) : ∃ a c, v = .slice a zs.length c := Row.form' h.row
theorem Wrk.kept {b g : Nat} {w w' : World} {v : Value} {zs : List Int} (h : Wrk b w g v zs) (k : Kept 0 0 w w') : Wrk b w' g v zs :=
  ⟨k.cell0 h.cell, k.loose0 h.lt h.loose, h.own.kept k, h.apart⟩
theorem Wrk.mod {S : Nat → Prop} {b g : Nat} {w w' : World} {v : Value} {zs : List Int} (h : Wrk b w g v zs) (k : Mod S w w') (h1 : ¬ S g) (h2 : ∀ i, v.ownBlock = some i → ¬ S i) : Wrk b w' g v zs :=
  ⟨k.cell h1 h.cell, k.loose h1 h.lt h.loose, h.own.mod k h2, h.apart⟩
theorem Wrk.less {b b' g : Nat} {w : World} {v : Value} {zs : List Int} (h : Wrk b w g v zs) (hb : ∀ i, v.ownBlock = some i → b' ≤ i) : Wrk b' w g v zs := ⟨h.cell, h.loose, h.own.less hb, h.apart⟩
theorem Wrk.at {b g : Nat} {w : World} {v : Value} {zs : List Int} (h : Wrk b w g v zs) (j : Nat) (hj : j < zs.length) : ∃ g1 off c, v = .slice (some ⟨g1, off, none⟩) zs.length c ∧ zs.length ≤ c ∧ w.cell? ⟨g1, off + j, none⟩ = some (.int .i64 (zs.getD j 0)) ∧ w.frozen? ⟨g1, off + j, none⟩ = false ∧ g1 ≠ g ∧ b ≤ g1 := h.work.at j hj
theorem Wrk.put {b g g1 off n c : Nat} {w : World} {zs : List Int} (h : Wrk b w g (.slice (some ⟨g1, off, none⟩) n c) zs) (j : Nat) (hn : n = zs.length) (hj : j < n) (z : Int) : Wrk b (w.setCell ⟨g1, off + j, none⟩ (.int .i64 z)) g (.slice (some ⟨g1, off, none⟩) n c) (zs.set j z) := by
  have hne : g1 ≠ g := fun e => h.apart (by simp [Value.ownBlock, e])
  exact ⟨by rw [cell_far _ _ _ _ _ (by exact fun e => hne e.symm)]; exact h.cell, by rw [frozen_set]; exact h.loose, h.own.set j (by omega) z, h.apart⟩
/-- Another list of the number's own stored in its cell. -/
theorem Wrk.store {b g : Nat} {w : World} {v v' : Value} {zs zs' : List Int} (h : Wrk b w g v zs) (o : OwnA b w v' zs') (ha : v'.ownBlock ≠ some g) : Wrk b (w.setCell ⟨g, 0, none⟩ v') g v' zs' :=
  ⟨cell_on _ _ _ _ _ h.cell, by rw [frozen_set]; exact h.loose, o.aside ha _, ha⟩
theorem Wrk.cut {b g n c : Nat} {a : Option Addr} {w : World} {zs : List Int} (h : Wrk b w g (.slice a n c) zs) (j : Nat) (hj : j ≤ n) : Wrk b (w.setCell ⟨g, 0, none⟩ (.slice a j c)) g (.slice a j c) (zs.take j) :=
  h.store (h.own.take j hj) (by have := h.apart; cases a <;> exact this)
theorem Wrk.tail {b g gb off cap n : Nat} {w : World} {xs : List Int} (h : Wrk b w g (.slice (some ⟨gb, off, none⟩) n cap) xs) (q : Nat) (hn : n = xs.length) (hq : q < n) :
    Wrk b (w.setCell ⟨g, 0, none⟩ (.slice (some ⟨gb, off + q, none⟩) (n - q) (cap - q))) g (.slice (some ⟨gb, off + q, none⟩) (n - q) (cap - q)) (xs.drop q) :=
  h.store (h.own.drop q hn hq) h.apart
theorem own_lost (a : Option Addr) (c n m k : Nat) : (Value.slice (if c = n then a else Option.map (fun x => x.add n) a) m k).ownBlock = (Value.slice a n c).ownBlock := by
  by_cases e : c = n
  · rw [if_pos e]; cases a <;> rfl
  · rw [if_neg e]
    cases a with
    | none => rfl
    | some x =>
      show some (Addr.add x n).block = some x.block
      unfold Addr.add
      split <;> rfl
theorem Wrk.lost {b g n c : Nat} {a : Option Addr} {w : World} {xs : List Int} (h : Wrk b w g (.slice a n c) xs) :
    Wrk b (w.setCell ⟨g, 0, none⟩ (.slice (if c = n then a else Option.map (fun x => x.add n) a) 0 (c - n))) g (.slice (if c = n then a else Option.map (fun x => x.add n) a) 0 (c - n)) [] :=
  h.store h.own.lost (by rw [own_lost]; exact h.apart)

/-- Two numbers of which the first, wherever its list begins, is written into. -/
structure TwoA (w0 : World) (S : Nat → Prop) (b b2 : Nat) (w : World) (g1 g2 : Nat) (u1 u2 : Value) (xs ys : List Int) : Prop where
  n1 : Wrk b w g1 u1 xs
  n2 : Num b2 w g2 u2 ys
  ne : g1 ≠ g2
  o12 : u1.ownBlock ≠ some g2
  o21 : u2.ownBlock ≠ some g1
  oo : ∀ k, u1.ownBlock = some k → u2.ownBlock ≠ some k
  o1 : ∀ k, u1.ownBlock = some k → S k ∨ w0.heap.size ≤ k
  s1 : S g1
  m : Mod S w0 w
  sd : SameSide g1 w0 w
  hb : b ≤ w0.heap.size

theorem TwoA.kept {w0 W w' : World} {S : Nat → Prop} {b b2 g1 g2 : Nat} {u1 u2 : Value} {xs ys : List Int} (t : TwoA w0 S b b2 W g1 g2 u1 u2 xs ys) (k : Kept 0 0 W w') : TwoA w0 S b b2 w' g1 g2 u1 u2 xs ys :=
  ⟨t.n1.kept k, t.n2.kept k, t.ne, t.o12, t.o21, t.oo, t.o1, t.s1, t.m.kept k, t.sd.trans (k.side t.n1.lt), t.hb⟩
theorem TwoA.put {w0 wr : World} {S : Nat → Prop} {b b2 g1 g2 gb off cap j : Nat} {u2 : Value} {zs ys : List Int} {n : Nat} (t : TwoA w0 S b b2 wr g1 g2 (.slice (some ⟨gb, off, none⟩) n cap) u2 zs ys) (hn : zs.length = n) (hj : j < n) (z : Int) :
    TwoA w0 S b b2 (wr.setCell ⟨gb, off + j, none⟩ (.int .i64 z)) g1 g2 (.slice (some ⟨gb, off, none⟩) n cap) u2 (zs.set j z) ys := by
  have n1 : gb ≠ g1 := fun e => t.n1.apart (by simp [Value.ownBlock, e])
  have n2 : gb ≠ g2 := fun e => t.o12 (by simp [Value.ownBlock, e])
  have n3 : u2.ownBlock ≠ some gb := t.oo gb rfl
  exact ⟨t.n1.put j hn.symm hj z, t.n2.mod (S := fun i => i = gb) (Mod.set (S := fun i => i = gb) (Mod.refl _ _) (p := ⟨gb, off + j, none⟩) (.inl rfl) _) (fun e => n2 e.symm) (fun i hi e => n3 (by rw [hi, e])),
    t.ne, t.o12, t.o21, t.oo, t.o1, t.s1, t.m.set (p := ⟨gb, off + j, none⟩) (t.o1 gb rfl) _, t.sd.far n1 _, t.hb⟩
end Go.Proofs.YtpognolidbgkkaaDoor

