/-
  A number that is worked on, whose list may begin behind its block's first cell, with room behind its end: what stays of it.
-/
import Derived.Test.YtpdgajfkhjdgaaaDoorIShS
import Derived.ArgAppend
namespace Go.Proofs.YtpdgajfkhjdgaaaDoor
open Go.RowKit
set_option linter.unusedVariables false
set_option maxRecDepth 8000
set_option linter.unusedSimpArgs false

/-- The slice value v, of the call's own, has the limbs zs; it may begin behind its block's first cell; what it has room for is there. -/
def OwnA (b : Nat) (w : World) (v : Value) (zs : List Int) : Prop :=
  (v = .slice none 0 0 ∧ zs = []) ∨
   ∃ g off cap cur, v = .slice (some ⟨g, off, none⟩) zs.length cap ∧ b ≤ g ∧ w.heap[g]? = some (.cells cur 3 (0, 0)) ∧ zs.length ≤ cap ∧ cap ≤ maxLen ∧ off + cap ≤ cur.size ∧
     ∀ i, i < zs.length → cur[off + i]? = some (.int .i64 (zs.getD i 0))

theorem OwnA.of {b : Nat} {w : World} {v : Value} {zs : List Int} (h : w.ownsRow b 3 1 v zs.length (zs.map (Value.int .i64))) : OwnA b w v zs := by
  rcases h.2 with ⟨rfl, h0⟩ | ⟨g, cap, cur, rfl, hb, hg, hle, hm, hs, htake⟩
  · exact .inl ⟨rfl, List.length_eq_zero_iff.1 h0⟩
  · refine .inr ⟨g, 0, cap, cur, rfl, hb, hg, hle, hm, by omega, fun i hi => ?_⟩
    have hx : (zs.map (Value.int .i64))[i]? = some (.int .i64 (zs.getD i 0)) := by simp [List.getD, hi]
    rw [← htake, List.getElem?_take, Nat.mul_one, if_pos hi] at hx
    simpa using hx

theorem OwnA.lt {b : Nat} {w : World} {v : Value} {zs : List Int} (h : OwnA b w v zs) {k : Nat} (hk : v.ownBlock = some k) : b ≤ k ∧ k < w.heap.size := by
  rcases h with ⟨rfl, _⟩ | ⟨g, off, cap, cur, rfl, hb, hg, _⟩
  · cases hk
  · simp only [Value.ownBlock, Option.some.injEq] at hk
    subst hk
    exact ⟨hb, (Array.getElem?_eq_some_iff.1 hg).1⟩

theorem OwnA.mod {S : Nat → Prop} {b : Nat} {w w' : World} {v : Value} {zs : List Int} (h : OwnA b w v zs) (k : Mod S w w') (hS : ∀ i, v.ownBlock = some i → ¬ S i) : OwnA b w' v zs := by
  rcases h with h | ⟨g, off, cap, cur, rfl, hb, hg, rest⟩
  · exact .inl h
  · exact .inr ⟨g, off, cap, cur, rfl, hb, (k.block g (Array.getElem?_eq_some_iff.1 hg).1 (hS g rfl)).trans hg, rest⟩
theorem OwnA.kept {b : Nat} {w w' : World} {v : Value} {zs : List Int} (h : OwnA b w v zs) (k : Kept 0 0 w w') : OwnA b w' v zs := h.mod (S := fun _ => False) k.toMod (fun _ _ e => e)
theorem OwnA.aside {b : Nat} {w : World} {v : Value} {zs : List Int} (h : OwnA b w v zs) {P o : Nat} (hne : v.ownBlock ≠ some P) (u : Value) : OwnA b (w.setCell ⟨P, o, none⟩ u) v zs :=
  h.mod (S := fun i => i = P) (Mod.set (S := fun i => i = P) (Mod.refl _ w) (p := ⟨P, o, none⟩) (.inl rfl) u) (fun i hi e => hne (by rw [hi, e]))
theorem OwnA.less {b b' : Nat} {w : World} {v : Value} {zs : List Int} (h : OwnA b w v zs) (hb : ∀ i, v.ownBlock = some i → b' ≤ i) : OwnA b' w v zs := by
  rcases h with h | ⟨g, off, cap, cur, rfl, _, rest⟩
  · exact .inl h
  · exact .inr ⟨g, off, cap, cur, rfl, hb g rfl, rest⟩

theorem OwnA.row {b : Nat} {w : World} {v : Value} {zs : List Int} (h : OwnA b w v zs) : Row .i64 true b w.heap.size w v zs := by
  rcases h with ⟨rfl, rfl⟩ | ⟨g, off, cap, cur, rfl, hb, hg, hle, hm, hs, hc⟩
  · exact Row.nil _ _ _ _ _
  · have hlt := (Array.getElem?_eq_some_iff.1 hg).1
    refine ⟨_, _, rfl, hle, hm, fun _ => ⟨g, off, rfl, hb, hlt, hlt, fun i hi => ?_, fun _ i hi => ?_⟩⟩
    · simpa [World.cell?, hg] using hc i hi
    · simp [World.frozen?, hg]

theorem OwnA.set {b g off n cap : Nat} {w : World} {zs : List Int} (h : OwnA b w (.slice (some ⟨g, off, none⟩) n cap) zs) (j : Nat) (hj : j < zs.length) (z : Int) :
    OwnA b (w.setCell ⟨g, off + j, none⟩ (.int .i64 z)) (.slice (some ⟨g, off, none⟩) n cap) (zs.set j z) := by
  rcases h with ⟨h0, _⟩ | ⟨g', off', cap', cur, hv, hb, hg, hle, hm, hs, hc⟩
  · cases h0
  · simp only [Value.slice.injEq, Option.some.injEq, Addr.mk.injEq, and_true] at hv
    obtain ⟨⟨rfl, rfl⟩, rfl, rfl⟩ := hv
    refine .inr ⟨g, off, cap, cur.setIfInBounds (off + j) (.int .i64 z), by simp, hb, ?_, by simpa using hle, hm, by simpa using hs, fun i hi => ?_⟩
    · unfold World.setCell
      simp [Array.getElem?_modify, hg]
    · rw [List.length_set] at hi
      rw [Array.getElem?_setIfInBounds, getD_set zs i j z hi]
      by_cases e : i = j
      · subst e
        have : off + i < cur.size := by omega
        simp [this]
      · rw [if_neg (by omega), if_neg e]
        exact hc i hi

theorem OwnA.take {b n c : Nat} {a : Option Addr} {w : World} {zs : List Int} (h : OwnA b w (.slice a n c) zs) (j : Nat) (hj : j ≤ n) : OwnA b w (.slice a j c) (zs.take j) := by
  rcases h with ⟨h0, rfl⟩ | ⟨g', off', cap', cur, hv, hb, hg, hle, hm, hs, hc⟩
  · simp only [Value.slice.injEq] at h0
    obtain ⟨rfl, rfl, rfl⟩ := h0
    obtain rfl : j = 0 := by omega
    exact .inl ⟨rfl, rfl⟩
  · simp only [Value.slice.injEq] at hv
    obtain ⟨rfl, rfl, rfl⟩ := hv
    have hl : (zs.take j).length = j := by simp; omega
    refine .inr ⟨g', off', c, cur, by rw [hl], hb, hg, by omega, hm, hs, fun i hi => ?_⟩
    rw [hc i (by omega)]
    simp only [List.getD, List.getElem?_take]
    rw [if_pos (by omega)]

theorem OwnA.drop {b g off n c : Nat} {w : World} {zs : List Int} (h : OwnA b w (.slice (some ⟨g, off, none⟩) n c) zs) (q : Nat) (hn : n = zs.length) (hq : q < n) : OwnA b w (.slice (some ⟨g, off + q, none⟩) (n - q) (c - q)) (zs.drop q) := by
  rcases h with ⟨h0, _⟩ | ⟨g', off', cap', cur, hv, hb, hg, hle, hm, hs, hc⟩
  · cases h0
  · simp only [Value.slice.injEq, Option.some.injEq, Addr.mk.injEq, and_true] at hv
    obtain ⟨⟨rfl, rfl⟩, rfl, rfl⟩ := hv
    refine .inr ⟨g, off + q, c - q, cur, by simp, hb, hg, by simp; omega, by omega, by omega, fun i hi => ?_⟩
    simp only [List.length_drop] at hi
    rw [Nat.add_assoc, hc (q + i) (by omega)]
    simp [List.getD]

theorem OwnA.lost {b n c : Nat} {a : Option Addr} {w : World} {zs : List Int} (h : OwnA b w (.slice a n c) zs) : OwnA b w (.slice (if c = n then a else Option.map (fun x => x.add n) a) 0 (c - n)) [] := by
  rcases h with ⟨h0, rfl⟩ | ⟨g', off', cap', cur, hv, hb, hg, hle, hm, hs, hc⟩
  · simp only [Value.slice.injEq] at h0
    obtain ⟨rfl, rfl, rfl⟩ := h0
    exact .inl ⟨rfl, rfl⟩
  · simp only [Value.slice.injEq] at hv
    obtain ⟨rfl, rfl, rfl⟩ := hv
    by_cases e : c = zs.length
    · rw [if_pos e]
      exact .inr ⟨g', off', c - zs.length, cur, rfl, hb, hg, Nat.zero_le _, by omega, by omega, fun i hi => absurd hi (Nat.not_lt_zero _)⟩
    · rw [if_neg e]
      exact .inr ⟨g', off' + zs.length, c - zs.length, cur, by rw [Option.map_some, Addr.add_lit]; rfl, hb, hg, Nat.zero_le _, by omega, by omega, fun i hi => absurd hi (Nat.not_lt_zero _)⟩

/-- The cell g holds the list v of the call's own, wherever it begins, with the limbs zs. -/
structure Wrk (b : Nat) (w : World) (g : Nat) (v : Value) (zs : List Int) : Prop where
  cell : w.cell? ⟨g, 0, none⟩ = some v
  loose : w.frozen? ⟨g, 0, none⟩ = false
  own : OwnA b w v zs
  apart : v.ownBlock ≠ some g

theorem Num.wrk {b g : Nat} {w : World} {v : Value} {zs : List Int} (h : Num b w g v zs) : Wrk b w g v zs := ⟨h.cell, h.loose, OwnA.of h.own, h.apart⟩
theorem Wrk.work {b g : Nat} {w : World} {v : Value} {zs : List Int} (h : Wrk b w g v zs) : Work b w g v zs := ⟨h.cell, h.loose, h.own.row, fun _ => h.apart⟩
theorem Wrk.row {b g : Nat} {w : World} {v : Value} {zs : List Int} (h : Wrk b w g v zs) : Row .i64 true b w.heap.size w v zs := h.own.row
theorem Wrk.lt {b g : Nat} {w : World} {v : Value} {zs : List Int} (h : Wrk b w g v zs) : g < w.heap.size := World.block_lt_of_cell? _ ⟨g, 0, none⟩ h.cell
theorem Wrk.form {b g : Nat} {w : World} {v : Value} {zs : List Int} (h : Wrk b w g v zs) : ∃ a c, v = .slice a zs.length c := Row.form' h.row
theorem Wrk.kept {b g : Nat} {w w' : World} {v : Value} {zs : List Int} (h : Wrk b w g v zs) (k : Kept 0 0 w w') : Wrk b w' g v zs :=
  ⟨k.cell0 h.cell, k.loose0 h.lt h.loose, h.own.kept k, h.apart⟩
theorem Wrk.mod {S : Nat → Prop} {b g : Nat} {w w' : World} {v : Value} {zs : List Int} (h : Wrk b w g v zs) (k : Mod S w w') (h1 : ¬ S g) (h2 : ∀ i, v.ownBlock = some i → ¬ S i) : Wrk b w' g v zs :=
  ⟨k.cell h1 h.cell, k.loose h1 h.lt h.loose, h.own.mod k h2, h.apart⟩
theorem Wrk.less {b b' g : Nat} {w : World} {v : Value} {zs : List Int} (h : Wrk b w g v zs) (hb : ∀ i, v.ownBlock = some i → b' ≤ i) : Wrk b' w g v zs := ⟨h.cell, h.loose, h.own.less hb, h.apart⟩
theorem Wrk.at {b g : Nat} {w : World} {v : Value} {zs : List Int} (h : Wrk b w g v zs) (j : Nat) (hj : j < zs.length) : ∃ g1 off c, v = .slice (some ⟨g1, off, none⟩) zs.length c ∧ zs.length ≤ c ∧ w.cell? ⟨g1, off + j, none⟩ = some (.int .i64 (zs.getD j 0)) ∧ w.frozen? ⟨g1, off + j, none⟩ = false ∧ g1 ≠ g ∧ b ≤ g1 := h.work.at j hj
theorem Wrk.put {b g g1 off n c : Nat} {w : World} {zs : List Int} (h : Wrk b w g (.slice (some ⟨g1, off, none⟩) n c) zs) (j : Nat) (hn : n = zs.length) (hj : j < n) (z : Int) : Wrk b (w.setCell ⟨g1, off + j, none⟩ (.int .i64 z)) g (.slice (some ⟨g1, off, none⟩) n c) (zs.set j z) := by
  have hne : g1 ≠ g := fun e => h.apart (by simp [Value.ownBlock, e])
  exact ⟨by rw [cell_far _ _ _ _ _ (by exact fun e => hne e.symm)]; exact h.cell, by rw [frozen_set]; exact h.loose, h.own.set j (by omega) z, h.apart⟩
/-- Another list of the number's own stored in its cell. -/
theorem Wrk.store {b g : Nat} {w : World} {v v' : Value} {zs zs' : List Int} (h : Wrk b w g v zs) (o : OwnA b w v' zs') (ha : v'.ownBlock ≠ some g) : Wrk b (w.setCell ⟨g, 0, none⟩ v') g v' zs' :=
  ⟨cell_on _ _ _ _ _ h.cell, by rw [frozen_set]; exact h.loose, o.aside ha _, ha⟩
theorem Wrk.cut {b g n c : Nat} {a : Option Addr} {w : World} {zs : List Int} (h : Wrk b w g (.slice a n c) zs) (j : Nat) (hj : j ≤ n) : Wrk b (w.setCell ⟨g, 0, none⟩ (.slice a j c)) g (.slice a j c) (zs.take j) :=
  h.store (h.own.take j hj) (by have := h.apart; cases a <;> exact this)
theorem Wrk.tail {b g gb off cap n : Nat} {w : World} {xs : List Int} (h : Wrk b w g (.slice (some ⟨gb, off, none⟩) n cap) xs) (q : Nat) (hn : n = xs.length) (hq : q < n) :
    Wrk b (w.setCell ⟨g, 0, none⟩ (.slice (some ⟨gb, off + q, none⟩) (n - q) (cap - q))) g (.slice (some ⟨gb, off + q, none⟩) (n - q) (cap - q)) (xs.drop q) :=
  h.store (h.own.drop q hn hq) h.apart
theorem own_lost (a : Option Addr) (c n m k : Nat) : (Value.slice (if c = n then a else Option.map (fun x => x.add n) a) m k).ownBlock = (Value.slice a n c).ownBlock := by
  by_cases e : c = n
  · rw [if_pos e]; cases a <;> rfl
  · rw [if_neg e]
    cases a with
    | none => rfl
    | some x =>
      show some (Addr.add x n).block = some x.block
      unfold Addr.add
      split <;> rfl
theorem Wrk.lost {b g n c : Nat} {a : Option Addr} {w : World} {xs : List Int} (h : Wrk b w g (.slice a n c) xs) :
    Wrk b (w.setCell ⟨g, 0, none⟩ (.slice (if c = n then a else Option.map (fun x => x.add n) a) 0 (c - n))) g (.slice (if c = n then a else Option.map (fun x => x.add n) a) 0 (c - n)) [] :=
  h.store h.own.lost (by rw [own_lost]; exact h.apart)

/-- One more limb appended to a list of the call's own, wherever it begins. -/
theorem run_snocA {b : Nat} {w : World} {v : Value} {zs : List Int} (ty : TypeId) (h : OwnA b w v zs) (hn : zs.length ≤ 1000000) (hb : b ≤ w.heap.size) (ad : Addr) (z : Int) (hc : w.cell? ad = some (.int .i64 z)) :
    ∃ v' w', (Builtin.append_ #[22, 22] ty #[v, .slice (some ad) 1 1]).run Tryd.prog w = .ok v' w' ∧ OwnA b w' v' (zs ++ [z]) ∧ w.grownBy w' v.ownBlock ∧ (∀ k, v'.ownBlock = some k → v.ownBlock = some k ∨ w.heap.size ≤ k) := by
  obtain ⟨i0, hi0, hz0, hz1, hz2⟩ := info_parts Tryd.info3'
  have hb8 : (zs.length + 1) * 8 ≤ 140737488355328 := by omega
  have h63 : zs.length + 1 ≤ maxLen := by unfold maxLen; omega
  have h1 : ∀ u ∈ [Value.int .i64 z], u.oneCell' = true := by intro u hu; simp at hu; subst hu; rfl
  rcases h with ⟨rfl, rfl⟩ | ⟨g, off, cap, cur, rfl, hbg, hg, hle, hm, hs, hcc⟩
  · obtain ⟨v', w', hr, ho, hgr, -, hat⟩ := run_append_own_at (P := Tryd.prog) w b 22 ty 3 i0 (.int .i64 0) 1 8 Tryd.underlying22 hi0 hz0 hz1 hz2 rfl (by decide) (.slice none 0 0) 0 [] (World.ownsRow_nil _ _ _ _) ad 1 1 [.int .i64 z] rfl (lit_cell hc) h1 (by simpa using h63) (by omega) hb
    exact ⟨v', w', hr, OwnA.of (zs := [z]) (by simpa using ho), hgr, fun k hk => hat.elim (fun e => .inl (by rw [← e]; exact hk)) (fun e => .inr (by rw [hk] at e; simp at e; omega))⟩
  · by_cases hroom : zs.length + 1 ≤ cap
    · have hr := run_append_room_cells (P := Tryd.prog) w 22 ty 3 i0 Tryd.underlying22 hi0 g off zs.length cap ad 1 1 [.int .i64 z] (by simp [hz1]) (lit_cell hc) h1 hroom
        (fun j hj => by
          simp only [List.length_singleton] at hj
          obtain rfl : j = 0 := by omega
          simp only [hz1, Nat.mul_one, Nat.add_zero, World.cell?, hg]
          have : off + zs.length < cur.size := by omega
          simp [this])
        (fun j hj => by simp [World.frozen?, hg])
      rw [hz1, Nat.mul_one] at hr
      refine ⟨_, _, hr, ?_, ⟨rfl, rfl, rfl, by simp [World.setCells, World.setCell], fun k hk ho => ?_⟩, fun k hk => .inl hk⟩
      · refine .inr ⟨g, off, cap, cur.setIfInBounds (off + zs.length) (.int .i64 z), by simp, hbg, ?_, by simpa using hroom, hm, by simpa using hs, fun i hi => ?_⟩
        · unfold World.setCells World.setCells World.setCell
          simp [Array.getElem?_modify, hg]
        · simp only [List.length_append, List.length_singleton] at hi
          rw [Array.getElem?_setIfInBounds]
          by_cases e : i = zs.length
          · subst e
            have : off + zs.length < cur.size := by omega
            simp [this, List.getD]
          · rw [if_neg (by omega), hcc i (by omega)]
            have : i < zs.length := by omega
            simp [List.getD, List.getElem?_append, this]
      · simp only [World.setCells]
        exact Below.heap_setCell _ _ _ _ (fun e => ho (by simp [Value.ownBlock, e]))
    · have hrow : Row .i64 true b w.heap.size w (.slice (some ⟨g, off, none⟩) zs.length cap) zs := OwnA.row (.inr ⟨g, off, cap, cur, rfl, hbg, hg, hle, hm, hs, hcc⟩)
      have holds : ∀ j u, (zs.map (Value.int .i64))[j]? = some u → w.cell? ((⟨g, off, none⟩ : Addr).add j) = some u := by
        intro j u hj
        by_cases hz : zs = []
        · subst hz; simp at hj
        · obtain ⟨g', o', c', e', -, -, hn'⟩ := hrow.news hz
          cases e'
          exact hn' j u hj
      obtain ⟨v', w', hr, ho, hgr⟩ := run_append_arg_grows (P := Tryd.prog) w 22 ty 3 i0 (.int .i64 0) 1 8 Tryd.underlying22 hi0 hz0 hz1 hz2 rfl (by decide) ⟨g, off, none⟩ zs.length cap (zs.map (Value.int .i64)) (by simp) holds ad 1 1 [.int .i64 z] rfl (lit_cell hc) (by omega) h63 hb8
      have hgr' : w.grownBy w' (Value.slice (some ⟨g, off, none⟩) zs.length cap).ownBlock := ⟨hgr.os, hgr.tape, hgr.output, hgr.size, fun k hk _ => hgr.block k hk (by simp)⟩
      have hO : OwnA w.heap.size w' v' (zs ++ [z]) := OwnA.of (by simpa using ho)
      refine ⟨v', w', hr, hO.less (fun i hi => by have := (hO.lt hi).1; omega), hgr', fun k hk => .inr (hO.lt hk).1⟩

end Go.Proofs.YtpdgajfkhjdgaaaDoor
