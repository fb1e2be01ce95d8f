/-
  Contracts that the proofs of this seat share: Wrk, Wrk2, Wrk3.
-/
import Derived.Test.YtlenocminckbkaaDoorBI
import Derived.ArgAppend
import Derived.Test.YtlenocminckbkaaDoorBF
namespace Go.Proofs.YtlenocminckbkaaDoor
open Go.RowKit
set_option linter.unusedVariables false
set_option maxRecDepth 8000
set_option linter.unusedSimpArgs false

/-- The slice value v, of the call's own, has the limbs zs; it may begin behind its block's first cell; what it has room for is there. -/
def OwnA (b : Nat) (w : World) (v : Value) (zs : List Int) : Prop :=
  (v = .slice none 0 0 ∧ zs = []) ∨
   ∃ g off cap cur, v = .slice (some ⟨g, off, none⟩) zs.length cap ∧ b ≤ g ∧ w.heap[g]? = some (.cells cur 3 (0, 0)) ∧ zs.length ≤ cap ∧ cap ≤ maxLen ∧ off + cap ≤ cur.size ∧
     ∀ i, i < zs.length → cur[off + i]? = some (.int .i64 (zs.getD i 0))

theorem OwnA.of {b : Nat} {w : World} {v : Value} {zs : List Int} (h : w.ownsRow b 3 1 v zs.length (zs.map (Value.int .i64))) : OwnA b w v zs := by
  rcases h.2 with ⟨rfl, h0⟩ | ⟨g, cap, cur, rfl, hb, hg, hle, hm, hs, htake⟩
  · exact .inl ⟨rfl, List.length_eq_zero_iff.1 h0⟩
  · refine .inr ⟨g, 0, cap, cur, rfl, hb, hg, hle, hm, by omega, fun i hi => ?_⟩
    have hx : (zs.map (Value.int .i64))[i]? = some (.int .i64 (zs.getD i 0)) := by simp [List.getD, hi]
    rw [← htake, List.getElem?_take, Nat.mul_one, if_pos hi] at hx
    simpa using hx

theorem OwnA.lt {b : Nat} {w : World} {v : Value} {zs : List Int} (h : OwnA b w v zs) {k : Nat} (hk : v.ownBlock = some k) : b ≤ k ∧ k < w.heap.size := by
  rcases h with ⟨rfl, _⟩ | ⟨g, off, cap, cur, rfl, hb, hg, _⟩
  · cases hk
  · simp only [Value.ownBlock, Option.some.injEq] at hk
    subst hk
    exact ⟨hb, (Array.getElem?_eq_some_iff.1 hg).1⟩

theorem OwnA.mod {S : Nat → Prop} {b : Nat} {w w' : World} {v : Value} {zs : List Int} (h : OwnA b w v zs) (k : Mod S w w') (hS : ∀ i, v.ownBlock = some i → ¬ S i) : OwnA b w' v zs := by
  rcases h with h | ⟨g, off, cap, cur, rfl, hb, hg, rest⟩
  · exact .inl h
  · exact .inr ⟨g, off, cap, cur, rfl, hb, (k.block g (Array.getElem?_eq_some_iff.1 hg).1 (hS g rfl)).trans hg, rest⟩
theorem OwnA.kept {b : Nat} {w w' : World} {v : Value} {zs : List Int} (h : OwnA b w v zs) (k : Kept 0 0 w w') : OwnA b w' v zs := h.mod (S := fun _ => False) k.toMod (fun _ _ e => e)
theorem OwnA.aside {b : Nat} {w : World} {v : Value} {zs : List Int} (h : OwnA b w v zs) {P o : Nat} (hne : v.ownBlock ≠ some P) (u : Value) : OwnA b (w.setCell ⟨P, o, none⟩ u) v zs :=
  h.mod (S := fun i => i = P) (Mod.set (S := fun i => i = P) (Mod.refl _ w) (p := ⟨P, o, none⟩) (.inl rfl) u) (fun i hi e => hne (by rw [hi, e]))
theorem OwnA.less {b b' : Nat} {w : World} {v : Value} {zs : List Int} (h : OwnA b w v zs) (hb : ∀ i, v.ownBlock = some i → b' ≤ i) : OwnA b' w v zs := by
  rcases h with h | ⟨g, off, cap, cur, rfl, _, rest⟩
  · exact .inl h
  · exact .inr ⟨g, off, cap, cur, rfl, hb g rfl, rest⟩

theorem OwnA.row {b : Nat} {w : World} {v : Value} {zs : List Int} (h : OwnA b w v zs) : Row .i64 true b w.heap.size w v zs := by
  rcases h with ⟨rfl, rfl⟩ | ⟨g, off, cap, cur, rfl, hb, hg, hle, hm, hs, hc⟩
  · exact Row.nil _ _ _ _ _
  · have hlt := (Array.getElem?_eq_some_iff.1 hg).1
    refine ⟨_, _, rfl, hle, hm, fun _ => ⟨g, off, rfl, hb, hlt, hlt, fun i hi => ?_, fun _ i hi => ?_⟩⟩
    · simpa [World.cell?, hg] using hc i hi
    · simp [World.frozen?, hg]

theorem OwnA.set {b g off n cap : Nat} {w : World} {zs : List Int} (h : OwnA b w (.slice (some ⟨g, off, none⟩) n cap) zs) (j : Nat) (hj : j < zs.length) (z : Int) :
    OwnA b (w.setCell ⟨g, off + j, none⟩ (.int .i64 z)) (.slice (some ⟨g, off, none⟩) n cap) (zs.set j z) := by
  rcases h with ⟨h0, _⟩ | ⟨g', off', cap', cur, hv, hb, hg, hle, hm, hs, hc⟩
  · cases h0
  · simp only [Value.slice.injEq, Option.some.injEq, Addr.mk.injEq, and_true] at hv
    obtain ⟨⟨rfl, rfl⟩, rfl, rfl⟩ := hv
    refine .inr ⟨g, off, cap, cur.setIfInBounds (off + j) (.int .i64 z), by simp, hb, ?_, by simpa using hle, hm, by simpa using hs, fun i hi => ?_⟩
    · unfold World.setCell
      simp [Array.getElem?_modify, hg]
    · rw [List.length_set] at hi
      rw [Array.getElem?_setIfInBounds, getD_set zs i j z hi]
      by_cases e : i = j
      · subst e
        have : off + i < cur.size := by omega
        simp [this]
      · rw [if_neg (by omega), if_neg e]
        exact hc i hi

theorem OwnA.take {b n c : Nat} {a : Option Addr} {w : World} {zs : List Int} (h : OwnA b w (.slice a n c) zs) (j : Nat) (hj : j ≤ n) : OwnA b w (.slice a j c) (zs.take j) := by
  rcases h with ⟨h0, rfl⟩ | ⟨g', off', cap', cur, hv, hb, hg, hle, hm, hs, hc⟩
  · simp only [Value.slice.injEq] at h0
    obtain ⟨rfl, rfl, rfl⟩ := h0
    obtain rfl : j = 0 := by omega
    exact .inl ⟨rfl, rfl⟩
  · simp only [Value.slice.injEq] at hv
    obtain ⟨rfl, rfl, rfl⟩ := hv
    have hl : (zs.take j).length = j := by simp; omega
    refine .inr ⟨g', off', c, cur, by rw [hl], hb, hg, by omega, hm, hs, fun i hi => ?_⟩
    rw [hc i (by omega)]
    simp only [List.getD, List.getElem?_take]
    rw [if_pos (by omega)]

theorem OwnA.drop {b g off n c : Nat} {w : World} {zs : List Int} (h : OwnA b w (.slice (some ⟨g, off, none⟩) n c) zs) (q : Nat) (hn : n = zs.length) (hq : q < n) : OwnA b w (.slice (some ⟨g, off + q, none⟩) (n - q) (c - q)) (zs.drop q) := by
  rcases h with ⟨h0, _⟩ | ⟨g', off', cap', cur, hv, hb, hg, hle, hm, hs, hc⟩
  · cases h0
  · simp only [Value.slice.injEq, Option.some.injEq, Addr.mk.injEq, and_true] at hv
    obtain ⟨⟨rfl, rfl⟩, rfl, rfl⟩ := hv
    refine .inr ⟨g, off + q, c - q, cur, by simp, hb, hg, by simp; omega, by omega, by omega, fun i hi => ?_⟩
    simp only [List.length_drop] at hi
    rw [Nat.add_assoc, hc (q + i) (by omega)]
    simp [List.getD]

theorem OwnA.lost {b n c : Nat} {a : Option Addr} {w : World} {zs : List Int} (h : OwnA b w (.slice a n c) zs) : OwnA b w (.slice (if c = n then a else Option.map (fun x => x.add n) a) 0 (c - n)) [] := by
  rcases h with ⟨h0, rfl⟩ | ⟨g', off', cap', cur, hv, hb, hg, hle, hm, hs, hc⟩
  · simp only [Value.slice.injEq] at h0
    obtain ⟨rfl, rfl, rfl⟩ := h0
    exact .inl ⟨rfl, rfl⟩
  · simp only [Value.slice.injEq] at hv
    obtain ⟨rfl, rfl, rfl⟩ := hv
    by_cases e : c = zs.length
    · rw [if_pos e]
      exact .inr ⟨g', off', c - zs.length, cur, rfl, hb, hg, Nat.zero_le _, by omega, by omega, fun i hi => absurd hi (Nat.not_lt_zero _)⟩
    · rw [if_neg e]
      exact .inr ⟨g', off' + zs.length, c - zs.length, cur, by rw [Option.map_some, Addr.add_lit]; rfl, hb, hg, Nat.zero_le _, by omega, by omega, fun i hi => absurd hi (Nat.not_lt_zero _)⟩

/-- The cell g holds the list v of the call's own, wherever it begins, with the limbs zs. -/
structure Wrk (b : Nat) (w : World) (g : Nat) (v : Value) (zs : List Int) : Prop where
  cell : w.cell? ⟨g, 0, none⟩ = some v
  loose : w.frozen? ⟨g, 0, none⟩ = false
  own : OwnA b w v zs
  apart : v.ownBlock ≠ some g

theorem Num.wrk {b g : Nat} {w : World} {v : Value} {zs : List Int} (h : Num b w g v zs) : Wrk b w g v zs := ⟨h.cell, h.loose, OwnA.of h.own, h.apart⟩
theorem Wrk.work {b g : Nat} {w : World} {v : Value} {zs : List Int} (h : Wrk b w g v zs) : Work b w g v zs := ⟨h.cell, h.loose, h.own.row, fun _ => h.apart⟩
theorem Wrk.row {b g : Nat} {w : World} {v : Value} {zs : List Int} (h : Wrk b w g v zs) : Row .i64 true b w.heap.size w v zs := h.own.row
theorem Wrk.lt {b g : Nat} {w : World} {v : Value} {zs : List Int} (h : Wrk b w g v zs) : g < w.heap.size := World.block_lt_of_cell? _ ⟨g, 0, none⟩ h.cell
theorem Wrk.form {b g : Nat} {w : World} {v : Value} {zs : List Int} (h : Wrk b w g v zs) : ∃ a c, v = .slice a zs.length c := Row.form' h.row
theorem Wrk.kept {b g : Nat} {w w' : World} {v : Value} {zs : List Int} (h : Wrk b w g v zs) (k : Kept 0 0 w w') : Wrk b w' g v zs :=
  ⟨k.cell0 h.cell, k.loose0 h.lt h.loose, h.own.kept k, h.apart⟩
theorem Wrk.mod {S : Nat → Prop} {b g : Nat} {w w' : World} {v : Value} {zs : List Int} (h : Wrk b w g v zs) (k : Mod S w w') (h1 : ¬ S g) (h2 : ∀ i, v.ownBlock = some i → ¬ S i) : Wrk b w' g v zs :=
  ⟨k.cell h1 h.cell, k.loose h1 h.lt h.loose, h.own.mod k h2, h.apart⟩
theorem Wrk.less {b b' g : Nat} {w : World} {v : Value} {zs : List Int} (h : Wrk b w g v zs) (hb : ∀ i, v.ownBlock = some i → b' ≤ i) : Wrk b' w g v zs := ⟨h.cell, h.loose, h.own.less hb, h.apart⟩
theorem Wrk.at {b g : Nat} {w : World} {v : Value} {zs : List Int} (h : Wrk b w g v zs) (j : Nat) (hj : j < zs.length) : ∃ g1 off c, v = .slice (some ⟨g1, off, none⟩) zs.length c ∧ zs.length ≤ c ∧ w.cell? ⟨g1, off + j, none⟩ = some (.int .i64 (zs.getD j 0)) ∧ w.frozen? ⟨g1, off + j, none⟩ = false ∧ g1 ≠ g ∧ b ≤ g1 := h.work.at j hj
theorem Wrk.put {b g g1 off n c : Nat} {w : World} {zs : List Int} (h : Wrk b w g (.slice (some ⟨g1, off, none⟩) n c) zs) (j : Nat) (hn : n = zs.length) (hj : j < n) (z : Int) : Wrk b (w.setCell ⟨g1, off + j, none⟩ (.int .i64 z)) g (.slice (some ⟨g1, off, none⟩) n c) (zs.set j z) := by
  have hne : g1 ≠ g := fun e => h.apart (by simp [Value.ownBlock, e])
  exact ⟨by rw [cell_far _ _ _ _ _ (by exact fun e => hne e.symm)]; exact h.cell, by rw [frozen_set]; exact h.loose, h.own.set j (by omega) z, h.apart⟩
/-- Another list of the number's own stored in its cell. -/
theorem Wrk.store {b g : Nat} {w : World} {v v' : Value} {zs zs' : List Int} (h : Wrk b w g v zs) (o : OwnA b w v' zs') (ha : v'.ownBlock ≠ some g) : Wrk b (w.setCell ⟨g, 0, none⟩ v') g v' zs' :=
  ⟨cell_on _ _ _ _ _ h.cell, by rw [frozen_set]; exact h.loose, o.aside ha _, ha⟩
theorem Wrk.cut {b g n c : Nat} {a : Option Addr} {w : World} {zs : List Int} (h : Wrk b w g (.slice a n c) zs) (j : Nat) (hj : j ≤ n) : Wrk b (w.setCell ⟨g, 0, none⟩ (.slice a j c)) g (.slice a j c) (zs.take j) :=
  h.store (h.own.take j hj) (by have := h.apart; cases a <;> exact this)
theorem Wrk.tail {b g gb off cap n : Nat} {w : World} {xs : List Int} (h : Wrk b w g (.slice (some ⟨gb, off, none⟩) n cap) xs) (q : Nat) (hn : n = xs.length) (hq : q < n) :
    Wrk b (w.setCell ⟨g, 0, none⟩ (.slice (some ⟨gb, off + q, none⟩) (n - q) (cap - q))) g (.slice (some ⟨gb, off + q, none⟩) (n - q) (cap - q)) (xs.drop q) :=
  h.store (h.own.drop q hn hq) h.apart
theorem own_lost (a : Option Addr) (c n m k : Nat) : (Value.slice (if c = n then a else Option.map (fun x => x.add n) a) m k).ownBlock = (Value.slice a n c).ownBlock := by
  by_cases e : c = n
  · rw [if_pos e]; cases a <;> rfl
  · rw [if_neg e]
    cases a with
    | none => rfl
    | some x =>
      show some (Addr.add x n).block = some x.block
      unfold Addr.add
      split <;> rfl
theorem Wrk.lost {b g n c : Nat} {a : Option Addr} {w : World} {xs : List Int} (h : Wrk b w g (.slice a n c) xs) :
    Wrk b (w.setCell ⟨g, 0, none⟩ (.slice (if c = n then a else Option.map (fun x => x.add n) a) 0 (c - n))) g (.slice (if c = n then a else Option.map (fun x => x.add n) a) 0 (c - n)) [] :=
  h.store h.own.lost (by rw [own_lost]; exact h.apart)

/-- One more limb appended to a list of the call's own, wherever it begins. -/
theorem run_snocA {b : Nat} {w : World} {v : Value} {zs : List Int} (ty : TypeId) (h : OwnA b w v zs) (hn : zs.length ≤ 1000000) (hb : b ≤ w.heap.size) (ad : Addr) (z : Int) (hc : w.cell? ad = some (.int .i64 z)) :
    ∃ v' w', (Builtin.append_ #[42, 42] ty #[v, .slice (some ad) 1 1]).run Tryd.prog w = .ok v' w' ∧ OwnA b w' v' (zs ++ [z]) ∧ w.grownBy w' v.ownBlock ∧ (∀ k, v'.ownBlock = some k → v.ownBlock = some k ∨ w.heap.size ≤ k) := by
  obtain ⟨i0, hi0, hz0, hz1, hz2⟩ := info_parts Tryd.info3'
  have hb8 : (zs.length + 1) * 8 ≤ 140737488355328 := by omega
  have h63 : zs.length + 1 ≤ maxLen := by unfold maxLen; omega
  have h1 : ∀ u ∈ [Value.int .i64 z], u.oneCell' = true := by intro u hu; simp at hu; subst hu; rfl
  rcases h with ⟨rfl, rfl⟩ | ⟨g, off, cap, cur, rfl, hbg, hg, hle, hm, hs, hcc⟩
  · obtain ⟨v', w', hr, ho, hgr, -, hat⟩ := run_append_own_at (P := Tryd.prog) w b 42 ty 3 i0 (.int .i64 0) 1 8 Tryd.underlying42 hi0 hz0 hz1 hz2 rfl (by decide) (.slice none 0 0) 0 [] (World.ownsRow_nil _ _ _ _) ad 1 1 [.int .i64 z] rfl (lit_cell hc) h1 (by simpa using h63) (by omega) hb
    exact ⟨v', w', hr, OwnA.of (zs := [z]) (by simpa using ho), hgr, fun k hk => hat.elim (fun e => .inl (by rw [← e]; exact hk)) (fun e => .inr (by rw [hk] at e; simp at e; omega))⟩
  · by_cases hroom : zs.length + 1 ≤ cap
    · have hr := run_append_room_cells (P := Tryd.prog) w 42 ty 3 i0 Tryd.underlying42 hi0 g off zs.length cap ad 1 1 [.int .i64 z] (by simp [hz1]) (lit_cell hc) h1 hroom
        (fun j hj => by
          simp only [List.length_singleton] at hj
          obtain rfl : j = 0 := by omega
          simp only [hz1, Nat.mul_one, Nat.add_zero, World.cell?, hg]
          have : off + zs.length < cur.size := by omega
          simp [this])
        (fun j hj => by simp [World.frozen?, hg])
      rw [hz1, Nat.mul_one] at hr
      refine ⟨_, _, hr, ?_, ⟨rfl, rfl, rfl, by simp [World.setCells, World.setCell], fun k hk ho => ?_⟩, fun k hk => .inl hk⟩
      · refine .inr ⟨g, off, cap, cur.setIfInBounds (off + zs.length) (.int .i64 z), by simp, hbg, ?_, by simpa using hroom, hm, by simpa using hs, fun i hi => ?_⟩
        · unfold World.setCells World.setCells World.setCell
          simp [Array.getElem?_modify, hg]
        · simp only [List.length_append, List.length_singleton] at hi
          rw [Array.getElem?_setIfInBounds]
          by_cases e : i = zs.length
          · subst e
            have : off + zs.length < cur.size := by omega
            simp [this, List.getD]
          · rw [if_neg (by omega), hcc i (by omega)]
            have : i < zs.length := by omega
            simp [List.getD, List.getElem?_append, this]
      · simp only [World.setCells]
        exact Below.heap_setCell _ _ _ _ (fun e => ho (by simp [Value.ownBlock, e]))
    · have hrow : Row .i64 true b w.heap.size w (.slice (some ⟨g, off, none⟩) zs.length cap) zs := OwnA.row (.inr ⟨g, off, cap, cur, rfl, hbg, hg, hle, hm, hs, hcc⟩)
      have holds : ∀ j u, (zs.map (Value.int .i64))[j]? = some u → w.cell? ((⟨g, off, none⟩ : Addr).add j) = some u := by
        intro j u hj
        by_cases hz : zs = []
        · subst hz; simp at hj
        · obtain ⟨g', o', c', e', -, -, hn'⟩ := hrow.news hz
          cases e'
          exact hn' j u hj
      obtain ⟨v', w', hr, ho, hgr⟩ := run_append_arg_grows (P := Tryd.prog) w 42 ty 3 i0 (.int .i64 0) 1 8 Tryd.underlying42 hi0 hz0 hz1 hz2 rfl (by decide) ⟨g, off, none⟩ zs.length cap (zs.map (Value.int .i64)) (by simp) holds ad 1 1 [.int .i64 z] rfl (lit_cell hc) (by omega) h63 hb8
      have hgr' : w.grownBy w' (Value.slice (some ⟨g, off, none⟩) zs.length cap).ownBlock := ⟨hgr.os, hgr.tape, hgr.output, hgr.size, fun k hk _ => hgr.block k hk (by simp)⟩
      have hO : OwnA w.heap.size w' v' (zs ++ [z]) := OwnA.of (by simpa using ho)
      refine ⟨v', w', hr, hO.less (fun i hi => by have := (hO.lt hi).1; omega), hgr', fun k hk => .inr (hO.lt hk).1⟩

end Go.Proofs.YtlenocminckbkaaDoor

namespace Go.Proofs.YtlenocminckbkaaDoor
open Go.RowKit
set_option linter.unusedVariables false
set_option maxRecDepth 8000
set_option linter.unusedSimpArgs false

set_option maxHeartbeats 4000000 in
theorem trim_wrk {b g : Nat} {v : Value} {zs : List Int} (w : World) (h : Wrk b w g v zs) (hl : Lim zs) :
    Calls Tryd.prog 81 #[.pointer (some ⟨g, 0, none⟩)] w fun e w' => (∃ r, e = .returned r) ∧ ∃ u, Wrk b w' g u (limbs (val zs).toNat) ∧ u.ownBlock = v.ownBlock ∧ Mod (fun i => i = g) w w' ∧ SameSide g w w' := by
  have hm := h.row.len
  unfold maxLen at hm
  have HL := hide hl
  clear hl
  go_enter Tryd.func81, Tryd.ntmps81
  go_wp2
  go_loopw [] (fun wr => ∃ (m : Nat) (u : Value), m ≤ zs.length ∧ Hid (∀ i, m ≤ i → i < zs.length → zs.getD i 0 = 0) ∧ Wrk b wr g u (zs.take m) ∧ Hid (u.ownBlock = v.ownBlock) ∧ Mod (fun i => i = g) w wr ∧ SameSide g w wr) (fun wr => lenAt wr g)
  case atStart => exact ⟨zs.length, v, Nat.le_refl _, hide (fun i h1 h2 => by omega), by rw [List.take_length]; exact h, hide rfl, Mod.refl _ _, SameSide.refl _ _⟩
  case round =>
    clear h
    obtain ⟨m, u, hmz, hz, n, ho, hmod, hsd⟩ := hrel
    have SS := hide hsd
    clear hsd
    have hlen : (zs.take m).length = m := by simp; omega
    have hlo := n.loose
    by_cases h0 : m = 0
    · subst h0
      obtain ⟨a1, c1, hv⟩ := n.form
      rw [hlen] at hv
      subst hv
      have hce := n.cell
      have e1 := take_limbs zs (unhide HL) 0 (by omega) (unhide hz) (.inl rfl)
      rw [e1] at n
      have NN := hide n
      have MM := hide hmod
      have hd : decide ((0 : Int) < ((0 : Nat) : Int)) = false := rfl
      clear e1 n hmod hlen hz
      go_wp2
      go_quiet (fail)
      go_wp2
      exact bodyPost_end (v := .tuple #[]) (by simp [results, Tryd.results81, go_sem]) rfl ⟨⟨_, rfl⟩, _, (unhide NN).kept ((Kept.refl 0 0 _).drewN _), unhide ho, (unhide MM).drewN _, (unhide SS).drewN _⟩
    · obtain ⟨gb, off, cap, hv, hle, hxz, hfz, hgb, -⟩ := n.at (m - 1) (by omega)
      rw [hlen] at hv hle
      subst hv
      have hce := n.cell
      have hz1 : (zs.take m).getD (m - 1) 0 = zs.getD (m - 1) 0 := by
        simp only [List.getD, List.getElem?_take]
        rw [if_pos (by omega)]
      rw [hz1] at hxz
      have hpos : (0 : Int) < (m : Int) := by omega
      have hposN : 0 < m := by omega
      have h1m : (1 : Int) ≤ (m : Int) := by omega
      have hcap : (m : Int) - 1 ≤ (cap : Int) := by omega
      have ew : IntKind.i64.wrap ((m : Int) - 1) = (m : Int) - 1 := wrap_small _ (by omega) (by omega)
      have et : ((m : Int) - 1).toNat = m - 1 := by omega
      have hi0 : (0 : Int) ≤ (m : Int) - 1 := by omega
      have hi1 : (m : Int) - 1 < (m : Int) := by omega
      have hz1' : ∀ z, zs.getD (m - 1) 0 = z → (z = 0 → ∀ i, m - 1 ≤ i → i < zs.length → zs.getD i 0 = 0) ∧ (z ≠ 0 → zs.take m = limbs (val zs).toNat) := by
        intro z e
        refine ⟨fun e0 i h1 h2 => ?_, fun e0 => take_limbs zs (unhide HL) m (by omega) (unhide hz) (.inr (by rw [e]; exact e0))⟩
        by_cases h3 : i = m - 1
        · rw [h3, e, e0]
        · exact unhide hz i (by omega) h2
      generalize zs.getD (m - 1) 0 = zl at *
      obtain ⟨hza, hzb⟩ := hz1' zl rfl
      clear hz1' hz
      by_cases hzz : zl = 0
      · subst hzz
        have HZ := hide (hza rfl)
        have NC := hide (fun k => (n.kept ((Kept.refl 0 0 _).drewN k)).cut (m - 1) (by omega))
        have MC := hide (fun k => (hmod.drewN k).set (p := ⟨g, 0, none⟩) (.inl rfl) (.slice (some ⟨gb, off, none⟩) (m - 1) cap))
        have e1 : (zs.take m).take (m - 1) = zs.take (m - 1) := by rw [List.take_take, Nat.min_eq_left (by omega)]
        have E1 := hide e1
        clear hza hzb n hmod hlen e1
        go_wp2
        go_quiet (fail)
        go_wp2
        go_region
        go_wp2
        go_roundw
        case rel => exact ⟨m - 1, .slice (some ⟨gb, off, none⟩) (m - 1) cap, by omega, HZ, by rw [← unhide E1]; exact unhide NC _, hide (unhide ho), unhide MC _, ((unhide SS).drewN _).set0 _⟩
        case measure => rw [lenAt_of hce, lenAt_of (unhide NC _).cell]; omega
      · have e1 := hzb hzz
        rw [e1] at n
        have NN := hide n
        have MM := hide hmod
        have hb : (zl == 0) = false := beq_eq_false_iff_ne.2 hzz
        clear e1 n hmod hlen hza hzb
        go_wp2
        go_quiet (fail)
        go_wp2
        exact bodyPost_end (v := .tuple #[]) (by simp [results, Tryd.results81, go_sem]) rfl ⟨⟨_, rfl⟩, _, (unhide NN).kept ((Kept.refl 0 0 _).drewN _), unhide ho, (unhide MM).drewN _, (unhide SS).drewN _⟩

set_option maxHeartbeats 8000000 in
theorem shiftDown_wrk {b g : Nat} {v : Value} {xs : List Int} (w : World) (h : Wrk b w g v xs) (hx : Lim xs) (nx : xs.length ≤ 100000) (k : Nat) (hk : (k : Int) ≤ 9223372036854775807) :
    Calls Tryd.prog 61 #[.pointer (some ⟨g, 0, none⟩), .int .i64 (k : Int)] w fun e w' => (∃ r, e = .returned r) ∧ ∃ u, Wrk b w' g u (limbs ((val xs).toNat / 2 ^ k)) ∧ u.ownBlock = v.ownBlock ∧ Mod (Own1 g v) w w' ∧ SameSide g w w' := by
  obtain ⟨q, s, hs, rfl⟩ : ∃ q s : Nat, s < 16 ∧ k = 16 * q + s := ⟨k / 16, k % 16, by omega, by omega⟩
  obtain ⟨K, hK⟩ : ∃ K : Int, K = ((16 * q + s : Nat) : Int) := ⟨_, rfl⟩
  have e3 : K.tdiv 16 = (q : Int) := by rw [Int.tdiv_eq_ediv_of_nonneg (by omega)]; omega
  have e4 : K.tmod 16 = (s : Int) := by rw [Int.tmod_eq_emod_of_nonneg (by omega)]; omega
  have hq63 : (q : Int) ≤ 9223372036854775807 := by omega
  have hKK : 0 ≤ K ∧ K ≤ 9223372036854775807 := by omega
  rw [← hK]
  generalize hA : (val xs).toNat / 2 ^ (16 * q + s) = A
  have HA := hide hA
  clear hK hA hk
  have hlt := h.lt
  have hce := h.cell
  have hlo := h.loose
  have hs0 : ¬ ((s : Int) < 0) := by omega
  have hs64 : (s : Int) < 64 := by omega
  by_cases hqn : q < xs.length
  · have hmin : min (q : Int) (xs.length : Int) = (q : Int) := by omega
    obtain ⟨gb, off, cap, hv, -⟩ := h.at q hqn
    subst hv
    have hm := h.row
    obtain ⟨a', c', e', hm1, hm2, -⟩ := hm
    cases e'
    have hq1 : (q : Int) ≤ (xs.length : Int) := by omega
    have hq2 : (xs.length : Int) ≤ (cap : Int) := by omega
    have hcq : ¬ cap = q := by omega
    obtain ⟨m, hm⟩ : ∃ m, m = xs.length - q := ⟨_, rfl⟩
    obtain ⟨Y, hY⟩ : ∃ Y, Y = xs.drop q := ⟨_, rfl⟩
    have hYl : Y.length = m := by rw [hY, hm]; simp
    have hYx : Lim Y := by rw [hY]; exact hx.drop q
    have hgb : b ≤ gb := (h.own.lt (k := gb) rfl).1
    have wl := (h.tail q rfl hqn).kept (Kept.refl 0 0 _).drew
    have ml := ((Mod.refl (Own1 g (.slice (some ⟨gb, off, none⟩) xs.length cap)) w).set (p := ⟨g, 0, none⟩) (.inl (.inl rfl)) (.slice (some ⟨gb, off + q, none⟩) m (cap - q))).kept (Kept.refl 0 0 _).drew
    rw [← hm, ← hY] at wl
    have HM := hide hm
    have hAv : Hid (limbs (val (sdn ((2 ^ s : Nat) : Int) Y)).toNat = limbs A) := by
      show _ = _
      rw [sdn_val s (by omega) hYx, hY, shr_val hx q s (by omega), unhide HA]
    have WL := hide wl
    have ML := hide ml
    have hap := h.apart
    have hgne : gb ≠ g := fun e => hap (by rw [e]; rfl)
    clear hap
    have hm63 : (m : Int) ≤ 100000 := by omega
    clear h hm1 hm2 HA hY wl ml hm
    go_enter Tryd.func61, Tryd.ntmps61
    go_wp2
    go_region
    rw [← unhide HM]
    have wl := unhide WL
    have ml := unhide ML
    have sl : SameSide g w (w.setCell ⟨g, 0, none⟩ (.slice (some ⟨gb, off + q, none⟩) m (cap - q))).drew := (SameSide.refl g w).set0 _
    have SL := hide sl
    clear sl
    generalize (w.setCell ⟨g, 0, none⟩ (.slice (some ⟨gb, off + q, none⟩) m (cap - q))).drew = W at *
    have hce5 := wl.cell
    clear hce hlo WL ML
    go_wp2
    clear hce5
    go_loopw [32] (fun ii wr => ∃ i : Nat, ii = .int .i64 (i : Int) ∧ i ≤ m ∧ Wrk b wr g (.slice (some ⟨gb, off + q, none⟩) m (cap - q)) ((sdn ((2 ^ s : Nat) : Int) Y).take i ++ Y.drop i) ∧ Mod (Own1 g (.slice (some ⟨gb, off, none⟩) xs.length cap)) w wr ∧ SameSide g w wr) (fun ii _ => m - (intOf ii).toNat)
    case atStart => exact ⟨0, rfl, Nat.zero_le _, by simpa using wl, ml, unhide SL⟩
    case round =>
      clear wl ml SL
      obtain ⟨i, rfl, hi, wk, md, sd⟩ := hrel
      have SD := hide sd
      clear sd
      have hsl := sdn_length ((2 ^ s : Nat) : Int) Y
      have hlen : ((sdn ((2 ^ s : Nat) : Int) Y).take i ++ Y.drop i).length = m := by rw [sdn_len _ _ _ (by omega)]; exact hYl
      by_cases hB : i < m
      · have hcc := wk.cell
        obtain ⟨g1, off5, c5, e5, -, hx1, hf1, hg1, -⟩ := wk.at i (by omega)
        rw [hlen] at e5
        cases e5
        rw [sdn_mix _ _ _ _ (Nat.le_refl _) (by omega)] at hx1
        have hat := fun n => at_work _ (wk.kept ((Kept.refl 0 0 wr).drewN n)).work (i + 1) (by omega)
        rw [sdn_mix _ _ _ _ (by omega) (by omega)] at hat
        have hput := fun n => (wk.kept ((Kept.refl 0 0 wr).drewN n)).put i hlen.symm hB ((sdn ((2 ^ s : Nat) : Int) Y).getD i 0)
        rw [sdn_put _ _ _ (by omega)] at hput
        have hmd := fun n u => ((md.drewN n).set (p := ⟨gb, off + q + i, none⟩) (.inl (.inr rfl)) u)
        have hv := sdn_at ((2 ^ s : Nat) : Int) Y i (by omega)
        have h0 := hYx.at i
        have h1 := hYx.at (i + 1)
        generalize Y.getD i 0 = y0 at *
        generalize Y.getD (i + 1) 0 = y1 at *
        have ep : ((2 ^ s : Nat) : Int) = (2 : Int) ^ s := by simp
        rw [ep] at hv
        have hv2 : ((y1 * 65536 + y0) / 2 ^ s).tmod 65536 = (sdn ((2 ^ s : Nat) : Int) Y).getD i 0 := by
          rw [ep, Int.tmod_eq_emod_of_nonneg (Int.ediv_nonneg (by omega) (Int.le_of_lt (Int.pow_pos (by decide))))]
          rw [ep] at *
          exact hv.symm
        generalize (sdn ((2 ^ s : Nat) : Int) Y).getD i 0 = zi at *
        have HAT := hide hat
        have HPUT := hide hput
        have HV2 := hide hv2
        have HMD := hide hmd
        have hi2 : (i : Int) < (m : Int) := by omega
        have hwi : IntKind.i64.wrap ((i : Int) + 1) = (i : Int) + 1 := wrap_small _ (by omega) (by omega)
        have hb0 : 0 ≤ y1 * 65536 + y0 ∧ y1 * 65536 + y0 ≤ 4294967295 := by omega
        have hb1 : 0 ≤ y1 * 65536 ∧ y1 * 65536 ≤ 4294967295 := by omega
        have hw1 : IntKind.i64.wrap (y1 * 65536) = y1 * 65536 := wrap_small _ (by omega) (by omega)
        have hw2 : IntKind.i64.wrap (y1 * 65536 + y0) = y1 * 65536 + y0 := wrap_small _ (by omega) (by omega)
        clear hat hput hmd hv hv2 wk md hlen hsl ep
        go_wp2
        go_region_law (refine step_call_pure rfl 80 (.tmp 42) (.tmp 44) _ rfl (at_enter _) _ _ _ (by simp [Act.eval, Act.put]) (by simp [Act.eval, Act.put, hwi]) (unhide HAT 1) ?_)
        all_goals
          rw [unhide HV2]
          go_wp2
          go_roundw
          case rel => exact ⟨i + 1, by go_num, by omega, unhide HPUT 1, unhide HMD 1 _, ((unhide SD).drewN 1).far hgne _⟩
          case measure => simp [intOf]; omega
      · have hi2 : ¬ (i : Int) < (m : Int) := by omega
        have him : i = m := by omega
        rw [him, List.take_of_length_le (by omega), List.drop_of_length_le (by omega), List.append_nil] at wk
        clear hlen hsl him
        go_wp2_with fail
        refine (trim_wrk _ wk (sdn_lim _ _)).mono ?_
        rintro e w6 ⟨⟨r6, rfl⟩, u6, n6, o6, m6, sd6⟩
        rw [unhide hAv] at n6
        have N6 := hide n6
        have O6 := hide o6
        clear o6
        have M6 := hide (md.then m6 (fun i e => .inl (.inl e)))
        have S6 := hide ((unhide SD).trans sd6)
        clear n6 m6 wk md sd6
        go_wp2
        exact bodyPost_end (v := .tuple #[]) (by simp [results, Tryd.results61, go_sem]) rfl ⟨⟨_, rfl⟩, _, unhide N6, unhide O6, unhide M6, unhide S6⟩
  · have hle : (xs.length : Int) ≤ (q : Int) := by omega
    have hA0 : A = 0 := by
      rw [← unhide HA]
      have e1 := val_lt hx
      have e2 := val_nonneg hx
      rw [pow_limb] at e1
      refine Nat.div_eq_of_lt (Nat.lt_of_lt_of_le (m := 2 ^ (16 * xs.length)) (by omega) (Nat.pow_le_pow_right (by decide) (by omega)))
    rw [hA0, limbs_zero]
    obtain ⟨a1, c1, hv⟩ := h.form
    subst hv
    have hm := h.row
    obtain ⟨a', c', e', hm1, hm2, -⟩ := hm
    cases e'
    have hcap : (xs.length : Int) ≤ (c1 : Int) := by omega
    have hmin : min (q : Int) (xs.length : Int) = (xs.length : Int) := by omega
    have ol := own_lost a1 c1 xs.length 0 (c1 - xs.length)
    have OL := hide ol
    clear ol
    have WL := hide (h.lost.kept (Kept.refl 0 0 _).drew)
    have MM := hide (fun (u : Value) => ((Mod.refl (Own1 g (.slice a1 xs.length c1)) w).set (p := ⟨g, 0, none⟩) (.inl (.inl rfl)) u).kept (Kept.refl 0 0 _).drew)
    clear h hm1 hm2 HA hA0
    go_enter Tryd.func61, Tryd.ntmps61
    go_wp2
    go_region
    generalize (if c1 = xs.length then a1 else Option.map (fun x => x.add xs.length) a1) = a5 at *
    have wl := unhide WL
    have ml := unhide MM (.slice a5 0 (c1 - xs.length))
    have sl : SameSide g w (w.setCell ⟨g, 0, none⟩ (.slice a5 0 (c1 - xs.length))).drew := (SameSide.refl g w).set0 _
    have SL := hide sl
    clear sl
    generalize (w.setCell ⟨g, 0, none⟩ (.slice a5 0 (c1 - xs.length))).drew = W at *
    have hce5 := wl.cell
    clear hce hlo
    go_wp2
    go_loopw [32] (fun ii wr => ii = .int .i64 0 ∧ wr = W) (fun _ _ => 0)
    case atStart => exact ⟨rfl, rfl⟩
    case round =>
      obtain ⟨rfl, rfl⟩ := hrel
      clear hce5
      go_wp2_with fail
      refine (trim_wrk _ wl Lim.nil).mono ?_
      rintro e w6 ⟨⟨r6, rfl⟩, u6, n6, o6, m6, sd6⟩
      have N6 := hide n6
      have O6 := hide (o6.trans (unhide OL))
      clear o6
      have M6 := hide (ml.then m6 (fun i e => .inl (.inl e)))
      have S6 := hide ((unhide SL).trans sd6)
      clear sd6
      clear n6 m6 wl ml
      go_wp2
      exact bodyPost_end (v := .tuple #[]) (by simp [results, Tryd.results61, go_sem]) rfl ⟨⟨_, rfl⟩, _, unhide N6, unhide O6, unhide M6, unhide S6⟩

end Go.Proofs.YtlenocminckbkaaDoor

namespace Go.Proofs.YtlenocminckbkaaDoor
open Go.RowKit
set_option linter.unusedVariables false
set_option maxRecDepth 8000
set_option linter.unusedSimpArgs false

/-- Two numbers of which the first, wherever its list begins, is written into. -/
structure TwoA (w0 : World) (S : Nat → Prop) (b b2 : Nat) (w : World) (g1 g2 : Nat) (u1 u2 : Value) (xs ys : List Int) : Prop where
  n1 : Wrk b w g1 u1 xs
  n2 : Num b2 w g2 u2 ys
  ne : g1 ≠ g2
  o12 : u1.ownBlock ≠ some g2
  o21 : u2.ownBlock ≠ some g1
  oo : ∀ k, u1.ownBlock = some k → u2.ownBlock ≠ some k
  o1 : ∀ k, u1.ownBlock = some k → S k ∨ w0.heap.size ≤ k
  s1 : S g1
  m : Mod S w0 w
  sd : SameSide g1 w0 w
  hb : b ≤ w0.heap.size

theorem TwoA.kept {w0 W w' : World} {S : Nat → Prop} {b b2 g1 g2 : Nat} {u1 u2 : Value} {xs ys : List Int} (t : TwoA w0 S b b2 W g1 g2 u1 u2 xs ys) (k : Kept 0 0 W w') : TwoA w0 S b b2 w' g1 g2 u1 u2 xs ys :=
  ⟨t.n1.kept k, t.n2.kept k, t.ne, t.o12, t.o21, t.oo, t.o1, t.s1, t.m.kept k, t.sd.trans (k.side t.n1.lt), t.hb⟩
theorem TwoA.put {w0 wr : World} {S : Nat → Prop} {b b2 g1 g2 gb off cap j : Nat} {u2 : Value} {zs ys : List Int} {n : Nat} (t : TwoA w0 S b b2 wr g1 g2 (.slice (some ⟨gb, off, none⟩) n cap) u2 zs ys) (hn : zs.length = n) (hj : j < n) (z : Int) :
    TwoA w0 S b b2 (wr.setCell ⟨gb, off + j, none⟩ (.int .i64 z)) g1 g2 (.slice (some ⟨gb, off, none⟩) n cap) u2 (zs.set j z) ys := by
  have n1 : gb ≠ g1 := fun e => t.n1.apart (by simp [Value.ownBlock, e])
  have n2 : gb ≠ g2 := fun e => t.o12 (by simp [Value.ownBlock, e])
  have n3 : u2.ownBlock ≠ some gb := t.oo gb rfl
  exact ⟨t.n1.put j hn.symm hj z, t.n2.mod (S := fun i => i = gb) (Mod.set (S := fun i => i = gb) (Mod.refl _ _) (p := ⟨gb, off + j, none⟩) (.inl rfl) _) (fun e => n2 e.symm) (fun i hi e => n3 (by rw [hi, e])),
    t.ne, t.o12, t.o21, t.oo, t.o1, t.s1, t.m.set (p := ⟨gb, off + j, none⟩) (t.o1 gb rfl) _, t.sd.far n1 _, t.hb⟩
theorem TwoA.snoc {w0 w w' : World} {S : Nat → Prop} {b b2 g1 g2 : Nat} {v v' u2 : Value} {zs ys qs : List Int} (t : TwoA w0 S b b2 w g1 g2 v u2 zs ys) (o : Obj) (hg : (w.alloc o).grownBy w' v.ownBlock) (hat : ∀ k, v'.ownBlock = some k → v.ownBlock = some k ∨ w.heap.size + 1 ≤ k)
    (hown : OwnA b w' v' qs) :
    w'.cell? ⟨g1, 0, none⟩ = some v ∧ w'.frozen? ⟨g1, 0, none⟩ = false ∧ TwoA w0 S b b2 (w'.setCell ⟨g1, 0, none⟩ v') g1 g2 v' u2 qs ys := by
  have k := (Kept.refl 0 0 w).alloc o
  have m1 : Mod (fun i => v.ownBlock = some i) (w.alloc o) w' := (Mod.refl _ _).grow hg (fun i hi => .inl hi)
  have hlt := t.n1.lt
  have hlt2 := t.n2.lt
  have hsz := t.m.size
  have h1 := m1.cell (a := ⟨g1, 0, none⟩) t.n1.apart (k.cell0 t.n1.cell)
  have h2 := m1.loose (a := ⟨g1, 0, none⟩) t.n1.apart (by simp; omega) (k.loose0 hlt t.n1.loose)
  have ha : v'.ownBlock ≠ some g1 := fun e => (hat g1 e).elim t.n1.apart (fun h => by omega)
  have mm : Mod S w0 w' := (t.m.kept k).grow hg (fun i hi => t.o1 i hi)
  have sd' : SameSide g1 w0 w' := t.sd.trans ((k.side hlt).trans (m1.side (by simp; omega) t.n1.apart))
  have nn : Num b2 w' g2 u2 ys := (t.n2.kept k).mod m1 t.o12 (fun i hi e => t.oo i e hi)
  refine ⟨h1, h2, ⟨cell_on _ _ _ _ _ h1, by rw [frozen_set]; exact h2, hown.aside ha _, ha⟩, nn.mod (S := fun i => i = g1) (Mod.set (S := fun i => i = g1) (Mod.refl _ _) (p := ⟨g1, 0, none⟩) (.inl rfl) _) (fun e => t.ne e.symm) (fun i hi e => t.o21 (by rw [hi, e])),
    t.ne, fun e => (hat g2 e).elim t.o12 (fun h => by omega), t.o21, fun k hk e => (hat k hk).elim (fun h => t.oo k h e) (fun h => by have := (t.n2.own.lt k e).2; omega),
    fun k hk => (hat k hk).elim (fun h => t.o1 k h) (fun h => .inr (by omega)), t.s1, mm.set (p := ⟨g1, 0, none⟩) (.inl t.s1) _, sd'.set0 _, t.hb⟩

/-- One more limb appended to a list of the call's own, wherever it begins. -/
theorem wpList_snocA {ops : Array Oper} {rest : List Oper} {o : Oper} {a : Act} {Q : Exit → Act → World → Prop} {b : Nat} {wr : World} {v : Value} {zs : List Int} (hgd : o.guard = none) (s x : Operand)
    (ho : o.op = .call { callee := .builtin .append, args := #[s, x], argTypes := #[42, 42] }) (hs : a.eval s = v) (ad : Addr) (hx : a.eval x = .slice (some ad) 1 1) (z : Int)
    (hc : wr.cell? ad = some (.int .i64 z)) (hown : OwnA b wr v zs) (hn : zs.length ≤ 1000000) (hb : b ≤ wr.heap.size)
    (h : ∀ v' w', OwnA b w' v' (zs ++ [z]) → wr.grownBy w' v.ownBlock → Hid (∀ k, v'.ownBlock = some k → v.ownBlock = some k ∨ wr.heap.size ≤ k) → wpList Tryd.prog ops Q rest (a.put o.dst v') w') : wpList Tryd.prog ops Q (o :: rest) a wr := by
  refine wpList_plain hgd fun K hK => ?_
  obtain ⟨v', w', hr, h2, h3, h4⟩ := run_snocA o.type hown hn hb ad z hc
  unfold Oper.wp execOp
  simp only [ho, resolve, invoke, builtin, Sem.run_bind, Sem.run_pure, Result.andThen_ok, List.map_toArray, List.map_cons, List.map_nil, hs, hx, hr]
  exact hK _ _ (h v' w' h2 h3 (hide h4))

set_option maxHeartbeats 4000000 in
theorem add_twoA {w0 w : World} {S : Nat → Prop} {b b2 g1 g2 : Nat} {xs ys : List Int} {u1 u2 : Value} (t0 : TwoA w0 S b b2 w g1 g2 u1 u2 xs ys) (hx : Nrm xs) (hy : Nrm ys) (hl1 : xs.length ≤ 100000) (hl2 : ys.length ≤ 100000) :
    Calls Tryd.prog 64 #[.pointer (some ⟨g1, 0, none⟩), .pointer (some ⟨g2, 0, none⟩)] w fun e w' => (∃ r, e = .returned r) ∧ ∃ u1, TwoA w0 S b b2 w' g1 g2 u1 u2 (limbs (val xs + val ys).toNat) ys := by
  obtain ⟨a2, c2, rfl⟩ := t0.n2.form
  generalize hS : val xs + val ys = SS
  have h0 := val_nonneg hx.1
  have h0' := val_nonneg hy.1
  obtain ⟨M0, hM0⟩ : ∃ M0 : Nat, M0 = 100000 := ⟨_, rfl⟩
  obtain ⟨M, hMM⟩ : ∃ M : Nat, M = M0 + 1 := ⟨_, rfl⟩
  have hSb : SS < 65536 ^ M := by
    have e1 := val_lt hx.1
    have e2 := val_lt hy.1
    have e3 := pow_mono (a := xs.length) (b := M0) (by omega)
    have e4 := pow_mono (a := ys.length) (b := M0) (by omega)
    have e5 : (65536 : Int) ^ M = 65536 ^ M0 * 65536 := by rw [hMM]; exact Int.pow_succ _ _
    have e6 : (0 : Int) < 65536 ^ M0 := Int.pow_pos (by decide)
    generalize (65536 : Int) ^ M0 = P at *
    omega
  have HMM : Hid (M = 100001) := by show _ = _; omega
  clear hMM hM0
  have hSt : Hid (xs = [] ∨ (65536 : Int) ^ (xs.length - 1) ≤ SS) := by
    by_cases e : xs = []
    · exact .inl e
    · exact .inr (by have := nrm_pow hx e; omega)
  have HSB := hide hSb
  have HY := hide hy
  have HS0 : Hid (val xs + 65536 ^ 0 * (0 + val (ys.drop 0)) = SS) := by show _ = _; simp; exact hS
  have hylim := hy.1
  have hSpos : 0 ≤ SS := by omega
  clear hSb hS hy h0 h0'
  go_enter Tryd.func64, Tryd.ntmps64
  go_wp2
  go_loopw [4, 5] (fun cc ii wr => ∃ (zs : List Int) (c i : Nat) (v : Value), cc = .int .i64 c ∧ ii = .int .i64 i ∧ c ≤ 1 ∧ i ≤ 100001 ∧ i ≤ zs.length ∧ Lim zs ∧ Hid (val zs + 65536 ^ i * (c + val (ys.drop i)) = SS) ∧ Hid (zs = [] ∨ (65536 : Int) ^ (zs.length - 1) ≤ SS) ∧ TwoA w0 S b b2 wr g1 g2 v (.slice a2 ys.length c2) zs ys) (fun _ ii _ => 100002 - (intOf ii).toNat)
  case atStart => exact ⟨xs, 0, 0, u1, rfl, rfl, by omega, by omega, by omega, hx.1, HS0, hSt, t0⟩
  case round =>
    clear t0 HS0 hSt
    obtain ⟨zs, c, i, v, rfl, rfl, hc1, hi1, hiz, hlim, hval, htop, t⟩ := hrel
    have hce2 := t.n2.cell
    by_cases hgo : i < ys.length ∨ 0 < c
    · have hD : 1 ≤ (c : Int) + val (ys.drop i) := by
        rcases hgo with h | h
        · have := drop_pos (unhide HY) i h; omega
        · have := val_nonneg ((unhide HY).1.drop i); omega
      have hSi : (65536 : Int) ^ i ≤ SS := by
        have e1 := unhide hval
        have e2 := val_nonneg hlim
        have e3 : (65536 : Int) ^ i * 1 ≤ 65536 ^ i * (c + val (ys.drop i)) := Int.mul_le_mul_of_nonneg_left hD (Int.le_of_lt (Int.pow_pos (by decide)))
        omega
      have hi2 : i ≤ 100000 := by
        rcases Nat.lt_or_ge 100000 i with h | h
        · have := pow_mono (a := M) (b := i) (by have := unhide HMM; omega)
          have := unhide HSB
          omega
        · exact h
      have hzl : zs.length ≤ 100001 := by
        rcases unhide htop with e | e
        · rw [e]; simp
        · rcases Nat.lt_or_ge 100001 zs.length with h | h
          · have := pow_mono (a := M) (b := zs.length - 1) (by have := unhide HMM; omega)
            have := unhide HSB
            omega
          · exact h
      have HSI := hide hSi
      clear hSi hD
      by_cases hi : i < zs.length
      · have hne : ((i : Int) == (zs.length : Int)) = false := beq_eq_false_iff_ne.2 (by omega)
        have hiL := hi
        have hlimL := hlim
        have hvalL := hval
        have htopL := htop
        obtain ⟨gb, off, cap, rfl, -, hxz, hfz, hgb, -⟩ := t.n1.at i hiL
        have hce1 := t.n1.cell
        rcases hgo with hgo | hgo
        · have hgo' : (i : Int) < (ys.length : Int) := by omega
          go_wp2
          have hzr := hlimL.at i
          have hyr := hylim.at i
          have hyd := val_drop ys i
          have hput := add_put (zs) ys i hiL c SS _ _ rfl hyd (unhide hvalL)
          have hsetl := fun z (h0 : 0 ≤ z) (h1 : z ≤ 65535) => hlimL.set i h0 h1
          have hatc := fun n => at_impl (wr.drewN n) (t.n2.kept ((Kept.refl 0 0 _).drewN n)) i (by omega)
          have HAT := hide hatc
          have tp := fun n z => (t.kept ((Kept.refl 0 0 _).drewN n)).put (j := i) rfl hiL z
          have TP := hide tp
          have HSL := hide hsetl
          have hlen : (zs).length = zs.length := rfl
          try rw [hlen] at hce1
          have hlenset : ∀ z, ((zs).set i z).length = zs.length := fun z => by rw [List.length_set, hlen]
          have HLS := hide hlenset
          generalize hz : (zs).getD i 0 = z at *
          generalize hy2 : ys.getD i 0 = y at *
          have HP := hide hput
          have hs0 : 0 ≤ z + y + c ∧ z + y + c ≤ 131071 := by omega
          have em : (z + y + (c : Int)).tmod 65536 = (z + y + c) % 65536 := by rw [Int.tmod_eq_emod_of_nonneg (by omega)]
          have ed : (z + y + (c : Int)).tdiv 65536 = (z + y + c) / 65536 := by rw [Int.tdiv_eq_ediv_of_nonneg (by omega)]
          have hlt2 : (i : Int) < ((zs.length : Nat) : Int) := by omega
          obtain ⟨c', hc'⟩ : ∃ c' : Nat, (z + y + (c : Int)) / 65536 = c' := ⟨((z + y + (c : Int)) / 65536).toNat, by omega⟩
          clear hatc tp hput hyd hz hy2 t hlimL hvalL hsetl hlenset hlen
          go_quiet ((go_at_call 80; exact (unhide HAT _).mono (fun e w' h => ⟨h.1, _, h.2⟩)))
          go_wp2
          go_roundw
          case rel => exact ⟨(zs).set i ((z + y + c) % 65536), c', i + 1, _, rfl, by go_num, by omega, by omega, by rw [unhide HLS]; omega, unhide HSL _ (by omega) (by omega), by have := unhide HP; rw [hc'] at this; exact this, by rcases unhide htopL with e | e; exact .inl (by rw [e]; rfl); exact .inr (by rw [unhide HLS]; exact e), unhide TP _ _⟩
          case measure => simp [intOf]; omega
        · by_cases hgo2 : i < ys.length
          · have hgo' : (i : Int) < (ys.length : Int) := by omega
            go_wp2
            have hzr := hlimL.at i
            have hyr := hylim.at i
            have hyd := val_drop ys i
            have hput := add_put (zs) ys i hiL c SS _ _ rfl hyd (unhide hvalL)
            have hsetl := fun z (h0 : 0 ≤ z) (h1 : z ≤ 65535) => hlimL.set i h0 h1
            have hatc := fun n => at_impl (wr.drewN n) (t.n2.kept ((Kept.refl 0 0 _).drewN n)) i (by omega)
            have HAT := hide hatc
            have tp := fun n z => (t.kept ((Kept.refl 0 0 _).drewN n)).put (j := i) rfl hiL z
            have TP := hide tp
            have HSL := hide hsetl
            have hlen : (zs).length = zs.length := rfl
            try rw [hlen] at hce1
            have hlenset : ∀ z, ((zs).set i z).length = zs.length := fun z => by rw [List.length_set, hlen]
            have HLS := hide hlenset
            generalize hz : (zs).getD i 0 = z at *
            generalize hy2 : ys.getD i 0 = y at *
            have HP := hide hput
            have hs0 : 0 ≤ z + y + c ∧ z + y + c ≤ 131071 := by omega
            have em : (z + y + (c : Int)).tmod 65536 = (z + y + c) % 65536 := by rw [Int.tmod_eq_emod_of_nonneg (by omega)]
            have ed : (z + y + (c : Int)).tdiv 65536 = (z + y + c) / 65536 := by rw [Int.tdiv_eq_ediv_of_nonneg (by omega)]
            have hlt2 : (i : Int) < ((zs.length : Nat) : Int) := by omega
            obtain ⟨c', hc'⟩ : ∃ c' : Nat, (z + y + (c : Int)) / 65536 = c' := ⟨((z + y + (c : Int)) / 65536).toNat, by omega⟩
            clear hatc tp hput hyd hz hy2 t hlimL hvalL hsetl hlenset hlen
            go_quiet ((go_at_call 80; exact (unhide HAT _).mono (fun e w' h => ⟨h.1, _, h.2⟩)))
            go_wp2
            go_roundw
            case rel => exact ⟨(zs).set i ((z + y + c) % 65536), c', i + 1, _, rfl, by go_num, by omega, by omega, by rw [unhide HLS]; omega, unhide HSL _ (by omega) (by omega), by have := unhide HP; rw [hc'] at this; exact this, by rcases unhide htopL with e | e; exact .inl (by rw [e]; rfl); exact .inr (by rw [unhide HLS]; exact e), unhide TP _ _⟩
            case measure => simp [intOf]; omega
          · have hgo' : ¬ (i : Int) < (ys.length : Int) := by omega
            have hgo3 : (0 : Int) < (c : Int) := by omega
            go_wp2
            have hzr := hlimL.at i
            have hyr := hylim.at i
            have hyd := val_drop ys i
            have hput := add_put (zs) ys i hiL c SS _ _ rfl hyd (unhide hvalL)
            have hsetl := fun z (h0 : 0 ≤ z) (h1 : z ≤ 65535) => hlimL.set i h0 h1
            have hatc := fun n => at_impl (wr.drewN n) (t.n2.kept ((Kept.refl 0 0 _).drewN n)) i (by omega)
            have HAT := hide hatc
            have tp := fun n z => (t.kept ((Kept.refl 0 0 _).drewN n)).put (j := i) rfl hiL z
            have TP := hide tp
            have HSL := hide hsetl
            have hlen : (zs).length = zs.length := rfl
            try rw [hlen] at hce1
            have hlenset : ∀ z, ((zs).set i z).length = zs.length := fun z => by rw [List.length_set, hlen]
            have HLS := hide hlenset
            generalize hz : (zs).getD i 0 = z at *
            generalize hy2 : ys.getD i 0 = y at *
            have HP := hide hput
            have hs0 : 0 ≤ z + y + c ∧ z + y + c ≤ 131071 := by omega
            have em : (z + y + (c : Int)).tmod 65536 = (z + y + c) % 65536 := by rw [Int.tmod_eq_emod_of_nonneg (by omega)]
            have ed : (z + y + (c : Int)).tdiv 65536 = (z + y + c) / 65536 := by rw [Int.tdiv_eq_ediv_of_nonneg (by omega)]
            have hlt2 : (i : Int) < ((zs.length : Nat) : Int) := by omega
            obtain ⟨c', hc'⟩ : ∃ c' : Nat, (z + y + (c : Int)) / 65536 = c' := ⟨((z + y + (c : Int)) / 65536).toNat, by omega⟩
            clear hatc tp hput hyd hz hy2 t hlimL hvalL hsetl hlenset hlen
            go_quiet ((go_at_call 80; exact (unhide HAT _).mono (fun e w' h => ⟨h.1, _, h.2⟩)))
            go_wp2
            go_roundw
            case rel => exact ⟨(zs).set i ((z + y + c) % 65536), c', i + 1, _, rfl, by go_num, by omega, by omega, by rw [unhide HLS]; omega, unhide HSL _ (by omega) (by omega), by have := unhide HP; rw [hc'] at this; exact this, by rcases unhide htopL with e | e; exact .inl (by rw [e]; rfl); exact .inr (by rw [unhide HLS]; exact e), unhide TP _ _⟩
            case measure => simp [intOf]; omega
      · have hie : i = zs.length := by omega
        have hne : ((i : Int) == (zs.length : Int)) = true := by simp [hie]
        obtain ⟨a1, d1, rfl⟩ := t.n1.form
        have hce1 := t.n1.cell
        have hlo1 := t.n1.loose
        have hown' := t.n1.own.kept ((Kept.refl 0 0 wr).alloc (.cells #[.int .i64 0] 3))
        have hl' : zs.length ≤ 1000000 := by omega
        have hbb : b ≤ (wr.alloc (.cells #[.int .i64 0] 3)).heap.size := by have := t.m.size; have := t.hb; simp; omega
        have HBB := hide hbb
        have hcc : (wr.alloc (.cells #[.int .i64 0] 3)).cell? ⟨wr.heap.size, 0, none⟩ = some (.int .i64 0) := new_cell_at _ _ _ _ rfl
        have HE := hide hie
        clear hbb hie
        by_cases hgo2 : i < ys.length
        · have hgo' : (i : Int) < (ys.length : Int) := by omega
          go_wp2_with (at_builtin; refine wpList_snocA rfl _ _ rfl rfl _ rfl 0 hcc hown' hl' (unhide HBB) ?_)
          intro v' w' hown2 hgrow hat
          replace hat := unhide hat
          obtain ⟨d1', d2', t2⟩ := t.snoc _ hgrow (by simpa using hat) hown2
          have hie := unhide HE
          have hlenA : (zs ++ [(0 : Int)]).length = i + 1 := by simp [hie]
          have hiL : i < (zs ++ [(0 : Int)]).length := by omega
          have hlimL : Lim (zs ++ [(0 : Int)]) := hlim.snoc (by omega) (by omega)
          have hvalL : Hid (val (zs ++ [(0 : Int)]) + 65536 ^ i * (c + val (ys.drop i)) = SS) := by have := unhide hval; show _ = _; rw [val_snoc]; simpa using this
          obtain ⟨gb, off, cap, hvv, -, hxz, hfz, hgb, -⟩ := t2.n1.at i hiL
          rw [hlenA] at hvv
          subst hvv
          have hce1' := t2.n1.cell
          have hce2' := t2.n2.cell
          have X1 := hide hce1'
          have X2 := hide hce2'
          have X3 := hide hxz
          have X4 := hide hfz
          generalize hwx : w'.setCell ⟨g1, 0, none⟩ (.slice (some ⟨gb, off, none⟩) (i + 1) cap) = wx at *
          clear hown' hown2 hgrow hat hce1' hce2' hxz hfz hcc t hce1 hlo1 hlim hval hie hl' hce2
          go_wp2
          have hce1 := unhide X1
          have hce2 := unhide X2
          have hxz := unhide X3
          have hfz := unhide X4
          try rw [hwx]
          have hzr := hlimL.at i
          have hyr := hylim.at i
          have hyd := val_drop ys i
          have hput := add_put (zs ++ [(0 : Int)]) ys i hiL c SS _ _ rfl hyd (unhide hvalL)
          have hsetl := fun z (h0 : 0 ≤ z) (h1 : z ≤ 65535) => hlimL.set i h0 h1
          have hatc := fun n => at_impl (wx.drewN n) (t2.n2.kept ((Kept.refl 0 0 _).drewN n)) i (by omega)
          have HAT := hide hatc
          have tp := fun n z => (t2.kept ((Kept.refl 0 0 _).drewN n)).put (j := i) hlenA (by omega) z
          have TP := hide tp
          have HSL := hide hsetl
          have hlen : (zs ++ [(0 : Int)]).length = (i + 1) := hlenA
          try rw [hlen] at hce1
          have hlenset : ∀ z, ((zs ++ [(0 : Int)]).set i z).length = (i + 1) := fun z => by rw [List.length_set, hlen]
          have HLS := hide hlenset
          generalize hz : (zs ++ [(0 : Int)]).getD i 0 = z at *
          generalize hy2 : ys.getD i 0 = y at *
          have HP := hide hput
          have hs0 : 0 ≤ z + y + c ∧ z + y + c ≤ 131071 := by omega
          have em : (z + y + (c : Int)).tmod 65536 = (z + y + c) % 65536 := by rw [Int.tmod_eq_emod_of_nonneg (by omega)]
          have ed : (z + y + (c : Int)).tdiv 65536 = (z + y + c) / 65536 := by rw [Int.tdiv_eq_ediv_of_nonneg (by omega)]
          have hlt2 : (i : Int) < (((i + 1) : Nat) : Int) := by omega
          obtain ⟨c', hc'⟩ : ∃ c' : Nat, (z + y + (c : Int)) / 65536 = c' := ⟨((z + y + (c : Int)) / 65536).toNat, by omega⟩
          clear hatc tp hput hyd hz hy2 t2 hlimL hvalL hsetl hlenset hlen
          go_quiet ((go_at_call 80; exact (unhide HAT _).mono (fun e w' h => ⟨h.1, _, h.2⟩)))
          go_wp2
          go_roundw
          case rel => exact ⟨(zs ++ [(0 : Int)]).set i ((z + y + c) % 65536), c', i + 1, _, rfl, by go_num, by omega, by omega, by rw [unhide HLS]; omega, unhide HSL _ (by omega) (by omega), by have := unhide HP; rw [hc'] at this; exact this, by refine .inr ?_; rw [unhide HLS]; exact unhide HSI, unhide TP _ _⟩
          case measure => simp [intOf]; omega
        · have hgo' : ¬ (i : Int) < (ys.length : Int) := by omega
          have hgo3 : (0 : Int) < (c : Int) := by omega
          go_wp2_with (at_builtin; refine wpList_snocA rfl _ _ rfl rfl _ rfl 0 hcc hown' hl' (unhide HBB) ?_)
          intro v' w' hown2 hgrow hat
          replace hat := unhide hat
          obtain ⟨d1', d2', t2⟩ := t.snoc _ hgrow (by simpa using hat) hown2
          have hie := unhide HE
          have hlenA : (zs ++ [(0 : Int)]).length = i + 1 := by simp [hie]
          have hiL : i < (zs ++ [(0 : Int)]).length := by omega
          have hlimL : Lim (zs ++ [(0 : Int)]) := hlim.snoc (by omega) (by omega)
          have hvalL : Hid (val (zs ++ [(0 : Int)]) + 65536 ^ i * (c + val (ys.drop i)) = SS) := by have := unhide hval; show _ = _; rw [val_snoc]; simpa using this
          obtain ⟨gb, off, cap, hvv, -, hxz, hfz, hgb, -⟩ := t2.n1.at i hiL
          rw [hlenA] at hvv
          subst hvv
          have hce1' := t2.n1.cell
          have hce2' := t2.n2.cell
          have X1 := hide hce1'
          have X2 := hide hce2'
          have X3 := hide hxz
          have X4 := hide hfz
          generalize hwx : w'.setCell ⟨g1, 0, none⟩ (.slice (some ⟨gb, off, none⟩) (i + 1) cap) = wx at *
          clear hown' hown2 hgrow hat hce1' hce2' hxz hfz hcc t hce1 hlo1 hlim hval hie hl' hce2
          go_wp2
          have hce1 := unhide X1
          have hce2 := unhide X2
          have hxz := unhide X3
          have hfz := unhide X4
          try rw [hwx]
          have hzr := hlimL.at i
          have hyr := hylim.at i
          have hyd := val_drop ys i
          have hput := add_put (zs ++ [(0 : Int)]) ys i hiL c SS _ _ rfl hyd (unhide hvalL)
          have hsetl := fun z (h0 : 0 ≤ z) (h1 : z ≤ 65535) => hlimL.set i h0 h1
          have hatc := fun n => at_impl (wx.drewN n) (t2.n2.kept ((Kept.refl 0 0 _).drewN n)) i (by omega)
          have HAT := hide hatc
          have tp := fun n z => (t2.kept ((Kept.refl 0 0 _).drewN n)).put (j := i) hlenA (by omega) z
          have TP := hide tp
          have HSL := hide hsetl
          have hlen : (zs ++ [(0 : Int)]).length = (i + 1) := hlenA
          try rw [hlen] at hce1
          have hlenset : ∀ z, ((zs ++ [(0 : Int)]).set i z).length = (i + 1) := fun z => by rw [List.length_set, hlen]
          have HLS := hide hlenset
          generalize hz : (zs ++ [(0 : Int)]).getD i 0 = z at *
          generalize hy2 : ys.getD i 0 = y at *
          have HP := hide hput
          have hs0 : 0 ≤ z + y + c ∧ z + y + c ≤ 131071 := by omega
          have em : (z + y + (c : Int)).tmod 65536 = (z + y + c) % 65536 := by rw [Int.tmod_eq_emod_of_nonneg (by omega)]
          have ed : (z + y + (c : Int)).tdiv 65536 = (z + y + c) / 65536 := by rw [Int.tdiv_eq_ediv_of_nonneg (by omega)]
          have hlt2 : (i : Int) < (((i + 1) : Nat) : Int) := by omega
          obtain ⟨c', hc'⟩ : ∃ c' : Nat, (z + y + (c : Int)) / 65536 = c' := ⟨((z + y + (c : Int)) / 65536).toNat, by omega⟩
          clear hatc tp hput hyd hz hy2 t2 hlimL hvalL hsetl hlenset hlen
          go_quiet ((go_at_call 80; exact (unhide HAT _).mono (fun e w' h => ⟨h.1, _, h.2⟩)))
          go_wp2
          go_roundw
          case rel => exact ⟨(zs ++ [(0 : Int)]).set i ((z + y + c) % 65536), c', i + 1, _, rfl, by go_num, by omega, by omega, by rw [unhide HLS]; omega, unhide HSL _ (by omega) (by omega), by have := unhide HP; rw [hc'] at this; exact this, by refine .inr ?_; rw [unhide HLS]; exact unhide HSI, unhide TP _ _⟩
          case measure => simp [intOf]; omega
    · have hgo1 : ¬ (i : Int) < (ys.length : Int) := by omega
      have hc0 : c = 0 := by omega
      subst hc0
      have e1 := unhide hval
      rw [List.drop_of_length_le (by omega)] at e1
      simp [val] at e1
      have e2 := limbs_of_le hlim (by have := unhide htop; rw [e1]; exact this)
      rw [e1] at e2
      rw [e2] at t
      have T1 := hide t
      clear t e2 e1 hval htop hlim
      go_wp2
      exact bodyPost_end (v := .tuple #[]) (by simp [results, Tryd.results64, go_sem]) rfl ⟨⟨_, rfl⟩, _, unhide T1⟩

end Go.Proofs.YtlenocminckbkaaDoor
