/-
  Numbers that are worked on: a cell that holds a list of limbs of the call's own. What stays of them when other blocks turn.
-/
import Derived.Test.YtdhponfpikclhaaHelpN
import Derived.Test.YtdhponfpikclhaaNat5
import Derived.Maps.AppendAt
import Derived.WalkLawsBesides
namespace Go.Proofs.Ytdhponfpikclhaa
open Go.RowKit
set_option linter.unusedVariables false
set_option maxRecDepth 8000

/-- Of what was there only blocks of S may have turned. -/
structure Mod (S : Nat → Prop) (w w' : World) : Prop where
  os : w'.os = w.os
  tape : w'.tape = w.tape
  output : w'.output = w.output
  size : w.heap.size ≤ w'.heap.size
  block : ∀ i, i < w.heap.size → ¬ S i → w'.heap[i]? = w.heap[i]?
/-- The blocks of a number whose cell is g and whose list is v. -/
def Own1 (g : Nat) (v : Value) (i : Nat) : Prop := i = g ∨ v.ownBlock = some i

theorem Mod.refl (S : Nat → Prop) (w : World) : Mod S w w := ⟨rfl, rfl, rfl, Nat.le_refl _, fun _ _ _ => rfl⟩
theorem Mod.trans {S : Nat → Prop} {a b c : World} (h : Mod S a b) (k : Mod S b c) : Mod S a c :=
  ⟨k.os.trans h.os, k.tape.trans h.tape, k.output.trans h.output, Nat.le_trans h.size k.size, fun i hi ho => (k.block i (Nat.lt_of_lt_of_le hi h.size) ho).trans (h.block i hi ho)⟩
/-- What turns in a second step may be new since the first. -/
theorem Mod.then {S T : Nat → Prop} {a b c : World} (h : Mod S a b) (k : Mod T b c) (hT : ∀ i, T i → S i ∨ a.heap.size ≤ i) : Mod S a c :=
  ⟨k.os.trans h.os, k.tape.trans h.tape, k.output.trans h.output, Nat.le_trans h.size k.size, fun i hi ho => (k.block i (Nat.lt_of_lt_of_le hi h.size) (fun ht => (hT i ht).elim ho (by omega))).trans (h.block i hi ho)⟩
theorem Mod.kept {S : Nat → Prop} {a b c : World} (h : Mod S a b) (k : Kept 0 0 b c) : Mod S a c :=
  ⟨k.os.trans h.os, k.tape.trans h.tape, k.output.trans h.output, Nat.le_trans h.size k.size, fun i hi ho => (k.block i (Nat.lt_of_lt_of_le hi h.size) (by omega)).trans (h.block i hi ho)⟩
theorem Kept.mod {S : Nat → Prop} {a w w' : World} (k : Kept 0 0 a w) (h : Mod S w w') (hS : ∀ i, S i → a.heap.size ≤ i) : Kept 0 0 a w' :=
  ⟨h.os.trans k.os, h.tape.trans k.tape, h.output.trans k.output, Nat.le_trans k.size h.size, fun i hi ho => (h.block i (Nat.lt_of_lt_of_le hi k.size) (fun hs => by have := hS i hs; omega)).trans (k.block i hi ho)⟩
theorem Kept.toMod {S : Nat → Prop} {w w' : World} (k : Kept 0 0 w w') : Mod S w w' := ⟨k.os, k.tape, k.output, k.size, fun i hi _ => k.block i hi (by omega)⟩
theorem Mod.drewN {S : Nat → Prop} {a w : World} (h : Mod S a w) (n : Nat) : Mod S a (w.drewN n) := h.kept ((Kept.refl 0 0 w).drewN n)
theorem Mod.set {S : Nat → Prop} {a w : World} (h : Mod S a w) {p : Addr} (hp : S p.block ∨ a.heap.size ≤ p.block) (u : Value) : Mod S a (w.setCell p u) :=
  ⟨h.os, h.tape, h.output, by have := h.size; simpa [World.setCell] using this, fun i hi ho => (Below.heap_setCell _ _ _ _ (fun e => by subst e; rcases hp with h1 | h1; exact ho h1; omega)).trans (h.block i hi ho)⟩
theorem Mod.grow {S : Nat → Prop} {a w w' : World} {row : Option Nat} (h : Mod S a w) (hg : w.grownBy w' row) (hr : ∀ k, row = some k → S k ∨ a.heap.size ≤ k) : Mod S a w' :=
  ⟨hg.os.trans h.os, hg.tape.trans h.tape, hg.output.trans h.output, Nat.le_trans h.size hg.size, fun i hi ho => (hg.block i (Nat.lt_of_lt_of_le hi h.size) (fun e => by rcases hr i e.symm with h1 | h1; exact ho h1; omega)).trans (h.block i hi ho)⟩
theorem Mod.cell {S : Nat → Prop} {W w' : World} (k : Mod S W w') {a : Addr} {v : Value} (hS : ¬ S a.block) (h : W.cell? a = some v) : w'.cell? a = some v := by
  have hlt : a.block < W.heap.size := World.block_lt_of_cell? W a h
  rw [← h]
  exact World.cell?_of_block (k.block _ hlt hS)
theorem Mod.loose {S : Nat → Prop} {W w' : World} (k : Mod S W w') {a : Addr} (hS : ¬ S a.block) (hb : a.block < W.heap.size) (h : W.frozen? a = false) : w'.frozen? a = false := by
  rw [← h]
  exact World.frozen?_of_block (k.block _ hb hS)
theorem Mod.own {S : Nat → Prop} {w w' : World} {b n : Nat} {e : TypeId} {v : Value} {xs : List Value} (k : Mod S w w') (h : w.ownsRow b e 1 v n xs) (hS : ∀ i, v.ownBlock = some i → ¬ S i) : w'.ownsRow b e 1 v n xs := by
  refine ⟨h.1, ?_⟩
  rcases h.2 with hn | ⟨g, cap, cur, rfl, hb, hgg, rest⟩
  · exact .inl hn
  · exact .inr ⟨g, cap, cur, rfl, hb, (k.block g (Array.getElem?_eq_some_iff.1 hgg).1 (hS g rfl)).trans hgg, rest⟩

/-- The cell g holds the list v of the call's own, with the limbs zs. -/
structure Num (b : Nat) (w : World) (g : Nat) (v : Value) (zs : List Int) : Prop where
  cell : w.cell? ⟨g, 0, none⟩ = some v
  loose : w.frozen? ⟨g, 0, none⟩ = false
  own : w.ownsRow b 3 1 v zs.length (zs.map (Value.int .i64))
  apart : v.ownBlock ≠ some g

theorem Num.lt {b g : Nat} {w : World} {v : Value} {zs : List Int} (h : Num b w g v zs) : g < w.heap.size := World.block_lt_of_cell? _ ⟨g, 0, none⟩ h.cell
theorem Num.form {b g : Nat} {w : World} {v : Value} {zs : List Int} (h : Num b w g v zs) : ∃ a c, v = .slice a zs.length c := own_slice h.own
theorem Num.row {b g : Nat} {w : World} {v : Value} {zs : List Int} (h : Num b w g v zs) : Row .i64 true b w.heap.size w v zs := Row.own h.own
theorem Num.kept {b g : Nat} {w w' : World} {v : Value} {zs : List Int} (h : Num b w g v zs) (k : Kept 0 0 w w') : Num b w' g v zs :=
  ⟨k.cell0 h.cell, k.loose0 h.lt h.loose, own_kept h.own k, h.apart⟩
theorem Num.mod {S : Nat → Prop} {b g : Nat} {w w' : World} {v : Value} {zs : List Int} (h : Num b w g v zs) (k : Mod S w w') (h1 : ¬ S g) (h2 : ∀ i, v.ownBlock = some i → ¬ S i) : Num b w' g v zs :=
  ⟨k.cell h1 h.cell, k.loose h1 h.lt h.loose, k.own h.own h2, h.apart⟩
theorem Num.new {b : Nat} {w : World} {v : Value} {zs : List Int} (t : TypeId) (h : w.ownsRow b 3 1 v zs.length (zs.map (Value.int .i64))) : Num b (w.alloc (.cells #[v] t)) w.heap.size v zs :=
  ⟨new_cell_at _ _ _ _ rfl, new_loose _ _ _ _ rfl, own_kept h ((Kept.refl 0 0 w).alloc _), fun e => by have := (h.lt _ e).2; omega⟩
theorem Num.less {b b' g : Nat} {w : World} {v : Value} {zs : List Int} (h : Num b w g v zs) (hb : b' ≤ b) : Num b' w g v zs := ⟨h.cell, h.loose, own_less h.own hb, h.apart⟩

/-- An empty list appended to nil is nil. -/
theorem run_append_nil_zero {P : Program} (w : World) (t ty e : TypeId) (i : TypeInfo) (ht : P.underlying t = some (.slice e)) (hi : P.info? e = some i) (b : Option Addr) (c : Nat) :
    (Builtin.append_ #[t, t] ty #[.slice none 0 0, .slice b 0 c]).run P w = .ok (.slice none 0 0) w := by
  cases b with
  | none => simp [Builtin.append_, run_underlying ht, sizeOf, typeInfo, hi, Builtin.lenOf, Builtin.firstCells]
  | some b => simp [Builtin.append_, run_underlying ht, sizeOf, typeInfo, hi, Builtin.lenOf, Builtin.firstCells, loadCells, loadCellsFrom]

set_option maxHeartbeats 1000000 in
theorem clone_impl {bw : Bool} {lo hi : Nat} {v : Value} {zs : List Int} (w : World) (r : Row .i64 bw lo hi w v zs) (hlen : zs.length ≤ 1000000) :
    Calls Try.prog 139 #[v] w fun e w' => ∃ v', e = .returned v' ∧ w'.ownsRow w.heap.size 3 1 v' zs.length (zs.map (Value.int .i64)) ∧ Kept 0 0 w w' := by
  have rr := r
  obtain ⟨a, c, rfl, q1, m1, q3⟩ := r
  obtain ⟨i0, hi0, hz0, hz1, hz2⟩ := info_parts Try.info3'
  clear q3
  have qs : ∀ (w : World) (a : Option Addr) (n c n' c' : Nat), (binOp .eql 24 (.slice a n c) (.slice none n' c')).run Try.prog w = .ok (.bool a.isNone) w := fun w a n c n' c' => Lib.run_eql_slice_nil w _ _ a n c n' c' Try.underlying24
  by_cases hz : zs = []
  · subst hz
    cases a with
    | none =>
      go_enter Try.func139, Try.ntmps139
      go_wp2
      go_ret
      exact ⟨_, rfl, ⟨rfl, .inl ⟨rfl, rfl⟩⟩, Kept.refl _ _ _⟩
    | some a =>
      have hrun := fun ty => run_append_zero (P := Try.prog) (w.alloc (.cells #[] 3)) 24 ty 3 i0 Try.underlying24 hi0 ⟨w.heap.size, 0, none⟩ (some a) 0 0 c (Nat.le_refl _)
      have HRUN := hide hrun
      clear hrun
      go_enter Try.func139, Try.ntmps139
      go_wp2_with (at_builtin; refine Lib.wpList_append_run _ rfl _ _ _ _ rfl _ _ rfl rfl _ _ (unhide HRUN _) ?_)
      go_ret
      exact ⟨_, rfl, own_nil_at w 3 _ _ rfl (Nat.le_refl _), (Kept.refl _ _ _).alloc _⟩
  · obtain ⟨g, off, c', e', -, -, hnews⟩ := (rr.kept ((Kept.refl 0 0 w).alloc (.cells #[] 3)) (by omega)).news hz
    cases e'
    have hown0 := own_nil_at w 3 w.heap.size w.heap.size rfl (Nat.le_refl _)
    have hlk : (zs.map (Value.int .i64)).length = zs.length * 1 := by simp
    have HN := hide hnews
    have HB : Hid (w.heap.size ≤ (w.alloc (.cells #[] 3)).heap.size) := by show _ ≤ _; simp
    have c3 : 0 + zs.length ≤ maxLen := by unfold maxLen; omega
    have c4 : (0 + zs.length) * 8 ≤ 140737488355328 := by omega
    have C3 := hide c3
    have C4 := hide c4
    clear hnews rr hz c3 c4
    go_enter Try.func139, Try.ntmps139
    go_wp2_with (at_builtin; refine wpList_append_own _ rfl _ _ 24 rfl w.heap.size 3 i0 (.int .i64 0) 1 8 Try.underlying24 hi0 hz0 hz1 hz2 rfl (by decide) _ _ _ rfl hown0 ⟨g, off, none⟩ zs.length c (zs.map (Value.int .i64)) rfl hlk (unhide HN) (ints_one _ _) (unhide C3) (unhide C4) (unhide HB) ?_)
    intro v4 w4 hown4 hgrow _
    have O4 := hide hown4
    have K4 := hide (((Kept.refl 0 0 w).alloc _).growNew hgrow (fun q hq => by simp [Value.ownBlock] at hq; omega))
    clear hown4 hgrow hown0 hlk
    go_wp2
    go_ret
    exact ⟨_, rfl, by have := unhide O4; simpa using this, unhide K4⟩

end Go.Proofs.Ytdhponfpikclhaa
