/-
  Contracts that the proofs of this seat share: INum, INat1, INat2, INat3, INat4, Pair, Zc, Law2, HelpW, Step.
-/
import Derived.Test.YthahoabkehcgbaaGreatDoorqoBA
import Derived.Maps.AppendAt
import Derived.WalkLawsBesides
import Derived.Deep.RegionHeld3
import Derived.Deep.DeepCutAuto
import Derived.Test.YthahoabkehcgbaaGreatDoorRows
import Derived.WalkKit
import Derived.Deep.RegionLaw
namespace Go.Proofs.YthahoabkehcgbaaGreatDoor
open Go.RowKit
set_option linter.unusedVariables false
set_option maxRecDepth 8000

/-- Of what was there only blocks of S may have turned. -/
structure Mod (S : Nat → Prop) (w w' : World) : Prop where
  os : w'.os = w.os
  tape : w'.tape = w.tape
  output : w'.output = w.output
  size : w.heap.size ≤ w'.heap.size
  block : ∀ i, i < w.heap.size → ¬ S i → w'.heap[i]? = w.heap[i]?
/-- The blocks of a number whose cell is g and whose list is v. -/
def Own1 (g : Nat) (v : Value) (i : Nat) : Prop := i = g ∨ v.ownBlock = some i

theorem Mod.refl (S : Nat → Prop) (w : World) : Mod S w w := ⟨rfl, rfl, rfl, Nat.le_refl _, fun _ _ _ => rfl⟩
theorem Mod.trans {S : Nat → Prop} {a b c : World} (h : Mod S a b) (k : Mod S b c) : Mod S a c :=
  ⟨k.os.trans h.os, k.tape.trans h.tape, k.output.trans h.output, Nat.le_trans h.size k.size, fun i hi ho => (k.block i (Nat.lt_of_lt_of_le hi h.size) ho).trans (h.block i hi ho)⟩
/-- What turns in a second step may be new since the first. -/
theorem Mod.then {S T : Nat → Prop} {a b c : World} (h : Mod S a b) (k : Mod T b c) (hT : ∀ i, T i → S i ∨ a.heap.size ≤ i) : Mod S a c :=
  ⟨k.os.trans h.os, k.tape.trans h.tape, k.output.trans h.output, Nat.le_trans h.size k.size, fun i hi ho => (k.block i (Nat.lt_of_lt_of_le hi h.size) (fun ht => (hT i ht).elim ho (by omega))).trans (h.block i hi ho)⟩
theorem Mod.kept {S : Nat → Prop} {a b c : World} (h : Mod S a b) (k : Kept 0 0 b c) : Mod S a c :=
  ⟨k.os.trans h.os, k.tape.trans h.tape, k.output.trans h.output, Nat.le_trans h.size k.size, fun i hi ho => (k.block i (Nat.lt_of_lt_of_le hi h.size) (by omega)).trans (h.block i hi ho)⟩
theorem Kept.mod {S : Nat → Prop} {a w w' : World} (k : Kept 0 0 a w) (h : Mod S w w') (hS : ∀ i, S i → a.heap.size ≤ i) : Kept 0 0 a w' :=
  ⟨h.os.trans k.os, h.tape.trans k.tape, h.output.trans k.output, Nat.le_trans k.size h.size, fun i hi ho => (h.block i (Nat.lt_of_lt_of_le hi k.size) (fun hs => by have := hS i hs; omega)).trans (k.block i hi ho)⟩
theorem Kept.toMod {S : Nat → Prop} {w w' : World} (k : Kept 0 0 w w') : Mod S w w' := ⟨k.os, k.tape, k.output, k.size, fun i hi _ => k.block i hi (by omega)⟩
theorem Mod.drewN {S : Nat → Prop} {a w : World} (h : Mod S a w) (n : Nat) : Mod S a (w.drewN n) := h.kept ((Kept.refl 0 0 w).drewN n)
theorem Mod.set {S : Nat → Prop} {a w : World} (h : Mod S a w) {p : Addr} (hp : S p.block ∨ a.heap.size ≤ p.block) (u : Value) : Mod S a (w.setCell p u) :=
  ⟨h.os, h.tape, h.output, by have := h.size; simpa [World.setCell] using this, fun i hi ho => (Below.heap_setCell _ _ _ _ (fun e => by subst e; rcases hp with h1 | h1; exact ho h1; omega)).trans (h.block i hi ho)⟩
theorem Mod.grow {S : Nat → Prop} {a w w' : World} {row : Option Nat} (h : Mod S a w) (hg : w.grownBy w' row) (hr : ∀ k, row = some k → S k ∨ a.heap.size ≤ k) : Mod S a w' :=
  ⟨hg.os.trans h.os, hg.tape.trans h.tape, hg.output.trans h.output, Nat.le_trans h.size hg.size, fun i hi ho => (hg.block i (Nat.lt_of_lt_of_le hi h.size) (fun e => by rcases hr i e.symm with h1 | h1; exact ho h1; omega)).trans (h.block i hi ho)⟩
theorem Mod.cell {S : Nat → Prop} {W w' : World} (k : Mod S W w') {a : Addr} {v : Value} (hS : ¬ S a.block) (h : W.cell? a = some v) : w'.cell? a = some v := by
  have hlt : a.block < W.heap.size := World.block_lt_of_cell? W a h
  rw [← h]
  exact World.cell?_of_block (k.block _ hlt hS)
theorem Mod.loose {S : Nat → Prop} {W w' : World} (k : Mod S W w') {a : Addr} (hS : ¬ S a.block) (hb : a.block < W.heap.size) (h : W.frozen? a = false) : w'.frozen? a = false := by
  rw [← h]
  exact World.frozen?_of_block (k.block _ hb hS)
theorem Mod.own {S : Nat → Prop} {w w' : World} {b n : Nat} {e : TypeId} {v : Value} {xs : List Value} (k : Mod S w w') (h : w.ownsRow b e 1 v n xs) (hS : ∀ i, v.ownBlock = some i → ¬ S i) : w'.ownsRow b e 1 v n xs := by
  refine ⟨h.1, ?_⟩
  rcases h.2 with hn | ⟨g, cap, cur, rfl, hb, hgg, rest⟩
  · exact .inl hn
  · exact .inr ⟨g, cap, cur, rfl, hb, (k.block g (Array.getElem?_eq_some_iff.1 hgg).1 (hS g rfl)).trans hgg, rest⟩

/-- The cell g holds the list v of the call's own, with the limbs zs. -/
structure Num (b : Nat) (w : World) (g : Nat) (v : Value) (zs : List Int) : Prop where
  cell : w.cell? ⟨g, 0, none⟩ = some v
  loose : w.frozen? ⟨g, 0, none⟩ = false
  own : w.ownsRow b 3 1 v zs.length (zs.map (Value.int .i64))
  apart : v.ownBlock ≠ some g

theorem Num.lt {b g : Nat} {w : World} {v : Value} {zs : List Int} (h : Num b w g v zs) : g < w.heap.size := World.block_lt_of_cell? _ ⟨g, 0, none⟩ h.cell
theorem Num.form {b g : Nat} {w : World} {v : Value} {zs : List Int} (h : Num b w g v zs) : ∃ a c, v = .slice a zs.length c := own_slice h.own
theorem Num.row {b g : Nat} {w : World} {v : Value} {zs : List Int} (h : Num b w g v zs) : Row .i64 true b w.heap.size w v zs := Row.own h.own
theorem Num.kept {b g : Nat} {w w' : World} {v : Value} {zs : List Int} (h : Num b w g v zs) (k : Kept 0 0 w w') : Num b w' g v zs :=
  ⟨k.cell0 h.cell, k.loose0 h.lt h.loose, own_kept h.own k, h.apart⟩
theorem Num.mod {S : Nat → Prop} {b g : Nat} {w w' : World} {v : Value} {zs : List Int} (h : Num b w g v zs) (k : Mod S w w') (h1 : ¬ S g) (h2 : ∀ i, v.ownBlock = some i → ¬ S i) : Num b w' g v zs :=
  ⟨k.cell h1 h.cell, k.loose h1 h.lt h.loose, k.own h.own h2, h.apart⟩
theorem Num.new {b : Nat} {w : World} {v : Value} {zs : List Int} (t : TypeId) (h : w.ownsRow b 3 1 v zs.length (zs.map (Value.int .i64))) : Num b (w.alloc (.cells #[v] t)) w.heap.size v zs :=
  ⟨new_cell_at _ _ _ _ rfl, new_loose _ _ _ _ rfl, own_kept h ((Kept.refl 0 0 w).alloc _), fun e => by have := (h.lt _ e).2; omega⟩
theorem Num.less {b b' g : Nat} {w : World} {v : Value} {zs : List Int} (h : Num b w g v zs) (hb : b' ≤ b) : Num b' w g v zs := ⟨h.cell, h.loose, own_less h.own hb, h.apart⟩

/-- An empty list appended to nil is nil. -/
theorem run_append_nil_zero {P : Program} (w : World) (t ty e : TypeId) (i : TypeInfo) (ht : P.underlying t = some (.slice e)) (hi : P.info? e = some i) (b : Option Addr) (c : Nat) :
    (Builtin.append_ #[t, t] ty #[.slice none 0 0, .slice b 0 c]).run P w = .ok (.slice none 0 0) w := by
  cases b with
  | none => simp [Builtin.append_, run_underlying ht, sizeOf, typeInfo, hi, Builtin.lenOf, Builtin.firstCells]
  | some b => simp [Builtin.append_, run_underlying ht, sizeOf, typeInfo, hi, Builtin.lenOf, Builtin.firstCells, loadCells, loadCellsFrom]

set_option maxHeartbeats 1000000 in
theorem clone_impl {bw : Bool} {lo hi : Nat} {v : Value} {zs : List Int} (w : World) (r : Row .i64 bw lo hi w v zs) (hlen : zs.length ≤ 1000000) :
    Calls Tryz.prog 216 #[v] w fun e w' => ∃ v', e = .returned v' ∧ w'.ownsRow w.heap.size 3 1 v' zs.length (zs.map (Value.int .i64)) ∧ Kept 0 0 w w' := by
  have rr := r
  obtain ⟨a, c, rfl, q1, m1, q3⟩ := r
  obtain ⟨i0, hi0, hz0, hz1, hz2⟩ := info_parts Tryz.info3'
  clear q3
  have qs : ∀ (w : World) (a : Option Addr) (n c n' c' : Nat), (binOp .eql 39 (.slice a n c) (.slice none n' c')).run Tryz.prog w = .ok (.bool a.isNone) w := fun w a n c n' c' => Lib.run_eql_slice_nil w _ _ a n c n' c' Tryz.underlying39
  by_cases hz : zs = []
  · subst hz
    cases a with
    | none =>
      go_enter Tryz.func216, Tryz.ntmps216
      go_wp2
      go_ret
      exact ⟨_, rfl, ⟨rfl, .inl ⟨rfl, rfl⟩⟩, Kept.refl _ _ _⟩
    | some a =>
      have hrun := fun ty => run_append_zero (P := Tryz.prog) (w.alloc (.cells #[] 3)) 39 ty 3 i0 Tryz.underlying39 hi0 ⟨w.heap.size, 0, none⟩ (some a) 0 0 c (Nat.le_refl _)
      have HRUN := hide hrun
      clear hrun
      go_enter Tryz.func216, Tryz.ntmps216
      go_wp2_with (at_builtin; refine Lib.wpList_append_run _ rfl _ _ _ _ rfl _ _ rfl rfl _ _ (unhide HRUN _) ?_)
      go_ret
      exact ⟨_, rfl, own_nil_at w 3 _ _ rfl (Nat.le_refl _), (Kept.refl _ _ _).alloc _⟩
  · obtain ⟨g, off, c', e', -, -, hnews⟩ := (rr.kept ((Kept.refl 0 0 w).alloc (.cells #[] 3)) (by omega)).news hz
    cases e'
    have hown0 := own_nil_at w 3 w.heap.size w.heap.size rfl (Nat.le_refl _)
    have hlk : (zs.map (Value.int .i64)).length = zs.length * 1 := by simp
    have HN := hide hnews
    have HB : Hid (w.heap.size ≤ (w.alloc (.cells #[] 3)).heap.size) := by show _ ≤ _; simp
    have c3 : 0 + zs.length ≤ maxLen := by unfold maxLen; omega
    have c4 : (0 + zs.length) * 8 ≤ 140737488355328 := by omega
    have C3 := hide c3
    have C4 := hide c4
    clear hnews rr hz c3 c4
    go_enter Tryz.func216, Tryz.ntmps216
    go_wp2_with (at_builtin; refine wpList_append_own _ rfl _ _ 39 rfl w.heap.size 3 i0 (.int .i64 0) 1 8 Tryz.underlying39 hi0 hz0 hz1 hz2 rfl (by decide) _ _ _ rfl hown0 ⟨g, off, none⟩ zs.length c (zs.map (Value.int .i64)) rfl hlk (unhide HN) (ints_one _ _) (unhide C3) (unhide C4) (unhide HB) ?_)
    intro v4 w4 hown4 hgrow _
    have O4 := hide hown4
    have K4 := hide (((Kept.refl 0 0 w).alloc _).growNew hgrow (fun q hq => by simp [Value.ownBlock] at hq; omega))
    clear hown4 hgrow hown0 hlk
    go_wp2
    go_ret
    exact ⟨_, rfl, by have := unhide O4; simpa using this, unhide K4⟩

end Go.Proofs.YthahoabkehcgbaaGreatDoor

namespace Go.Proofs.YthahoabkehcgbaaGreatDoor
open Go.RowKit
set_option linter.unusedVariables false
set_option maxRecDepth 8000

set_option maxHeartbeats 1000000 in
theorem ok_impl {bw : Bool} {lo hi : Nat} {v : Value} {zs : List Int} (w : World) (r : Row .i64 bw lo hi w v zs) :
    Calls Tryz.prog 182 #[.agg #[v]] w fun e w' => e = .returned (.bool (okB zs)) ∧ Kept 0 0 w w' := by
  have rr := r
  obtain ⟨a, c, rfl, q1, m1, q3⟩ := r
  unfold maxLen at m1
  by_cases hbig : 100 < (zs.length : Int)
  · have e0 : okB zs = false := by unfold okB; rw [decide_eq_false (by omega)]; rfl
    rw [e0]
    go_enter Tryz.func182, Tryz.ntmps182
    go_wp2
    go_ret
    exact ⟨rfl, (Kept.refl _ _ _).alloc _⟩
  · have h100 : zs.length ≤ 100 := by omega
    have hat := (row_cell (rr.kept ((Kept.refl 0 0 w).alloc (.cells #[.slice a zs.length c] 48)) (by omega))).2.2.2
    have e1 : okB zs = (limB zs && (decide (zs.length = 0) || decide (0 < zs.getD (zs.length - 1) 0))) := by unfold okB; rw [decide_eq_true h100]; simp
    generalize okB zs = K at *
    have HE := hide e1
    clear e1 q3 rr
    go_enter Tryz.func182, Tryz.ntmps182
    go_wp2
    go_loop [12] (fun i => ∃ k : Nat, k ≤ zs.length ∧ i = .int .i64 k ∧ Hid (∀ m, m < k → 0 ≤ zs.getD m 0 ∧ zs.getD m 0 ≤ 65535)) (fun i => zs.length - (intOf i).toNat)
    case atStart => exact ⟨0, Nat.zero_le _, rfl, fun m hm => absurd hm (Nat.not_lt_zero _)⟩
    case round =>
      obtain ⟨k, hk, rfl, hall⟩ := hrel
      by_cases hlt : k < zs.length
      · have hlt' : (k : Int) < (zs.length : Int) := by omega
        obtain ⟨g, off, rfl, hc⟩ := hat k hlt
        have hbad := limB_bad (zs := zs) hlt
        generalize hz : zs.getD k 0 = z at *
        have HZ := hide hz
        have HB := hide hbad
        clear hat hz hbad
        by_cases z0 : z < 0
        · have e2 := unhide HE
          rw [unhide HB (.inl z0)] at e2
          simp at e2
          subst e2
          go_wp2
          go_ret
          exact ⟨rfl, (Kept.refl _ _ _).alloc _⟩
        by_cases z1 : 65536 ≤ z
        · have e2 := unhide HE
          rw [unhide HB (.inr (by omega))] at e2
          simp at e2
          subst e2
          go_wp2
          go_ret
          exact ⟨rfl, (Kept.refl _ _ _).alloc _⟩
        · go_wp2
          go_round
          case rel => exact ⟨k + 1, by omega, by go_num, fun m hm => by
            rcases Nat.lt_succ_iff_lt_or_eq.1 hm with h | h
            · exact hall.out m h
            · subst h; rw [unhide HZ]; omega⟩
          case measure => simp [intOf]; omega
      · have hlt' : ¬ (k : Int) < (zs.length : Int) := by omega
        have hlm : Lim zs := fun z hz => by
          obtain ⟨i, hi, rfl⟩ := List.getElem_of_mem hz
          have := hall.out i (by omega)
          simpa [List.getD, hi] using this
        have hlim : limB zs = true := (limB_iff zs).2 hlm
        have e2 := unhide HE
        rw [hlim, Bool.true_and] at e2
        by_cases h0 : zs.length = 0
        · rw [decide_eq_true h0] at e2
          simp at e2
          subst e2
          have h0' : ((zs.length : Int) == 0) = true := by simp [h0]
          have H0 := hide h0
          clear hat h0 hlim hlm
          go_wp2
          go_ret
          exact ⟨rfl, (Kept.refl _ _ _).alloc _⟩
        · rw [decide_eq_false h0, Bool.false_or] at e2
          have h0' : ((zs.length : Int) == 0) = false := beq_eq_false_iff_ne.2 (by omega)
          obtain ⟨g, off, rfl, hc⟩ := hat (zs.length - 1) (by omega)
          have hl1 : 1 ≤ zs.length := by omega
          have hz0 := (hlm.at (zs.length - 1)).1
          generalize zs.getD (zs.length - 1) 0 = z at *
          have e3 : decide (0 < z) = (z != 0) := by
            by_cases h : z = 0
            · subst h; rfl
            · rw [decide_eq_true (by omega)]; simp [h]
          rw [e3] at e2
          subst e2
          clear hat hlim h0 hall HE hlm e3
          go_wp2
          go_ret
          exact ⟨by first | rfl | simp, (Kept.refl _ _ _).alloc _⟩

end Go.Proofs.YthahoabkehcgbaaGreatDoor

namespace Go.Proofs.YthahoabkehcgbaaGreatDoor
open Go.RowKit
set_option linter.unusedVariables false
set_option maxRecDepth 8000

/-- What is told of a number: itself, if it is not too long. -/
def tell (zs : List Int) : List Int := if zs.length ≤ 100 then zs else []

set_option maxHeartbeats 1000000 in
theorem limbsOf_impl {bw : Bool} {lo hi : Nat} {v : Value} {zs : List Int} (w : World) (r : Row .i64 bw lo hi w v zs) (hlen : zs.length ≤ 1000000) :
    Calls Tryz.prog 213 #[.agg #[v]] w fun e w' => ∃ v', e = .returned (.agg #[v']) ∧ w'.ownsRow w.heap.size 3 1 v' zs.length (zs.map (Value.int .i64)) ∧ Kept 0 0 w w' := by
  have s1 := r.kept (((Kept.refl 0 0 w).alloc (.cells #[v] 48)).alloc (.cells #[.slice none 0 0] 145)) (by omega)
  obtain ⟨a1, c1, rfl⟩ : ∃ a c, v = .slice a zs.length c := by obtain ⟨a, c, h, -⟩ := r; exact ⟨a, c, h⟩
  clear r
  go_enter Tryz.func213, Tryz.ntmps213
  go_wp2_with fail
  generalize hW : (w.alloc (.cells #[.slice a1 zs.length c1] 48)).alloc (.cells #[.slice none 0 0] 145) = W at *
  have c2' : W.cell? ⟨w.heap.size + 1, 0, none⟩ = some (.slice none 0 0) := by rw [← hW]; exact new_cell_at _ _ _ _ (by simp)
  have f2' : W.frozen? ⟨w.heap.size + 1, 0, none⟩ = false := by rw [← hW]; exact new_loose _ _ _ _ (by simp)
  have hs : W.heap.size = w.heap.size + 2 := by rw [← hW]; simp
  have hk : Kept 0 0 w W := by rw [← hW]; exact ((Kept.refl 0 0 w).alloc _).alloc _
  clear hW
  refine (clone_impl _ s1 hlen).mono ?_
  rintro e w6 ⟨v6, rfl, o6, k6⟩
  have c4 := k6.cell0 c2'
  have f4 := k6.loose0 (by simp; omega) f2'
  have O : Hid ((w6.setCell ⟨w.heap.size + 1, 0, none⟩ v6).ownsRow w.heap.size 3 1 v6 zs.length (zs.map (Value.int .i64))) := own_less (ownsRow_setCell_below o6 (a := ⟨w.heap.size + 1, 0, none⟩) (by simp; omega) v6) (by omega)
  have K : Hid (Kept 0 0 w (w6.setCell ⟨w.heap.size + 1, 0, none⟩ v6)) := (hk.trans k6).setNew (p := ⟨w.heap.size + 1, 0, none⟩) (by simp) _
  obtain ⟨a6, c6, rfl⟩ := own_slice o6
  clear s1 c2' f2' hs hk k6 o6
  go_wp2
  exact bodyPost_ret (v := .agg #[.slice a6 zs.length c6]) (by simp [results, Tryz.results213, go_sem, c4]) rfl ⟨_, rfl, unhide O, unhide K⟩

end Go.Proofs.YthahoabkehcgbaaGreatDoor

namespace Go.Proofs.YthahoabkehcgbaaGreatDoor
open Go.RowKit
set_option linter.unusedVariables false
set_option maxRecDepth 8000

theorem own_apart {w : World} {b n : Nat} {e : TypeId} {v : Value} {xs : List Value} (h : w.ownsRow b e 1 v n xs) {p : Addr} (hne : v.ownBlock ≠ some p.block) (u : Value) : (w.setCell p u).ownsRow b e 1 v n xs :=
  ((Mod.refl (fun i => i = p.block) w).set (.inl rfl) u).own h (fun i hi e => hne (by rw [hi, e]))
theorem Mod.cellAt {S : Nat → Prop} {W w' : World} (k : Mod S W w') {g o : Nat} {v : Value} (hS : ¬ S g) (h : W.cell? ⟨g, o, none⟩ = some v) : w'.cell? ⟨g, o, none⟩ = some v := k.cell (a := ⟨g, o, none⟩) hS h
theorem Mod.looseAt {S : Nat → Prop} {W w' : World} (k : Mod S W w') {g o : Nat} (hS : ¬ S g) (hb : g < W.heap.size) (h : W.frozen? ⟨g, o, none⟩ = false) : w'.frozen? ⟨g, o, none⟩ = false := k.loose (a := ⟨g, o, none⟩) hS hb h
theorem Num.stored {b g : Nat} {w w' : World} {v u v' : Value} {ys : List Int} (m : Mod (Own1 g v) w w') (hc : w'.cell? ⟨g, 0, none⟩ = some u) (hf : w'.frozen? ⟨g, 0, none⟩ = false)
    (ho : w'.ownsRow b 3 1 v' ys.length (ys.map (Value.int .i64))) (ha : v'.ownBlock ≠ some g) : Num b (w'.setCell ⟨g, 0, none⟩ v') g v' ys ∧ Mod (Own1 g v) w (w'.setCell ⟨g, 0, none⟩ v') :=
  ⟨⟨by have := cell_set w' g 0 0 v' u hc; simpa using this, by rw [frozen_set]; exact hf, own_apart ho ha v', ha⟩, m.set (.inl (.inl rfl)) v'⟩

/-- A list of limbs of the call's own. -/
def OwnL (b : Nat) (w : World) (v : Value) (zs : List Int) : Prop := w.ownsRow b 3 1 v zs.length (zs.map (Value.int .i64))

/-- One more limb appended to a list of the call's own. -/
theorem wpList_snoc {ops : Array Oper} {rest : List Oper} {o : Oper} {a : Act} {Q : Exit → Act → World → Prop} {b : Nat} {wr : World} {v : Value} {zs : List Int} (hgd : o.guard = none) (s x : Operand)
    (ho : o.op = .call { callee := .builtin .append, args := #[s, x], argTypes := #[39, 39] }) (hs : a.eval s = v) (ad : Addr) (hx : a.eval x = .slice (some ad) 1 1) (z : Int)
    (hc : wr.cell? ad = some (.int .i64 z)) (hown : wr.ownsRow b 3 1 v zs.length (zs.map (Value.int .i64))) (hn : zs.length ≤ 1000000) (hb : b ≤ wr.heap.size)
    (h : ∀ v' w', OwnL b w' v' (zs ++ [z]) → wr.grownBy w' v.ownBlock → Hid (v'.ownBlock = v.ownBlock ∨ v'.ownBlock = some wr.heap.size) → wpList Tryz.prog ops Q rest (a.put o.dst v') w') : wpList Tryz.prog ops Q (o :: rest) a wr := by
  obtain ⟨i0, hi0, hz0, hz1, hz2⟩ := info_parts Tryz.info3'
  refine wpList_append_own_at _ hgd _ _ 39 ho b 3 i0 (.int .i64 0) 1 8 Tryz.underlying39 hi0 hz0 hz1 hz2 rfl (by decide) _ _ _ hs hown ad 1 1 [.int .i64 z] hx rfl (lit_cell hc) ?_ ?_ ?_ hb ?_
  · intro u hu; simp at hu; subst hu; rfl
  · unfold maxLen; omega
  · omega
  · intro v' w' hown hgrow _ hat
    exact h v' w' (by unfold OwnL; simpa using hown) hgrow (hide hat)

/-- A number with one more limb, behind the append: what holds when it is stored. -/
theorem Num.snoc {b g : Nat} {w w' : World} {v v' : Value} {zs ys : List Int} (h : Num b w g v zs) (o : Obj) (hg : (w.alloc o).grownBy w' v.ownBlock) (hat : v'.ownBlock = v.ownBlock ∨ v'.ownBlock = some (w.heap.size + 1))
    (hown : w'.ownsRow b 3 1 v' ys.length (ys.map (Value.int .i64))) :
    w'.cell? ⟨g, 0, none⟩ = some v ∧ w'.frozen? ⟨g, 0, none⟩ = false ∧ Num b (w'.setCell ⟨g, 0, none⟩ v') g v' ys ∧ Mod (Own1 g v) w (w'.setCell ⟨g, 0, none⟩ v') := by
  have k := (Kept.refl 0 0 w).alloc o
  have m : Mod (Own1 g v) w w' := (k.toMod).grow hg (fun i hi => .inl (.inr hi))
  have m1 : Mod (fun i => v.ownBlock = some i) (w.alloc o) w' := (Mod.refl _ _).grow hg (fun i hi => .inl hi)
  have hlt := h.lt
  have h1 := m1.cell (a := ⟨g, 0, none⟩) h.apart (k.cell0 h.cell)
  have h2 := m1.loose (a := ⟨g, 0, none⟩) h.apart (by simp; omega) (k.loose0 hlt h.loose)
  have ha : v'.ownBlock ≠ some g := by
    rcases hat with e | e
    · rw [e]; exact h.apart
    · rw [e]; simp; omega
  exact ⟨h1, h2, Num.stored m h1 h2 hown ha⟩

set_option maxHeartbeats 2000000 in
theorem limbsOfInt_impl (w : World) (n : Int) (hn : n ≤ 9223372036854775807) :
    Calls Tryz.prog 169 #[.int .i64 n] w fun e w' => ∃ v', e = .returned (.agg #[v']) ∧ w'.ownsRow w.heap.size 3 1 v' (limbs n.toNat).length ((limbs n.toNat).map (Value.int .i64)) ∧ Kept 0 0 w w' := by
  have hlen : (limbs n.toNat).length ≤ 4 := (limbs_length_le _ _).2 (by
    have : (65536 : Int) ^ 4 = 18446744073709551616 := by decide
    omega)
  generalize hL : limbs n.toNat = L at *
  have HL := hide hL
  have k0 := ((Kept.refl 0 0 w).alloc (.cells #[.slice none 0 0] 145)).alloc (.cells #[.slice none 0 0] 145)
  have n0 : Num (w.heap.size + 2) ((w.alloc (.cells #[.slice none 0 0] 145)).alloc (.cells #[.slice none 0 0] 145)) (w.heap.size + 1) (.slice none 0 0) [] := by
    have := Num.new (w := w.alloc (.cells #[.slice none 0 0] 145)) (b := w.heap.size + 2) (zs := []) 145 (World.ownsRow_nil _ _ _ _)
    simpa using this
  have c0 : ((w.alloc (.cells #[.slice none 0 0] 145)).alloc (.cells #[.slice none 0 0] 145)).cell? ⟨w.heap.size, 0, none⟩ = some (.slice none 0 0) := old_cell _ (new_cell_at _ _ _ _ rfl)
  have f0 : ((w.alloc (.cells #[.slice none 0 0] 145)).alloc (.cells #[.slice none 0 0] 145)).frozen? ⟨w.heap.size, 0, none⟩ = false := loose_old (by simp) (new_loose _ _ _ _ rfl)
  have s0 : w.heap.size + 2 ≤ ((w.alloc (.cells #[.slice none 0 0] 145)).alloc (.cells #[.slice none 0 0] 145)).heap.size := by simp
  clear hL
  go_enter Tryz.func169, Tryz.ntmps169
  go_wp2
  generalize (w.alloc (.cells #[.slice none 0 0] 145)).alloc (.cells #[.slice none 0 0] 145) = w1 at *
  go_loopw [0] (fun m wr => ∃ (zs : List Int) (i : Int) (v : Value), m = .int .i64 i ∧ i ≤ 9223372036854775807 ∧ Hid (zs ++ limbs i.toNat = L) ∧ Num (w.heap.size + 2) wr (w.heap.size + 1) v zs ∧ Hid (Kept 0 0 w wr) ∧ wr.cell? ⟨w.heap.size, 0, none⟩ = some (.slice none 0 0) ∧ wr.frozen? ⟨w.heap.size, 0, none⟩ = false ∧ Hid (w.heap.size + 2 ≤ wr.heap.size)) (fun m _ => (intOf m).toNat)
  case atStart => exact ⟨[], n, _, rfl, hn, by have := unhide HL; show _ = _; simpa using this, n0, hide k0, c0, f0, hide s0⟩
  case round =>
    clear k0 n0 c0 f0 s0
    obtain ⟨zs, i, v, rfl, hi, hzs, hN, hK, hc0, hf0, hs0⟩ := hrel
    by_cases hp : 0 < i
    · have hc := limbs_cons i.toNat (by omega)
      have hz := unhide hzs
      rw [hc] at hz
      have hl : zs.length ≤ 4 := by
        have := congrArg List.length hz
        simp at this; omega
      have e1 : ((i.toNat % 65536 : Nat) : Int) = i % 65536 := by omega
      have e2 : i.toNat / 65536 = (i / 65536).toNat := by omega
      have e3 : i.tmod 65536 = i % 65536 := by rw [Int.tmod_eq_emod_of_nonneg (by omega)]
      have e4 : i.tdiv 65536 = i / 65536 := by rw [Int.tdiv_eq_ediv_of_nonneg (by omega)]
      rw [e1, e2] at hz
      have HZ := hide hz
      clear hc hz e1 e2
      obtain ⟨a1, c1, rfl⟩ := hN.form
      have hcell := hN.cell
      have hloose := hN.loose
      have hown' := own_kept hN.own ((Kept.refl 0 0 wr).alloc (.cells #[.int .i64 (i % 65536)] 3))
      have hl' : zs.length ≤ 1000000 := by omega
      have hbb : w.heap.size + 2 ≤ (wr.alloc (.cells #[.int .i64 (i % 65536)] 3)).heap.size := by have := unhide hs0; simp; omega
      have HBB := hide hbb
      have hcc : (wr.alloc (.cells #[.int .i64 (i % 65536)] 3)).cell? ⟨wr.heap.size, 0, none⟩ = some (.int .i64 (i % 65536)) := new_cell_at _ _ _ _ rfl
      clear hbb
      go_wp2_with (at_builtin; refine wpList_snoc rfl _ _ rfl rfl _ rfl (i % 65536) hcc hown' hl' (unhide HBB) ?_)
      intro v' w' hown2 hgrow hat
      unfold OwnL at hown2
      replace hat := unhide hat
      obtain ⟨d1, d2, d3, d4⟩ := hN.snoc _ hgrow hat hown2
      obtain ⟨a2, c2, e2⟩ := own_slice hown2
      rw [List.length_append, List.length_singleton] at e2
      subst e2
      have hS0 : ¬ Own1 (w.heap.size + 1) (.slice a1 zs.length c1) w.heap.size := fun e => e.elim (by omega) (fun h => by have := (hN.own.lt _ h).1; omega)
      have x1 := d4.cellAt hS0 hc0
      have x2 := d4.looseAt hS0 (by have := unhide hs0; omega) hf0
      have x3 := hide ((unhide hK).mod d4 (fun i hi => hi.elim (by omega) (fun h => by have := (hN.own.lt _ h).1; omega)))
      have x4 := hide (Nat.le_trans (unhide hs0) d4.size)
      have D3 := hide d3
      have X1 := hide x1
      have X2 := hide x2
      clear hown' hown2 hgrow hat hN d4 hcell hloose x1 x2 hc0 hf0 hcc d3 hS0
      go_wp2
      go_roundw
      case rel => exact ⟨zs ++ [i % 65536], i / 65536, _, by go_num, by omega, by show _ = _; rw [← unhide HZ]; simp, unhide D3, x3, unhide X1, unhide X2, x4⟩
      case measure => simp [intOf]; omega
    · have e0 : zs = L := by have := unhide hzs; rw [show i.toNat = 0 from by omega, limbs_zero, List.append_nil] at this; exact this
      subst e0
      obtain ⟨a1, c1, rfl⟩ := hN.form
      have hcell := hN.cell
      have O := hide (own_less (own_apart hN.own (p := ⟨w.heap.size, 0, none⟩) (fun h => by have := (hN.own.lt _ h).1; simp at this; omega) (.slice a1 zs.length c1)) (Nat.le_add_right w.heap.size 2))
      have K := hide ((unhide hK).setNew (p := ⟨w.heap.size, 0, none⟩) (Nat.le_refl _) (.slice a1 zs.length c1))
      clear hN hK hzs
      go_wp2
      exact bodyPost_ret (v := .agg #[(.slice a1 zs.length c1)]) (by simp [results, Tryz.results169, go_sem, hc0]) rfl ⟨_, rfl, unhide O, unhide K⟩

end Go.Proofs.YthahoabkehcgbaaGreatDoor

namespace Go.Proofs.YthahoabkehcgbaaGreatDoor
open Go.RowKit
set_option linter.unusedVariables false
set_option maxRecDepth 8000

end Go.Proofs.YthahoabkehcgbaaGreatDoor

namespace Go.Proofs.YthahoabkehcgbaaGreatDoor
open Go.RowKit
set_option linter.unusedVariables false
set_option maxRecDepth 8000

theorem drew_loose {W : World} {a : Addr} (h : W.frozen? a = false) : W.drew.frozen? a = false := h
theorem cell_aside {W : World} {p r : Addr} {u : Value} (x : Value) (hne : r.block ≠ p.block) (h : W.cell? p = some u) : (W.setCell r x).cell? p = some u := by
  rw [← h]
  exact World.cell?_of_block (Below.heap_setCell _ _ _ _ (Ne.symm hne))
/-- Two numbers that lie apart, newer than w0. -/
structure Two (w0 wx : World) (g1 g2 : Nat) (u1 u2 : Value) (xs ys : List Int) : Prop where
  n1 : Num w0.heap.size wx g1 u1 xs
  n2 : Num w0.heap.size wx g2 u2 ys
  ne : g1 ≠ g2
  o12 : u1.ownBlock ≠ some g2
  o21 : u2.ownBlock ≠ some g1
  oo : ∀ k, u1.ownBlock = some k → u2.ownBlock ≠ some k
  k : Kept 0 0 w0 wx
  b1 : w0.heap.size ≤ g1
  b2 : w0.heap.size ≤ g2

theorem Two.swap {w0 wx : World} {g1 g2 : Nat} {u1 u2 : Value} {xs ys : List Int} (h : Two w0 wx g1 g2 u1 u2 xs ys) : Two w0 wx g2 g1 u2 u1 ys xs :=
  ⟨h.n2, h.n1, fun e => h.ne e.symm, h.o21, h.o12, fun k h1 h2 => h.oo k h2 h1, h.k, h.b2, h.b1⟩

section
variable {w0 w4 : World} {X Y b1 b2 : Nat} {u1 u2 z1 z2 : Value} {xs ys : List Int}
end

end Go.Proofs.YthahoabkehcgbaaGreatDoor

namespace Go.Proofs.YthahoabkehcgbaaGreatDoor
open Go.RowKit

theorem cw3 {W : World} {p r1 r2 r3 : Addr} {u x1 x2 x3 : Value} (hne : r1.block ≠ p.block ∧ r2.block ≠ p.block ∧ r3.block ≠ p.block) (h : W.cell? p = some u) : (((W.setCell r1 x1).setCell r2 x2).setCell r3 x3).cell? p = some u := cell_aside x3 hne.2.2 (cell_aside x2 hne.2.1 (cell_aside x1 hne.1 h))
theorem cw6 {W : World} {p r1 r2 r3 r4 r5 r6 : Addr} {u x1 x2 x3 x4 x5 x6 : Value} (hne : (r1.block ≠ p.block ∧ r2.block ≠ p.block ∧ r3.block ≠ p.block) ∧ r4.block ≠ p.block ∧ r5.block ≠ p.block ∧ r6.block ≠ p.block) (h : W.cell? p = some u) : ((((((W.setCell r1 x1).setCell r2 x2).setCell r3 x3).setCell r4 x4).setCell r5 x5).setCell r6 x6).cell? p = some u := cw3 hne.2 (cw3 hne.1 h)
theorem Row.kp {k : IntKind} {wr : Bool} {lo hi : Nat} {w w' : World} {v : Value} {zs : List Int} (r : Row k wr lo hi w v zs) (q : Kept 0 0 w w') : Row k wr lo hi w' v zs := r.kept q (.inr (.inr (Nat.le_refl 0)))

end Go.Proofs.YthahoabkehcgbaaGreatDoor

namespace Go.Proofs.YthahoabkehcgbaaGreatDoor
open Go.RowKit
set_option linter.unusedVariables false
set_option maxRecDepth 8000

set_option maxHeartbeats 400000 in
theorem markIntS_wide {lo hi : Nat} {v : Value} {zs : List Int} (w : World) (s : Int) (hs0 : 0 ≤ s) (hs1 : s ≤ 1000000000) (hn : zs.length ≤ 1099511627776) (r : Row .i64 true lo hi w v zs) :
    Calls Tryz.prog 94 #[v, .int .i64 s] w fun e w' => e = .returned (.int .i64 (s + zs.length)) ∧ Row .i64 true lo hi w' v (marks .i64 s zs.length) ∧ Kept lo hi w w' ∧ w'.heap.size = w.heap.size := by
  by_cases hz : zs = []
  · subst hz
    obtain ⟨a, c, rfl, q1, m1, q3⟩ := r
    go_enter Tryz.func94, Tryz.ntmps94
    go_wp2
    go_loop [1, 5] (fun kk i => kk = .int .i64 s ∧ i = .int .i64 0) (fun _ _ => 0)
    case atStart => exact ⟨rfl, rfl⟩
    case round =>
      obtain ⟨rfl, rfl⟩ := hrel
      go_wp2
      go_ret
      exact ⟨by simp, ⟨a, c, rfl, q1, m1, fun e => absurd rfl e⟩, Kept.refl _ _ _, rfl⟩
  · obtain ⟨a, c, rfl, q1, m1, q3⟩ := r
    obtain ⟨g, off, rfl, rest⟩ := q3 hz
    have r : Row .i64 true lo hi w (.slice (some ⟨g, off, none⟩) zs.length c) zs := ⟨_, _, rfl, q1, m1, q3⟩
    clear q3 rest
    have hpos : 0 < zs.length := List.length_pos_iff.2 hz
    have r0 : Row .i64 true lo hi w (.slice (some ⟨g, off, none⟩) zs.length c) (marks .i64 s 0 ++ zs.drop 0) := by simpa [marks] using r
    clear r hz q1 m1
    go_enter Tryz.func94, Tryz.ntmps94
    go_wp2
    go_loopw [1, 5] (fun kk i wr => ∃ j : Nat, j ≤ zs.length ∧ i = .int .i64 j ∧ kk = .int .i64 (s + j) ∧ Row .i64 true lo hi wr (.slice (some ⟨g, off, none⟩) zs.length c) (marks .i64 s j ++ zs.drop j) ∧ Kept lo hi w wr ∧ wr.heap.size = w.heap.size) (fun _ i _ => zs.length - (intOf i).toNat)
    case atStart => exact ⟨0, Nat.zero_le _, rfl, by simp, r0, Kept.refl _ _ _, rfl⟩
    case round =>
      clear r0
      obtain ⟨j, hj, rfl, rfl, hr, hk, hsz⟩ := hrel
      by_cases hlt : j < zs.length
      · obtain ⟨hc, hf, hl, hh, hgs, -⟩ := hr.at hlt
        generalize (marks .i64 s j ++ zs.drop j).getD j 0 = z at hc
        have HSZ : Hid (wr.heap.size = w.heap.size) := hsz
        clear hsz
        go_wp2
        have ew : IntKind.i64.wrap (s + j) = s + j := wrap_small _ (by omega) (by omega)
        have e2 : (marks .i64 s j ++ zs.drop j).set j (s + j) = marks .i64 s (j + 1) ++ zs.drop (j + 1) := by rw [← marks_step _ _ _ _ hlt, ew]
        have hs := hr.set j hpos (s + j)
        rw [e2] at hs
        have hk' := hk.setCell (p := ⟨g, off + j, none⟩) hl hh (.int .i64 (s + j))
        go_roundw
        case rel => exact ⟨j + 1, by omega, by go_num, by go_num, hs, hk', by simpa [World.setCell] using HSZ.out⟩
        case measure => simp [intOf]; omega
      · have e : j = zs.length := by omega
        subst e
        rw [marks_all] at hr
        have HSZ : Hid (wr.heap.size = w.heap.size) := hsz
        clear hsz
        go_wp2
        go_ret
        exact ⟨rfl, hr, hk, HSZ.out⟩

end Go.Proofs.YthahoabkehcgbaaGreatDoor

namespace Go.Proofs.YthahoabkehcgbaaGreatDoor
open Go.RowKit
set_option linter.unusedVariables false
set_option maxRecDepth 8000

theorem new_cell2 (w : World) (cs : Array Value) (t : TypeId) (n o : Nat) (v : Value) (hn : n = w.heap.size) (hv : cs[o]? = some v) : (w.alloc (.cells cs t)).cell? ⟨n, o, none⟩ = some v := by
  subst hn
  have hg : (w.alloc (.cells cs t)).heap[w.heap.size]? = some (.cells cs t) := heap_alloc_new w _
  simp only [World.cell?, hg]
  simpa using hv
theorem new_loose2 (w : World) (cs : Array Value) (t : TypeId) (n o : Nat) (hn : n = w.heap.size) : (w.alloc (.cells cs t)).frozen? ⟨n, o, none⟩ = false := by
  subst hn
  have hg : (w.alloc (.cells cs t)).heap[w.heap.size]? = some (.cells cs t) := heap_alloc_new w _
  simp only [World.frozen?, hg]
  simp

set_option maxHeartbeats 1000000 in
theorem szWhole_any {bw : Bool} {lo hi : Nat} {v : Value} {zs : List Int} (b : Bool) (w : World) (s : Int) (hs0 : 0 ≤ s) (hs1 : s ≤ 1048576) (r : Row .i64 bw lo hi w v zs) :
    Calls Tryz.prog 59 #[.agg #[.bool b, v], .int .i64 s] w fun e w' => e = .returned (.int .i64 (if (zs.length : Int) ≤ s then s - zs.length else -1)) ∧ Kept 0 0 w w' := by
  have k0 := (Kept.refl 0 0 w).alloc (.cells #[.bool b, v] 43)
  have s1 := r.kept k0 (by omega)
  have hm := r.len
  unfold maxLen at hm
  obtain ⟨a1, c1, rfl, -⟩ := r
  go_enter Tryz.func59, Tryz.ntmps59
  go_wp2_with fail
  refine (szNat_any _ s hs0 hs1 s1).mono ?_
  rintro e w6 ⟨rfl, k6⟩
  have K := hide (k0.trans k6)
  clear s1 k0 k6
  by_cases h : (zs.length : Int) ≤ s
  · rw [if_pos h]
    have h' : ¬ (s - (zs.length : Int)) < 0 := by omega
    go_wp2
    go_ret
    exact ⟨rfl, unhide K⟩
  · rw [if_neg h]
    go_wp2
    go_ret
    exact ⟨rfl, unhide K⟩

set_option maxHeartbeats 1000000 in
theorem eqWhole_same {b1 b2 : Bool} {l1 h1 l2 h2 : Nat} {v1 v2 : Value} {zs : List Int} (b : Bool) (w : World) (r1 : Row .i64 b1 l1 h1 w v1 zs) (r2 : Row .i64 b2 l2 h2 w v2 zs) :
    Calls Tryz.prog 66 #[.agg #[.bool b, v1], .agg #[.bool b, v2]] w fun e w' => e = .returned (.bool true) ∧ Kept 0 0 w w' := by
  have kk := ((Kept.refl 0 0 w).alloc (.cells #[.bool b, v1] 50)).alloc (.cells #[.bool b, v2] 50)
  have s1 := r1.kept kk (by omega)
  have s2 := r2.kept kk (by omega)
  have KK := hide kk
  obtain ⟨a1, c1, rfl, -⟩ := r1
  obtain ⟨a2, c2, rfl, -⟩ := r2
  have hbb : (b != b) = false := by simp
  clear kk
  go_enter Tryz.func66, Tryz.ntmps66
  go_wp2_with fail
  refine (eqNat_same _ s1 s2).mono ?_
  rintro e w6 ⟨rfl, k6⟩
  have K := hide ((unhide KK).trans k6)
  clear s1 s2 k6 KK
  go_wp2
  go_ret
  exact ⟨rfl, unhide K⟩

set_option maxHeartbeats 1000000 in
theorem toWhole_any {bw : Bool} {lo hi : Nat} {v : Value} {zs : List Int} (b : Bool) (w : World) (hn : zs.length ≤ 1099511627776) (r : Row .i64 bw lo hi w v zs) :
    Calls Tryz.prog 62 #[.agg #[.bool b, v]] w fun e w' => ∃ v', e = .returned (.agg #[.bool b, v']) ∧ Row .i64 true w.heap.size w'.heap.size w' v' zs ∧ Kept 0 0 w w' := by
  obtain ⟨a1, c1, rfl⟩ := Row.form' r
  go_enter Tryz.func62, Tryz.ntmps62
  go_wp2_with fail
  generalize hW : ((w.alloc (.cells #[.bool b, .slice a1 zs.length c1] 43)).alloc (.cells #[.bool false, .slice none 0 0] 50)).alloc (.cells #[.bool b, .slice none 0 0] 50) = W at *
  have hk : Kept 0 0 w W := by rw [← hW]; exact (((Kept.refl 0 0 w).alloc _).alloc _).alloc _
  have s1 := r.kept hk (by omega)
  have d0 : W.cell? ⟨w.heap.size + 1, 0, none⟩ = some (.bool false) := by rw [← hW]; exact old_cell _ (new_cell2 _ _ _ _ _ _ (by simp) rfl)
  have d1 : W.cell? ⟨w.heap.size + 1, 1, none⟩ = some (.slice none 0 0) := by rw [← hW]; exact old_cell _ (new_cell2 _ _ _ _ _ _ (by simp) rfl)
  have e0 : W.cell? ⟨w.heap.size + 1 + 1, 0, none⟩ = some (.bool b) := by rw [← hW]; exact new_cell2 _ _ _ _ _ _ (by simp) rfl
  have e1 : W.cell? ⟨w.heap.size + 1 + 1, 1, none⟩ = some (.slice none 0 0) := by rw [← hW]; exact new_cell2 _ _ _ _ _ _ (by simp) rfl
  have f0 : W.frozen? ⟨w.heap.size + 1, 0, none⟩ = false := by rw [← hW]; exact loose_old (by simp) (new_loose2 _ _ _ _ _ (by simp))
  have f1 : W.frozen? ⟨w.heap.size + 1, 1, none⟩ = false := by rw [← hW]; exact loose_old (by simp) (new_loose2 _ _ _ _ _ (by simp))
  have g1 : W.frozen? ⟨w.heap.size + 1 + 1, 1, none⟩ = false := by rw [← hW]; exact new_loose2 _ _ _ _ _ (by simp)
  have hs : W.heap.size = w.heap.size + 3 := by rw [← hW]; simp
  clear hW r
  refine (toNat_any _ hn s1).mono ?_
  rintro e w6 ⟨v6, rfl, r6, k6⟩
  replace d0 := k6.cell0 d0
  replace d1 := k6.cell0 d1
  replace e0 := k6.cell0 e0
  replace e1 := k6.cell0 e1
  replace f0 := k6.loose0 (by simp; omega) f0
  replace f1 := k6.loose0 (by simp; omega) f1
  replace g1 := k6.loose0 (by simp; omega) g1
  obtain ⟨a6, c6, rfl⟩ := Row.form' r6
  have K6 := hide (hk.trans k6)
  have R6 := hide r6
  have HS := hide hs
  clear s1 hk k6 r6 hs
  have R : Hid (Row .i64 true w.heap.size (((w6.setCell ⟨w.heap.size + 1 + 1, 1, none⟩ (.slice a6 zs.length c6)).setCell ⟨w.heap.size + 1, 0, none⟩ (.bool b)).setCell ⟨w.heap.size + 1, 1, none⟩ (.slice a6 zs.length c6)).heap.size (((w6.setCell ⟨w.heap.size + 1 + 1, 1, none⟩ (.slice a6 zs.length c6)).setCell ⟨w.heap.size + 1, 0, none⟩ (.bool b)).setCell ⟨w.heap.size + 1, 1, none⟩ (.slice a6 zs.length c6)) (.slice a6 zs.length c6) zs) :=
    ((((unhide R6).set_other (p := ⟨w.heap.size + 1 + 1, 1, none⟩) (by have := unhide HS; simp; omega) _).set_other (p := ⟨w.heap.size + 1, 0, none⟩) (by have := unhide HS; simp; omega) _).set_other (p := ⟨w.heap.size + 1, 1, none⟩) (by have := unhide HS; simp; omega) _).wider (by have := unhide HS; omega) (by simp [World.setCell])
  have K := hide ((((unhide K6).setNew (p := ⟨w.heap.size + 1 + 1, 1, none⟩) (by simp; omega) (.slice a6 zs.length c6)).setNew (p := ⟨w.heap.size + 1, 0, none⟩) (by simp) (.bool b)).setNew (p := ⟨w.heap.size + 1, 1, none⟩) (by simp) (.slice a6 zs.length c6))
  clear K6 R6 HS
  go_wp2
  exact bodyPost_ret (v := .agg #[.bool b, .slice a6 zs.length c6]) (by simp [results, Tryz.results62, go_sem, d0, d1]) rfl ⟨_, rfl, unhide R, unhide K⟩

end Go.Proofs.YthahoabkehcgbaaGreatDoor

namespace Go.Proofs.YthahoabkehcgbaaGreatDoor
open Go.RowKit
set_option linter.unusedVariables false
set_option maxRecDepth 8000
set_option linter.unusedSimpArgs false

theorem enters {P : Program} {n : FuncId} {F : Func} (hf : P.funcs[n]? = some F) (h1 : ¬ F.name = "runtime.NumGoroutine") (h2 : ¬ F.body = none) (w : World) (args : Array Value) : (callFunc n args).run P w = .ok (.enter n args) w := by
  simp [callFunc, hf, go_sem, h1, h2]
/-- A call of one argument, its guard decided. -/
theorem wps1 {P : Program} {o : Oper} {a : Act} {w : World} {K : Act → World → Prop} {Q : Exit → Act → World → Prop} {R : Ending → World → Prop}
    (n : FuncId) (x : Operand) (ts : Array TypeId) (hop : o.op = Op.call { callee := Callee.value (Operand.func n), args := #[x], argTypes := ts })
    (hcf : ∀ (w : World) (args : Array Value), (callFunc n args).run P w = .ok (.enter n args) w) (vx : Value) (hx : a.eval x = vx) (hc : Calls P n #[vx] w R) (hK : ∀ e w', R e w' → ∃ v, e = .returned v ∧ K (a.put o.dst v) w') :
    Oper.wp P o a w K Q := by
  unfold Oper.wp
  have hrun : (execOp a.eval o).run P w = .ok (.enter n #[vx]) w := by
    have hfn : a.eval (.func n) = .func (.func n) #[] #[] := rfl
    simp [execOp, hop, resolve, invoke, hx, hfn, Deferred.ofValue, Result.andThen, hcf]
  rw [hrun, Oper.upon_enter]
  refine hc.mono ?_
  intro e w' h
  obtain ⟨v, rfl, h2⟩ := hK e w' h
  exact h2
/-- A call of two arguments, its guard decided. -/
theorem wps2 {P : Program} {o : Oper} {a : Act} {w : World} {K : Act → World → Prop} {Q : Exit → Act → World → Prop} {R : Ending → World → Prop}
    (n : FuncId) (x y : Operand) (ts : Array TypeId) (hop : o.op = Op.call { callee := Callee.value (Operand.func n), args := #[x, y], argTypes := ts })
    (hcf : ∀ (w : World) (args : Array Value), (callFunc n args).run P w = .ok (.enter n args) w) (vx vy : Value) (hx : a.eval x = vx) (hy : a.eval y = vy) (hc : Calls P n #[vx, vy] w R) (hK : ∀ e w', R e w' → ∃ v, e = .returned v ∧ K (a.put o.dst v) w') :
    Oper.wp P o a w K Q := by
  unfold Oper.wp
  have hrun : (execOp a.eval o).run P w = .ok (.enter n #[vx, vy]) w := by
    have hfn : a.eval (.func n) = .func (.func n) #[] #[] := rfl
    simp [execOp, hop, resolve, invoke, hx, hy, hfn, Deferred.ofValue, Result.andThen, hcf]
  rw [hrun, Oper.upon_enter]
  refine hc.mono ?_
  intro e w' h
  obtain ⟨v, rfl, h2⟩ := hK e w' h
  exact h2

theorem in_l2norm : ∀ (w : World) (args : Array Value), (callFunc 197 args).run Tryz.prog w = .ok (.enter 197 args) w := enters Tryz.func197 (by decide) (fun h => by cases h)

theorem in_l3make : ∀ (w : World) (args : Array Value), (callFunc 152 args).run Tryz.prog w = .ok (.enter 152 args) w := enters Tryz.func152 (by decide) (fun h => by cases h)

end Go.Proofs.YthahoabkehcgbaaGreatDoor

