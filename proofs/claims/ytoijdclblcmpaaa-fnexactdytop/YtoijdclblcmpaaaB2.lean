/-
  Contracts that the proofs of this seat share: INum, INat1, INat2, INat3, INat4, INat5, INat6, INat7, Pair, INat9, INat11, INat14, INat15, INat17, INat19, INat20, INat22, INat26, Nat13, Law2.
-/
import Derived.Test.YtoijdclblcmpaaaB1
import Derived.Maps.AppendAt
import Derived.WalkLawsBesides
import Derived.Lib.Strings
import Derived.Lib.Slices
import Derived.Lib.Small
import Derived.Lib.Walk
import Derived.Lib.BitFns
import Derived.Deep.QuietTactic
import Derived.BigQuiet
import Derived.Deep.RegionHeld3
import Derived.BigRegion
import Derived.Deep.RegionLaw
import Derived.RegionTactic
import Derived.Deep.DeepCutAuto
namespace Go.Proofs.Ytoijdclblcmpaaa
open Go.RowKit
set_option linter.unusedVariables false
set_option maxRecDepth 8000

/-- Of what was there only blocks of S may have turned. -/
structure Mod (S : Nat → Prop) (w w' : World) : Prop where
  os : w'.os = w.os
  tape : w'.tape = w.tape
  output : w'.output = w.output
  size : w.heap.size ≤ w'.heap.size
  block : ∀ i, i < w.heap.size → ¬ S i → w'.heap[i]? = w.heap[i]?
/-- The blocks of a number whose cell is g and whose list is v. -/
def Own1 (g : Nat) (v : Value) (i : Nat) : Prop := i = g ∨ v.ownBlock = some i

theorem Mod.refl (S : Nat → Prop) (w : World) : Mod S w w := ⟨rfl, rfl, rfl, Nat.le_refl _, fun _ _ _ => rfl⟩
theorem Mod.trans {S : Nat → Prop} {a b c : World} (h : Mod S a b) (k : Mod S b c) : Mod S a c :=
  ⟨k.os.trans h.os, k.tape.trans h.tape, k.output.trans h.output, Nat.le_trans h.size k.size, fun i hi ho => (k.block i (Nat.lt_of_lt_of_le hi h.size) ho).trans (h.block i hi ho)⟩
/-- What turns in a second step may be new since the first. -/
theorem Mod.then {S T : Nat → Prop} {a b c : World} (h : Mod S a b) (k : Mod T b c) (hT : ∀ i, T i → S i ∨ a.heap.size ≤ i) : Mod S a c :=
  ⟨k.os.trans h.os, k.tape.trans h.tape, k.output.trans h.output, Nat.le_trans h.size k.size, fun i hi ho => (k.block i (Nat.lt_of_lt_of_le hi h.size) (fun ht => (hT i ht).elim ho (by omega))).trans (h.block i hi ho)⟩
theorem Mod.kept {S : Nat → Prop} {a b c : World} (h : Mod S a b) (k : Kept 0 0 b c) : Mod S a c :=
  ⟨k.os.trans h.os, k.tape.trans h.tape, k.output.trans h.output, Nat.le_trans h.size k.size, fun i hi ho => (k.block i (Nat.lt_of_lt_of_le hi h.size) (by omega)).trans (h.block i hi ho)⟩
theorem Kept.mod {S : Nat → Prop} {a w w' : World} (k : Kept 0 0 a w) (h : Mod S w w') (hS : ∀ i, S i → a.heap.size ≤ i) : Kept 0 0 a w' :=
  ⟨h.os.trans k.os, h.tape.trans k.tape, h.output.trans k.output, Nat.le_trans k.size h.size, fun i hi ho => (h.block i (Nat.lt_of_lt_of_le hi k.size) (fun hs => by have := hS i hs; omega)).trans (k.block i hi ho)⟩
theorem Kept.toMod {S : Nat → Prop} {w w' : World} (k : Kept 0 0 w w') : Mod S w w' := ⟨k.os, k.tape, k.output, k.size, fun i hi _ => k.block i hi (by omega)⟩
theorem Mod.drewN {S : Nat → Prop} {a w : World} (h : Mod S a w) (n : Nat) : Mod S a (w.drewN n) := h.kept ((Kept.refl 0 0 w).drewN n)
theorem Mod.set {S : Nat → Prop} {a w : World} (h : Mod S a w) {p : Addr} (hp : S p.block ∨ a.heap.size ≤ p.block) (u : Value) : Mod S a (w.setCell p u) :=
  ⟨h.os, h.tape, h.output, by have := h.size; simpa [World.setCell] using this, fun i hi ho => (Below.heap_setCell _ _ _ _ (fun e => by subst e; rcases hp with h1 | h1; exact ho h1; omega)).trans (h.block i hi ho)⟩
theorem Mod.grow {S : Nat → Prop} {a w w' : World} {row : Option Nat} (h : Mod S a w) (hg : w.grownBy w' row) (hr : ∀ k, row = some k → S k ∨ a.heap.size ≤ k) : Mod S a w' :=
  ⟨hg.os.trans h.os, hg.tape.trans h.tape, hg.output.trans h.output, Nat.le_trans h.size hg.size, fun i hi ho => (hg.block i (Nat.lt_of_lt_of_le hi h.size) (fun e => by rcases hr i e.symm with h1 | h1; exact ho h1; omega)).trans (h.block i hi ho)⟩
theorem Mod.cell {S : Nat → Prop} {W w' : World} (k : Mod S W w') {a : Addr} {v : Value} (hS : ¬ S a.block) (h : W.cell? a = some v) : w'.cell? a = some v := by
  have hlt : a.block < W.heap.size := World.block_lt_of_cell? W a h
  rw [← h]
  exact World.cell?_of_block (k.block _ hlt hS)
theorem Mod.loose {S : Nat → Prop} {W w' : World} (k : Mod S W w') {a : Addr} (hS : ¬ S a.block) (hb : a.block < W.heap.size) (h : W.frozen? a = false) : w'.frozen? a = false := by
  rw [← h]
  exact World.frozen?_of_block (k.block _ hb hS)
theorem Mod.own {S : Nat → Prop} {w w' : World} {b n : Nat} {e : TypeId} {v : Value} {xs : List Value} (k : Mod S w w') (h : w.ownsRow b e 1 v n xs) (hS : ∀ i, v.ownBlock = some i → ¬ S i) : w'.ownsRow b e 1 v n xs := by
  refine ⟨h.1, ?_⟩
  rcases h.2 with hn | ⟨g, cap, cur, rfl, hb, hgg, rest⟩
  · exact .inl hn
  · exact .inr ⟨g, cap, cur, rfl, hb, (k.block g (Array.getElem?_eq_some_iff.1 hgg).1 (hS g rfl)).trans hgg, rest⟩

/-- The cell g holds the list v of the call's own, with the limbs zs. -/
structure Num (b : Nat) (w : World) (g : Nat) (v : Value) (zs : List Int) : Prop where
  cell : w.cell? ⟨g, 0, none⟩ = some v
  loose : w.frozen? ⟨g, 0, none⟩ = false
  own : w.ownsRow b 3 1 v zs.length (zs.map (Value.int .i64))
  apart : v.ownBlock ≠ some g

theorem Num.lt {b g : Nat} {w : World} {v : Value} {zs : List Int} (h : Num b w g v zs) : g < w.heap.size := World.block_lt_of_cell? _ ⟨g, 0, none⟩ h.cell
theorem Num.form {b g : Nat} {w : World} {v : Value} {zs : List Int} (h : Num b w g v zs) : ∃ a c, v = .slice a zs.length c := own_slice h.own
theorem Num.row {b g : Nat} {w : World} {v : Value} {zs : List Int} (h : Num b w g v zs) : Row .i64 true b w.heap.size w v zs := Row.own h.own
theorem Num.kept {b g : Nat} {w w' : World} {v : Value} {zs : List Int} (h : Num b w g v zs) (k : Kept 0 0 w w') : Num b w' g v zs :=
  ⟨k.cell0 h.cell, k.loose0 h.lt h.loose, own_kept h.own k, h.apart⟩
theorem Num.mod {S : Nat → Prop} {b g : Nat} {w w' : World} {v : Value} {zs : List Int} (h : Num b w g v zs) (k : Mod S w w') (h1 : ¬ S g) (h2 : ∀ i, v.ownBlock = some i → ¬ S i) : Num b w' g v zs :=
  ⟨k.cell h1 h.cell, k.loose h1 h.lt h.loose, k.own h.own h2, h.apart⟩
theorem Num.new {b : Nat} {w : World} {v : Value} {zs : List Int} (t : TypeId) (h : w.ownsRow b 3 1 v zs.length (zs.map (Value.int .i64))) : Num b (w.alloc (.cells #[v] t)) w.heap.size v zs :=
  ⟨new_cell_at _ _ _ _ rfl, new_loose _ _ _ _ rfl, own_kept h ((Kept.refl 0 0 w).alloc _), fun e => by have := (h.lt _ e).2; omega⟩
theorem Num.less {b b' g : Nat} {w : World} {v : Value} {zs : List Int} (h : Num b w g v zs) (hb : b' ≤ b) : Num b' w g v zs := ⟨h.cell, h.loose, own_less h.own hb, h.apart⟩

/-- An empty list appended to nil is nil. -/
theorem run_append_nil_zero {P : Program} (w : World) (t ty e : TypeId) (i : TypeInfo) (ht : P.underlying t = some (.slice e)) (hi : P.info? e = some i) (b : Option Addr) (c : Nat) :
    (Builtin.append_ #[t, t] ty #[.slice none 0 0, .slice b 0 c]).run P w = .ok (.slice none 0 0) w := by
  cases b with
  | none => simp [Builtin.append_, run_underlying ht, sizeOf, typeInfo, hi, Builtin.lenOf, Builtin.firstCells]
  | some b => simp [Builtin.append_, run_underlying ht, sizeOf, typeInfo, hi, Builtin.lenOf, Builtin.firstCells, loadCells, loadCellsFrom]

set_option maxHeartbeats 1000000 in
theorem clone_impl {bw : Bool} {lo hi : Nat} {v : Value} {zs : List Int} (w : World) (r : Row .i64 bw lo hi w v zs) (hlen : zs.length ≤ 1000000) :
    Calls Try.prog 123 #[v] w fun e w' => ∃ v', e = .returned v' ∧ w'.ownsRow w.heap.size 3 1 v' zs.length (zs.map (Value.int .i64)) ∧ Kept 0 0 w w' := by
  have rr := r
  obtain ⟨a, c, rfl, q1, m1, q3⟩ := r
  obtain ⟨i0, hi0, hz0, hz1, hz2⟩ := info_parts Try.info3'
  clear q3
  have qs : ∀ (w : World) (a : Option Addr) (n c n' c' : Nat), (binOp .eql 24 (.slice a n c) (.slice none n' c')).run Try.prog w = .ok (.bool a.isNone) w := fun w a n c n' c' => Lib.run_eql_slice_nil w _ _ a n c n' c' Try.underlying24
  by_cases hz : zs = []
  · subst hz
    cases a with
    | none =>
      go_enter Try.func123, Try.ntmps123
      go_wp2
      go_ret
      exact ⟨_, rfl, ⟨rfl, .inl ⟨rfl, rfl⟩⟩, Kept.refl _ _ _⟩
    | some a =>
      have hrun := fun ty => run_append_zero (P := Try.prog) (w.alloc (.cells #[] 3)) 24 ty 3 i0 Try.underlying24 hi0 ⟨w.heap.size, 0, none⟩ (some a) 0 0 c (Nat.le_refl _)
      have HRUN := hide hrun
      clear hrun
      go_enter Try.func123, Try.ntmps123
      go_wp2_with (at_builtin; refine Lib.wpList_append_run _ rfl _ _ _ _ rfl _ _ rfl rfl _ _ (unhide HRUN _) ?_)
      go_ret
      exact ⟨_, rfl, own_nil_at w 3 _ _ rfl (Nat.le_refl _), (Kept.refl _ _ _).alloc _⟩
  · obtain ⟨g, off, c', e', -, -, hnews⟩ := (rr.kept ((Kept.refl 0 0 w).alloc (.cells #[] 3)) (by omega)).news hz
    cases e'
    have hown0 := own_nil_at w 3 w.heap.size w.heap.size rfl (Nat.le_refl _)
    have hlk : (zs.map (Value.int .i64)).length = zs.length * 1 := by simp
    have HN := hide hnews
    have HB : Hid (w.heap.size ≤ (w.alloc (.cells #[] 3)).heap.size) := by show _ ≤ _; simp
    have c3 : 0 + zs.length ≤ maxLen := by unfold maxLen; omega
    have c4 : (0 + zs.length) * 8 ≤ 140737488355328 := by omega
    have C3 := hide c3
    have C4 := hide c4
    clear hnews rr hz c3 c4
    go_enter Try.func123, Try.ntmps123
    go_wp2_with (at_builtin; refine wpList_append_own _ rfl _ _ 24 rfl w.heap.size 3 i0 (.int .i64 0) 1 8 Try.underlying24 hi0 hz0 hz1 hz2 rfl (by decide) _ _ _ rfl hown0 ⟨g, off, none⟩ zs.length c (zs.map (Value.int .i64)) rfl hlk (unhide HN) (ints_one _ _) (unhide C3) (unhide C4) (unhide HB) ?_)
    intro v4 w4 hown4 hgrow _
    have O4 := hide hown4
    have K4 := hide (((Kept.refl 0 0 w).alloc _).growNew hgrow (fun q hq => by simp [Value.ownBlock] at hq; omega))
    clear hown4 hgrow hown0 hlk
    go_wp2
    go_ret
    exact ⟨_, rfl, by have := unhide O4; simpa using this, unhide K4⟩

end Go.Proofs.Ytoijdclblcmpaaa

namespace Go.Proofs.Ytoijdclblcmpaaa
open Go.RowKit
set_option linter.unusedVariables false
set_option maxRecDepth 8000

set_option maxHeartbeats 1000000 in
theorem ok_impl {bw : Bool} {lo hi : Nat} {v : Value} {zs : List Int} (w : World) (r : Row .i64 bw lo hi w v zs) :
    Calls Try.prog 22 #[.agg #[v]] w fun e w' => e = .returned (.bool (okB zs)) ∧ Kept 0 0 w w' := by
  have rr := r
  obtain ⟨a, c, rfl, q1, m1, q3⟩ := r
  unfold maxLen at m1
  by_cases hbig : 100 < (zs.length : Int)
  · have e0 : okB zs = false := by unfold okB; rw [decide_eq_false (by omega)]; rfl
    rw [e0]
    go_enter Try.func22, Try.ntmps22
    go_wp2
    go_ret
    exact ⟨rfl, (Kept.refl _ _ _).alloc _⟩
  · have h100 : zs.length ≤ 100 := by omega
    have hat := (row_cell (rr.kept ((Kept.refl 0 0 w).alloc (.cells #[.slice a zs.length c] 26)) (by omega))).2.2.2
    have e1 : okB zs = (limB zs && (decide (zs.length = 0) || decide (0 < zs.getD (zs.length - 1) 0))) := by unfold okB; rw [decide_eq_true h100]; simp
    generalize okB zs = K at *
    have HE := hide e1
    clear e1 q3 rr
    go_enter Try.func22, Try.ntmps22
    go_wp2
    go_loop [12] (fun i => ∃ k : Nat, k ≤ zs.length ∧ i = .int .i64 k ∧ Hid (∀ m, m < k → 0 ≤ zs.getD m 0 ∧ zs.getD m 0 ≤ 65535)) (fun i => zs.length - (intOf i).toNat)
    case atStart => exact ⟨0, Nat.zero_le _, rfl, fun m hm => absurd hm (Nat.not_lt_zero _)⟩
    case round =>
      obtain ⟨k, hk, rfl, hall⟩ := hrel
      by_cases hlt : k < zs.length
      · have hlt' : (k : Int) < (zs.length : Int) := by omega
        obtain ⟨g, off, rfl, hc⟩ := hat k hlt
        have hbad := limB_bad (zs := zs) hlt
        generalize hz : zs.getD k 0 = z at *
        have HZ := hide hz
        have HB := hide hbad
        clear hat hz hbad
        by_cases z0 : z < 0
        · have e2 := unhide HE
          rw [unhide HB (.inl z0)] at e2
          simp at e2
          subst e2
          go_wp2
          go_ret
          exact ⟨rfl, (Kept.refl _ _ _).alloc _⟩
        by_cases z1 : 65536 ≤ z
        · have e2 := unhide HE
          rw [unhide HB (.inr (by omega))] at e2
          simp at e2
          subst e2
          go_wp2
          go_ret
          exact ⟨rfl, (Kept.refl _ _ _).alloc _⟩
        · go_wp2
          go_round
          case rel => exact ⟨k + 1, by omega, by go_num, fun m hm => by
            rcases Nat.lt_succ_iff_lt_or_eq.1 hm with h | h
            · exact hall.out m h
            · subst h; rw [unhide HZ]; omega⟩
          case measure => simp [intOf]; omega
      · have hlt' : ¬ (k : Int) < (zs.length : Int) := by omega
        have hlm : Lim zs := fun z hz => by
          obtain ⟨i, hi, rfl⟩ := List.getElem_of_mem hz
          have := hall.out i (by omega)
          simpa [List.getD, hi] using this
        have hlim : limB zs = true := (limB_iff zs).2 hlm
        have e2 := unhide HE
        rw [hlim, Bool.true_and] at e2
        by_cases h0 : zs.length = 0
        · rw [decide_eq_true h0] at e2
          simp at e2
          subst e2
          have h0' : ((zs.length : Int) == 0) = true := by simp [h0]
          have H0 := hide h0
          clear hat h0 hlim hlm
          go_wp2
          go_ret
          exact ⟨rfl, (Kept.refl _ _ _).alloc _⟩
        · rw [decide_eq_false h0, Bool.false_or] at e2
          have h0' : ((zs.length : Int) == 0) = false := beq_eq_false_iff_ne.2 (by omega)
          obtain ⟨g, off, rfl, hc⟩ := hat (zs.length - 1) (by omega)
          have hl1 : 1 ≤ zs.length := by omega
          have hz0 := (hlm.at (zs.length - 1)).1
          generalize zs.getD (zs.length - 1) 0 = z at *
          have e3 : decide (0 < z) = (z != 0) := by
            by_cases h : z = 0
            · subst h; rfl
            · rw [decide_eq_true (by omega)]; simp [h]
          rw [e3] at e2
          subst e2
          clear hat hlim h0 hall HE hlm e3
          go_wp2
          go_ret
          exact ⟨by first | rfl | simp, (Kept.refl _ _ _).alloc _⟩

end Go.Proofs.Ytoijdclblcmpaaa

namespace Go.Proofs.Ytoijdclblcmpaaa
open Go.RowKit
set_option linter.unusedVariables false
set_option maxRecDepth 8000

/-- What is told of a number: itself, if it is not too long. -/
def tell (zs : List Int) : List Int := if zs.length ≤ 100 then zs else []

set_option maxHeartbeats 1000000 in
theorem limbsOf_impl {bw : Bool} {lo hi : Nat} {v : Value} {zs : List Int} (w : World) (r : Row .i64 bw lo hi w v zs) (hlen : zs.length ≤ 1000000) :
    Calls Try.prog 75 #[.agg #[v]] w fun e w' => ∃ v', e = .returned (.agg #[v']) ∧ w'.ownsRow w.heap.size 3 1 v' zs.length (zs.map (Value.int .i64)) ∧ Kept 0 0 w w' := by
  have s1 := r.kept (((Kept.refl 0 0 w).alloc (.cells #[v] 26)).alloc (.cells #[.slice none 0 0] 88)) (by omega)
  obtain ⟨a1, c1, rfl⟩ : ∃ a c, v = .slice a zs.length c := by obtain ⟨a, c, h, -⟩ := r; exact ⟨a, c, h⟩
  clear r
  go_enter Try.func75, Try.ntmps75
  go_wp2_with fail
  generalize hW : (w.alloc (.cells #[.slice a1 zs.length c1] 26)).alloc (.cells #[.slice none 0 0] 88) = W at *
  have c2' : W.cell? ⟨w.heap.size + 1, 0, none⟩ = some (.slice none 0 0) := by rw [← hW]; exact new_cell_at _ _ _ _ (by simp)
  have f2' : W.frozen? ⟨w.heap.size + 1, 0, none⟩ = false := by rw [← hW]; exact new_loose _ _ _ _ (by simp)
  have hs : W.heap.size = w.heap.size + 2 := by rw [← hW]; simp
  have hk : Kept 0 0 w W := by rw [← hW]; exact ((Kept.refl 0 0 w).alloc _).alloc _
  clear hW
  refine (clone_impl _ s1 hlen).mono ?_
  rintro e w6 ⟨v6, rfl, o6, k6⟩
  have c4 := k6.cell0 c2'
  have f4 := k6.loose0 (by simp; omega) f2'
  have O : Hid ((w6.setCell ⟨w.heap.size + 1, 0, none⟩ v6).ownsRow w.heap.size 3 1 v6 zs.length (zs.map (Value.int .i64))) := own_less (ownsRow_setCell_below o6 (a := ⟨w.heap.size + 1, 0, none⟩) (by simp; omega) v6) (by omega)
  have K : Hid (Kept 0 0 w (w6.setCell ⟨w.heap.size + 1, 0, none⟩ v6)) := (hk.trans k6).setNew (p := ⟨w.heap.size + 1, 0, none⟩) (by simp) _
  obtain ⟨a6, c6, rfl⟩ := own_slice o6
  clear s1 c2' f2' hs hk k6 o6
  go_wp2
  exact bodyPost_ret (v := .agg #[.slice a6 zs.length c6]) (by simp [results, Try.results75, go_sem, c4]) rfl ⟨_, rfl, unhide O, unhide K⟩

set_option maxHeartbeats 1000000 in
theorem told_impl {b g : Nat} {v : Value} {zs : List Int} (w : World) (h : Num b w g v zs) :
    Calls Try.prog 77 #[.pointer (some ⟨g, 0, none⟩)] w fun e w' => ∃ v', e = .returned (.tuple #[.agg #[v'], .bool (decide (zs.length ≤ 100))]) ∧ Row .i64 true w.heap.size w'.heap.size w' v' (tell zs) ∧ Kept 0 0 w w' := by
  obtain ⟨a1, c1, rfl⟩ := h.form
  have rr := h.row
  have hm := rr.len
  unfold maxLen at hm
  have hlt := h.lt
  have hc := h.cell
  obtain ⟨i0, hi0, hz0, hz1, hz2⟩ := info_parts Try.info3'
  have hne : ¬ g = w.heap.size := by omega
  have hne' : ¬ w.heap.size = g := by omega
  by_cases hbig : 100 < (zs.length : Int)
  · have hn : ¬ zs.length ≤ 100 := by omega
    rw [decide_eq_false hn]
    have e0 : tell zs = [] := by unfold tell; rw [if_neg hn]
    rw [e0]
    clear h rr
    go_enter Try.func77, Try.ntmps77
    go_wp2
    exact bodyPost_ret (v := .tuple #[.agg #[.slice none 0 0], .bool false]) (by simp [results, Try.results77, go_sem]) rfl ⟨_, rfl, Row.nil _ _ _ _ _, (Kept.refl _ _ _).alloc _⟩
  · have hn : zs.length ≤ 100 := by omega
    rw [decide_eq_true hn]
    have e0 : tell zs = zs := by unfold tell; rw [if_pos hn]
    rw [e0]
    by_cases hz : zs = []
    · subst hz
      have hrun := fun ty => run_append_nil_zero (P := Try.prog) (w.alloc (.cells #[.slice none 0 0] 26)) 24 ty 3 i0 Try.underlying24 hi0 a1 c1
      have HRUN := hide hrun
      clear hrun h rr
      go_enter Try.func77, Try.ntmps77
      go_wp2_with (at_builtin; refine Lib.wpList_append_run _ rfl _ _ _ _ rfl _ _ rfl rfl _ _ (unhide HRUN _) ?_)
      exact bodyPost_ret (v := .tuple #[.agg #[.slice none 0 0], .bool true]) (by simp [results, Try.results77, go_sem]) rfl ⟨_, rfl, Row.nil _ _ _ _ _, (Kept.refl _ _ _).alloc _⟩
    · obtain ⟨g1, off, c', e', -, -, hnews⟩ := (rr.kept ((Kept.refl 0 0 w).alloc (.cells #[.slice none 0 0] 26)) (by omega)).news hz
      cases e'
      have hown0 : (w.alloc (.cells #[.slice none 0 0] 26)).ownsRow (w.heap.size + 1) 3 1 (.slice none 0 0) 0 [] := World.ownsRow_nil _ _ _ _
      have hlk : (zs.map (Value.int .i64)).length = zs.length * 1 := by simp
      have HN := hide hnews
      have HB : Hid (w.heap.size + 1 ≤ (w.alloc (.cells #[.slice none 0 0] 26)).heap.size) := by show _ ≤ _; simp
      have c3 : 0 + zs.length ≤ maxLen := by unfold maxLen; omega
      have c4 : (0 + zs.length) * 8 ≤ 140737488355328 := by omega
      have C3 := hide c3
      have C4 := hide c4
      have cr : (w.alloc (.cells #[.slice none 0 0] 26)).cell? ⟨w.heap.size, 0, none⟩ = some (.slice none 0 0) := new_cell_at _ _ _ _ rfl
      have fr : (w.alloc (.cells #[.slice none 0 0] 26)).frozen? ⟨w.heap.size, 0, none⟩ = false := new_loose _ _ _ _ rfl
      have CR := hide cr
      have FR := hide fr
      clear hnews rr hz c3 c4 h cr fr
      go_enter Try.func77, Try.ntmps77
      go_wp2_with (at_builtin; refine wpList_append_own _ rfl _ _ 24 rfl (w.heap.size + 1) 3 i0 (.int .i64 0) 1 8 Try.underlying24 hi0 hz0 hz1 hz2 rfl (by decide) _ _ _ rfl hown0 ⟨g1, off, none⟩ zs.length c1 (zs.map (Value.int .i64)) rfl hlk (unhide HN) (ints_one _ _) (unhide C3) (unhide C4) (unhide HB) ?_)
      intro v4 w4 hown4 hgrow _
      have k4 := ((Kept.refl 0 0 w).alloc _).growNew hgrow (fun q hq => by simp [Value.ownBlock] at hq)
      have k4' : Kept 0 0 (w.alloc (.cells #[.slice none 0 0] 26)) w4 := (Kept.refl 0 0 _).growNew hgrow (fun q hq => by simp [Value.ownBlock] at hq)
      have cr := k4'.cell0 (unhide CR)
      have fr := k4'.loose0 (by simp) (unhide FR)
      try simp only [Nat.zero_add, List.nil_append] at hown4
      obtain ⟨a4, c4, rfl⟩ := own_slice hown4
      have K : Hid (Kept 0 0 w (w4.setCell ⟨w.heap.size, 0, none⟩ (.slice a4 zs.length c4))) := k4.setNew (p := ⟨w.heap.size, 0, none⟩) (Nat.le_refl _) _
      have R : Hid (Row .i64 true w.heap.size (w4.setCell ⟨w.heap.size, 0, none⟩ (.slice a4 zs.length c4)).heap.size (w4.setCell ⟨w.heap.size, 0, none⟩ (.slice a4 zs.length c4)) (.slice a4 zs.length c4) zs) := (Row.own (ownsRow_setCell_below hown4 (a := ⟨w.heap.size, 0, none⟩) (by simp) _)).wider (by omega) (Nat.le_refl _)
      clear hown4 hgrow hown0 hlk k4 k4' HN HB CR FR
      go_wp2
      exact bodyPost_ret (v := .tuple #[.agg #[.slice a4 zs.length c4], .bool true]) (by simp [results, Try.results77, go_sem, cr]) rfl ⟨_, rfl, unhide R, unhide K⟩

end Go.Proofs.Ytoijdclblcmpaaa

namespace Go.Proofs.Ytoijdclblcmpaaa
open Go.RowKit
set_option linter.unusedVariables false
set_option maxRecDepth 8000

theorem own_apart {w : World} {b n : Nat} {e : TypeId} {v : Value} {xs : List Value} (h : w.ownsRow b e 1 v n xs) {p : Addr} (hne : v.ownBlock ≠ some p.block) (u : Value) : (w.setCell p u).ownsRow b e 1 v n xs :=
  ((Mod.refl (fun i => i = p.block) w).set (.inl rfl) u).own h (fun i hi e => hne (by rw [hi, e]))
theorem Mod.cellAt {S : Nat → Prop} {W w' : World} (k : Mod S W w') {g o : Nat} {v : Value} (hS : ¬ S g) (h : W.cell? ⟨g, o, none⟩ = some v) : w'.cell? ⟨g, o, none⟩ = some v := k.cell (a := ⟨g, o, none⟩) hS h
theorem Mod.looseAt {S : Nat → Prop} {W w' : World} (k : Mod S W w') {g o : Nat} (hS : ¬ S g) (hb : g < W.heap.size) (h : W.frozen? ⟨g, o, none⟩ = false) : w'.frozen? ⟨g, o, none⟩ = false := k.loose (a := ⟨g, o, none⟩) hS hb h
theorem Num.stored {b g : Nat} {w w' : World} {v u v' : Value} {ys : List Int} (m : Mod (Own1 g v) w w') (hc : w'.cell? ⟨g, 0, none⟩ = some u) (hf : w'.frozen? ⟨g, 0, none⟩ = false)
    (ho : w'.ownsRow b 3 1 v' ys.length (ys.map (Value.int .i64))) (ha : v'.ownBlock ≠ some g) : Num b (w'.setCell ⟨g, 0, none⟩ v') g v' ys ∧ Mod (Own1 g v) w (w'.setCell ⟨g, 0, none⟩ v') :=
  ⟨⟨by have := cell_set w' g 0 0 v' u hc; simpa using this, by rw [frozen_set]; exact hf, own_apart ho ha v', ha⟩, m.set (.inl (.inl rfl)) v'⟩

/-- A list of limbs of the call's own. -/
def OwnL (b : Nat) (w : World) (v : Value) (zs : List Int) : Prop := w.ownsRow b 3 1 v zs.length (zs.map (Value.int .i64))

/-- One more limb appended to a list of the call's own. -/
theorem wpList_snoc {ops : Array Oper} {rest : List Oper} {o : Oper} {a : Act} {Q : Exit → Act → World → Prop} {b : Nat} {wr : World} {v : Value} {zs : List Int} (hgd : o.guard = none) (s x : Operand)
    (ho : o.op = .call { callee := .builtin .append, args := #[s, x], argTypes := #[24, 24] }) (hs : a.eval s = v) (ad : Addr) (hx : a.eval x = .slice (some ad) 1 1) (z : Int)
    (hc : wr.cell? ad = some (.int .i64 z)) (hown : wr.ownsRow b 3 1 v zs.length (zs.map (Value.int .i64))) (hn : zs.length ≤ 1000000) (hb : b ≤ wr.heap.size)
    (h : ∀ v' w', OwnL b w' v' (zs ++ [z]) → wr.grownBy w' v.ownBlock → Hid (v'.ownBlock = v.ownBlock ∨ v'.ownBlock = some wr.heap.size) → wpList Try.prog ops Q rest (a.put o.dst v') w') : wpList Try.prog ops Q (o :: rest) a wr := by
  obtain ⟨i0, hi0, hz0, hz1, hz2⟩ := info_parts Try.info3'
  refine wpList_append_own_at _ hgd _ _ 24 ho b 3 i0 (.int .i64 0) 1 8 Try.underlying24 hi0 hz0 hz1 hz2 rfl (by decide) _ _ _ hs hown ad 1 1 [.int .i64 z] hx rfl (lit_cell hc) ?_ ?_ ?_ hb ?_
  · intro u hu; simp at hu; subst hu; rfl
  · unfold maxLen; omega
  · omega
  · intro v' w' hown hgrow _ hat
    exact h v' w' (by unfold OwnL; simpa using hown) hgrow (hide hat)

/-- A number with one more limb, behind the append: what holds when it is stored. -/
theorem Num.snoc {b g : Nat} {w w' : World} {v v' : Value} {zs ys : List Int} (h : Num b w g v zs) (o : Obj) (hg : (w.alloc o).grownBy w' v.ownBlock) (hat : v'.ownBlock = v.ownBlock ∨ v'.ownBlock = some (w.heap.size + 1))
    (hown : w'.ownsRow b 3 1 v' ys.length (ys.map (Value.int .i64))) :
    w'.cell? ⟨g, 0, none⟩ = some v ∧ w'.frozen? ⟨g, 0, none⟩ = false ∧ Num b (w'.setCell ⟨g, 0, none⟩ v') g v' ys ∧ Mod (Own1 g v) w (w'.setCell ⟨g, 0, none⟩ v') := by
  have k := (Kept.refl 0 0 w).alloc o
  have m : Mod (Own1 g v) w w' := (k.toMod).grow hg (fun i hi => .inl (.inr hi))
  have m1 : Mod (fun i => v.ownBlock = some i) (w.alloc o) w' := (Mod.refl _ _).grow hg (fun i hi => .inl hi)
  have hlt := h.lt
  have h1 := m1.cell (a := ⟨g, 0, none⟩) h.apart (k.cell0 h.cell)
  have h2 := m1.loose (a := ⟨g, 0, none⟩) h.apart (by simp; omega) (k.loose0 hlt h.loose)
  have ha : v'.ownBlock ≠ some g := by
    rcases hat with e | e
    · rw [e]; exact h.apart
    · rw [e]; simp; omega
  exact ⟨h1, h2, Num.stored m h1 h2 hown ha⟩

set_option maxHeartbeats 2000000 in
theorem limbsOfInt_impl (w : World) (n : Int) (hn : n ≤ 9223372036854775807) :
    Calls Try.prog 137 #[.int .i64 n] w fun e w' => ∃ v', e = .returned (.agg #[v']) ∧ w'.ownsRow w.heap.size 3 1 v' (limbs n.toNat).length ((limbs n.toNat).map (Value.int .i64)) ∧ Kept 0 0 w w' := by
  have hlen : (limbs n.toNat).length ≤ 4 := (limbs_length_le _ _).2 (by
    have : (65536 : Int) ^ 4 = 18446744073709551616 := by decide
    omega)
  generalize hL : limbs n.toNat = L at *
  have HL := hide hL
  have k0 := ((Kept.refl 0 0 w).alloc (.cells #[.slice none 0 0] 88)).alloc (.cells #[.slice none 0 0] 88)
  have n0 : Num (w.heap.size + 2) ((w.alloc (.cells #[.slice none 0 0] 88)).alloc (.cells #[.slice none 0 0] 88)) (w.heap.size + 1) (.slice none 0 0) [] := by
    have := Num.new (w := w.alloc (.cells #[.slice none 0 0] 88)) (b := w.heap.size + 2) (zs := []) 88 (World.ownsRow_nil _ _ _ _)
    simpa using this
  have c0 : ((w.alloc (.cells #[.slice none 0 0] 88)).alloc (.cells #[.slice none 0 0] 88)).cell? ⟨w.heap.size, 0, none⟩ = some (.slice none 0 0) := old_cell _ (new_cell_at _ _ _ _ rfl)
  have f0 : ((w.alloc (.cells #[.slice none 0 0] 88)).alloc (.cells #[.slice none 0 0] 88)).frozen? ⟨w.heap.size, 0, none⟩ = false := loose_old (by simp) (new_loose _ _ _ _ rfl)
  have s0 : w.heap.size + 2 ≤ ((w.alloc (.cells #[.slice none 0 0] 88)).alloc (.cells #[.slice none 0 0] 88)).heap.size := by simp
  clear hL
  go_enter Try.func137, Try.ntmps137
  go_wp2
  generalize (w.alloc (.cells #[.slice none 0 0] 88)).alloc (.cells #[.slice none 0 0] 88) = w1 at *
  go_loopw [0] (fun m wr => ∃ (zs : List Int) (i : Int) (v : Value), m = .int .i64 i ∧ i ≤ 9223372036854775807 ∧ Hid (zs ++ limbs i.toNat = L) ∧ Num (w.heap.size + 2) wr (w.heap.size + 1) v zs ∧ Hid (Kept 0 0 w wr) ∧ wr.cell? ⟨w.heap.size, 0, none⟩ = some (.slice none 0 0) ∧ wr.frozen? ⟨w.heap.size, 0, none⟩ = false ∧ Hid (w.heap.size + 2 ≤ wr.heap.size)) (fun m _ => (intOf m).toNat)
  case atStart => exact ⟨[], n, _, rfl, hn, by have := unhide HL; show _ = _; simpa using this, n0, hide k0, c0, f0, hide s0⟩
  case round =>
    clear k0 n0 c0 f0 s0
    obtain ⟨zs, i, v, rfl, hi, hzs, hN, hK, hc0, hf0, hs0⟩ := hrel
    by_cases hp : 0 < i
    · have hc := limbs_cons i.toNat (by omega)
      have hz := unhide hzs
      rw [hc] at hz
      have hl : zs.length ≤ 4 := by
        have := congrArg List.length hz
        simp at this; omega
      have e1 : ((i.toNat % 65536 : Nat) : Int) = i % 65536 := by omega
      have e2 : i.toNat / 65536 = (i / 65536).toNat := by omega
      have e3 : i.tmod 65536 = i % 65536 := by rw [Int.tmod_eq_emod_of_nonneg (by omega)]
      have e4 : i.tdiv 65536 = i / 65536 := by rw [Int.tdiv_eq_ediv_of_nonneg (by omega)]
      rw [e1, e2] at hz
      have HZ := hide hz
      clear hc hz e1 e2
      obtain ⟨a1, c1, rfl⟩ := hN.form
      have hcell := hN.cell
      have hloose := hN.loose
      have hown' := own_kept hN.own ((Kept.refl 0 0 wr).alloc (.cells #[.int .i64 (i % 65536)] 3))
      have hl' : zs.length ≤ 1000000 := by omega
      have hbb : w.heap.size + 2 ≤ (wr.alloc (.cells #[.int .i64 (i % 65536)] 3)).heap.size := by have := unhide hs0; simp; omega
      have HBB := hide hbb
      have hcc : (wr.alloc (.cells #[.int .i64 (i % 65536)] 3)).cell? ⟨wr.heap.size, 0, none⟩ = some (.int .i64 (i % 65536)) := new_cell_at _ _ _ _ rfl
      clear hbb
      go_wp2_with (at_builtin; refine wpList_snoc rfl _ _ rfl rfl _ rfl (i % 65536) hcc hown' hl' (unhide HBB) ?_)
      intro v' w' hown2 hgrow hat
      unfold OwnL at hown2
      replace hat := unhide hat
      obtain ⟨d1, d2, d3, d4⟩ := hN.snoc _ hgrow hat hown2
      obtain ⟨a2, c2, e2⟩ := own_slice hown2
      rw [List.length_append, List.length_singleton] at e2
      subst e2
      have hS0 : ¬ Own1 (w.heap.size + 1) (.slice a1 zs.length c1) w.heap.size := fun e => e.elim (by omega) (fun h => by have := (hN.own.lt _ h).1; omega)
      have x1 := d4.cellAt hS0 hc0
      have x2 := d4.looseAt hS0 (by have := unhide hs0; omega) hf0
      have x3 := hide ((unhide hK).mod d4 (fun i hi => hi.elim (by omega) (fun h => by have := (hN.own.lt _ h).1; omega)))
      have x4 := hide (Nat.le_trans (unhide hs0) d4.size)
      have D3 := hide d3
      have X1 := hide x1
      have X2 := hide x2
      clear hown' hown2 hgrow hat hN d4 hcell hloose x1 x2 hc0 hf0 hcc d3 hS0
      go_wp2
      go_roundw
      case rel => exact ⟨zs ++ [i % 65536], i / 65536, _, by go_num, by omega, by show _ = _; rw [← unhide HZ]; simp, unhide D3, x3, unhide X1, unhide X2, x4⟩
      case measure => simp [intOf]; omega
    · have e0 : zs = L := by have := unhide hzs; rw [show i.toNat = 0 from by omega, limbs_zero, List.append_nil] at this; exact this
      subst e0
      obtain ⟨a1, c1, rfl⟩ := hN.form
      have hcell := hN.cell
      have O := hide (own_less (own_apart hN.own (p := ⟨w.heap.size, 0, none⟩) (fun h => by have := (hN.own.lt _ h).1; simp at this; omega) (.slice a1 zs.length c1)) (Nat.le_add_right w.heap.size 2))
      have K := hide ((unhide hK).setNew (p := ⟨w.heap.size, 0, none⟩) (Nat.le_refl _) (.slice a1 zs.length c1))
      clear hN hK hzs
      go_wp2
      exact bodyPost_ret (v := .agg #[(.slice a1 zs.length c1)]) (by simp [results, Try.results137, go_sem, hc0]) rfl ⟨_, rfl, unhide O, unhide K⟩

end Go.Proofs.Ytoijdclblcmpaaa

namespace Go.Proofs.Ytoijdclblcmpaaa
open Go.RowKit
set_option linter.unusedVariables false
set_option maxRecDepth 8000

theorem limbs_int_length (n : Int) (hn : n ≤ 9223372036854775807) : (limbs n.toNat).length ≤ 4 := (limbs_length_le _ _).2 (by
    have : (65536 : Int) ^ 4 = 18446744073709551616 := by decide
    omega)
theorem tell_short {zs : List Int} (h : zs.length ≤ 100) : tell zs = zs := by unfold tell; rw [if_pos h]

set_option maxHeartbeats 1000000 in
theorem natOf_spec (w : World) (n : Int) (hn : n ≤ 9223372036854775807) :
    Calls Try.prog 89 #[.int .i64 n] w fun e w' => ∃ v', e = .returned (.tuple #[.agg #[v'], .bool (decide (0 ≤ n))]) ∧ Row .i64 true w.heap.size w'.heap.size w' v' (limbs n.toNat) ∧ Kept 0 0 w w' := by
  by_cases h : n < 0
  · have e0 : n.toNat = 0 := by omega
    rw [decide_eq_false (by omega), e0, limbs_zero]
    go_enter Try.func89, Try.ntmps89
    go_wp2_with fail
    exact bodyPost_ret (v := .tuple #[.agg #[.slice none 0 0], .bool false]) (by simp [results, Try.results89, go_sem]) rfl ⟨_, rfl, Row.nil _ _ _ _ _, (Kept.refl _ _ _).alloc _⟩
  · rw [decide_eq_true (by omega)]
    have cr : (w.alloc (.cells #[.slice none 0 0] 26)).cell? ⟨w.heap.size, 0, none⟩ = some (.slice none 0 0) := new_cell_at _ _ _ _ rfl
    have fr : (w.alloc (.cells #[.slice none 0 0] 26)).frozen? ⟨w.heap.size, 0, none⟩ = false := new_loose _ _ _ _ rfl
    have hs : (w.alloc (.cells #[.slice none 0 0] 26)).heap.size = w.heap.size + 1 := by simp
    have CR := hide cr
    have FR := hide fr
    have HS := hide hs
    clear cr fr hs
    go_enter Try.func89, Try.ntmps89
    go_wp2_with fail
    refine (of_spec _ n hn).mono ?_
    rintro e w6 ⟨v6, rfl, r6, k6⟩
    have cr := k6.cell0 (unhide CR)
    have fr := k6.loose0 (by simp) (unhide FR)
    obtain ⟨a6, c6, rfl⟩ : ∃ a c, v6 = .slice a (limbs n.toNat).length c := by obtain ⟨a, c, h, -⟩ := r6; exact ⟨a, c, h⟩
    have R := hide ((r6.set_other (p := ⟨w.heap.size, 0, none⟩) (by have := unhide HS; simp) (.slice a6 (limbs n.toNat).length c6)).tight.wider (lo' := w.heap.size) (by have := unhide HS; omega) (Nat.le_refl _))
    have K := hide ((((Kept.refl 0 0 w).alloc _).trans k6).setNew (p := ⟨w.heap.size, 0, none⟩) (Nat.le_refl _) (.slice a6 (limbs n.toNat).length c6))
    clear r6 k6 HS CR FR
    go_wp2_with fail
    exact bodyPost_ret (v := .tuple #[.agg #[.slice a6 (limbs n.toNat).length c6], .bool true]) (by simp [results, Try.results89, go_sem, cr]) rfl ⟨_, rfl, unhide R, unhide K⟩

end Go.Proofs.Ytoijdclblcmpaaa

namespace Go.Proofs.Ytoijdclblcmpaaa
open Go.RowKit
set_option linter.unusedVariables false
set_option maxRecDepth 8000

theorem bitLen_eq : ∀ n : Nat, n < 65536 → Lib.bitLen n = bitsN n := by
  intro n
  induction n using Nat.strongRecOn with
  | ind n ih =>
    intro h
    by_cases h0 : n = 0
    · subst h0; rfl
    · rw [Lib.bitLen_half n h0 (by omega), bitsN_half n (by omega), ih (n / 2) (by omega) (by omega)]
      omega

theorem wrap64_id (n : Int) (h0 : -9223372036854775808 ≤ n) (h1 : n ≤ 9223372036854775807) : wrap64 n = n := by
  unfold wrap64
  omega
theorem tab_all : ∀ n : Fin 256, (Lib.len8tab.data.toList.getD n.val 0).toNat = bitsN n.val := by decide +kernel
theorem tab_size : Lib.len8tab.size = 256 := by decide +kernel
theorem tab_at (k : Nat) (h : k < Lib.len8tab.size) : (Lib.len8tab[k]'h).toNat = bitsN k := by
  have h' : k < 256 := by rw [← tab_size]; exact h
  have := tab_all ⟨k, h'⟩
  rw [← this]
  have hk : k < Lib.len8tab.data.size := h
  show (Lib.len8tab.data[k]'hk).toNat = _
  simp [List.getD, Array.getElem?_eq_getElem hk]

set_option maxRecDepth 100000 in
set_option maxHeartbeats 4000000 in
theorem len64_impl (x : Int) (w : World) (h0 : 0 ≤ x) (h1 : x ≤ 65535) :
    Calls Try.prog 181 #[.int .u64 x] w fun e w' => e = .returned (.int .i64 (bitsN x.toNat)) ∧ w' = w := by
  have n1 : ¬ (4294967296 ≤ x) := by omega
  have n2 : ¬ (65536 ≤ x) := by omega
  have hz := tab_size
  have HZ := hide hz
  by_cases hb : 256 ≤ x
  · have i1 : x / 256 < (Lib.len8tab.size : Int) := by omega
    have i2 : 0 ≤ x / 256 := by omega
    clear hz
    go_enter Try.func181, Try.ntmps181
    go_wp2
    go_ret
    refine ⟨congrArg Ending.returned (congrArg (Value.int IntKind.i64) ?_), rfl⟩
    rw [tab_at]
    have e : (x / 256).toNat = x.toNat / 256 := by omega
    have l : bitsN (x.toNat / 256) ≤ 8 := (bitsN_le _ 8).2 (by omega)
    have s := Lib.bitLen_shift8 x.toNat (by omega) (by omega)
    rw [bitLen_eq _ (by omega), bitLen_eq _ (by omega)] at s
    rw [e]
    have w1 : wrap64 ((bitsN (x.toNat / 256) : Nat) : Int) = (bitsN (x.toNat / 256) : Nat) := wrap64_id _ (by omega) (by omega)
    rw [w1, s]
    rw [wrap64_id _ (by omega) (by omega)]
    omega
  · have i1 : x < (Lib.len8tab.size : Int) := by omega
    clear hz
    go_enter Try.func181, Try.ntmps181
    go_wp2
    go_ret
    refine ⟨congrArg Ending.returned (congrArg (Value.int IntKind.i64) ?_), rfl⟩
    rw [tab_at]
    have l : bitsN x.toNat ≤ 8 := (bitsN_le _ 8).2 (by omega)
    have w1 : wrap64 ((bitsN x.toNat : Nat) : Int) = (bitsN x.toNat : Nat) := wrap64_id _ (by omega) (by omega)
    rw [w1, w1]

set_option maxHeartbeats 1000000 in
theorem len_impl (x : Int) (w : World) (h0 : 0 ≤ x) (h1 : x ≤ 65535) :
    Calls Try.prog 169 #[.int .u64 x] w fun e w' => e = .returned (.int .i64 (bitsN x.toNat)) ∧ w' = w := by
  go_enter Try.func169, Try.ntmps169
  go_wp2_with (go_at_call 181; refine (len64_impl _ _ (by omega) (by omega)).mono ?_; rintro e w' ⟨rfl, rfl⟩)
  go_ret
  exact ⟨rfl, rfl⟩

end Go.Proofs.Ytoijdclblcmpaaa

namespace Go.Proofs.Ytoijdclblcmpaaa
open Go.RowKit
set_option linter.unusedVariables false
set_option maxRecDepth 8000

/-- What a number's limbs stand for, if it is well made; else nought. -/
def numOf (zs : List Int) : Nat := if okB zs = true then (val zs).toNat else 0
theorem numOf_ok {zs : List Int} (h : okB zs = true) : numOf zs = (val zs).toNat := by unfold numOf; rw [if_pos h]
theorem numOf_bad {zs : List Int} (h : okB zs = false) : numOf zs = 0 := by unfold numOf; rw [if_neg (by simp [h])]

theorem Num.at {b g : Nat} {w : World} {v : Value} {zs : List Int} (h : Num b w g v zs) : ∀ j, j < zs.length → ∃ g1 c, v = .slice (some ⟨g1, 0, none⟩) zs.length c ∧ w.cell? ⟨g1, j, none⟩ = some (.int .i64 (zs.getD j 0)) ∧ w.frozen? ⟨g1, j, none⟩ = false ∧ g1 ≠ g := by
  intro j hj
  obtain ⟨g1, cap, hv, -⟩ := own_form h.own (by omega)
  subst hv
  have := own_cell h.own j hj
  exact ⟨g1, cap, rfl, this.1, this.2, fun e => h.apart (by simp [Value.ownBlock, e])⟩

set_option maxHeartbeats 1000000 in
theorem bitsM_impl {b g : Nat} {v : Value} {zs : List Int} (w : World) (h : Num b w g v zs) (hl : Nrm zs) (hlen : zs.length ≤ 1000000) :
    Calls Try.prog 140 #[.pointer (some ⟨g, 0, none⟩)] w fun e w' => e = .returned (.int .i64 (bitsN (val zs).toNat)) ∧ Kept 0 0 w w' := by
  have hc := h.cell
  obtain ⟨a1, c1, rfl⟩ := h.form
  by_cases h0 : zs = []
  · subst h0
    have e0 : bitsN (val []).toNat = 0 := rfl
    rw [e0]
    clear h
    go_enter Try.func140, Try.ntmps140
    go_wp2
    go_ret
    exact ⟨rfl, Kept.refl _ _ _⟩
  · have h1 : 0 < zs.length := List.length_pos_iff.2 h0
    obtain ⟨n, hn⟩ : ∃ n, zs.length = n + 1 := ⟨zs.length - 1, by omega⟩
    have htop : zs.getD n 0 ≠ 0 := hl.2 _ (by rw [List.getLast?_eq_getElem?, hn]; simp [List.getD, hn])
    have hb := hl.1.at n
    have e1 := bitsN_val hl.1 n hn (by omega)
    obtain ⟨g1, c', e', hx, -, -⟩ := h.at n (by omega)
    cases e'
    obtain ⟨t, et⟩ : ∃ t : Nat, zs.getD n 0 = t := ⟨(zs.getD n 0).toNat, by omega⟩
    rw [et] at hx e1 hb
    rw [Int.toNat_natCast] at e1
    have hne : (((n + 1 : Nat) : Int) == 0) = false := beq_eq_false_iff_ne.2 (by omega)
    have hbt : bitsN t ≤ 16 := (bitsN_le t 16).2 (by omega)
    have hm := h.row.len
    unfold maxLen at hm
    rw [e1]
    rw [hn] at hc hm hlen
    have hn' : n ≤ 999999 := by omega
    have ht5 : (t : Int) ≤ 65535 := hb.2
    have hlen1 := fun w => len_impl (t : Int) w (by omega) ht5
    rw [Int.toNat_natCast] at hlen1
    have hn1 : zs.length = n + 1 := hn
    generalize bitsN t = R at *
    have HL := hide hlen1
    have HN := hide hn1
    clear h hl e1 et htop h0 h1 hlen1 hn hn1 hb
    go_enter Try.func140, Try.ntmps140
    go_wp2_with (first
      | (go_at_call 169; refine (unhide HL _).mono ?_; rintro e w' ⟨rfl, rfl⟩)
      | go_in)
    go_ret
    exact ⟨by go_num, Kept.refl _ _ _⟩

set_option maxHeartbeats 1000000 in
theorem at_impl {b g : Nat} {v : Value} {zs : List Int} (w : World) (h : Num b w g v zs) (i : Nat) (hi : (i : Int) ≤ 9223372036854775807) :
    Calls Try.prog 124 #[.pointer (some ⟨g, 0, none⟩), .int .i64 i] w fun e w' => e = .returned (.int .i64 (zs.getD i 0)) ∧ w' = w := by
  have hc := h.cell
  have hm := h.row.len
  unfold maxLen at hm
  by_cases hlt : i < zs.length
  · obtain ⟨g1, c', rfl, hx, -, -⟩ := h.at i hlt
    have hlt' : (i : Int) < (zs.length : Int) := by omega
    generalize zs.getD i 0 = z at *
    clear h
    go_enter Try.func124, Try.ntmps124
    go_wp2
    go_ret
    exact ⟨rfl, rfl⟩
  · have e0 : zs.getD i 0 = 0 := by simp [List.getD, List.getElem?_eq_none (Nat.le_of_not_lt hlt)]
    rw [e0]
    have hlt' : ¬ (i : Int) < (zs.length : Int) := by omega
    obtain ⟨a1, c1, rfl⟩ := h.form
    clear h
    go_enter Try.func124, Try.ntmps124
    go_wp2
    go_ret
    exact ⟨rfl, rfl⟩

/-- The bit i of a number. -/
def bitAt (n : Nat) (i : Int) : Int := if i < 0 then 0 else ((n / 2 ^ i.toNat % 2 : Nat) : Int)

end Go.Proofs.Ytoijdclblcmpaaa

namespace Go.Proofs.Ytoijdclblcmpaaa
open Go.RowKit
set_option linter.unusedVariables false
set_option maxRecDepth 8000

set_option maxHeartbeats 1000000 in
theorem cmp_impl (a b : Int) (w : World) :
    Calls Try.prog 126 #[.int .i64 a, .int .i64 b] w fun e w' => e = .returned (.int .i64 (cmpI a b)) ∧ w' = w := by
  have ha : (a != a) = false := by simp
  have hb : (b != b) = false := by simp
  by_cases h1 : a < b
  · rw [cmpI_lt h1]
    go_enter Try.func126, Try.ntmps126
    go_wp2
    go_ret
    exact ⟨rfl, rfl⟩
  by_cases h2 : b < a
  · rw [cmpI_gt h2]
    go_enter Try.func126, Try.ntmps126
    go_wp2
    go_ret
    exact ⟨rfl, rfl⟩
  · rw [cmpI_eq (by omega)]
    go_enter Try.func126, Try.ntmps126
    go_wp2
    go_ret
    exact ⟨rfl, rfl⟩

set_option maxHeartbeats 2000000 in
theorem compare_impl {b1 b2 g1 g2 : Nat} {v1 v2 : Value} {xs ys : List Int} (w : World) (n1 : Num b1 w g1 v1 xs) (n2 : Num b2 w g2 v2 ys) (hx : Nrm xs) (hy : Nrm ys) :
    Calls Try.prog 79 #[.pointer (some ⟨g1, 0, none⟩), .pointer (some ⟨g2, 0, none⟩)] w fun e w' => e = .returned (.int .i64 (cmpI (val xs) (val ys))) ∧ Kept 0 0 w w' := by
  obtain ⟨M, hM⟩ : ∃ M, M = xs.length := ⟨_, rfl⟩
  obtain ⟨N, hN⟩ : ∃ N, N = ys.length := ⟨_, rfl⟩
  have hc1 := n1.cell
  have hc2 := n2.cell
  have m1 := n1.row.len
  have m2 := n2.row.len
  unfold maxLen at m1 m2
  rw [← hM] at m1
  rw [← hN] at m2
  by_cases hlen : M = N
  · subst hlen
    generalize hR : cmpI (val xs) (val ys) = R
    have HR := hide hR
    clear hR
    have hat1 := n1.at
    have hat2 := n2.at
    obtain ⟨a1, c1, rfl⟩ := n1.form
    obtain ⟨a2, c2, rfl⟩ := n2.form
    rw [← hM] at hc1 hat1
    rw [← hN] at hc2 hat2
    have hbe : ((M : Int) != (M : Int)) = false := by simp
    have HM := hide hM
    have HN := hide hN
    clear n1 n2 hM hN
    go_enter Try.func79, Try.ntmps79
    go_wp2
    go_quiet (fail)
    go_wp2
    go_loopw [5] (fun i wr => ∃ k n : Nat, k ≤ M ∧ i = .int .i64 ((k : Int) - 1) ∧ Hid (val (xs.drop k) = val (ys.drop k)) ∧ wr = w.drewN n) (fun i _ => (intOf i + 1).toNat)
    case atStart => exact ⟨M, _, Nat.le_refl _, rfl, by
      have h1 := unhide HM
      have h2 := unhide HN
      show _ = _
      rw [List.drop_of_length_le (by omega), List.drop_of_length_le (by omega)], rfl⟩
    case round =>
      obtain ⟨k, n, hk, rfl, heq, rfl⟩ := hrel
      by_cases h0 : k = 0
      · subst h0
        have hR := unhide HR
        rw [cmpI_eq (by simpa using unhide heq)] at hR
        subst hR
        clear hat1 hat2
        go_wp2
        go_ret
        exact ⟨rfl, (Kept.refl 0 0 w).drewN n⟩
      · obtain ⟨j, rfl⟩ : ∃ j, k = j + 1 := ⟨k - 1, by omega⟩
        obtain ⟨y1, d1, e1, x1, -, -⟩ := hat1 j (by omega)
        obtain ⟨y2, d2, e2, x2, -, -⟩ := hat2 j (by omega)
        cases e1
        cases e2
        have e1 : ((j + 1 : Nat) : Int) - 1 = j := by omega
        rw [e1]
        have hd1 := val_drop xs j
        have hd2 := val_drop ys j
        have heq' := unhide heq
        have hlen : xs.length = ys.length := by rw [← unhide HM, ← unhide HN]
        have hlt := val_lt_of_drop hx.1 hy.1 hlen j (by have := unhide HM; omega)
        have hgt := val_lt_of_drop hy.1 hx.1 hlen.symm j (by have := unhide HN; omega)
        generalize hz1 : xs.getD j 0 = z1 at *
        generalize hz2 : ys.getD j 0 = z2 at *
        have hj1 : (j : Int) < (M : Int) := by omega
        clear hlen hat1 hat2 heq hz1 hz2
        by_cases ce : z1 = z2
        · have HE : Hid (val (xs.drop j) = val (ys.drop j)) := by show _ = _; omega
          have hne : (z1 != z2) = false := by simp [ce]
          clear hd1 hd2 hlt hgt heq' ce
          go_wp2
          go_quiet (fail)
          go_wp2
          go_roundw
          case rel => exact ⟨j, _, by omega, by go_num, HE, rfl⟩
          case measure => simp [intOf]
        · have hne : (z1 != z2) = true := by simp [ce]
          have hRz : cmpI z1 z2 = R := by
            rw [← unhide HR]
            by_cases hc : z1 < z2
            · rw [cmpI_lt hc, cmpI_lt (hlt (by omega))]
            · rw [cmpI_gt (by omega), cmpI_gt (hgt (by omega))]
          have HRZ := hide hRz
          have hcl := fun w => cmp_impl z1 z2 w
          have HC := hide hcl
          clear hd1 hd2 hlt hgt heq' ce hRz hcl
          go_wp2
          go_quiet (fail)
          go_wp2
          go_quiet ((go_at_call 126; exact (unhide HC _).mono (fun e w' h => ⟨h.1, _, h.2⟩)))
          go_wp2
          go_ret
          exact ⟨by rw [← unhide HRZ]; rfl, (((Kept.refl 0 0 w).drewN _).drewN _).drewN _⟩
  · have hne : ((M : Int) != (N : Int)) = true := by simp; omega
    have hR : cmpI (M : Int) (N : Int) = cmpI (val xs) (val ys) := by
      by_cases hlt : M < N
      · rw [cmpI_lt (val_lt_of_len hx.1 hy (by omega)), cmpI_lt (by omega)]
      · rw [cmpI_gt (val_lt_of_len hy.1 hx (by omega)), cmpI_gt (by omega)]
    obtain ⟨a1, c1, rfl⟩ := n1.form
    obtain ⟨a2, c2, rfl⟩ := n2.form
    rw [← hM] at hc1
    rw [← hN] at hc2
    rw [← hR]
    have hcl := fun w => cmp_impl (M : Int) (N : Int) w
    have HC := hide hcl
    clear n1 n2 hM hN hcl hR hlen
    go_enter Try.func79, Try.ntmps79
    go_wp2
    go_quiet (fail)
    go_wp2
    go_quiet ((go_at_call 126; exact (unhide HC _).mono (fun e w' h => ⟨h.1, _, h.2⟩)))
    go_wp2
    go_ret
    exact ⟨rfl, ((Kept.refl 0 0 w).drewN _).drewN _⟩

end Go.Proofs.Ytoijdclblcmpaaa

namespace Go.Proofs.Ytoijdclblcmpaaa
open Go.RowKit
set_option linter.unusedVariables false
set_option maxRecDepth 8000

theorem hold_alloc {w2 W : World} {p q : Addr} {u v : Value} (o : Obj) (h : W.cell? p = some u ∧ W.cell? q = some v ∧ Kept 0 0 w2 W) : (W.alloc o).cell? p = some u ∧ (W.alloc o).cell? q = some v ∧ Kept 0 0 w2 (W.alloc o) :=
  ⟨old_cell o h.1, old_cell o h.2.1, h.2.2.alloc o⟩
theorem hold_kept {w2 W w' : World} {p q : Addr} {u v : Value} (h : W.cell? p = some u ∧ W.cell? q = some v ∧ Kept 0 0 w2 W) (k : Kept 0 0 W w') : w'.cell? p = some u ∧ w'.cell? q = some v ∧ Kept 0 0 w2 w' :=
  ⟨k.cell0 h.1, k.cell0 h.2.1, h.2.2.trans k⟩
theorem hold_drew {w2 W : World} {p q : Addr} {u v : Value} (h : W.cell? p = some u ∧ W.cell? q = some v ∧ Kept 0 0 w2 W) : W.drew.cell? p = some u ∧ W.drew.cell? q = some v ∧ Kept 0 0 w2 W.drew := ⟨h.1, h.2.1, h.2.2.drew⟩
theorem drew_loose {W : World} {a : Addr} (h : W.frozen? a = false) : W.drew.frozen? a = false := h
theorem cell_aside {W : World} {p r : Addr} {u : Value} (x : Value) (hne : r.block ≠ p.block) (h : W.cell? p = some u) : (W.setCell r x).cell? p = some u := by
  rw [← h]
  exact World.cell?_of_block (Below.heap_setCell _ _ _ _ (Ne.symm hne))
theorem hold_set {w2 W : World} {p q r : Addr} {u v : Value} (x : Value) (h : W.cell? p = some u ∧ W.cell? q = some v ∧ Kept 0 0 w2 W) (hp : p.block < w2.heap.size) (hq : q.block < w2.heap.size) (hr : w2.heap.size ≤ r.block) :
    (W.setCell r x).cell? p = some u ∧ (W.setCell r x).cell? q = some v ∧ Kept 0 0 w2 (W.setCell r x) :=
  ⟨cell_aside x (by omega) h.1, cell_aside x (by omega) h.2.1, h.2.2.setNew hr x⟩
theorem hold_size {w2 W w' : World} {p q : Addr} {u v : Value} (h : W.cell? p = some u ∧ W.cell? q = some v ∧ Kept 0 0 w2 W) (k : Kept 0 0 W w') : w2.heap.size ≤ W.heap.size ∧ W.heap.size ≤ w'.heap.size := ⟨h.2.2.size, k.size⟩

theorem limbsOf_kept {bw : Bool} {lo hi : Nat} {v : Value} {zs : List Int} {w0 w : World} (r : Row .i64 bw lo hi w0 v zs) (hlen : zs.length ≤ 1000000) (k : Kept 0 0 w0 w) :
    Calls Try.prog 75 #[.agg #[v]] w fun e w' => ∃ v', e = .returned (.agg #[v']) ∧ w'.ownsRow w.heap.size 3 1 v' zs.length (zs.map (Value.int .i64)) ∧ Kept 0 0 w w' := limbsOf_impl w (r.kept k (by omega)) hlen

/-- Two numbers that lie apart, newer than w0. -/
structure Two (w0 wx : World) (g1 g2 : Nat) (u1 u2 : Value) (xs ys : List Int) : Prop where
  n1 : Num w0.heap.size wx g1 u1 xs
  n2 : Num w0.heap.size wx g2 u2 ys
  ne : g1 ≠ g2
  o12 : u1.ownBlock ≠ some g2
  o21 : u2.ownBlock ≠ some g1
  oo : ∀ k, u1.ownBlock = some k → u2.ownBlock ≠ some k
  k : Kept 0 0 w0 wx
  b1 : w0.heap.size ≤ g1
  b2 : w0.heap.size ≤ g2

theorem Two.swap {w0 wx : World} {g1 g2 : Nat} {u1 u2 : Value} {xs ys : List Int} (h : Two w0 wx g1 g2 u1 u2 xs ys) : Two w0 wx g2 g1 u2 u1 ys xs :=
  ⟨h.n2, h.n1, fun e => h.ne e.symm, h.o21, h.o12, fun k h1 h2 => h.oo k h2 h1, h.k, h.b2, h.b1⟩

section
variable {w0 w4 : World} {X Y b1 b2 : Nat} {u1 u2 z1 z2 : Value} {xs ys : List Int}
/-- Two cells that were there are set. -/
theorem two_set (hk : Kept 0 0 w0 w4) (O1 : w4.ownsRow b1 3 1 u1 xs.length (xs.map (Value.int .i64))) (O2 : w4.ownsRow b2 3 1 u2 ys.length (ys.map (Value.int .i64)))
    (cX : w4.cell? ⟨X, 0, none⟩ = some z1) (fX : w4.frozen? ⟨X, 0, none⟩ = false) (cY : w4.cell? ⟨Y, 0, none⟩ = some z2) (fY : w4.frozen? ⟨Y, 0, none⟩ = false)
    (hXY : X ≠ Y) (hX : w0.heap.size ≤ X) (hY : w0.heap.size ≤ Y) (hb1 : w0.heap.size ≤ b1) (hb2 : w0.heap.size ≤ b2)
    (h1X : u1.ownBlock ≠ some X) (h1Y : u1.ownBlock ≠ some Y) (h2X : u2.ownBlock ≠ some X) (h2Y : u2.ownBlock ≠ some Y) (h12 : ∀ k, u1.ownBlock = some k → u2.ownBlock ≠ some k) :
    Two w0 ((w4.setCell ⟨X, 0, none⟩ u1).setCell ⟨Y, 0, none⟩ u2) X Y u1 u2 xs ys := by
  have e1 : (w4.setCell ⟨X, 0, none⟩ u1).cell? ⟨X, 0, none⟩ = some u1 := by have := cell_set w4 X 0 0 u1 z1 cX; simpa using this
  have e2 : (w4.setCell ⟨X, 0, none⟩ u1).cell? ⟨Y, 0, none⟩ = some z2 := cell_aside u1 (p := ⟨Y, 0, none⟩) (r := ⟨X, 0, none⟩) hXY cY
  refine ⟨⟨cell_aside u2 (p := ⟨X, 0, none⟩) (r := ⟨Y, 0, none⟩) (fun e => hXY e.symm) e1, by rw [frozen_set, frozen_set]; exact fX, own_less (own_apart (own_apart O1 h1X u1) h1Y u2) hb1, h1X⟩,
    ⟨by have := cell_set (w4.setCell ⟨X, 0, none⟩ u1) Y 0 0 u2 z2 e2; simpa using this, by rw [frozen_set, frozen_set]; exact fY, own_less (own_apart (own_apart O2 h2X u1) h2Y u2) hb2, h2Y⟩,
    hXY, h1Y, h2X, h12, (hk.setNew (p := ⟨X, 0, none⟩) hX u1).setNew (p := ⟨Y, 0, none⟩) hY u2, hX, hY⟩
/-- One is set, one is new. -/
theorem two_new (hk : Kept 0 0 w0 w4) (O1 : w4.ownsRow b1 3 1 u1 xs.length (xs.map (Value.int .i64))) (O2 : w4.ownsRow b2 3 1 u2 ys.length (ys.map (Value.int .i64)))
    (cX : w4.cell? ⟨X, 0, none⟩ = some z1) (fX : w4.frozen? ⟨X, 0, none⟩ = false) (t : TypeId)
    (hX : w0.heap.size ≤ X) (hb1 : w0.heap.size ≤ b1) (hb2 : w0.heap.size ≤ b2)
    (h1X : u1.ownBlock ≠ some X) (h2X : u2.ownBlock ≠ some X) (h12 : ∀ k, u1.ownBlock = some k → u2.ownBlock ≠ some k) :
    Two w0 ((w4.setCell ⟨X, 0, none⟩ u1).alloc (.cells #[u2] t)) X w4.heap.size u1 u2 xs ys := by
  have lX : X < w4.heap.size := World.block_lt_of_cell? _ _ cX
  have e1 : (w4.setCell ⟨X, 0, none⟩ u1).cell? ⟨X, 0, none⟩ = some u1 := by have := cell_set w4 X 0 0 u1 z1 cX; simpa using this
  have hs : (w4.setCell ⟨X, 0, none⟩ u1).heap.size = w4.heap.size := by simp [World.setCell]
  have n2 := Num.new (w := w4.setCell ⟨X, 0, none⟩ u1) t (own_apart O2 h2X u1)
  rw [hs] at n2
  have kk := (Kept.refl 0 0 (w4.setCell ⟨X, 0, none⟩ u1)).alloc (.cells #[u2] t)
  exact ⟨⟨old_cell _ e1, loose_old (by rw [hs]; exact lX) (by rw [frozen_set]; exact fX), own_less (own_kept (own_apart O1 h1X u1) kk) hb1, h1X⟩, n2.less hb2,
    by omega, fun e => by have := (O1.lt _ e).2; omega, h2X, h12, (hk.setNew (p := ⟨X, 0, none⟩) hX u1).alloc _, hX, hk.size⟩
/-- Both are new. -/
theorem two_both (hk : Kept 0 0 w0 w4) (O1 : w4.ownsRow b1 3 1 u1 xs.length (xs.map (Value.int .i64))) (O2 : w4.ownsRow b2 3 1 u2 ys.length (ys.map (Value.int .i64))) (t t' : TypeId)
    (hb1 : w0.heap.size ≤ b1) (hb2 : w0.heap.size ≤ b2) (h12 : ∀ k, u1.ownBlock = some k → u2.ownBlock ≠ some k) :
    Two w0 ((w4.alloc (.cells #[u1] t)).alloc (.cells #[u2] t')) w4.heap.size (w4.heap.size + 1) u1 u2 xs ys := by
  have n1 := Num.new (w := w4) t O1
  have kk := (Kept.refl 0 0 w4).alloc (.cells #[u1] t)
  have n2 := Num.new (w := w4.alloc (.cells #[u1] t)) t' (own_kept O2 kk)
  have hs : (w4.alloc (.cells #[u1] t)).heap.size = w4.heap.size + 1 := by simp
  rw [hs] at n2
  have := hk.size
  exact ⟨(n1.kept ((Kept.refl 0 0 _).alloc _)).less hb1, n2.less hb2, by omega, fun e => by have := (O1.lt _ e).2; omega, fun e => by have := (O2.lt _ e).2; omega, h12, (hk.alloc _).alloc _, by omega, by omega⟩
end

end Go.Proofs.Ytoijdclblcmpaaa

namespace Go.Proofs.Ytoijdclblcmpaaa
open Go.RowKit
set_option linter.unusedVariables false
set_option maxRecDepth 8000
set_option linter.unusedSimpArgs false

/-- What NatCmp tells. -/
def cmpN (xs ys : List Int) : Int := if okB xs = true ∧ okB ys = true then cmpI (val xs) (val ys) else 0
theorem cmpN_bad1 {xs ys : List Int} (h : okB xs = false) : cmpN xs ys = 0 := by unfold cmpN; rw [if_neg (fun e => by rw [h] at e; cases e.1)]
theorem cmpN_bad2 {xs ys : List Int} (h : okB ys = false) : cmpN xs ys = 0 := by unfold cmpN; rw [if_neg (fun e => by rw [h] at e; cases e.2)]
theorem cmpN_ok {xs ys : List Int} (h1 : okB xs = true) (h2 : okB ys = true) : cmpN xs ys = cmpI (val xs) (val ys) := by unfold cmpN; rw [if_pos ⟨h1, h2⟩]

theorem compare_two {w0 W : World} {g1 g2 : Nat} {xs ys : List Int} (h : ∃ u1 u2, Two w0 W g1 g2 u1 u2 xs ys) (hx : Nrm xs) (hy : Nrm ys) :
    Calls Try.prog 79 #[.pointer (some ⟨g1, 0, none⟩), .pointer (some ⟨g2, 0, none⟩)] W fun e w' => e = .returned (.int .i64 (cmpI (val xs) (val ys))) ∧ (∃ u1 u2, Two w0 w' g1 g2 u1 u2 xs ys) := by
  obtain ⟨u1, u2, t⟩ := h
  refine (compare_impl W t.n1 t.n2 hx hy).mono ?_
  rintro e w' ⟨rfl, k⟩
  exact ⟨rfl, u1, u2, t.n1.kept k, t.n2.kept k, t.ne, t.o12, t.o21, t.oo, t.k.trans k, t.b1, t.b2⟩

set_option maxHeartbeats 1000000 in
theorem natCmp_impl {b1 b2 : Bool} {l1 h1 l2 h2 : Nat} {v1 v2 : Value} {xs ys : List Int} (w : World) (r1 : Row .i64 b1 l1 h1 w v1 xs) (r2 : Row .i64 b2 l2 h2 w v2 ys) :
    Calls Try.prog 42 #[.agg #[v1], .agg #[v2]] w fun e w' => e = .returned (.int .i64 (cmpN xs ys)) ∧ Kept 0 0 w w' := by
  have k0 := ((Kept.refl 0 0 w).alloc (.cells #[v1] 26)).alloc (.cells #[v2] 26)
  have q1 := r1.kept k0 (by omega)
  have q2 := r2.kept k0 (by omega)
  have c1 : ((w.alloc (.cells #[v1] 26)).alloc (.cells #[v2] 26)).cell? ⟨w.heap.size, 0, none⟩ = some v1 := old_cell _ (new_cell_at _ _ _ _ rfl)
  have c2 : ((w.alloc (.cells #[v1] 26)).alloc (.cells #[v2] 26)).cell? ⟨w.heap.size + 1, 0, none⟩ = some v2 := new_cell_at _ _ _ _ (by simp)
  obtain ⟨a1, d1, rfl⟩ := Row.form' r1
  obtain ⟨a2, d2, rfl⟩ := Row.form' r2
  clear r1 r2
  go_enter Try.func42, Try.ntmps42
  go_wp2_with fail
  generalize (w.alloc (.cells #[.slice a1 xs.length d1] 26)).alloc (.cells #[.slice a2 ys.length d2] 26) = W at *
  refine (ok_impl _ q1).mono ?_
  rintro e w1 ⟨rfl, k1⟩
  replace c1 := k1.cell0 c1
  replace c2 := k1.cell0 c2
  replace q1 := q1.kept k1 (by omega)
  replace q2 := q2.kept k1 (by omega)
  have K := hide (k0.trans k1)
  clear k0 k1
  cases hok1 : okB xs
  · have HK := hide hok1
    clear q1 q2 hok1
    go_wp2_with fail
    go_ret
    exact ⟨by rw [cmpN_bad1 (unhide HK)]; rfl, unhide K⟩
  have HK1 := hide hok1
  clear hok1
  go_wp2_with fail
  refine (ok_impl _ q2).mono ?_
  rintro e w2 ⟨rfl, k2⟩
  replace c1 := k2.cell0 c1
  replace c2 := k2.cell0 c2
  replace q1 := q1.kept k2 (by omega)
  replace q2 := q2.kept k2 (by omega)
  replace K := hide ((unhide K).trans k2)
  clear k2
  cases hok2 : okB ys
  · have HK := hide hok2
    clear q1 q2 hok2
    go_wp2_with fail
    go_ret
    exact ⟨by rw [cmpN_bad2 (unhide HK)]; rfl, unhide K⟩
  have HK2 := hide hok2
  clear hok2
  have hx1 : xs.length ≤ 1000000 := by have := ((okB_iff xs).1 (unhide HK1)).1; omega
  have hx2 : ys.length ≤ 1000000 := by have := ((okB_iff ys).1 (unhide HK2)).1; omega
  go_wp2_with fail
  have b1' : w.heap.size < w2.heap.size := World.block_lt_of_cell? _ _ c1
  have b2' : w.heap.size + 1 < w2.heap.size := World.block_lt_of_cell? _ _ c2
  go_region_held3 (fun w' => w'.cell? ⟨w.heap.size, 0, none⟩ = some (.slice a1 xs.length d1) ∧ w'.cell? ⟨w.heap.size + 1, 0, none⟩ = some (.slice a2 ys.length d2) ∧ Kept 0 0 w2 w')
    (repeat (first
      | exact h4
      | exact h3
      | exact ⟨c1, c2, Kept.refl 0 0 _⟩
      | exact ⟨c1, c2, (Kept.refl 0 0 _).drew⟩
      | refine hold_alloc _ ?_
      | refine hold_drew ?_
      | refine hold_set _ ?_ b1' b2' (by simp <;> omega)))
    ((first
      | (go_at_call_of 75 (Value.agg #[Value.slice a1 xs.length d1])
         refine (limbsOf_kept q1 hx1 ?_).mono ?_
         · exact And.right (And.right (by assumption))
         rintro e w3 ⟨v3, rfl, o3, k3⟩
         have s3 := hold_size (by assumption) k3
         have h3 := hold_kept (by assumption) k3
         try
           have x3 := k3.cell0 (drew_cell (new_cell_at _ _ _ _ rfl))
           have fx3 := k3.loose0 (by simp <;> omega) (drew_loose (new_loose _ _ _ _ rfl))
           have lx3 := World.block_lt_of_cell? _ _ x3
           try simp only [World.size_alloc, heap_drew] at x3 fx3 lx3
           have nx3 := Nat.ne_of_lt lx3
           have mx3 := Nat.ne_of_gt lx3
         try
           have y3 := k3.cell0 (drew_cell (old_cell _ (new_cell_at _ _ _ _ rfl)))
           have fy3 := k3.loose0 (by simp <;> omega) (drew_loose (loose_old (by simp <;> omega) (new_loose _ _ _ _ rfl)))
           have ly3 := World.block_lt_of_cell? _ _ y3
           try simp only [World.size_alloc, heap_drew] at y3 fy3 ly3
           have ny3 := Nat.ne_of_lt ly3
           have my3 := Nat.ne_of_gt ly3
         obtain ⟨a3, d3, rfl⟩ := own_slice o3)
      | (go_at_call_of 75 (Value.agg #[Value.slice a2 ys.length d2])
         refine (limbsOf_kept q2 hx2 ?_).mono ?_
         · exact And.right (And.right (by assumption))
         rintro e w4 ⟨v4, rfl, o4, k4⟩
         have s4 := hold_size (by assumption) k4
         have h4 := hold_kept (by assumption) k4
         try
           have x4 := k4.cell0 (new_cell_at _ _ _ _ rfl)
           have fx4 := k4.loose0 (by simp <;> omega) (new_loose _ _ _ _ rfl)
           have lx4 := World.block_lt_of_cell? _ _ x4
           try simp only [World.size_alloc, heap_drew] at x4 fx4 lx4
           have nx4 := Nat.ne_of_lt lx4
           have mx4 := Nat.ne_of_gt lx4
         try
           have y4 := k4.cell0 (old_cell _ (new_cell_at _ _ _ _ rfl))
           have fy4 := k4.loose0 (by simp <;> omega) (loose_old (by simp <;> omega) (new_loose _ _ _ _ rfl))
           have ly4 := World.block_lt_of_cell? _ _ y4
           try simp only [World.size_alloc, heap_drew] at y4 fy4 ly4
           have ny4 := Nat.ne_of_lt ly4
           have my4 := Nat.ne_of_gt ly4
         try
           have gx3 := k4.cell0 (x3)
           have px3 := k4.loose0 (by simp <;> omega) (fx3)
           have qx3 := Nat.ne_of_lt (World.block_lt_of_cell? _ _ gx3)
           have rx3 := Nat.ne_of_gt (World.block_lt_of_cell? _ _ gx3)
           have lgx3 := World.block_lt_of_cell? _ _ gx3
           dsimp only at qx3 rx3 lgx3
         try
           have gx3 := k4.cell0 (old_cell _ x3)
           have px3 := k4.loose0 (by simp <;> omega) (loose_old (Nat.lt_of_lt_of_le lx3 (Nat.le_refl _)) fx3)
           have qx3 := Nat.ne_of_lt (World.block_lt_of_cell? _ _ gx3)
           have rx3 := Nat.ne_of_gt (World.block_lt_of_cell? _ _ gx3)
           have lgx3 := World.block_lt_of_cell? _ _ gx3
           dsimp only at qx3 rx3 lgx3
         try
           have gx3 := k4.cell0 (old_cell _ (old_cell _ x3))
           have px3 := k4.loose0 (by simp <;> omega) (loose_old (by simp <;> omega) (loose_old (Nat.lt_of_lt_of_le lx3 (Nat.le_refl _)) fx3))
           have qx3 := Nat.ne_of_lt (World.block_lt_of_cell? _ _ gx3)
           have rx3 := Nat.ne_of_gt (World.block_lt_of_cell? _ _ gx3)
           have lgx3 := World.block_lt_of_cell? _ _ gx3
           dsimp only at qx3 rx3 lgx3
         try
           have gy3 := k4.cell0 (y3)
           have py3 := k4.loose0 (by simp <;> omega) (fy3)
           have qy3 := Nat.ne_of_lt (World.block_lt_of_cell? _ _ gy3)
           have ry3 := Nat.ne_of_gt (World.block_lt_of_cell? _ _ gy3)
           have lgy3 := World.block_lt_of_cell? _ _ gy3
           dsimp only at qy3 ry3 lgy3
         try
           have gy3 := k4.cell0 (old_cell _ y3)
           have py3 := k4.loose0 (by simp <;> omega) (loose_old (Nat.lt_of_lt_of_le ly3 (Nat.le_refl _)) fy3)
           have qy3 := Nat.ne_of_lt (World.block_lt_of_cell? _ _ gy3)
           have ry3 := Nat.ne_of_gt (World.block_lt_of_cell? _ _ gy3)
           have lgy3 := World.block_lt_of_cell? _ _ gy3
           dsimp only at qy3 ry3 lgy3
         try
           have gy3 := k4.cell0 (old_cell _ (old_cell _ y3))
           have py3 := k4.loose0 (by simp <;> omega) (loose_old (by simp <;> omega) (loose_old (Nat.lt_of_lt_of_le ly3 (Nat.le_refl _)) fy3))
           have qy3 := Nat.ne_of_lt (World.block_lt_of_cell? _ _ gy3)
           have ry3 := Nat.ne_of_gt (World.block_lt_of_cell? _ _ gy3)
           have lgy3 := World.block_lt_of_cell? _ _ gy3
           dsimp only at qy3 ry3 lgy3
         obtain ⟨a4, d4, rfl⟩ := own_slice o4)))
  all_goals
    have O1 : w4.ownsRow w2.heap.size 3 1 (.slice a3 xs.length d3) xs.length (xs.map (Value.int .i64)) := by
      first
        | exact own_less (own_kept o3 k4) s3.1
        | exact own_less (own_kept o3 (((Kept.refl 0 0 _).alloc _).trans k4)) s3.1
        | exact own_less (own_kept o3 ((((Kept.refl 0 0 _).alloc _).alloc _).trans k4)) s3.1
    try simp only [World.size_alloc, heap_drew] at s3
    try simp only [World.size_alloc, heap_drew] at s4
    have r3 := o3.lt
    have r4 := o4.lt
    try simp only [World.size_alloc, heap_drew] at r3
    try simp only [World.size_alloc, heap_drew] at r4
    have h12 : ∀ k, (Value.slice a3 xs.length d3).ownBlock = some k → (Value.slice a4 ys.length d4).ownBlock ≠ some k := fun k e1 e2 => by have := r3 k e1; have := r4 k e2; omega
    have hk24 := h4.2.2
    clear h3 h4 k3 k4
    have hn1 := ((okB_iff xs).1 (unhide HK1)).2
    have hn2 := ((okB_iff ys).1 (unhide HK2)).2
    go_wp2_with fail
    refine (compare_two (w0 := w2) ?_ hn1 hn2).mono ?_
    · first
        | exact ⟨_, _, two_both hk24 O1 o4 _ _ (by (try simp) <;> omega) (by (try simp) <;> omega) h12⟩
        | exact ⟨_, _, (two_both hk24 o4 O1 _ _ (by (try simp) <;> omega) (by (try simp) <;> omega) (fun k e1 e2 => h12 k e2 e1)).swap⟩
        | exact ⟨_, _, two_new hk24 O1 o4 (by assumption) (by assumption) _ (by omega) (by (try simp) <;> omega) (by (try simp) <;> omega) (fun e => by have := r3 _ e; omega) (fun e => by have := r4 _ e; omega) h12⟩
        | exact ⟨_, _, (two_new hk24 o4 O1 (by assumption) (by assumption) _ (by omega) (by (try simp) <;> omega) (by (try simp) <;> omega) (fun e => by have := r4 _ e; omega) (fun e => by have := r3 _ e; omega) (fun k e1 e2 => h12 k e2 e1)).swap⟩
        | exact ⟨_, _, two_set hk24 O1 o4 (by assumption) (by assumption) (by assumption) (by assumption) (by omega) (by omega) (by omega) (by (try simp) <;> omega) (by (try simp) <;> omega) (fun e => by have := r3 _ e; omega) (fun e => by have := r3 _ e; omega) (fun e => by have := r4 _ e; omega) (fun e => by have := r4 _ e; omega) h12⟩
    rintro e w6 ⟨rfl, u1, u2, two⟩
    have K6 := hide ((unhide K).trans two.k)
    clear two O1 o3 o4 r3 r4 h12 hk24 q1 q2 hn1 hn2
    go_wp2_with fail
    go_ret
    exact ⟨by rw [cmpN_ok (unhide HK1) (unhide HK2)]; rfl, unhide K6⟩

end Go.Proofs.Ytoijdclblcmpaaa

namespace Go.Proofs.Ytoijdclblcmpaaa
open Go.RowKit
set_option linter.unusedVariables false
set_option maxRecDepth 8000

theorem nrm_of_le {zs : List Int} (h : Lim zs) (hv : zs = [] ∨ (65536 : Int) ^ (zs.length - 1) ≤ val zs) : Nrm zs := by
  refine ⟨h, fun z hz e => ?_⟩
  subst e
  rcases hv with rfl | hv
  · simp at hz
  · have hne : zs ≠ [] := by intro e; subst e; simp at hz
    have hl : 0 < zs.length := List.length_pos_iff.2 hne
    have e1 := val_take_succ zs (zs.length - 1) (by omega)
    rw [show zs.length - 1 + 1 = zs.length by omega, List.take_length] at e1
    have e2 : zs.getD (zs.length - 1) 0 = 0 := by
      rw [List.getLast?_eq_getElem?] at hz
      simp [List.getD, hz]
    have e3 := val_lt (h.take (zs.length - 1))
    rw [List.length_take, Nat.min_eq_left (by omega)] at e3
    rw [e2, Int.mul_zero] at e1
    omega
theorem limbs_of_le {zs : List Int} (h : Lim zs) (hv : zs = [] ∨ (65536 : Int) ^ (zs.length - 1) ≤ val zs) : zs = limbs (val zs).toNat := nrm_limbs (nrm_of_le h hv)
theorem drop_pos {ys : List Int} (hy : Nrm ys) (j : Nat) (hj : j < ys.length) : 1 ≤ val (ys.drop j) := by
  have hl : Nrm (ys.drop j) := ⟨hy.1.drop j, fun z hz => hy.2 z (by rw [List.getLast?_drop, if_neg (by omega)] at hz; exact hz)⟩
  rcases Int.lt_or_le 0 (val (ys.drop j)) with h | h
  · omega
  · have h0 : val (ys.drop j) = 0 := by have := val_nonneg hl.1; omega
    have := congrArg List.length (nrm_nil hl h0)
    simp at this
    omega

theorem Two.kept {w0 W w' : World} {g1 g2 : Nat} {u1 u2 : Value} {xs ys : List Int} (t : Two w0 W g1 g2 u1 u2 xs ys) (k : Kept 0 0 W w') : Two w0 w' g1 g2 u1 u2 xs ys :=
  ⟨t.n1.kept k, t.n2.kept k, t.ne, t.o12, t.o21, t.oo, t.k.trans k, t.b1, t.b2⟩
theorem Two.put {w0 wr : World} {g1 g2 gb cap j : Nat} {u2 : Value} {zs ys : List Int} {n : Nat} (t : Two w0 wr g1 g2 (.slice (some ⟨gb, 0, none⟩) n cap) u2 zs ys) (hn : zs.length = n) (z : Int) :
    Two w0 (wr.setCell ⟨gb, j, none⟩ (.int .i64 z)) g1 g2 (.slice (some ⟨gb, 0, none⟩) n cap) u2 (zs.set j z) ys := by
  subst hn
  have n1 : gb ≠ g1 := fun e => t.n1.apart (by simp [Value.ownBlock, e])
  have n2 : gb ≠ g2 := fun e => t.o12 (by simp [Value.ownBlock, e])
  have n3 : u2.ownBlock ≠ some gb := t.oo gb rfl
  have hb := (t.n1.own.lt gb rfl).1
  refine ⟨⟨cell_aside _ (p := ⟨g1, 0, none⟩) (r := ⟨gb, j, none⟩) n1 t.n1.cell, by rw [frozen_set]; exact t.n1.loose, own_set t.n1.own j z, t.n1.apart⟩,
    ⟨cell_aside _ (p := ⟨g2, 0, none⟩) (r := ⟨gb, j, none⟩) n2 t.n2.cell, by rw [frozen_set]; exact t.n2.loose, own_apart t.n2.own (p := ⟨gb, j, none⟩) n3 _, t.n2.apart⟩,
    t.ne, t.o12, t.o21, t.oo, t.k.setNew (p := ⟨gb, j, none⟩) hb _, t.b1, t.b2⟩
theorem Two.snoc {w0 w w' : World} {g1 g2 : Nat} {v v' u2 : Value} {zs ys qs : List Int} (t : Two w0 w g1 g2 v u2 zs ys) (o : Obj) (hg : (w.alloc o).grownBy w' v.ownBlock) (hat : v'.ownBlock = v.ownBlock ∨ v'.ownBlock = some (w.heap.size + 1))
    (hown : w'.ownsRow w0.heap.size 3 1 v' qs.length (qs.map (Value.int .i64))) :
    w'.cell? ⟨g1, 0, none⟩ = some v ∧ w'.frozen? ⟨g1, 0, none⟩ = false ∧ Two w0 (w'.setCell ⟨g1, 0, none⟩ v') g1 g2 v' u2 qs ys := by
  obtain ⟨d1, d2, d3, d4⟩ := t.n1.snoc o hg hat hown
  have hlt := t.n2.lt
  have hS2 : ¬ Own1 g1 v g2 := fun e => e.elim (fun e => t.ne e.symm) t.o12
  have hSo : ∀ i, u2.ownBlock = some i → ¬ Own1 g1 v i := fun i hi e => e.elim (fun e => t.o21 (by rw [hi, e])) (fun e => t.oo i e hi)
  refine ⟨d1, d2, d3, t.n2.mod d4 hS2 hSo, t.ne, ?_, t.o21, ?_, t.k.mod d4 (fun i hi => hi.elim (fun e => by rw [e]; exact t.b1) (fun e => (t.n1.own.lt i e).1)), t.b1, t.b2⟩
  · rcases hat with e | e
    · rw [e]; exact t.o12
    · rw [e]; simp; omega
  · intro k hk
    rcases hat with e | e
    · exact t.oo k (by rw [← e]; exact hk)
    · rw [e] at hk
      simp at hk
      intro e2
      have := (t.n2.own.lt k e2).2
      omega

theorem add_put (zs ys : List Int) (i : Nat) (hi : i < zs.length) (c S z y : Int) (hz : zs.getD i 0 = z) (hy : val (ys.drop i) = y + 65536 * val (ys.drop (i + 1))) (h : val zs + 65536 ^ i * (c + val (ys.drop i)) = S) :
    val (zs.set i ((z + y + c) % 65536)) + 65536 ^ (i + 1) * ((z + y + c) / 65536 + val (ys.drop (i + 1))) = S := by
  rw [val_set _ _ _ hi, hz, ← h, Int.pow_succ, hy]
  have e : (z + y + c) % 65536 - z + 65536 * ((z + y + c) / 65536 + val (ys.drop (i + 1))) = c + (y + 65536 * val (ys.drop (i + 1))) := by omega
  have key : ∀ P A B : Int, P * A + P * 65536 * B = P * (A + 65536 * B) := fun P A B => by rw [Int.mul_add, Int.mul_assoc]
  rw [← e, ← key, Int.add_assoc]

set_option maxHeartbeats 4000000 in
theorem add_two {w0 w : World} {g1 g2 : Nat} {xs ys : List Int} (h : ∃ u1 u2, Two w0 w g1 g2 u1 u2 xs ys) (hx : Nrm xs) (hy : Nrm ys) (hl1 : xs.length ≤ 100000) (hl2 : ys.length ≤ 100000) :
    Calls Try.prog 76 #[.pointer (some ⟨g1, 0, none⟩), .pointer (some ⟨g2, 0, none⟩)] w fun e w' => (∃ r, e = .returned r) ∧ ∃ u1 u2, Two w0 w' g1 g2 u1 u2 (limbs (val xs + val ys).toNat) ys := by
  obtain ⟨u1, u2, t0⟩ := h
  obtain ⟨a2, c2, rfl⟩ := t0.n2.form
  generalize hS : val xs + val ys = S
  have h0 := val_nonneg hx.1
  have h0' := val_nonneg hy.1
  obtain ⟨M0, hM0⟩ : ∃ M0 : Nat, M0 = 100000 := ⟨_, rfl⟩
  obtain ⟨M, hMM⟩ : ∃ M : Nat, M = M0 + 1 := ⟨_, rfl⟩
  have hSb : S < 65536 ^ M := by
    have e1 := val_lt hx.1
    have e2 := val_lt hy.1
    have e3 := pow_mono (a := xs.length) (b := M0) (by omega)
    have e4 := pow_mono (a := ys.length) (b := M0) (by omega)
    have e5 : (65536 : Int) ^ M = 65536 ^ M0 * 65536 := by rw [hMM]; exact Int.pow_succ _ _
    have e6 : (0 : Int) < 65536 ^ M0 := Int.pow_pos (by decide)
    generalize (65536 : Int) ^ M0 = P at *
    omega
  have HMM : Hid (M = 100001) := by show _ = _; omega
  clear hMM hM0
  have hSt : Hid (xs = [] ∨ (65536 : Int) ^ (xs.length - 1) ≤ S) := by
    by_cases e : xs = []
    · exact .inl e
    · exact .inr (by have := nrm_pow hx e; omega)
  have HSB := hide hSb
  have HY := hide hy
  have HS0 : Hid (val xs + 65536 ^ 0 * (0 + val (ys.drop 0)) = S) := by show _ = _; simp; exact hS
  have hylim := hy.1
  have hSpos : 0 ≤ S := by omega
  clear hSb hS hy h0 h0'
  go_enter Try.func76, Try.ntmps76
  go_wp2
  go_loopw [4, 5] (fun cc ii wr => ∃ (zs : List Int) (c i : Nat) (v : Value), cc = .int .i64 c ∧ ii = .int .i64 i ∧ c ≤ 1 ∧ i ≤ 100001 ∧ i ≤ zs.length ∧ Lim zs ∧ Hid (val zs + 65536 ^ i * (c + val (ys.drop i)) = S) ∧ Hid (zs = [] ∨ (65536 : Int) ^ (zs.length - 1) ≤ S) ∧ Two w0 wr g1 g2 v (.slice a2 ys.length c2) zs ys) (fun _ ii _ => 100002 - (intOf ii).toNat)
  case atStart => exact ⟨xs, 0, 0, u1, rfl, rfl, by omega, by omega, by omega, hx.1, HS0, hSt, t0⟩
  case round =>
    clear t0 HS0 hSt
    obtain ⟨zs, c, i, v, rfl, rfl, hc1, hi1, hiz, hlim, hval, htop, t⟩ := hrel
    have hce2 := t.n2.cell
    by_cases hgo : i < ys.length ∨ 0 < c
    · have hD : 1 ≤ (c : Int) + val (ys.drop i) := by
        rcases hgo with h | h
        · have := drop_pos (unhide HY) i h; omega
        · have := val_nonneg ((unhide HY).1.drop i); omega
      have hSi : (65536 : Int) ^ i ≤ S := by
        have e1 := unhide hval
        have e2 := val_nonneg hlim
        have e3 : (65536 : Int) ^ i * 1 ≤ 65536 ^ i * (c + val (ys.drop i)) := Int.mul_le_mul_of_nonneg_left hD (Int.le_of_lt (Int.pow_pos (by decide)))
        omega
      have hi2 : i ≤ 100000 := by
        rcases Nat.lt_or_ge 100000 i with h | h
        · have := pow_mono (a := M) (b := i) (by have := unhide HMM; omega)
          have := unhide HSB
          omega
        · exact h
      have hzl : zs.length ≤ 100001 := by
        rcases unhide htop with e | e
        · rw [e]; simp
        · rcases Nat.lt_or_ge 100001 zs.length with h | h
          · have := pow_mono (a := M) (b := zs.length - 1) (by have := unhide HMM; omega)
            have := unhide HSB
            omega
          · exact h
      have HSI := hide hSi
      clear hSi hD
      by_cases hi : i < zs.length
      · have hne : ((i : Int) == (zs.length : Int)) = false := beq_eq_false_iff_ne.2 (by omega)
        have hiL := hi
        have hlimL := hlim
        have hvalL := hval
        have htopL := htop
        obtain ⟨gb, cap, rfl, hxz, hfz, hgb⟩ := t.n1.at i hiL
        have hce1 := t.n1.cell
        rcases hgo with hgo | hgo
        · have hgo' : (i : Int) < (ys.length : Int) := by omega
          go_wp2
          have hzr := hlimL.at i
          have hyr := hylim.at i
          have hyd := val_drop ys i
          have hput := add_put (zs) ys i hiL c S _ _ rfl hyd (unhide hvalL)
          have hsetl := fun z (h0 : 0 ≤ z) (h1 : z ≤ 65535) => hlimL.set i h0 h1
          have hatc := fun n => at_impl (wr.drewN n) (t.n2.kept ((Kept.refl 0 0 _).drewN n)) i (by omega)
          have HAT := hide hatc
          have tp := fun n z => (t.kept ((Kept.refl 0 0 _).drewN n)).put (j := i) rfl z
          have TP := hide tp
          have HSL := hide hsetl
          have hlen : (zs).length = zs.length := rfl
          try rw [hlen] at hce1
          have hlenset : ∀ z, ((zs).set i z).length = zs.length := fun z => by rw [List.length_set, hlen]
          have HLS := hide hlenset
          generalize hz : (zs).getD i 0 = z at *
          generalize hy2 : ys.getD i 0 = y at *
          have HP := hide hput
          have hs0 : 0 ≤ z + y + c ∧ z + y + c ≤ 131071 := by omega
          have em : (z + y + (c : Int)).tmod 65536 = (z + y + c) % 65536 := by rw [Int.tmod_eq_emod_of_nonneg (by omega)]
          have ed : (z + y + (c : Int)).tdiv 65536 = (z + y + c) / 65536 := by rw [Int.tdiv_eq_ediv_of_nonneg (by omega)]
          have hlt2 : (i : Int) < ((zs.length : Nat) : Int) := by omega
          obtain ⟨c', hc'⟩ : ∃ c' : Nat, (z + y + (c : Int)) / 65536 = c' := ⟨((z + y + (c : Int)) / 65536).toNat, by omega⟩
          clear hatc tp hput hyd hz hy2 t hlimL hvalL hsetl hlenset hlen
          go_quiet ((go_at_call 124; exact (unhide HAT _).mono (fun e w' h => ⟨h.1, _, h.2⟩)))
          go_wp2
          go_roundw
          case rel => exact ⟨(zs).set i ((z + y + c) % 65536), c', i + 1, _, rfl, by go_num, by omega, by omega, by rw [unhide HLS]; omega, unhide HSL _ (by omega) (by omega), by have := unhide HP; rw [hc'] at this; exact this, by rcases unhide htopL with e | e; exact .inl (by rw [e]; rfl); exact .inr (by rw [unhide HLS]; exact e), unhide TP _ _⟩
          case measure => simp [intOf]; omega
        · by_cases hgo2 : i < ys.length
          · have hgo' : (i : Int) < (ys.length : Int) := by omega
            go_wp2
            have hzr := hlimL.at i
            have hyr := hylim.at i
            have hyd := val_drop ys i
            have hput := add_put (zs) ys i hiL c S _ _ rfl hyd (unhide hvalL)
            have hsetl := fun z (h0 : 0 ≤ z) (h1 : z ≤ 65535) => hlimL.set i h0 h1
            have hatc := fun n => at_impl (wr.drewN n) (t.n2.kept ((Kept.refl 0 0 _).drewN n)) i (by omega)
            have HAT := hide hatc
            have tp := fun n z => (t.kept ((Kept.refl 0 0 _).drewN n)).put (j := i) rfl z
            have TP := hide tp
            have HSL := hide hsetl
            have hlen : (zs).length = zs.length := rfl
            try rw [hlen] at hce1
            have hlenset : ∀ z, ((zs).set i z).length = zs.length := fun z => by rw [List.length_set, hlen]
            have HLS := hide hlenset
            generalize hz : (zs).getD i 0 = z at *
            generalize hy2 : ys.getD i 0 = y at *
            have HP := hide hput
            have hs0 : 0 ≤ z + y + c ∧ z + y + c ≤ 131071 := by omega
            have em : (z + y + (c : Int)).tmod 65536 = (z + y + c) % 65536 := by rw [Int.tmod_eq_emod_of_nonneg (by omega)]
            have ed : (z + y + (c : Int)).tdiv 65536 = (z + y + c) / 65536 := by rw [Int.tdiv_eq_ediv_of_nonneg (by omega)]
            have hlt2 : (i : Int) < ((zs.length : Nat) : Int) := by omega
            obtain ⟨c', hc'⟩ : ∃ c' : Nat, (z + y + (c : Int)) / 65536 = c' := ⟨((z + y + (c : Int)) / 65536).toNat, by omega⟩
            clear hatc tp hput hyd hz hy2 t hlimL hvalL hsetl hlenset hlen
            go_quiet ((go_at_call 124; exact (unhide HAT _).mono (fun e w' h => ⟨h.1, _, h.2⟩)))
            go_wp2
            go_roundw
            case rel => exact ⟨(zs).set i ((z + y + c) % 65536), c', i + 1, _, rfl, by go_num, by omega, by omega, by rw [unhide HLS]; omega, unhide HSL _ (by omega) (by omega), by have := unhide HP; rw [hc'] at this; exact this, by rcases unhide htopL with e | e; exact .inl (by rw [e]; rfl); exact .inr (by rw [unhide HLS]; exact e), unhide TP _ _⟩
            case measure => simp [intOf]; omega
          · have hgo' : ¬ (i : Int) < (ys.length : Int) := by omega
            have hgo3 : (0 : Int) < (c : Int) := by omega
            go_wp2
            have hzr := hlimL.at i
            have hyr := hylim.at i
            have hyd := val_drop ys i
            have hput := add_put (zs) ys i hiL c S _ _ rfl hyd (unhide hvalL)
            have hsetl := fun z (h0 : 0 ≤ z) (h1 : z ≤ 65535) => hlimL.set i h0 h1
            have hatc := fun n => at_impl (wr.drewN n) (t.n2.kept ((Kept.refl 0 0 _).drewN n)) i (by omega)
            have HAT := hide hatc
            have tp := fun n z => (t.kept ((Kept.refl 0 0 _).drewN n)).put (j := i) rfl z
            have TP := hide tp
            have HSL := hide hsetl
            have hlen : (zs).length = zs.length := rfl
            try rw [hlen] at hce1
            have hlenset : ∀ z, ((zs).set i z).length = zs.length := fun z => by rw [List.length_set, hlen]
            have HLS := hide hlenset
            generalize hz : (zs).getD i 0 = z at *
            generalize hy2 : ys.getD i 0 = y at *
            have HP := hide hput
            have hs0 : 0 ≤ z + y + c ∧ z + y + c ≤ 131071 := by omega
            have em : (z + y + (c : Int)).tmod 65536 = (z + y + c) % 65536 := by rw [Int.tmod_eq_emod_of_nonneg (by omega)]
            have ed : (z + y + (c : Int)).tdiv 65536 = (z + y + c) / 65536 := by rw [Int.tdiv_eq_ediv_of_nonneg (by omega)]
            have hlt2 : (i : Int) < ((zs.length : Nat) : Int) := by omega
            obtain ⟨c', hc'⟩ : ∃ c' : Nat, (z + y + (c : Int)) / 65536 = c' := ⟨((z + y + (c : Int)) / 65536).toNat, by omega⟩
            clear hatc tp hput hyd hz hy2 t hlimL hvalL hsetl hlenset hlen
            go_quiet ((go_at_call 124; exact (unhide HAT _).mono (fun e w' h => ⟨h.1, _, h.2⟩)))
            go_wp2
            go_roundw
            case rel => exact ⟨(zs).set i ((z + y + c) % 65536), c', i + 1, _, rfl, by go_num, by omega, by omega, by rw [unhide HLS]; omega, unhide HSL _ (by omega) (by omega), by have := unhide HP; rw [hc'] at this; exact this, by rcases unhide htopL with e | e; exact .inl (by rw [e]; rfl); exact .inr (by rw [unhide HLS]; exact e), unhide TP _ _⟩
            case measure => simp [intOf]; omega
      · have hie : i = zs.length := by omega
        have hne : ((i : Int) == (zs.length : Int)) = true := by simp [hie]
        obtain ⟨a1, d1, rfl⟩ := t.n1.form
        have hce1 := t.n1.cell
        have hlo1 := t.n1.loose
        have hown' := own_kept t.n1.own ((Kept.refl 0 0 wr).alloc (.cells #[.int .i64 0] 3))
        have hl' : zs.length ≤ 1000000 := by omega
        have hbb : w0.heap.size ≤ (wr.alloc (.cells #[.int .i64 0] 3)).heap.size := by have := t.k.size; simp; omega
        have HBB := hide hbb
        have hcc : (wr.alloc (.cells #[.int .i64 0] 3)).cell? ⟨wr.heap.size, 0, none⟩ = some (.int .i64 0) := new_cell_at _ _ _ _ rfl
        have HE := hide hie
        clear hbb hie
        by_cases hgo2 : i < ys.length
        · have hgo' : (i : Int) < (ys.length : Int) := by omega
          go_wp2_with (at_builtin; refine wpList_snoc rfl _ _ rfl rfl _ rfl 0 hcc hown' hl' (unhide HBB) ?_)
          intro v' w' hown2 hgrow hat
          unfold OwnL at hown2
          replace hat := unhide hat
          obtain ⟨d1', d2', t2⟩ := t.snoc _ hgrow hat hown2
          have hie := unhide HE
          have hlenA : (zs ++ [(0 : Int)]).length = i + 1 := by simp [hie]
          have hiL : i < (zs ++ [(0 : Int)]).length := by omega
          have hlimL : Lim (zs ++ [(0 : Int)]) := hlim.snoc (by omega) (by omega)
          have hvalL : Hid (val (zs ++ [(0 : Int)]) + 65536 ^ i * (c + val (ys.drop i)) = S) := by have := unhide hval; show _ = _; rw [val_snoc]; simpa using this
          obtain ⟨gb, cap, hvv, hxz, hfz, hgb⟩ := t2.n1.at i hiL
          rw [hlenA] at hvv
          subst hvv
          have hce1' := t2.n1.cell
          have hce2' := t2.n2.cell
          have X1 := hide hce1'
          have X2 := hide hce2'
          have X3 := hide hxz
          have X4 := hide hfz
          generalize hwx : w'.setCell ⟨g1, 0, none⟩ (.slice (some ⟨gb, 0, none⟩) (i + 1) cap) = wx at *
          clear hown' hown2 hgrow hat hce1' hce2' hxz hfz hcc t hce1 hlo1 hlim hval hie hl' hce2
          go_wp2
          have hce1 := unhide X1
          have hce2 := unhide X2
          have hxz := unhide X3
          have hfz := unhide X4
          try rw [hwx]
          have hzr := hlimL.at i
          have hyr := hylim.at i
          have hyd := val_drop ys i
          have hput := add_put (zs ++ [(0 : Int)]) ys i hiL c S _ _ rfl hyd (unhide hvalL)
          have hsetl := fun z (h0 : 0 ≤ z) (h1 : z ≤ 65535) => hlimL.set i h0 h1
          have hatc := fun n => at_impl (wx.drewN n) (t2.n2.kept ((Kept.refl 0 0 _).drewN n)) i (by omega)
          have HAT := hide hatc
          have tp := fun n z => (t2.kept ((Kept.refl 0 0 _).drewN n)).put (j := i) hlenA z
          have TP := hide tp
          have HSL := hide hsetl
          have hlen : (zs ++ [(0 : Int)]).length = (i + 1) := hlenA
          try rw [hlen] at hce1
          have hlenset : ∀ z, ((zs ++ [(0 : Int)]).set i z).length = (i + 1) := fun z => by rw [List.length_set, hlen]
          have HLS := hide hlenset
          generalize hz : (zs ++ [(0 : Int)]).getD i 0 = z at *
          generalize hy2 : ys.getD i 0 = y at *
          have HP := hide hput
          have hs0 : 0 ≤ z + y + c ∧ z + y + c ≤ 131071 := by omega
          have em : (z + y + (c : Int)).tmod 65536 = (z + y + c) % 65536 := by rw [Int.tmod_eq_emod_of_nonneg (by omega)]
          have ed : (z + y + (c : Int)).tdiv 65536 = (z + y + c) / 65536 := by rw [Int.tdiv_eq_ediv_of_nonneg (by omega)]
          have hlt2 : (i : Int) < (((i + 1) : Nat) : Int) := by omega
          obtain ⟨c', hc'⟩ : ∃ c' : Nat, (z + y + (c : Int)) / 65536 = c' := ⟨((z + y + (c : Int)) / 65536).toNat, by omega⟩
          clear hatc tp hput hyd hz hy2 t2 hlimL hvalL hsetl hlenset hlen
          go_quiet ((go_at_call 124; exact (unhide HAT _).mono (fun e w' h => ⟨h.1, _, h.2⟩)))
          go_wp2
          go_roundw
          case rel => exact ⟨(zs ++ [(0 : Int)]).set i ((z + y + c) % 65536), c', i + 1, _, rfl, by go_num, by omega, by omega, by rw [unhide HLS]; omega, unhide HSL _ (by omega) (by omega), by have := unhide HP; rw [hc'] at this; exact this, by refine .inr ?_; rw [unhide HLS]; exact unhide HSI, unhide TP _ _⟩
          case measure => simp [intOf]; omega
        · have hgo' : ¬ (i : Int) < (ys.length : Int) := by omega
          have hgo3 : (0 : Int) < (c : Int) := by omega
          go_wp2_with (at_builtin; refine wpList_snoc rfl _ _ rfl rfl _ rfl 0 hcc hown' hl' (unhide HBB) ?_)
          intro v' w' hown2 hgrow hat
          unfold OwnL at hown2
          replace hat := unhide hat
          obtain ⟨d1', d2', t2⟩ := t.snoc _ hgrow hat hown2
          have hie := unhide HE
          have hlenA : (zs ++ [(0 : Int)]).length = i + 1 := by simp [hie]
          have hiL : i < (zs ++ [(0 : Int)]).length := by omega
          have hlimL : Lim (zs ++ [(0 : Int)]) := hlim.snoc (by omega) (by omega)
          have hvalL : Hid (val (zs ++ [(0 : Int)]) + 65536 ^ i * (c + val (ys.drop i)) = S) := by have := unhide hval; show _ = _; rw [val_snoc]; simpa using this
          obtain ⟨gb, cap, hvv, hxz, hfz, hgb⟩ := t2.n1.at i hiL
          rw [hlenA] at hvv
          subst hvv
          have hce1' := t2.n1.cell
          have hce2' := t2.n2.cell
          have X1 := hide hce1'
          have X2 := hide hce2'
          have X3 := hide hxz
          have X4 := hide hfz
          generalize hwx : w'.setCell ⟨g1, 0, none⟩ (.slice (some ⟨gb, 0, none⟩) (i + 1) cap) = wx at *
          clear hown' hown2 hgrow hat hce1' hce2' hxz hfz hcc t hce1 hlo1 hlim hval hie hl' hce2
          go_wp2
          have hce1 := unhide X1
          have hce2 := unhide X2
          have hxz := unhide X3
          have hfz := unhide X4
          try rw [hwx]
          have hzr := hlimL.at i
          have hyr := hylim.at i
          have hyd := val_drop ys i
          have hput := add_put (zs ++ [(0 : Int)]) ys i hiL c S _ _ rfl hyd (unhide hvalL)
          have hsetl := fun z (h0 : 0 ≤ z) (h1 : z ≤ 65535) => hlimL.set i h0 h1
          have hatc := fun n => at_impl (wx.drewN n) (t2.n2.kept ((Kept.refl 0 0 _).drewN n)) i (by omega)
          have HAT := hide hatc
          have tp := fun n z => (t2.kept ((Kept.refl 0 0 _).drewN n)).put (j := i) hlenA z
          have TP := hide tp
          have HSL := hide hsetl
          have hlen : (zs ++ [(0 : Int)]).length = (i + 1) := hlenA
          try rw [hlen] at hce1
          have hlenset : ∀ z, ((zs ++ [(0 : Int)]).set i z).length = (i + 1) := fun z => by rw [List.length_set, hlen]
          have HLS := hide hlenset
          generalize hz : (zs ++ [(0 : Int)]).getD i 0 = z at *
          generalize hy2 : ys.getD i 0 = y at *
          have HP := hide hput
          have hs0 : 0 ≤ z + y + c ∧ z + y + c ≤ 131071 := by omega
          have em : (z + y + (c : Int)).tmod 65536 = (z + y + c) % 65536 := by rw [Int.tmod_eq_emod_of_nonneg (by omega)]
          have ed : (z + y + (c : Int)).tdiv 65536 = (z + y + c) / 65536 := by rw [Int.tdiv_eq_ediv_of_nonneg (by omega)]
          have hlt2 : (i : Int) < (((i + 1) : Nat) : Int) := by omega
          obtain ⟨c', hc'⟩ : ∃ c' : Nat, (z + y + (c : Int)) / 65536 = c' := ⟨((z + y + (c : Int)) / 65536).toNat, by omega⟩
          clear hatc tp hput hyd hz hy2 t2 hlimL hvalL hsetl hlenset hlen
          go_quiet ((go_at_call 124; exact (unhide HAT _).mono (fun e w' h => ⟨h.1, _, h.2⟩)))
          go_wp2
          go_roundw
          case rel => exact ⟨(zs ++ [(0 : Int)]).set i ((z + y + c) % 65536), c', i + 1, _, rfl, by go_num, by omega, by omega, by rw [unhide HLS]; omega, unhide HSL _ (by omega) (by omega), by have := unhide HP; rw [hc'] at this; exact this, by refine .inr ?_; rw [unhide HLS]; exact unhide HSI, unhide TP _ _⟩
          case measure => simp [intOf]; omega
    · have hgo1 : ¬ (i : Int) < (ys.length : Int) := by omega
      have hc0 : c = 0 := by omega
      subst hc0
      have e1 := unhide hval
      rw [List.drop_of_length_le (by omega)] at e1
      simp [val] at e1
      have e2 := limbs_of_le hlim (by have := unhide htop; rw [e1]; exact this)
      rw [e1] at e2
      rw [e2] at t
      have T1 := hide t
      clear t e2 e1 hval htop hlim
      go_wp2
      exact bodyPost_end (v := .tuple #[]) (by simp [results, Try.results76, go_sem]) rfl ⟨⟨_, rfl⟩, _, _, unhide T1⟩

end Go.Proofs.Ytoijdclblcmpaaa

namespace Go.Proofs.Ytoijdclblcmpaaa
open Go.RowKit
set_option linter.unusedVariables false
set_option maxRecDepth 8000

theorem Num.cut {b g gb cap : Nat} {w : World} {zs : List Int} {n : Nat} (h : Num b w g (.slice (some ⟨gb, 0, none⟩) n cap) zs) (hn : n = zs.length) (j : Nat) (hj : j ≤ zs.length) :
    Num b (w.setCell ⟨g, 0, none⟩ (.slice (some ⟨gb, 0, none⟩) j cap)) g (.slice (some ⟨gb, 0, none⟩) j cap) (zs.take j) := by
  subst hn
  exact ⟨cell_on _ _ _ _ _ h.cell, by rw [frozen_set]; exact h.loose, own_apart (own_take h.own j hj) (p := ⟨g, 0, none⟩) (fun e => h.apart e) _, fun e => h.apart e⟩

/-- How long the list is that the cell g holds. -/
def lenAt (w : World) (g : Nat) : Nat := match w.cell? ⟨g, 0, none⟩ with
  | some (.slice _ n _) => n
  | _ => 0
theorem lenAt_of {w : World} {g : Nat} {a : Option Addr} {n c : Nat} (h : w.cell? ⟨g, 0, none⟩ = some (.slice a n c)) : lenAt w g = n := by unfold lenAt; rw [h]

set_option maxHeartbeats 4000000 in
theorem trim_impl {b g : Nat} {v : Value} {zs : List Int} (w : World) (h : Num b w g v zs) (hl : Lim zs) :
    Calls Try.prog 125 #[.pointer (some ⟨g, 0, none⟩)] w fun e w' => (∃ r, e = .returned r) ∧ ∃ u, Num b w' g u (limbs (val zs).toNat) ∧ u.ownBlock = v.ownBlock ∧ Mod (fun i => i = g) w w' := by
  have hm := h.row.len
  unfold maxLen at hm
  have HL := hide hl
  clear hl
  go_enter Try.func125, Try.ntmps125
  go_wp2
  go_loopw [] (fun wr => ∃ (m : Nat) (u : Value), m ≤ zs.length ∧ Hid (∀ i, m ≤ i → i < zs.length → zs.getD i 0 = 0) ∧ Num b wr g u (zs.take m) ∧ Hid (u.ownBlock = v.ownBlock) ∧ Mod (fun i => i = g) w wr) (fun wr => lenAt wr g)
  case atStart => exact ⟨zs.length, v, Nat.le_refl _, hide (fun i h1 h2 => by omega), by rw [List.take_length]; exact h, hide rfl, Mod.refl _ _⟩
  case round =>
    clear h
    obtain ⟨m, u, hmz, hz, n, ho, hmod⟩ := hrel
    have hlen : (zs.take m).length = m := by simp; omega
    have hlo := n.loose
    by_cases h0 : m = 0
    · subst h0
      obtain ⟨a1, c1, hv⟩ := n.form
      rw [hlen] at hv
      subst hv
      have hce := n.cell
      have e1 := take_limbs zs (unhide HL) 0 (by omega) (unhide hz) (.inl rfl)
      rw [e1] at n
      have NN := hide n
      have MM := hide hmod
      have hd : decide ((0 : Int) < ((0 : Nat) : Int)) = false := rfl
      clear e1 n hmod hlen hz
      go_wp2
      go_quiet (fail)
      go_wp2
      exact bodyPost_end (v := .tuple #[]) (by simp [results, Try.results125, go_sem]) rfl ⟨⟨_, rfl⟩, _, (unhide NN).kept ((Kept.refl 0 0 _).drewN _), unhide ho, (unhide MM).drewN _⟩
    · obtain ⟨gb, cap, hv, hxz, hfz, hgb⟩ := n.at (m - 1) (by omega)
      rw [hlen] at hv
      subst hv
      have hce := n.cell
      have hz1 : (zs.take m).getD (m - 1) 0 = zs.getD (m - 1) 0 := by
        simp only [List.getD, List.getElem?_take]
        rw [if_pos (by omega)]
      rw [hz1] at hxz
      have hpos : (0 : Int) < (m : Int) := by omega
      have hposN : 0 < m := by omega
      have h1m : (1 : Int) ≤ (m : Int) := by omega
      have hcap : (m : Int) - 1 ≤ (cap : Int) := by
        have h5 := n.own
        rw [hlen] at h5
        obtain ⟨g5, cap5, e5, -, h6, -⟩ := own_form h5 (by omega)
        cases e5
        omega
      have ew : IntKind.i64.wrap ((m : Int) - 1) = (m : Int) - 1 := wrap_small _ (by omega) (by omega)
      have et : ((m : Int) - 1).toNat = m - 1 := by omega
      have hi0 : (0 : Int) ≤ (m : Int) - 1 := by omega
      have hi1 : (m : Int) - 1 < (m : Int) := by omega
      have hz1' : ∀ z, zs.getD (m - 1) 0 = z → (z = 0 → ∀ i, m - 1 ≤ i → i < zs.length → zs.getD i 0 = 0) ∧ (z ≠ 0 → zs.take m = limbs (val zs).toNat) := by
        intro z e
        refine ⟨fun e0 i h1 h2 => ?_, fun e0 => take_limbs zs (unhide HL) m (by omega) (unhide hz) (.inr (by rw [e]; exact e0))⟩
        by_cases h3 : i = m - 1
        · rw [h3, e, e0]
        · exact unhide hz i (by omega) h2
      generalize zs.getD (m - 1) 0 = zl at *
      obtain ⟨hza, hzb⟩ := hz1' zl rfl
      clear hz1' hz
      by_cases hzz : zl = 0
      · subst hzz
        have HZ := hide (hza rfl)
        have NC := hide (fun k => (n.kept ((Kept.refl 0 0 _).drewN k)).cut hlen.symm (m - 1) (by omega))
        have MC := hide (fun k => (hmod.drewN k).set (p := ⟨g, 0, none⟩) (.inl rfl) (.slice (some ⟨gb, 0, none⟩) (m - 1) cap))
        have e1 : (zs.take m).take (m - 1) = zs.take (m - 1) := by rw [List.take_take, Nat.min_eq_left (by omega)]
        have E1 := hide e1
        clear hza hzb n hmod hlen e1
        go_wp2
        go_quiet (fail)
        go_wp2
        go_region
        go_wp2
        go_roundw
        case rel => exact ⟨m - 1, .slice (some ⟨gb, 0, none⟩) (m - 1) cap, by omega, HZ, by rw [← unhide E1]; exact unhide NC _, hide (unhide ho), unhide MC _⟩
        case measure => rw [lenAt_of hce, lenAt_of (unhide NC _).cell]; omega
      · have e1 := hzb hzz
        rw [e1] at n
        have NN := hide n
        have MM := hide hmod
        have hb : (zl == 0) = false := beq_eq_false_iff_ne.2 hzz
        clear e1 n hmod hlen hza hzb
        go_wp2
        go_quiet (fail)
        go_wp2
        exact bodyPost_end (v := .tuple #[]) (by simp [results, Try.results125, go_sem]) rfl ⟨⟨_, rfl⟩, _, (unhide NN).kept ((Kept.refl 0 0 _).drewN _), unhide ho, (unhide MM).drewN _⟩

end Go.Proofs.Ytoijdclblcmpaaa

namespace Go.Proofs.Ytoijdclblcmpaaa
open Go.RowKit
set_option linter.unusedVariables false
set_option maxRecDepth 8000

theorem Two.mod1 {w0 W w' : World} {g1 g2 : Nat} {u1 u1' u2 : Value} {xs ys zs : List Int} (t : Two w0 W g1 g2 u1 u2 xs ys) (n : Num w0.heap.size w' g1 u1' zs) (ho : u1'.ownBlock = u1.ownBlock) (m : Mod (fun i => i = g1) W w') : Two w0 w' g1 g2 u1' u2 zs ys :=
  ⟨n, t.n2.mod m (fun e => t.ne e.symm) (fun i hi e => t.o21 (by rw [hi, e])), t.ne, by rw [ho]; exact t.o12, t.o21, by rw [ho]; exact t.oo, t.k.mod m (fun i e => by rw [e]; exact t.b1), t.b1, t.b2⟩

theorem sub_put (zs ys : List Int) (i : Nat) (hi : i < zs.length) (c c' l D y : Int) (hy : val (ys.drop i) = y + 65536 * val (ys.drop (i + 1))) (hl : l = zs.getD i 0 - y - c + 65536 * c') (h : val zs - 65536 ^ i * (c + val (ys.drop i)) = D) :
    val (zs.set i l) - 65536 ^ (i + 1) * (c' + val (ys.drop (i + 1))) = D := by
  rw [val_set _ _ _ hi, ← h, Int.pow_succ, hy]
  have e : l - zs.getD i 0 - 65536 * (c' + val (ys.drop (i + 1))) = - (c + (y + 65536 * val (ys.drop (i + 1)))) := by omega
  have key : ∀ P A B : Int, P * A - P * 65536 * B = P * (A - 65536 * B) := fun P A B => by rw [Int.mul_sub, Int.mul_assoc]
  have e2 := key (65536 ^ i) (l - zs.getD i 0) (c' + val (ys.drop (i + 1)))
  rw [e, Int.mul_neg] at e2
  omega

set_option maxHeartbeats 4000000 in
theorem subtract_two {w0 w : World} {g1 g2 : Nat} {xs ys : List Int} (h : ∃ u1 u2, Two w0 w g1 g2 u1 u2 xs ys) (hx : Nrm xs) (hy : Nrm ys) (hl1 : xs.length ≤ 100000) (hle : val ys ≤ val xs) :
    Calls Try.prog 80 #[.pointer (some ⟨g1, 0, none⟩), .pointer (some ⟨g2, 0, none⟩)] w fun e w' => (∃ r, e = .returned r) ∧ ∃ u1 u2, Two w0 w' g1 g2 u1 u2 (limbs (val xs - val ys).toNat) ys := by
  obtain ⟨u1, u2, t0⟩ := h
  obtain ⟨a2, c2, rfl⟩ := t0.n2.form
  generalize hD : val xs - val ys = D
  have HD0 : Hid (0 ≤ D) := by show _ ≤ _; omega
  have HY := hide hy
  have HS0 : Hid (val xs - 65536 ^ 0 * (0 + val (ys.drop 0)) = D) := by show _ = _; simp; exact hD
  have hylim := hy.1
  have hM := t0.n2.row.len
  unfold maxLen at hM
  clear hD hy hle
  go_enter Try.func80, Try.ntmps80
  go_wp2
  go_loopw [4, 5] (fun cc ii wr => ∃ (zs : List Int) (c i : Nat) (v : Value), cc = .int .i64 c ∧ ii = .int .i64 i ∧ c ≤ 1 ∧ i ≤ zs.length ∧ zs.length = xs.length ∧ Lim zs ∧ Hid (val zs - 65536 ^ i * (c + val (ys.drop i)) = D) ∧ Two w0 wr g1 g2 v (.slice a2 ys.length c2) zs ys) (fun _ ii _ => xs.length + 1 - (intOf ii).toNat)
  case atStart => exact ⟨xs, 0, 0, u1, rfl, rfl, by omega, by omega, rfl, hx.1, HS0, t0⟩
  case round =>
    clear t0 HS0
    obtain ⟨zs, c, i, v, rfl, rfl, hc1, hiz, hzx, hlim, hval, t⟩ := hrel
    have hce2 := t.n2.cell
    by_cases hgo : i < ys.length ∨ 0 < c
    · have hi : i < zs.length := by
        have hD : 1 ≤ (c : Int) + val (ys.drop i) := by
          rcases hgo with h | h
          · have := drop_pos (unhide HY) i h; omega
          · have := val_nonneg ((unhide HY).1.drop i); omega
        have e1 := unhide hval
        have e2 := val_lt hlim
        have e3 : (65536 : Int) ^ i * 1 ≤ 65536 ^ i * (c + val (ys.drop i)) := Int.mul_le_mul_of_nonneg_left hD (Int.le_of_lt (Int.pow_pos (by decide)))
        have e4 := unhide HD0
        rcases Nat.lt_or_ge i zs.length with h | h
        · exact h
        · have := pow_mono (a := zs.length) (b := i) h
          omega
      have HZX := hide hzx
      have hzl : zs.length ≤ 100000 := by omega
      clear hzx
      obtain ⟨gb, cap, rfl, hxz, hfz, hgb⟩ := t.n1.at i hi
      have hce1 := t.n1.cell
      by_cases hgo2 : i < ys.length
      · have hgo' : (i : Int) < (ys.length : Int) := by omega
        go_wp2
        have hzr := hlim.at i
        have hyr := hylim.at i
        have hyd := val_drop ys i
        have hput := fun (c' l : Int) (h : l = zs.getD i 0 - ys.getD i 0 - c + 65536 * c') => sub_put zs ys i hi c c' l D _ hyd h (unhide hval)
        have hsetl := fun z (h0 : 0 ≤ z) (h1 : z ≤ 65535) => hlim.set i h0 h1
        have hatc := fun n => at_impl (wr.drewN n) (t.n2.kept ((Kept.refl 0 0 _).drewN n)) i (by omega)
        have HAT := hide hatc
        have tp := fun n z => (t.kept ((Kept.refl 0 0 _).drewN n)).put (j := i) rfl z
        have TP := hide tp
        have HSL := hide hsetl
        have hlenset : ∀ z, (zs.set i z).length = zs.length := fun z => by rw [List.length_set]
        have HLS := hide hlenset
        generalize hz : zs.getD i 0 = z at *
        generalize hy2 : ys.getD i 0 = y at *
        have HP := hide hput
        have hlt2 : (i : Int) < ((zs.length : Nat) : Int) := by omega
        clear hatc tp hput hyd hz hy2 t hlim hval hsetl hlenset
        by_cases hneg : z - y - (c : Int) < 0
        · go_quiet ((go_at_call 124; exact (unhide HAT _).mono (fun e w' h => ⟨h.1, _, h.2⟩)))
          go_wp2
          go_roundw
          case rel => exact ⟨zs.set i (z - y - c + 65536), 1, i + 1, _, rfl, by go_num, by omega, by rw [unhide HLS]; omega, by rw [unhide HLS]; exact unhide HZX, unhide HSL _ (by omega) (by omega), unhide HP 1 _ (by omega), unhide TP _ _⟩
          case measure => have := unhide HZX; simp [intOf]; omega
        · go_quiet ((go_at_call 124; exact (unhide HAT _).mono (fun e w' h => ⟨h.1, _, h.2⟩)))
          go_wp2
          go_roundw
          case rel => exact ⟨zs.set i (z - y - c), 0, i + 1, _, rfl, by go_num, by omega, by rw [unhide HLS]; omega, by rw [unhide HLS]; exact unhide HZX, unhide HSL _ (by omega) (by omega), unhide HP 0 _ (by omega), unhide TP _ _⟩
          case measure => have := unhide HZX; simp [intOf]; omega
      · have hgo' : ¬ (i : Int) < (ys.length : Int) := by omega
        have hgo3 : (0 : Int) < (c : Int) := by omega
        go_wp2
        have hzr := hlim.at i
        have hyr := hylim.at i
        have hyd := val_drop ys i
        have hput := fun (c' l : Int) (h : l = zs.getD i 0 - ys.getD i 0 - c + 65536 * c') => sub_put zs ys i hi c c' l D _ hyd h (unhide hval)
        have hsetl := fun z (h0 : 0 ≤ z) (h1 : z ≤ 65535) => hlim.set i h0 h1
        have hatc := fun n => at_impl (wr.drewN n) (t.n2.kept ((Kept.refl 0 0 _).drewN n)) i (by omega)
        have HAT := hide hatc
        have tp := fun n z => (t.kept ((Kept.refl 0 0 _).drewN n)).put (j := i) rfl z
        have TP := hide tp
        have HSL := hide hsetl
        have hlenset : ∀ z, (zs.set i z).length = zs.length := fun z => by rw [List.length_set]
        have HLS := hide hlenset
        generalize hz : zs.getD i 0 = z at *
        generalize hy2 : ys.getD i 0 = y at *
        have HP := hide hput
        have hlt2 : (i : Int) < ((zs.length : Nat) : Int) := by omega
        clear hatc tp hput hyd hz hy2 t hlim hval hsetl hlenset
        by_cases hneg : z - y - (c : Int) < 0
        · go_quiet ((go_at_call 124; exact (unhide HAT _).mono (fun e w' h => ⟨h.1, _, h.2⟩)))
          go_wp2
          go_roundw
          case rel => exact ⟨zs.set i (z - y - c + 65536), 1, i + 1, _, rfl, by go_num, by omega, by rw [unhide HLS]; omega, by rw [unhide HLS]; exact unhide HZX, unhide HSL _ (by omega) (by omega), unhide HP 1 _ (by omega), unhide TP _ _⟩
          case measure => have := unhide HZX; simp [intOf]; omega
        · go_quiet ((go_at_call 124; exact (unhide HAT _).mono (fun e w' h => ⟨h.1, _, h.2⟩)))
          go_wp2
          go_roundw
          case rel => exact ⟨zs.set i (z - y - c), 0, i + 1, _, rfl, by go_num, by omega, by rw [unhide HLS]; omega, by rw [unhide HLS]; exact unhide HZX, unhide HSL _ (by omega) (by omega), unhide HP 0 _ (by omega), unhide TP _ _⟩
          case measure => have := unhide HZX; simp [intOf]; omega
    · have hgo1 : ¬ (i : Int) < (ys.length : Int) := by omega
      have hc0 : c = 0 := by omega
      subst hc0
      have e1 := unhide hval
      rw [List.drop_of_length_le (by omega)] at e1
      simp [val] at e1
      have n1 := t.n1
      obtain ⟨a1, d1, rfl⟩ := n1.form
      have TT := hide t
      have HE := hide e1
      clear t hval e1
      go_wp2_with fail
      refine (trim_impl _ n1 hlim).mono ?_
      rintro e w6 ⟨⟨r6, rfl⟩, u6, n6, ho6, m6⟩
      have T6 := hide ((unhide TT).mod1 n6 ho6 m6)
      rw [unhide HE] at T6
      clear n1 n6 ho6 m6 TT
      go_wp2
      exact bodyPost_end (v := .tuple #[]) (by simp [results, Try.results80, go_sem]) rfl ⟨⟨_, rfl⟩, _, _, unhide T6⟩

end Go.Proofs.Ytoijdclblcmpaaa

namespace Go.Proofs.Ytoijdclblcmpaaa
open Go.RowKit
set_option linter.unusedVariables false
set_option maxRecDepth 8000

/-- A list of the call's own, newer than w; nothing that was there has changed. -/
structure Fresh (w wr : World) (v : Value) (zs : List Int) : Prop where
  own : wr.ownsRow w.heap.size 3 1 v zs.length (zs.map (Value.int .i64))
  k : Kept 0 0 w wr

theorem Fresh.drewN {w wr : World} {v : Value} {zs : List Int} (h : Fresh w wr v zs) (n : Nat) : Fresh w (wr.drewN n) v zs := ⟨own_kept h.own ((Kept.refl 0 0 wr).drewN n), h.k.drewN n⟩
theorem Fresh.put {w wr : World} {g n c : Nat} {zs : List Int} (h : Fresh w wr (.slice (some ⟨g, 0, none⟩) n c) zs) (hn : n = zs.length) (j : Nat) (z : Int) : Fresh w (wr.setCell ⟨g, j, none⟩ (.int .i64 z)) (.slice (some ⟨g, 0, none⟩) n c) (zs.set j z) := by
  subst hn
  exact ⟨own_set h.own j z, h.k.setNew (p := ⟨g, j, none⟩) (h.own.lt g rfl).1 _⟩
theorem Fresh.at {w wr : World} {g n c : Nat} {zs : List Int} (h : Fresh w wr (.slice (some ⟨g, 0, none⟩) n c) zs) (hn : n = zs.length) (j : Nat) (hj : j < n) :
    wr.cell? ⟨g, j, none⟩ = some (.int .i64 (zs.getD j 0)) ∧ wr.frozen? ⟨g, j, none⟩ = false := by
  subst hn
  exact own_cell h.own j hj
theorem made_fresh {w wr w' : World} {n : Nat} (k : Kept 0 0 w wr) (hown : w'.ownsRow w.heap.size 3 1 (.slice (some ⟨wr.heap.size, 0, none⟩) n n) n (madeCells (Value.int .i64 0).cells (n * 1)).toList) (hgrow : wr.grownBy w' none) : Fresh w w' (.slice (some ⟨wr.heap.size, 0, none⟩) n n) (List.replicate n 0) := by
  rw [made_zero] at hown
  exact ⟨by simpa using hown, k.trans ⟨hgrow.os, hgrow.tape, hgrow.output, hgrow.size, fun i hi _ => hgrow.block i hi (by simp)⟩⟩

set_option maxHeartbeats 8000000 in
theorem multiply_impl {b1 b2 g1 g2 : Nat} {v1 v2 : Value} {xs ys : List Int} (w : World) (n1 : Num b1 w g1 v1 xs) (n2 : Num b2 w g2 v2 ys) (hx : Lim xs) (hy : Lim ys) (nx : xs.length ≤ 100000) (ny : ys.length ≤ 100000) :
    Calls Try.prog 78 #[.pointer (some ⟨g1, 0, none⟩), .pointer (some ⟨g2, 0, none⟩)] w fun e w' => (∃ r, e = .returned r) ∧ ∃ u, Num w.heap.size w' g1 u (limbs (val xs * val ys).toNat) ∧ Mod (fun i => i = g1) w w' := by
  obtain ⟨M, hM⟩ : ∃ M, M = xs.length := ⟨_, rfl⟩
  obtain ⟨N, hN⟩ : ∃ N, N = ys.length := ⟨_, rfl⟩
  obtain ⟨a1, c1, hv1⟩ := n1.form
  obtain ⟨a2, c2, hv2⟩ := n2.form
  rw [← hM] at hv1
  rw [← hN] at hv2
  subst hv1
  subst hv2
  have hnx : M ≤ 100000 := by omega
  have hny : N ≤ 100000 := by omega
  have HM := hide hM
  have HN := hide hN
  have N1 := hide n1
  have N2 := hide n2
  clear hM hN nx ny n1 n2
  obtain ⟨P, HP⟩ : ∃ P, Hid (val xs * val ys = P) := ⟨_, rfl⟩
  obtain ⟨T, hT⟩ : ∃ T, T = M + N := ⟨_, rfl⟩
  have hnT : T ≤ 200000 := by omega
  have HT := hide hT
  have hTT : (M : Int) + (N : Int) = (T : Int) := by omega
  have HA1 := hide ((row_cell (unhide N1).row).2.2.2)
  have HA2 := hide ((row_cell (unhide N2).row).2.2.2)
  clear hT
  obtain ⟨i0, hi0, hz0, hz1, hz2⟩ := info_parts Try.info3'
  obtain ⟨w2, hrun, hown2, hgrow2⟩ := run_make_full (P := Try.prog) w.drew w.heap.size 24 3 i0 (.int .i64 0) 1 Try.underlying24 hi0 hz0 hz1 .i64 .i64 T (by rw [hz2]; omega) (by unfold maxLen; omega) (Nat.le_refl _)
  have hf0 := made_fresh (Kept.refl 0 0 w).drew hown2 hgrow2
  have HF := hide hf0
  have hce1 := hf0.k.cell0 (unhide N1).cell
  have hce2 := hf0.k.cell0 (unhide N2).cell
  have hce1w := (unhide N1).cell
  have hce2w := (unhide N2).cell
  obtain ⟨G, hG0⟩ : ∃ G, G = w.drew.heap.size := ⟨_, rfl⟩
  rw [← hG0] at hrun HF
  clear hown2 hgrow2 hf0 hG0 hi0 hz0 hz1 hz2
  go_enter Try.func78, Try.ntmps78
  go_wp2
  go_region
  clear hrun
  go_wp2
  clear hce1 hce2 hce1w hce2w
  go_loopw [29] (fun ii wr => ∃ (ss : List Int) (i : Nat), ii = .int .i64 (i : Int) ∧ i ≤ M ∧ ss.length = T ∧ Bnd ((i : Int) * 4294836225) ss ∧ Hid (val ss = val (xs.take i) * val ys) ∧ Fresh w wr (.slice (some ⟨G, 0, none⟩) T T) ss) (fun ii _ => M - (intOf ii).toNat)
  case atStart => exact ⟨List.replicate T 0, 0, rfl, Nat.zero_le _, by simp, by simpa using Bnd.zeros T, by show _ = _; rw [val_zeros]; simp [val], unhide HF⟩
  case round =>
    clear HF
    obtain ⟨ss, i, rfl, hi, hs, hb, hV, hf⟩ := hrel
    have hce2 := hf.k.cell0 (unhide N2).cell
    by_cases hA : i < M
    · have hi1 : (i : Int) < (M : Int) := by omega
      have hx0 := hx.at i
      obtain ⟨gA, oA, rfl, x1⟩ := unhide HA1 i (by have := unhide HM; omega)
      have x1' := hf.k.cell0 x1
      have hts := val_take_succ xs i (by rw [← unhide HM]; omega)
      have HTS := hide hts
      have HF2 := hide hf
      have HV := hide (unhide hV)
      have HB := hide hb
      generalize hva : xs.getD i 0 = va at *
      have HVA := hide hva
      clear hts hV hva x1 hf hb
      go_wp2
      clear hce2 x1'
      go_loopw [39] (fun kk wr => ∃ (ss' : List Int) (k : Nat), kk = .int .i64 (k : Int) ∧ k ≤ N ∧ ss'.length = T ∧ Hid (Bnd ((i : Int) * 4294836225 + 4294836225) ss') ∧ Hid (∀ q, i + k ≤ q → ss'.getD q 0 ≤ (i : Int) * 4294836225) ∧ Hid (val ss' = val (xs.take i) * val ys + 65536 ^ i * (va * val (ys.take k))) ∧ Fresh w wr (.slice (some ⟨G, 0, none⟩) T T) ss') (fun kk _ => N - (intOf kk).toNat)
      case atStart => exact ⟨ss, 0, rfl, Nat.zero_le _, hs, hide ((unhide HB).more (by omega)), hide (fun q _ => (unhide HB q).2), by show _ = _; rw [unhide HV]; simp [val], unhide HF2⟩
      case round =>
        clear HF2 HV HB hs ss
        obtain ⟨ss, k, rfl, hk, hs, hb, hq, hV, hf⟩ := hrel
        by_cases hB : k < N
        · obtain ⟨gB, oB, rfl, x2⟩ := unhide HA2 k (by have := unhide HN; omega)
          replace x2 := hf.k.cell0 x2
          have hy0 := hy.at k
          have hik : i + k < T := by have := unhide HT; omega
          obtain ⟨y1, y2⟩ := hf.at hs.symm (i + k) hik
          have hV2 := msum_step ss ys i k (by omega) va _ (by rw [← unhide HN]; omega) (unhide hV)
          have hvo0 := (unhide hb (i + k)).1
          have hvo1 := unhide hq (i + k) (Nat.le_refl _)
          generalize hvb : ys.getD k 0 = vb at *
          generalize hvo : ss.getD (i + k) 0 = vo at *
          have hp := limb_mul hx0 hy0
          have hb2 := (unhide hb).set (Int.le_refl _) (i + k) (by omega) (z := vo + va * vb) (by omega) (by omega)
          have HB2 := hide hb2
          have HQ2 : Hid (∀ q, i + (k + 1) ≤ q → (ss.set (i + k) (vo + va * vb)).getD q 0 ≤ (i : Int) * 4294836225) := fun q h => by rw [getD_set_ne _ _ _ _ (by omega)]; exact unhide hq q (by omega)
          have HV2 := hide hV2
          have hi2 : (k : Int) < (N : Int) := by omega
          have hij : (i : Int) + (k : Int) < (T : Int) := by omega
          have hij0 : 0 ≤ (i : Int) + (k : Int) := by omega
          have hX : 0 ≤ vo + va * vb ∧ vo + va * vb ≤ 4294836225 * 100001 := by omega
          have hls : (ss.set (i + k) (vo + va * vb)).length = T := by simpa using hs
          have HLS := hide hls
          have hpt := hide (fun n => (hf.drewN n).put hs.symm (i + k) (vo + va * vb))
          have hp0 := hide (hf.put hs.symm (i + k) (vo + va * vb))
          clear hV hV2 hb hb2 hq hvb hvo hf hs hls
          go_wp2
          go_roundw
          case rel => exact ⟨_, k + 1, by go_num, by omega, unhide HLS, HB2, HQ2, HV2, by first | exact unhide hp0 | exact unhide hpt _⟩
          case measure => simp [intOf]; omega
        · have hkN : k = N := by omega
          subst hkN
          have HV2 : Hid (val ss = val (xs.take (i + 1)) * val ys) := by
            show _ = _
            have e := unhide hV
            rw [List.take_of_length_le (Nat.le_of_eq (unhide HN).symm)] at e
            rw [e, unhide HTS, Int.add_mul, Int.mul_assoc]
          have hi2 : ¬ (k : Int) < (k : Int) := by omega
          have HB2 : Hid (Bnd (((i + 1 : Nat) : Int) * 4294836225) ss) := by
            have e : ((i + 1 : Nat) : Int) * 4294836225 = (i : Int) * 4294836225 + 4294836225 := by omega
            rw [e]; exact unhide hb
          have HF3 := hide hf
          clear hV hb hq hf
          go_wp2
          go_roundw
          case rel => exact ⟨ss, i + 1, by go_num, by omega, hs, unhide HB2, HV2, unhide HF3⟩
          case measure => simp [intOf]; omega
    · have hiM : i = M := by omega
      have hV' := unhide hV
      rw [List.take_of_length_le (by rw [← unhide HM]; omega)] at hV'
      have hi1 : ¬ (i : Int) < (M : Int) := by omega
      have HB3 := hide (hb.more (B' := 429483622500000) (by omega))
      have HV3 : Hid (val ss + 65536 ^ 0 * 0 = P) := by show _ = _; rw [hV', unhide HP]; simp
      have HF3 := hide hf
      clear hV hV' hb hf hiM hce2
      go_wp2
      go_loopw [9, 59] (fun cc ii wr => ∃ (zs : List Int) (c : Int) (i : Nat), cc = .int .i64 c ∧ ii = .int .i64 (i : Int) ∧ i ≤ T ∧ 0 ≤ c ∧ c ≤ 1000000000000000 ∧ zs.length = T ∧ Hid (Bnd 429483622500000 zs) ∧ Hid (∀ q, q < i → zs.getD q 0 ≤ 65535) ∧ Hid (val zs + 65536 ^ i * c = P) ∧ Fresh w wr (.slice (some ⟨G, 0, none⟩) T T) zs) (fun _ ii _ => T - (intOf ii).toNat)
      case atStart => exact ⟨ss, 0, 0, rfl, rfl, Nat.zero_le _, Int.le_refl _, by omega, hs, HB3, hide (fun q h => by omega), HV3, unhide HF3⟩
      case round =>
        clear HF3 HV3 HB3 hs ss hi1 hA hi
        obtain ⟨zs, c, i, rfl, rfl, hi, hc0, hc1, hs, hb, hq, hV, hf⟩ := hrel
        by_cases hB : i < T
        · obtain ⟨y1, y2⟩ := hf.at hs.symm i hB
          have hV2 := carry_step zs i (by omega) c P _ rfl (unhide hV)
          have hz0 := unhide hb i
          generalize hzz : zs.getD i 0 = z at *
          have hb2 := (unhide hb).set (Int.le_refl _) i (by omega) (z := (z + c) % 65536) (by omega) (by omega)
          have HB2 := hide hb2
          have HQ2 : Hid (∀ q, q < i + 1 → (zs.set i ((z + c) % 65536)).getD q 0 ≤ 65535) := fun q h => by
            by_cases e : q = i
            · subst e; rw [getD_set_eq _ _ _ (by omega)]; omega
            · rw [getD_set_ne _ _ _ _ e]; exact unhide hq q (by omega)
          have HV2 := hide hV2
          have hi2 : (i : Int) < (T : Int) := by omega
          have hX : 0 ≤ z + c ∧ z + c ≤ 1429483622500000 := by omega
          have et : (z + c).tmod 65536 = (z + c) % 65536 := by rw [Int.tmod_eq_emod_of_nonneg (by omega)]
          have ed : (z + c).tdiv 65536 = (z + c) / 65536 := by rw [Int.tdiv_eq_ediv_of_nonneg (by omega)]
          have hls : (zs.set i ((z + c) % 65536)).length = T := by simpa using hs
          have HLS := hide hls
          have hdv : 0 ≤ (z + c) / 65536 ∧ (z + c) / 65536 ≤ 1000000000000000 := by omega
          have hpt := hide (fun n => (hf.drewN n).put hs.symm i ((z + c) % 65536))
          have hp0 := hide (hf.put hs.symm i ((z + c) % 65536))
          clear hV hV2 hb hb2 hq hzz hf hs hls
          go_wp2
          go_roundw
          case rel => exact ⟨_, (z + c) / 65536, i + 1, by first | rfl | go_num, by go_num, by omega, hdv.1, hdv.2, unhide HLS, HB2, HQ2, HV2, by first | exact unhide hp0 | exact unhide hpt _⟩
          case measure => simp [intOf]; omega
        · have hiT : i = T := by omega
          subst hiT
          have hlim : Lim zs := lim_of_at (fun q h => ⟨(unhide hb q).1, unhide hq q (by omega)⟩)
          have hv := carry_end hlim hc0 (P := P) (by rw [hs, unhide HT, unhide HM, unhide HN, ← unhide HP]; exact mul_lt_pow hx hy) (by rw [hs]; exact unhide hV)
          have hi2 : ¬ (i : Int) < (i : Int) := by omega
          have hlt1 := (unhide N1).lt
          have hG := (hf.own.lt G rfl).1
          have hc1' := hf.k.cell0 (unhide N1).cell
          have hf1' := hf.k.loose0 (a := ⟨g1, 0, none⟩) hlt1 (unhide N1).loose
          have hown := hf.own
          rw [hs] at hown
          have hnum : Num w.heap.size (wr.setCell ⟨g1, 0, none⟩ (.slice (some ⟨G, 0, none⟩) i i)) g1 (.slice (some ⟨G, 0, none⟩) i i) zs :=
            ⟨cell_on _ _ _ _ _ hc1', by rw [frozen_set]; exact hf1', by rw [hs]; exact own_apart hown (p := ⟨g1, 0, none⟩) (by simp [Value.ownBlock]; omega) _, by simp [Value.ownBlock]; omega⟩
          have hmod : Mod (fun i => i = g1) w (wr.setCell ⟨g1, 0, none⟩ (.slice (some ⟨G, 0, none⟩) i i)) := Mod.set (S := fun i => i = g1) hf.k.toMod (p := ⟨g1, 0, none⟩) (.inl rfl) _
          have NU := hide hnum
          have MO := hide hmod
          have HVV := hide hv
          have HLI := hide hlim
          clear hnum hmod hv hlim hown hf hb hq hV
          go_wp2_with fail
          refine (trim_impl _ (unhide NU) (unhide HLI)).mono ?_
          rintro e w6 ⟨⟨r6, rfl⟩, u6, n6, ho6, m6⟩
          have N6 := hide n6
          rw [unhide HVV, ← unhide HP] at N6
          have M6 := hide ((unhide MO).trans m6)
          clear n6 ho6 m6
          go_wp2
          exact bodyPost_end (v := .tuple #[]) (by simp [results, Try.results78, go_sem]) rfl ⟨⟨_, rfl⟩, _, unhide N6, unhide M6⟩

end Go.Proofs.Ytoijdclblcmpaaa

namespace Go.Proofs.Ytoijdclblcmpaaa
open Go.RowKit
set_option linter.unusedVariables false
set_option maxRecDepth 8000

/-- The cell g holds the list v, which may be written, with the limbs zs. -/
structure Work (b : Nat) (w : World) (g : Nat) (v : Value) (zs : List Int) : Prop where
  cell : w.cell? ⟨g, 0, none⟩ = some v
  loose : w.frozen? ⟨g, 0, none⟩ = false
  row : Row .i64 true b w.heap.size w v zs
  apart : zs ≠ [] → v.ownBlock ≠ some g

theorem Row.aside {k : IntKind} {bw : Bool} {lo hi : Nat} {w : World} {v : Value} {zs : List Int} (r : Row k bw lo hi w v zs) {P o : Nat} (hne : zs ≠ [] → v.ownBlock ≠ some P) (u : Value) : Row k bw lo hi (w.setCell ⟨P, o, none⟩ u) v zs := by
  obtain ⟨a, c, rfl, h1, h2, h3⟩ := r
  refine ⟨a, c, rfl, h1, h2, fun hz => ?_⟩
  obtain ⟨g, off, rfl, hl, hh, hs, hc, hf⟩ := h3 hz
  have hn : g ≠ P := fun e => hne hz (by simp [Value.ownBlock, e])
  refine ⟨g, off, rfl, hl, hh, by rw [size_set]; exact hs, fun i hi' => ?_, fun e i hi' => by rw [frozen_set]; exact hf e i hi'⟩
  rw [cell_far _ _ _ _ _ (by exact hn)]
  exact hc i hi'
theorem Row.front {k : IntKind} {bw : Bool} {lo hi : Nat} {w : World} {a : Option Addr} {n c : Nat} {zs : List Int} (r : Row k bw lo hi w (.slice a n c) zs) (j : Nat) (hj : j ≤ n) : Row k bw lo hi w (.slice a j c) (zs.take j) := by
  obtain ⟨a', c', e, h1, h2, h3⟩ := r
  cases e
  have hl : (zs.take j).length = j := by simp; omega
  refine ⟨a, c, by rw [hl], by omega, h2, fun hz => ?_⟩
  obtain ⟨g, off, rfl, hlo, hh, hs, hc, hf⟩ := h3 (by intro e; subst e; simp at hz)
  refine ⟨g, off, rfl, hlo, hh, hs, fun i hi' => ?_, fun e i hi' => hf e i (by omega)⟩
  rw [hc i (by omega)]
  simp only [List.getD, List.getElem?_take]
  rw [if_pos (by omega)]

theorem Num.work {b g : Nat} {w : World} {v : Value} {zs : List Int} (h : Num b w g v zs) : Work b w g v zs := ⟨h.cell, h.loose, h.row, fun _ => h.apart⟩
theorem Work.lt {b g : Nat} {w : World} {v : Value} {zs : List Int} (h : Work b w g v zs) : g < w.heap.size := World.block_lt_of_cell? _ ⟨g, 0, none⟩ h.cell
theorem Work.form {b g : Nat} {w : World} {v : Value} {zs : List Int} (h : Work b w g v zs) : ∃ a c, v = .slice a zs.length c := Row.form' h.row
theorem Work.kept {b g : Nat} {w w' : World} {v : Value} {zs : List Int} (h : Work b w g v zs) (k : Kept 0 0 w w') : Work b w' g v zs :=
  ⟨k.cell0 h.cell, k.loose0 h.lt h.loose, (h.row.kept k (by omega)).tight, h.apart⟩
theorem Work.at {b g : Nat} {w : World} {v : Value} {zs : List Int} (h : Work b w g v zs) (j : Nat) (hj : j < zs.length) : ∃ g1 off c, v = .slice (some ⟨g1, off, none⟩) zs.length c ∧ zs.length ≤ c ∧ w.cell? ⟨g1, off + j, none⟩ = some (.int .i64 (zs.getD j 0)) ∧ w.frozen? ⟨g1, off + j, none⟩ = false ∧ g1 ≠ g ∧ b ≤ g1 := by
  have ha := h.apart
  obtain ⟨a, c, rfl, h1, h2, h3⟩ := h.row
  have hz : zs ≠ [] := by intro e; subst e; simp at hj
  obtain ⟨g1, off, rfl, hl, hh, hs, hc, hf⟩ := h3 hz
  exact ⟨g1, off, c, rfl, h1, hc j hj, hf rfl j hj, fun e => ha hz (by simp [Value.ownBlock, e]), hl⟩
theorem Work.put {b g g1 off n c : Nat} {w : World} {zs : List Int} (h : Work b w g (.slice (some ⟨g1, off, none⟩) n c) zs) (j : Nat) (hn : n = zs.length) (hj : j < n) (z : Int) : Work b (w.setCell ⟨g1, off + j, none⟩ (.int .i64 z)) g (.slice (some ⟨g1, off, none⟩) n c) (zs.set j z) := by
  have hz : zs ≠ [] := by intro e; subst e; simp at hn; omega
  have hne : g1 ≠ g := fun e => h.apart hz (by simp [Value.ownBlock, e])
  have := h.row.set j (by omega) z
  exact ⟨by rw [cell_far _ _ _ _ _ (by exact fun e => hne e.symm)]; exact h.cell, by rw [frozen_set]; exact h.loose, by rw [size_set]; exact this, fun _ => by simp [Value.ownBlock, hne]⟩
theorem Work.cut {b g n c : Nat} {a : Option Addr} {w : World} {zs : List Int} (h : Work b w g (.slice a n c) zs) (j : Nat) (hj : j ≤ n) : Work b (w.setCell ⟨g, 0, none⟩ (.slice a j c)) g (.slice a j c) (zs.take j) := by
  have hap : zs.take j ≠ [] → (Value.slice a j c).ownBlock ≠ some g := fun hz e => h.apart (by intro e; subst e; simp at hz) (by cases a <;> exact e)
  exact ⟨cell_on _ _ _ _ _ h.cell, by rw [frozen_set]; exact h.loose, by rw [size_set]; exact (h.row.front j hj).aside hap _, hap⟩

set_option maxHeartbeats 1000000 in
theorem at_work {b g : Nat} {v : Value} {zs : List Int} (w : World) (h : Work b w g v zs) (i : Nat) (hi : (i : Int) ≤ 9223372036854775807) :
    Calls Try.prog 124 #[.pointer (some ⟨g, 0, none⟩), .int .i64 i] w fun e w' => e = .returned (.int .i64 (zs.getD i 0)) ∧ w' = w := by
  have hc := h.cell
  have hm := h.row.len
  unfold maxLen at hm
  by_cases hlt : i < zs.length
  · obtain ⟨g1, off, c', rfl, -, hx, -, -⟩ := h.at i hlt
    have hlt' : (i : Int) < (zs.length : Int) := by omega
    generalize zs.getD i 0 = z at *
    clear h
    go_enter Try.func124, Try.ntmps124
    go_wp2
    go_ret
    exact ⟨rfl, rfl⟩
  · have e0 : zs.getD i 0 = 0 := by simp [List.getD, List.getElem?_eq_none (Nat.le_of_not_lt hlt)]
    rw [e0]
    have hlt' : ¬ (i : Int) < (zs.length : Int) := by omega
    obtain ⟨a1, c1, rfl⟩ := h.form
    clear h
    go_enter Try.func124, Try.ntmps124
    go_wp2
    go_ret
    exact ⟨rfl, rfl⟩

set_option maxHeartbeats 4000000 in
theorem trim_work {b g : Nat} {v : Value} {zs : List Int} (w : World) (h : Work b w g v zs) (hl : Lim zs) :
    Calls Try.prog 125 #[.pointer (some ⟨g, 0, none⟩)] w fun e w' => (∃ r, e = .returned r) ∧ ∃ u, Work b w' g u (limbs (val zs).toNat) ∧ Mod (fun i => i = g) w w' := by
  have hm := h.row.len
  unfold maxLen at hm
  have HL := hide hl
  clear hl
  go_enter Try.func125, Try.ntmps125
  go_wp2
  go_loopw [] (fun wr => ∃ (m : Nat) (u : Value), m ≤ zs.length ∧ Hid (∀ i, m ≤ i → i < zs.length → zs.getD i 0 = 0) ∧ Work b wr g u (zs.take m) ∧ Mod (fun i => i = g) w wr) (fun wr => lenAt wr g)
  case atStart => exact ⟨zs.length, v, Nat.le_refl _, hide (fun i h1 h2 => by omega), by rw [List.take_length]; exact h, Mod.refl _ _⟩
  case round =>
    clear h
    obtain ⟨m, u, hmz, hz, n, hmod⟩ := hrel
    have hlen : (zs.take m).length = m := by simp; omega
    have hlo := n.loose
    by_cases h0 : m = 0
    · subst h0
      obtain ⟨a1, c1, hv⟩ := n.form
      rw [hlen] at hv
      subst hv
      have hce := n.cell
      have e1 := take_limbs zs (unhide HL) 0 (by omega) (unhide hz) (.inl rfl)
      rw [e1] at n
      have NN := hide n
      have MM := hide hmod
      have hd : decide ((0 : Int) < ((0 : Nat) : Int)) = false := rfl
      clear e1 n hmod hlen hz
      go_wp2
      go_quiet (fail)
      go_wp2
      exact bodyPost_end (v := .tuple #[]) (by simp [results, Try.results125, go_sem]) rfl ⟨⟨_, rfl⟩, _, (unhide NN).kept ((Kept.refl 0 0 _).drewN _), (unhide MM).drewN _⟩
    · obtain ⟨gb, off, cap, hv, hle, hxz, hfz, hgb, -⟩ := n.at (m - 1) (by omega)
      rw [hlen] at hv hle
      subst hv
      have hce := n.cell
      have hz1 : (zs.take m).getD (m - 1) 0 = zs.getD (m - 1) 0 := by
        simp only [List.getD, List.getElem?_take]
        rw [if_pos (by omega)]
      rw [hz1] at hxz
      have hpos : (0 : Int) < (m : Int) := by omega
      have hposN : 0 < m := by omega
      have h1m : (1 : Int) ≤ (m : Int) := by omega
      have hcap : (m : Int) - 1 ≤ (cap : Int) := by omega
      have ew : IntKind.i64.wrap ((m : Int) - 1) = (m : Int) - 1 := wrap_small _ (by omega) (by omega)
      have et : ((m : Int) - 1).toNat = m - 1 := by omega
      have hi0 : (0 : Int) ≤ (m : Int) - 1 := by omega
      have hi1 : (m : Int) - 1 < (m : Int) := by omega
      have hz1' : ∀ z, zs.getD (m - 1) 0 = z → (z = 0 → ∀ i, m - 1 ≤ i → i < zs.length → zs.getD i 0 = 0) ∧ (z ≠ 0 → zs.take m = limbs (val zs).toNat) := by
        intro z e
        refine ⟨fun e0 i h1 h2 => ?_, fun e0 => take_limbs zs (unhide HL) m (by omega) (unhide hz) (.inr (by rw [e]; exact e0))⟩
        by_cases h3 : i = m - 1
        · rw [h3, e, e0]
        · exact unhide hz i (by omega) h2
      generalize zs.getD (m - 1) 0 = zl at *
      obtain ⟨hza, hzb⟩ := hz1' zl rfl
      clear hz1' hz
      by_cases hzz : zl = 0
      · subst hzz
        have HZ := hide (hza rfl)
        have NC := hide (fun k => (n.kept ((Kept.refl 0 0 _).drewN k)).cut (m - 1) (by omega))
        have MC := hide (fun k => (hmod.drewN k).set (p := ⟨g, 0, none⟩) (.inl rfl) (.slice (some ⟨gb, off, none⟩) (m - 1) cap))
        have e1 : (zs.take m).take (m - 1) = zs.take (m - 1) := by rw [List.take_take, Nat.min_eq_left (by omega)]
        have E1 := hide e1
        clear hza hzb n hmod hlen e1
        go_wp2
        go_quiet (fail)
        go_wp2
        go_region
        go_wp2
        go_roundw
        case rel => exact ⟨m - 1, .slice (some ⟨gb, off, none⟩) (m - 1) cap, by omega, HZ, by rw [← unhide E1]; exact unhide NC _, unhide MC _⟩
        case measure => rw [lenAt_of hce, lenAt_of (unhide NC _).cell]; omega
      · have e1 := hzb hzz
        rw [e1] at n
        have NN := hide n
        have MM := hide hmod
        have hb : (zl == 0) = false := beq_eq_false_iff_ne.2 hzz
        clear e1 n hmod hlen hza hzb
        go_wp2
        go_quiet (fail)
        go_wp2
        exact bodyPost_end (v := .tuple #[]) (by simp [results, Try.results125, go_sem]) rfl ⟨⟨_, rfl⟩, _, (unhide NN).kept ((Kept.refl 0 0 _).drewN _), (unhide MM).drewN _⟩

set_option maxHeartbeats 1000000 in
theorem told_work {b g : Nat} {v : Value} {zs : List Int} (w : World) (h : Work b w g v zs) :
    Calls Try.prog 77 #[.pointer (some ⟨g, 0, none⟩)] w fun e w' => ∃ v', e = .returned (.tuple #[.agg #[v'], .bool (decide (zs.length ≤ 100))]) ∧ Row .i64 true w.heap.size w'.heap.size w' v' (tell zs) ∧ Kept 0 0 w w' := by
  obtain ⟨a1, c1, rfl⟩ := h.form
  have rr := h.row
  have hm := rr.len
  unfold maxLen at hm
  have hlt := h.lt
  have hc := h.cell
  obtain ⟨i0, hi0, hz0, hz1, hz2⟩ := info_parts Try.info3'
  have hne : ¬ g = w.heap.size := by omega
  have hne' : ¬ w.heap.size = g := by omega
  by_cases hbig : 100 < (zs.length : Int)
  · have hn : ¬ zs.length ≤ 100 := by omega
    rw [decide_eq_false hn]
    have e0 : tell zs = [] := by unfold tell; rw [if_neg hn]
    rw [e0]
    clear h rr
    go_enter Try.func77, Try.ntmps77
    go_wp2
    exact bodyPost_ret (v := .tuple #[.agg #[.slice none 0 0], .bool false]) (by simp [results, Try.results77, go_sem]) rfl ⟨_, rfl, Row.nil _ _ _ _ _, (Kept.refl _ _ _).alloc _⟩
  · have hn : zs.length ≤ 100 := by omega
    rw [decide_eq_true hn]
    have e0 : tell zs = zs := by unfold tell; rw [if_pos hn]
    rw [e0]
    by_cases hz : zs = []
    · subst hz
      have hrun := fun ty => run_append_nil_zero (P := Try.prog) (w.alloc (.cells #[.slice none 0 0] 26)) 24 ty 3 i0 Try.underlying24 hi0 a1 c1
      have HRUN := hide hrun
      clear hrun h rr
      go_enter Try.func77, Try.ntmps77
      go_wp2_with (at_builtin; refine Lib.wpList_append_run _ rfl _ _ _ _ rfl _ _ rfl rfl _ _ (unhide HRUN _) ?_)
      exact bodyPost_ret (v := .tuple #[.agg #[.slice none 0 0], .bool true]) (by simp [results, Try.results77, go_sem]) rfl ⟨_, rfl, Row.nil _ _ _ _ _, (Kept.refl _ _ _).alloc _⟩
    · obtain ⟨g1, off, c', e', -, -, hnews⟩ := (rr.kept ((Kept.refl 0 0 w).alloc (.cells #[.slice none 0 0] 26)) (by omega)).news hz
      cases e'
      have hown0 : (w.alloc (.cells #[.slice none 0 0] 26)).ownsRow (w.heap.size + 1) 3 1 (.slice none 0 0) 0 [] := World.ownsRow_nil _ _ _ _
      have hlk : (zs.map (Value.int .i64)).length = zs.length * 1 := by simp
      have HN := hide hnews
      have HB : Hid (w.heap.size + 1 ≤ (w.alloc (.cells #[.slice none 0 0] 26)).heap.size) := by show _ ≤ _; simp
      have c3 : 0 + zs.length ≤ maxLen := by unfold maxLen; omega
      have c4 : (0 + zs.length) * 8 ≤ 140737488355328 := by omega
      have C3 := hide c3
      have C4 := hide c4
      have cr : (w.alloc (.cells #[.slice none 0 0] 26)).cell? ⟨w.heap.size, 0, none⟩ = some (.slice none 0 0) := new_cell_at _ _ _ _ rfl
      have fr : (w.alloc (.cells #[.slice none 0 0] 26)).frozen? ⟨w.heap.size, 0, none⟩ = false := new_loose _ _ _ _ rfl
      have CR := hide cr
      have FR := hide fr
      clear hnews rr hz c3 c4 h cr fr
      go_enter Try.func77, Try.ntmps77
      go_wp2_with (at_builtin; refine wpList_append_own _ rfl _ _ 24 rfl (w.heap.size + 1) 3 i0 (.int .i64 0) 1 8 Try.underlying24 hi0 hz0 hz1 hz2 rfl (by decide) _ _ _ rfl hown0 ⟨g1, off, none⟩ zs.length c1 (zs.map (Value.int .i64)) rfl hlk (unhide HN) (ints_one _ _) (unhide C3) (unhide C4) (unhide HB) ?_)
      intro v4 w4 hown4 hgrow _
      have k4 := ((Kept.refl 0 0 w).alloc _).growNew hgrow (fun q hq => by simp [Value.ownBlock] at hq)
      have k4' : Kept 0 0 (w.alloc (.cells #[.slice none 0 0] 26)) w4 := (Kept.refl 0 0 _).growNew hgrow (fun q hq => by simp [Value.ownBlock] at hq)
      have cr := k4'.cell0 (unhide CR)
      have fr := k4'.loose0 (by simp) (unhide FR)
      try simp only [Nat.zero_add, List.nil_append] at hown4
      obtain ⟨a4, c4, rfl⟩ := own_slice hown4
      have K : Hid (Kept 0 0 w (w4.setCell ⟨w.heap.size, 0, none⟩ (.slice a4 zs.length c4))) := k4.setNew (p := ⟨w.heap.size, 0, none⟩) (Nat.le_refl _) _
      have R : Hid (Row .i64 true w.heap.size (w4.setCell ⟨w.heap.size, 0, none⟩ (.slice a4 zs.length c4)).heap.size (w4.setCell ⟨w.heap.size, 0, none⟩ (.slice a4 zs.length c4)) (.slice a4 zs.length c4) zs) := (Row.own (ownsRow_setCell_below hown4 (a := ⟨w.heap.size, 0, none⟩) (by simp) _)).wider (by omega) (Nat.le_refl _)
      clear hown4 hgrow hown0 hlk k4 k4' HN HB CR FR
      go_wp2
      exact bodyPost_ret (v := .tuple #[.agg #[.slice a4 zs.length c4], .bool true]) (by simp [results, Try.results77, go_sem, cr]) rfl ⟨_, rfl, unhide R, unhide K⟩

end Go.Proofs.Ytoijdclblcmpaaa

namespace Go.Proofs.Ytoijdclblcmpaaa
open Go.RowKit
set_option linter.unusedVariables false
set_option maxRecDepth 8000
set_option linter.unusedSimpArgs false

/-- A call that only reads, as one step of a statement whose order is left open. -/
theorem step_call_pure {P : Program} {ops : Array Oper} {o : Oper} {a : Act} {w : World} {K : Act → World → Prop} {Q : Exit → Act → World → Prop} {E : Prop}
    (hg : o.guard = none) (n : FuncId) (x y : Operand) (ts : Array TypeId) (hop : o.op = Op.call { callee := Callee.value (Operand.func n), args := #[x, y], argTypes := ts })
    (hcf : ∀ args : Array Value, (callFunc n args).run P w = .ok (.enter n args) w) (vx vy v : Value) (hx : a.eval x = vx) (hy : a.eval y = vy) (hc : Calls P n #[vx, vy] w (fun e w' => e = .returned v ∧ w' = w)) (hK : K (a.put o.dst v) w) :
    if Region.wanted o (yielded ops a.tmps) = true then Oper.wp P o a w K Q else E := by
  have hw : Region.wanted o (yielded ops a.tmps) = true := by simp [Region.wanted, hg]
  rw [if_pos hw]
  unfold Oper.wp
  have hrun : (execOp a.eval o).run P w = .ok (.enter n #[vx, vy]) w := by
    have hfn : a.eval (.func n) = .func (.func n) #[] #[] := rfl
    simp [execOp, hop, resolve, invoke, hx, hy, hfn, Deferred.ofValue, Result.andThen, hcf]
  rw [hrun, Oper.upon_enter]
  refine hc.mono ?_
  rintro e w' ⟨rfl, rfl⟩
  exact hK

theorem at_enter (w : World) (args : Array Value) : (callFunc 124 args).run Try.prog w = .ok (.enter 124 args) w := by
  have h1 : ¬ Try.f124.name = "runtime.NumGoroutine" := by decide
  have h2 : ¬ Try.f124.body = none := fun h => by cases h
  simp [callFunc, Try.func124, go_sem, h1, h2]

theorem Work.lost {b g : Nat} {w : World} {v v' : Value} {xs : List Int} (h : Work b w g v xs) (a : Option Addr) (c : Nat) (hc : c ≤ maxLen) : Work b (w.setCell ⟨g, 0, none⟩ (.slice a 0 c)) g (.slice a 0 c) [] :=
  ⟨cell_on _ _ _ _ _ h.cell, by rw [frozen_set]; exact h.loose, Row.empty _ _ _ _ _ _ _ hc, fun e => absurd rfl e⟩
theorem Work.tail {b g gb cap n : Nat} {w : World} {xs : List Int} (h : Work b w g (.slice (some ⟨gb, 0, none⟩) n cap) xs) (q : Nat) (hn : n = xs.length) (hq : q < n) :
    Work b (w.setCell ⟨g, 0, none⟩ (.slice (some ⟨gb, q, none⟩) (n - q) (cap - q))) g (.slice (some ⟨gb, q, none⟩) (n - q) (cap - q)) (xs.drop q) := by
  have hz : xs ≠ [] := by intro e; subst e; simp at hn; omega
  have hr := h.row.drop q hq
  rw [Nat.zero_add] at hr
  have hap : xs.drop q ≠ [] → (Value.slice (some ⟨gb, q, none⟩) (n - q) (cap - q)).ownBlock ≠ some g := fun _ => h.apart hz
  exact ⟨cell_on _ _ _ _ _ h.cell, by rw [frozen_set]; exact h.loose, by rw [size_set]; exact hr.aside hap _, hap⟩

set_option maxHeartbeats 8000000 in
theorem shiftDown_work {b g : Nat} {v : Value} {xs : List Int} (w : World) (h : Num b w g v xs) (hx : Lim xs) (nx : xs.length ≤ 100000) (k : Nat) (hk : (k : Int) ≤ 9223372036854775807) :
    Calls Try.prog 168 #[.pointer (some ⟨g, 0, none⟩), .int .i64 (k : Int)] w fun e w' => (∃ r, e = .returned r) ∧ ∃ u, Work b w' g u (limbs ((val xs).toNat / 2 ^ k)) ∧ Mod (Own1 g v) w w' := by
  obtain ⟨q, s, hs, rfl⟩ : ∃ q s : Nat, s < 16 ∧ k = 16 * q + s := ⟨k / 16, k % 16, by omega, by omega⟩
  obtain ⟨K, hK⟩ : ∃ K : Int, K = ((16 * q + s : Nat) : Int) := ⟨_, rfl⟩
  have e3 : K.tdiv 16 = (q : Int) := by rw [Int.tdiv_eq_ediv_of_nonneg (by omega)]; omega
  have e4 : K.tmod 16 = (s : Int) := by rw [Int.tmod_eq_emod_of_nonneg (by omega)]; omega
  have hq63 : (q : Int) ≤ 9223372036854775807 := by omega
  have hKK : 0 ≤ K ∧ K ≤ 9223372036854775807 := by omega
  rw [← hK]
  generalize hA : (val xs).toNat / 2 ^ (16 * q + s) = A
  have HA := hide hA
  clear hK hA hk
  have hlt := h.lt
  have hce := h.cell
  have hlo := h.loose
  have hs0 : ¬ ((s : Int) < 0) := by omega
  have hs64 : (s : Int) < 64 := by omega
  by_cases hqn : q < xs.length
  · have hmin : min (q : Int) (xs.length : Int) = (q : Int) := by omega
    obtain ⟨gb, cap, hv, -⟩ := h.at q hqn
    subst hv
    have hm := h.row
    obtain ⟨a', c', e', hm1, hm2, -⟩ := hm
    cases e'
    have hq1 : (q : Int) ≤ (xs.length : Int) := by omega
    have hq2 : (xs.length : Int) ≤ (cap : Int) := by omega
    have hcq : ¬ cap = q := by omega
    obtain ⟨m, hm⟩ : ∃ m, m = xs.length - q := ⟨_, rfl⟩
    obtain ⟨Y, hY⟩ : ∃ Y, Y = xs.drop q := ⟨_, rfl⟩
    have hYl : Y.length = m := by rw [hY, hm]; simp
    have hYx : Lim Y := by rw [hY]; exact hx.drop q
    have hgb : b ≤ gb := (h.own.lt gb rfl).1
    have wl := (h.work.tail q rfl hqn).kept (Kept.refl 0 0 _).drew
    have ml := ((Mod.refl (Own1 g (.slice (some ⟨gb, 0, none⟩) xs.length cap)) w).set (p := ⟨g, 0, none⟩) (.inl (.inl rfl)) (.slice (some ⟨gb, q, none⟩) m (cap - q))).kept (Kept.refl 0 0 _).drew
    rw [← hm, ← hY] at wl
    have HM := hide hm
    have hAv : Hid (limbs (val (sdn ((2 ^ s : Nat) : Int) Y)).toNat = limbs A) := by
      show _ = _
      rw [sdn_val s (by omega) hYx, hY, shr_val hx q s (by omega), unhide HA]
    have WL := hide wl
    have ML := hide ml
    have hm63 : (m : Int) ≤ 100000 := by omega
    clear h hm1 hm2 HA hY wl ml hm
    go_enter Try.func168, Try.ntmps168
    go_wp2
    go_region
    rw [← unhide HM]
    have wl := unhide WL
    have ml := unhide ML
    generalize (w.setCell ⟨g, 0, none⟩ (.slice (some ⟨gb, q, none⟩) m (cap - q))).drew = W at *
    have hce5 := wl.cell
    clear hce hlo WL ML
    go_wp2
    clear hce5
    go_loopw [32] (fun ii wr => ∃ i : Nat, ii = .int .i64 (i : Int) ∧ i ≤ m ∧ Work b wr g (.slice (some ⟨gb, q, none⟩) m (cap - q)) ((sdn ((2 ^ s : Nat) : Int) Y).take i ++ Y.drop i) ∧ Mod (Own1 g (.slice (some ⟨gb, 0, none⟩) xs.length cap)) w wr) (fun ii _ => m - (intOf ii).toNat)
    case atStart => exact ⟨0, rfl, Nat.zero_le _, by simpa using wl, ml⟩
    case round =>
      clear wl ml
      obtain ⟨i, rfl, hi, wk, md⟩ := hrel
      have hsl := sdn_length ((2 ^ s : Nat) : Int) Y
      have hlen : ((sdn ((2 ^ s : Nat) : Int) Y).take i ++ Y.drop i).length = m := by rw [sdn_len _ _ _ (by omega)]; exact hYl
      by_cases hB : i < m
      · have hcc := wk.cell
        obtain ⟨g1, off, c5, e5, -, hx1, hf1, hg1, -⟩ := wk.at i (by omega)
        rw [hlen] at e5
        cases e5
        rw [sdn_mix _ _ _ _ (Nat.le_refl _) (by omega)] at hx1
        have hat := fun n => at_work _ (wk.kept ((Kept.refl 0 0 wr).drewN n)) (i + 1) (by omega)
        rw [sdn_mix _ _ _ _ (by omega) (by omega)] at hat
        have hput := fun n => (wk.kept ((Kept.refl 0 0 wr).drewN n)).put i hlen.symm hB ((sdn ((2 ^ s : Nat) : Int) Y).getD i 0)
        rw [sdn_put _ _ _ (by omega)] at hput
        have hmd := fun n u => ((md.drewN n).set (p := ⟨gb, q + i, none⟩) (.inl (.inr rfl)) u)
        have hv := sdn_at ((2 ^ s : Nat) : Int) Y i (by omega)
        have h0 := hYx.at i
        have h1 := hYx.at (i + 1)
        generalize Y.getD i 0 = y0 at *
        generalize Y.getD (i + 1) 0 = y1 at *
        have ep : ((2 ^ s : Nat) : Int) = (2 : Int) ^ s := by simp
        rw [ep] at hv
        have hv2 : ((y1 * 65536 + y0) / 2 ^ s).tmod 65536 = (sdn ((2 ^ s : Nat) : Int) Y).getD i 0 := by
          rw [ep, Int.tmod_eq_emod_of_nonneg (Int.ediv_nonneg (by omega) (Int.le_of_lt (Int.pow_pos (by decide))))]
          rw [ep] at *
          exact hv.symm
        generalize (sdn ((2 ^ s : Nat) : Int) Y).getD i 0 = zi at *
        have HAT := hide hat
        have HPUT := hide hput
        have HV2 := hide hv2
        have HMD := hide hmd
        have hi2 : (i : Int) < (m : Int) := by omega
        have hwi : IntKind.i64.wrap ((i : Int) + 1) = (i : Int) + 1 := wrap_small _ (by omega) (by omega)
        have hb0 : 0 ≤ y1 * 65536 + y0 ∧ y1 * 65536 + y0 ≤ 4294967295 := by omega
        have hb1 : 0 ≤ y1 * 65536 ∧ y1 * 65536 ≤ 4294967295 := by omega
        have hw1 : IntKind.i64.wrap (y1 * 65536) = y1 * 65536 := wrap_small _ (by omega) (by omega)
        have hw2 : IntKind.i64.wrap (y1 * 65536 + y0) = y1 * 65536 + y0 := wrap_small _ (by omega) (by omega)
        clear hat hput hmd hv hv2 wk md hlen hsl ep
        go_wp2
        go_region_law (refine step_call_pure rfl 124 (.tmp 42) (.tmp 44) _ rfl (at_enter _) _ _ _ (by simp [Act.eval, Act.put]) (by simp [Act.eval, Act.put, hwi]) (unhide HAT 1) ?_)
        all_goals
          rw [unhide HV2]
          go_wp2
          go_roundw
          case rel => exact ⟨i + 1, by go_num, by omega, unhide HPUT 1, unhide HMD 1 _⟩
          case measure => simp [intOf]; omega
      · have hi2 : ¬ (i : Int) < (m : Int) := by omega
        have him : i = m := by omega
        rw [him, List.take_of_length_le (by omega), List.drop_of_length_le (by omega), List.append_nil] at wk
        clear hlen hsl him
        go_wp2_with fail
        refine (trim_work _ wk (sdn_lim _ _)).mono ?_
        rintro e w6 ⟨⟨r6, rfl⟩, u6, n6, m6⟩
        rw [unhide hAv] at n6
        have N6 := hide n6
        have M6 := hide (md.then m6 (fun i e => .inl (.inl e)))
        clear n6 m6 wk md
        go_wp2
        exact bodyPost_end (v := .tuple #[]) (by simp [results, Try.results168, go_sem]) rfl ⟨⟨_, rfl⟩, _, unhide N6, unhide M6⟩
  · have hle : (xs.length : Int) ≤ (q : Int) := by omega
    have hA0 : A = 0 := by
      rw [← unhide HA]
      have e1 := val_lt hx
      have e2 := val_nonneg hx
      rw [pow_limb] at e1
      refine Nat.div_eq_of_lt (Nat.lt_of_lt_of_le (m := 2 ^ (16 * xs.length)) (by omega) (Nat.pow_le_pow_right (by decide) (by omega)))
    rw [hA0, limbs_zero]
    obtain ⟨a1, c1, hv⟩ := h.form
    subst hv
    have hm := h.row
    obtain ⟨a', c', e', hm1, hm2, -⟩ := hm
    cases e'
    have hcap : (xs.length : Int) ≤ (c1 : Int) := by omega
    have hmin : min (q : Int) (xs.length : Int) = (xs.length : Int) := by omega
    have hmx : c1 - xs.length ≤ maxLen := by omega
    have WL := hide (fun (a : Option Addr) => (h.work.lost (v' := .slice a 0 (c1 - xs.length)) a (c1 - xs.length) hmx).kept (Kept.refl 0 0 _).drew)
    have MM := hide (fun (u : Value) => ((Mod.refl (Own1 g (.slice a1 xs.length c1)) w).set (p := ⟨g, 0, none⟩) (.inl (.inl rfl)) u).kept (Kept.refl 0 0 _).drew)
    clear h hm1 hm2 hmx HA hA0
    go_enter Try.func168, Try.ntmps168
    go_wp2
    go_region
    generalize (if c1 = xs.length then a1 else Option.map (fun x => x.add xs.length) a1) = a5 at *
    have wl := unhide WL a5
    have ml := unhide MM (.slice a5 0 (c1 - xs.length))
    generalize (w.setCell ⟨g, 0, none⟩ (.slice a5 0 (c1 - xs.length))).drew = W at *
    have hce5 := wl.cell
    clear hce hlo
    go_wp2
    go_loopw [32] (fun ii wr => ii = .int .i64 0 ∧ wr = W) (fun _ _ => 0)
    case atStart => exact ⟨rfl, rfl⟩
    case round =>
      obtain ⟨rfl, rfl⟩ := hrel
      clear hce5
      go_wp2_with fail
      refine (trim_work _ wl Lim.nil).mono ?_
      rintro e w6 ⟨⟨r6, rfl⟩, u6, n6, m6⟩
      have N6 := hide n6
      have M6 := hide (ml.then m6 (fun i e => .inl (.inl e)))
      clear n6 m6 wl ml
      go_wp2
      exact bodyPost_end (v := .tuple #[]) (by simp [results, Try.results168, go_sem]) rfl ⟨⟨_, rfl⟩, _, unhide N6, unhide M6⟩

end Go.Proofs.Ytoijdclblcmpaaa

namespace Go.Proofs.Ytoijdclblcmpaaa
open Go.RowKit
set_option linter.unusedVariables false
set_option maxRecDepth 8000

set_option maxHeartbeats 1000000 in
theorem isZero_impl {b g : Nat} {v : Value} {zs : List Int} (w : World) (h : Num b w g v zs) :
    Calls Try.prog 127 #[.pointer (some ⟨g, 0, none⟩)] w fun e w' => e = .returned (.bool (decide (zs.length = 0))) ∧ w' = w := by
  have hc := h.cell
  obtain ⟨a1, c1, rfl⟩ := h.form
  clear h
  go_enter Try.func127, Try.ntmps127
  go_wp2
  go_ret
  refine ⟨?_, rfl⟩
  cases zs with
  | nil => simp
  | cons z t => simp; omega

set_option maxHeartbeats 1000000 in
theorem shiftUp_zero {b g : Nat} {v : Value} (w : World) (h : Num b w g v []) (k : Int) :
    Calls Try.prog 156 #[.pointer (some ⟨g, 0, none⟩), .int .i64 k] w fun e w' => (∃ r, e = .returned r) ∧ w' = w := by
  have hz := isZero_impl w h
  have e : (decide (([] : List Int).length = 0)) = true := rfl
  rw [e] at hz
  have HZ := hide hz
  clear hz h e
  go_enter Try.func156, Try.ntmps156
  go_wp2_with (go_at_call 127; refine (unhide HZ).mono ?_; rintro e w' ⟨rfl, rfl⟩)
  exact bodyPost_ret (v := .tuple #[]) (by simp [results, Try.results156, go_sem]) rfl ⟨⟨_, rfl⟩, rfl⟩

set_option maxHeartbeats 8000000 in
theorem shiftUp_impl {b g : Nat} {v : Value} {xs : List Int} (w : World) (h : Num b w g v xs) (hx : Lim xs) (hne : xs ≠ []) (nx : xs.length ≤ 50000) (k : Nat) (hk : k ≤ 800000) :
    Calls Try.prog 156 #[.pointer (some ⟨g, 0, none⟩), .int .i64 (k : Int)] w fun e w' => (∃ r, e = .returned r) ∧ ∃ u, Num w.heap.size w' g u (limbs ((val xs).toNat * 2 ^ k)) ∧ Mod (fun i => i = g) w w' := by
  obtain ⟨q, s, hs, rfl⟩ : ∃ q s : Nat, s < 16 ∧ k = 16 * q + s := ⟨k / 16, k % 16, by omega, by omega⟩
  obtain ⟨K, hK⟩ : ∃ K : Int, K = ((16 * q + s : Nat) : Int) := ⟨_, rfl⟩
  have e3 : K.tdiv 16 = (q : Int) := by rw [Int.tdiv_eq_ediv_of_nonneg (by omega)]; omega
  have e4 : K.tmod 16 = (s : Int) := by rw [Int.tmod_eq_emod_of_nonneg (by omega)]; omega
  have hq63 : q ≤ 50000 := by omega
  have hKK : 0 ≤ K ∧ K ≤ 800000 := by omega
  rw [← hK]
  obtain ⟨M, hM⟩ : ∃ M, M = xs.length := ⟨_, rfl⟩
  obtain ⟨T, hT⟩ : ∃ T, T = q + M + 1 := ⟨_, rfl⟩
  have hM0 : 0 < M := by rw [hM]; exact List.length_pos_iff.2 hne
  have htot := shl_total xs hx q s
  generalize hA : (val xs).toNat * 2 ^ (16 * q + s) = A at *
  obtain ⟨D, hD⟩ : ∃ D : Int, D = ((2 ^ s : Nat) : Int) := ⟨_, rfl⟩
  rw [← hD] at htot
  have hDp : 0 < D := by rw [hD]; have := Nat.pow_pos (n := s) (show 0 < 2 by decide); omega
  have hDE : D * ((2 ^ (16 - s) : Nat) : Int) = 65536 := by
    rw [hD, ← Int.natCast_mul, ← Nat.pow_add, show s + (16 - s) = 16 by omega]; rfl
  have hDm : D ≤ 65536 := by
    rw [hD]; have := Nat.pow_le_pow_right (n := 2) (by decide) (show s ≤ 16 by omega); omega
  have HTOT := hide htot
  have HDE := hide hDE
  have ep : (2 : Int) ^ s = D := by rw [hD]; simp
  obtain ⟨a1, c1, hv1⟩ := h.form
  rw [← hM] at hv1
  subst hv1
  have hnx : M ≤ 50000 := by omega
  have HM := hide hM
  have HT := hide hT
  have hTT : (q : Int) + (M : Int) + 1 = (T : Int) := by omega
  have hnT : T ≤ 100001 := by omega
  have HA1 := hide ((row_cell h.row).2.2.2)
  have N1 := hide h
  have hz := isZero_impl w h
  rw [decide_eq_false (by omega)] at hz
  have HZ := hide hz
  obtain ⟨i0, hi0, hz0, hz1, hz2⟩ := info_parts Try.info3'
  obtain ⟨w2, hrun, hown2, hgrow2⟩ := run_make_full (P := Try.prog) w w.heap.size 24 3 i0 (.int .i64 0) 1 Try.underlying24 hi0 hz0 hz1 .i64 .i64 T (by rw [hz2]; omega) (by unfold maxLen; omega) (Nat.le_refl _)
  have hf0 := made_fresh (Kept.refl 0 0 w) hown2 hgrow2
  have HF := hide hf0
  have hce1 := hf0.k.cell0 h.cell
  have hce1w := h.cell
  obtain ⟨G, hG0⟩ : ∃ G, G = w.heap.size := ⟨_, rfl⟩
  rw [← hG0] at hrun HF
  have hs0 : ¬ ((s : Int) < 0) := by omega
  have hs64 : (s : Int) < 64 := by omega
  have HEP := hide ep
  clear hown2 hgrow2 hf0 hG0 hi0 hz0 hz1 hz2 htot hDE hD h hz hK hA hT hM nx hne hk ep
  go_enter Try.func156, Try.ntmps156
  go_wp2_with (go_at_call 127; refine (unhide HZ).mono ?_; rintro e w' ⟨rfl, rfl⟩)
  clear hrun hce1 hce1w
  go_loopw [30] (fun ii wr => ∃ (zs : List Int) (i : Nat), ii = .int .i64 (i : Int) ∧ i ≤ M ∧ zs.length = T ∧ Lim zs ∧ Hid (zs.getD (q + i) 0 ≤ D - 1) ∧ Hid (∀ p, q + i < p → zs.getD p 0 = 0) ∧ Hid (val zs = 65536 ^ q * (val (xs.take i) * D)) ∧ Fresh w' wr (.slice (some ⟨G, 0, none⟩) T T) zs) (fun ii _ => M - (intOf ii).toNat)
  case atStart => exact ⟨List.replicate T 0, 0, rfl, Nat.zero_le _, by simp, Lim.zeros T, by show _ ≤ _; have := Bnd.zeros T (q + 0); omega, fun p _ => by have := Bnd.zeros T p; omega, by show _ = _; rw [val_zeros]; simp [val], unhide HF⟩
  case round =>
    clear HF
    obtain ⟨zs, i, rfl, hi, hs', hlz, hc, hp, hV, hf⟩ := hrel
    by_cases hA : i < M
    · have hi1 : (i : Int) < (M : Int) := by omega
      have hx0 := hx.at i
      obtain ⟨gA, oA, rfl, x1⟩ := unhide HA1 i (by have := unhide HM; omega)
      replace x1 := hf.k.cell0 x1
      have hik : q + i + 1 < T := by have := unhide HT; omega
      obtain ⟨y1, y2⟩ := hf.at hs'.symm (q + i) (by omega)
      obtain ⟨y3, y4⟩ := hf.at hs'.symm (q + i + 1) hik
      have hz1 := unhide hp (q + i + 1) (by omega)
      rw [hz1] at y3
      have hsl := shl_limb hDp (unhide HDE) hx0
      have hput := shl_put zs xs q i D _ (by rw [← unhide HM]; exact hA) (by omega) rfl hz1 (unhide hV)
      have hzc := hlz.at (q + i)
      have hcc := unhide hc
      generalize hva : xs.getD i 0 = va at *
      generalize hvz : zs.getD (q + i) 0 = vz at *
      have hl1 := (hlz.set (q + i) (x := vz + va * D % 65536) (by omega) (by omega)).set (q + i + 1) (x := va * D / 65536) (by omega) (by omega)
      have HL1 := hide hl1
      have HPUT := hide hput
      have hX : 0 ≤ va * D ∧ va * D ≤ 4294967296 := by omega
      have HC2 : Hid (((zs.set (q + i) (vz + va * D % 65536)).set (q + i + 1) (va * D / 65536)).getD (q + (i + 1)) 0 ≤ D - 1) := by
        show _ ≤ _
        rw [show q + (i + 1) = q + i + 1 from rfl, getD_set_eq _ _ _ (by rw [List.length_set]; omega)]
        omega
      have HP2 : Hid (∀ p, q + (i + 1) < p → ((zs.set (q + i) (vz + va * D % 65536)).set (q + i + 1) (va * D / 65536)).getD p 0 = 0) := fun p h => by
        rw [getD_set_ne _ _ _ _ (by omega), getD_set_ne _ _ _ _ (by omega)]; exact unhide hp p (by omega)
      have hls : ((zs.set (q + i) (vz + va * D % 65536)).set (q + i + 1) (va * D / 65536)).length = T := by simpa using hs'
      have HLS := hide hls
      have hpt := (hf.put hs'.symm (q + i) (vz + va * D % 65536))
      have y3' := cell_off _ G (q + i + 1) (q + i) (.int .i64 (vz + va * D % 65536)) _ y3 (by omega)
      have hpt2 := hpt.put (by rw [List.length_set]; exact hs'.symm) (q + i + 1) (va * D / 65536)
      have HPT := hide hpt2
      have hij : (q : Int) + (i : Int) < (T : Int) := by omega
      have hij0 : 0 ≤ (q : Int) + (i : Int) := by omega
      have hij1 : (q : Int) + (i : Int) + 1 < (T : Int) := by omega
      have hij2 : 0 ≤ (q : Int) + (i : Int) + 1 := by omega
      have et : (va * D).tmod 65536 = va * D % 65536 := by rw [Int.tmod_eq_emod_of_nonneg (by omega)]
      have ed : (va * D).tdiv 65536 = va * D / 65536 := by rw [Int.tdiv_eq_ediv_of_nonneg (by omega)]
      have hep := unhide HEP
      clear hV hput hc hp hva hvz hf hs' hls hlz hpt hpt2 hl1 hz1
      go_wp2
      go_roundw
      case rel => exact ⟨_, i + 1, by go_num, by omega, unhide HLS, unhide HL1, HC2, HP2, HPUT, unhide HPT⟩
      case measure => simp [intOf]; omega
    · have hiM : i = M := by omega
      have hi1 : ¬ (i : Int) < (M : Int) := by omega
      have hv := unhide hV
      rw [List.take_of_length_le (by rw [← unhide HM]; omega), unhide HTOT] at hv
      have hlt1 := (unhide N1).lt
      have hG := (hf.own.lt G rfl).1
      have hc1' := hf.k.cell0 (unhide N1).cell
      have hf1' := hf.k.loose0 (a := ⟨g, 0, none⟩) hlt1 (unhide N1).loose
      have hown := hf.own
      rw [hs'] at hown
      have hnum : Num w'.heap.size (wr.setCell ⟨g, 0, none⟩ (.slice (some ⟨G, 0, none⟩) T T)) g (.slice (some ⟨G, 0, none⟩) T T) zs :=
        ⟨cell_on _ _ _ _ _ hc1', by rw [frozen_set]; exact hf1', by rw [hs']; exact own_apart hown (p := ⟨g, 0, none⟩) (by simp [Value.ownBlock]; omega) _, by simp [Value.ownBlock]; omega⟩
      have hmod : Mod (fun i => i = g) w' (wr.setCell ⟨g, 0, none⟩ (.slice (some ⟨G, 0, none⟩) T T)) := Mod.set (S := fun i => i = g) hf.k.toMod (p := ⟨g, 0, none⟩) (.inl rfl) _
      have NU := hide hnum
      have MO := hide hmod
      have HVV := hide hv
      clear hnum hmod hv hown hf hc hp hV hiM
      go_wp2_with fail
      refine (trim_impl _ (unhide NU) hlz).mono ?_
      rintro e w6 ⟨⟨r6, rfl⟩, u6, n6, ho6, m6⟩
      have N6 := hide n6
      rw [unhide HVV, Int.toNat_natCast] at N6
      have M6 := hide ((unhide MO).trans m6)
      clear n6 ho6 m6
      go_wp2
      exact bodyPost_end (v := .tuple #[]) (by simp [results, Try.results156, go_sem]) rfl ⟨⟨_, rfl⟩, _, unhide N6, unhide M6⟩

end Go.Proofs.Ytoijdclblcmpaaa

namespace Go.Proofs.Ytoijdclblcmpaaa
open Go.RowKit
set_option linter.unusedVariables false
set_option maxRecDepth 8000

set_option maxHeartbeats 1000000 in
theorem copied_impl {b g : Nat} {v : Value} {zs : List Int} (w : World) (h : Num b w g v zs) (hlen : zs.length ≤ 1000000) :
    Calls Try.prog 164 #[.pointer (some ⟨g, 0, none⟩)] w fun e w' => ∃ v', e = .returned (.agg #[v']) ∧ w'.ownsRow w.heap.size 3 1 v' zs.length (zs.map (Value.int .i64)) ∧ Kept 0 0 w w' := by
  have s1 := h.row.kept ((Kept.refl 0 0 w).alloc (.cells #[.slice none 0 0] 88)) (by omega)
  obtain ⟨a1, c1, rfl⟩ := h.form
  have hce := old_cell (.cells #[.slice none 0 0] 88) h.cell
  clear h
  go_enter Try.func164, Try.ntmps164
  go_wp2_with fail
  generalize hW : w.alloc (.cells #[.slice none 0 0] 88) = W at *
  have c2' : W.cell? ⟨w.heap.size, 0, none⟩ = some (.slice none 0 0) := by rw [← hW]; exact new_cell_at _ _ _ _ rfl
  have f2' : W.frozen? ⟨w.heap.size, 0, none⟩ = false := by rw [← hW]; exact new_loose _ _ _ _ rfl
  have hs : W.heap.size = w.heap.size + 1 := by rw [← hW]; simp
  have hk : Kept 0 0 w W := by rw [← hW]; exact (Kept.refl 0 0 w).alloc _
  clear hW
  refine (clone_impl _ s1 hlen).mono ?_
  rintro e w6 ⟨v6, rfl, o6, k6⟩
  have c4 := k6.cell0 c2'
  have f4 := k6.loose0 (by simp; omega) f2'
  have O : Hid ((w6.setCell ⟨w.heap.size, 0, none⟩ v6).ownsRow w.heap.size 3 1 v6 zs.length (zs.map (Value.int .i64))) := own_less (ownsRow_setCell_below o6 (a := ⟨w.heap.size, 0, none⟩) (by simp; omega) v6) (by omega)
  have K : Hid (Kept 0 0 w (w6.setCell ⟨w.heap.size, 0, none⟩ v6)) := (hk.trans k6).setNew (p := ⟨w.heap.size, 0, none⟩) (by simp) _
  obtain ⟨a6, c6, rfl⟩ := own_slice o6
  clear s1 c2' f2' hs hk k6 o6 hce
  go_wp2
  exact bodyPost_ret (v := .agg #[.slice a6 zs.length c6]) (by simp [results, Try.results164, go_sem, c4]) rfl ⟨_, rfl, unhide O, unhide K⟩

/-- What the next square is, behind zs: the number itself at first. -/
def nextSq (xs zs : List Int) : List Int := if zs.length = 0 then xs else limbs (val zs * val zs).toNat

set_option maxHeartbeats 4000000 in
theorem square_impl {b1 bn g1 gp gn : Nat} {v1 vn : Value} {zs xs : List Int} (w : World) (h1 : Num b1 w g1 v1 zs) (hp : w.cell? ⟨gp, 0, none⟩ = some (.pointer (some ⟨gn, 0, none⟩))) (hn : Num bn w gn vn xs) (hz : Lim zs) (lz : zs.length ≤ 100000) (lx : xs.length ≤ 100000) :
    Calls Try.prog 182 #[.pointer (some ⟨g1, 0, none⟩), .pointer (some ⟨gp, 0, none⟩)] w fun e w' => ∃ u, e = .returned (.agg #[u]) ∧ Num w.heap.size w' g1 u (nextSq xs zs) ∧ Mod (fun i => i = g1) w w' := by
  have k0 := (Kept.refl 0 0 w).alloc (.cells #[.slice none 0 0] 88)
  have m1 := h1.kept k0
  have mn := hn.kept k0
  have hp1 := k0.cell0 hp
  have cr : (w.alloc (.cells #[.slice none 0 0] 88)).cell? ⟨w.heap.size, 0, none⟩ = some (.slice none 0 0) := new_cell_at _ _ _ _ rfl
  have fr : (w.alloc (.cells #[.slice none 0 0] 88)).frozen? ⟨w.heap.size, 0, none⟩ = false := new_loose _ _ _ _ rfl
  have hs : (w.alloc (.cells #[.slice none 0 0] 88)).heap.size = w.heap.size + 1 := by simp
  have hg1 := h1.lt
  have hap := h1.apart
  clear h1 hn hp
  go_enter Try.func182, Try.ntmps182
  go_wp2_with fail
  generalize w.alloc (.cells #[.slice none 0 0] 88) = W at *
  refine (isZero_impl _ m1).mono ?_
  rintro e w1 ⟨rfl, rfl⟩
  by_cases h0 : zs.length = 0
  · rw [decide_eq_true h0]
    have e0 : nextSq xs zs = xs := by unfold nextSq; rw [if_pos h0]
    have E0 := hide e0
    clear e0
    go_wp2_with fail
    refine (copied_impl _ mn (by omega)).mono ?_
    rintro e w2 ⟨v2, rfl, o2, k2⟩
    have c1 := k2.cell0 m1.cell
    have f1 := k2.loose0 m1.lt m1.loose
    have cr2 := k2.cell0 cr
    have fr2 := k2.loose0 (World.block_lt_of_cell? _ _ cr) fr
    have s2 := k2.size
    have hne : ¬ g1 = w.heap.size := by omega
    have hne' : ¬ w.heap.size = g1 := by omega
    have hN : Num w.heap.size ((w2.setCell ⟨g1, 0, none⟩ v2).setCell ⟨w.heap.size, 0, none⟩ v2) g1 v2 xs := by
      have o3 := own_apart o2 (p := ⟨g1, 0, none⟩) (fun e => by have := (o2.lt _ e).1; simp at this; omega) v2
      have o4 := own_apart o3 (p := ⟨w.heap.size, 0, none⟩) (fun e => by have := (o2.lt _ e).1; simp at this; omega) v2
      refine ⟨cell_aside _ (p := ⟨g1, 0, none⟩) (r := ⟨w.heap.size, 0, none⟩) (by simpa using hne') (cell_on _ _ _ _ _ c1), by rw [frozen_set, frozen_set]; exact f1, own_less o4 (by omega), fun e => by have := (o2.lt _ e).1; omega⟩
    have hM : Mod (fun i => i = g1) w ((w2.setCell ⟨g1, 0, none⟩ v2).setCell ⟨w.heap.size, 0, none⟩ v2) := Mod.set (Mod.set (S := fun i => i = g1) (k0.trans k2).toMod (p := ⟨g1, 0, none⟩) (.inl rfl) v2) (p := ⟨w.heap.size, 0, none⟩) (.inr (Nat.le_refl _)) v2
    have HN := hide hN
    have HM := hide hM
    have cr3 := cell_aside v2 (p := ⟨w.heap.size, 0, none⟩) (r := ⟨g1, 0, none⟩) hne cr2
    obtain ⟨a2, c2, rfl⟩ := own_slice o2
    clear hN hM k2 o2 m1 mn k0
    go_wp2_with fail
    exact bodyPost_ret (v := .agg #[.slice a2 xs.length c2]) (by simp [results, Try.results182, go_sem, cr3]) rfl ⟨_, rfl, by rw [unhide E0]; exact unhide HN, unhide HM⟩
  · rw [decide_eq_false h0]
    have e0 : nextSq xs zs = limbs (val zs * val zs).toNat := by unfold nextSq; rw [if_neg h0]
    have E0 := hide e0
    clear e0
    go_wp2_with fail
    refine (multiply_impl _ m1 m1 hz hz lz lz).mono ?_
    rintro e w2 ⟨⟨r2, rfl⟩, u2, n2, mm⟩
    have hne : ¬ g1 = w.heap.size := by omega
    have hne' : ¬ w.heap.size = g1 := by omega
    have cr2 := mm.cellAt (show ¬ w.heap.size = g1 from hne') cr
    have fr2 := mm.looseAt (show ¬ w.heap.size = g1 from hne') (World.block_lt_of_cell? _ _ cr) fr
    have c1 := n2.cell
    generalize hzz : limbs (val zs * val zs).toNat = zz at *
    obtain ⟨a2, c2, rfl⟩ := n2.form
    have hN : Num w.heap.size (w2.setCell ⟨w.heap.size, 0, none⟩ (.slice a2 zz.length c2)) g1 (.slice a2 zz.length c2) zz :=
      ⟨cell_aside _ (p := ⟨g1, 0, none⟩) (r := ⟨w.heap.size, 0, none⟩) (by simpa using hne') c1, by rw [frozen_set]; exact n2.loose, own_less (own_apart n2.own (p := ⟨w.heap.size, 0, none⟩) (fun e => by have := (n2.own.lt _ e).1; simp at this; omega) _) (by omega), n2.apart⟩
    have hM : Mod (fun i => i = g1) w (w2.setCell ⟨w.heap.size, 0, none⟩ (.slice a2 zz.length c2)) := Mod.set ((Kept.toMod k0).trans mm) (p := ⟨w.heap.size, 0, none⟩) (.inr (Nat.le_refl _)) _
    have HN := hide hN
    have HM := hide hM
    clear hN hM n2 mm m1 mn k0 hzz
    go_wp2_with fail
    exact bodyPost_ret (v := .agg #[.slice a2 zz.length c2]) (by simp [results, Try.results182, go_sem, cr2]) rfl ⟨_, rfl, by rw [unhide E0]; exact unhide HN, unhide HM⟩

end Go.Proofs.Ytoijdclblcmpaaa

namespace Go.Proofs.Ytoijdclblcmpaaa
open Go.RowKit
set_option linter.unusedVariables false
set_option maxRecDepth 8000
set_option linter.unusedSimpArgs false

theorem callFunc_enters {P : Program} {n : FuncId} {F : Func} (hf : P.funcs[n]? = some F) (h1 : ¬ F.name = "runtime.NumGoroutine") (h2 : ¬ F.body = none) (w : World) (args : Array Value) : (callFunc n args).run P w = .ok (.enter n args) w := by
  simp [callFunc, hf, go_sem, h1, h2]
/-- A call of one argument, as one step of a statement whose order is left open. -/
theorem step_call1 {P : Program} {ops : Array Oper} {o : Oper} {a : Act} {w : World} {K : Act → World → Prop} {Q : Exit → Act → World → Prop} {E : Prop} {R : Ending → World → Prop}
    (hg : o.guard = none) (n : FuncId) (x : Operand) (ts : Array TypeId) (hop : o.op = Op.call { callee := Callee.value (Operand.func n), args := #[x], argTypes := ts })
    (hcf : ∀ args : Array Value, (callFunc n args).run P w = .ok (.enter n args) w) (vx : Value) (hx : a.eval x = vx) (hc : Calls P n #[vx] w R) (hK : ∀ e w', R e w' → ∃ v, e = .returned v ∧ K (a.put o.dst v) w') :
    if Region.wanted o (yielded ops a.tmps) = true then Oper.wp P o a w K Q else E := by
  have hw : Region.wanted o (yielded ops a.tmps) = true := by simp [Region.wanted, hg]
  rw [if_pos hw]
  unfold Oper.wp
  have hrun : (execOp a.eval o).run P w = .ok (.enter n #[vx]) w := by
    have hfn : a.eval (.func n) = .func (.func n) #[] #[] := rfl
    simp [execOp, hop, resolve, invoke, hx, hfn, Deferred.ofValue, Result.andThen, hcf]
  rw [hrun, Oper.upon_enter]
  refine hc.mono ?_
  intro e w' h
  obtain ⟨v, rfl, h2⟩ := hK e w' h
  exact h2
/-- A call of two arguments, likewise. -/
theorem step_call2 {P : Program} {ops : Array Oper} {o : Oper} {a : Act} {w : World} {K : Act → World → Prop} {Q : Exit → Act → World → Prop} {E : Prop} {R : Ending → World → Prop}
    (hg : o.guard = none) (n : FuncId) (x y : Operand) (ts : Array TypeId) (hop : o.op = Op.call { callee := Callee.value (Operand.func n), args := #[x, y], argTypes := ts })
    (hcf : ∀ args : Array Value, (callFunc n args).run P w = .ok (.enter n args) w) (vx vy : Value) (hx : a.eval x = vx) (hy : a.eval y = vy) (hc : Calls P n #[vx, vy] w R) (hK : ∀ e w', R e w' → ∃ v, e = .returned v ∧ K (a.put o.dst v) w') :
    if Region.wanted o (yielded ops a.tmps) = true then Oper.wp P o a w K Q else E := by
  have hw : Region.wanted o (yielded ops a.tmps) = true := by simp [Region.wanted, hg]
  rw [if_pos hw]
  unfold Oper.wp
  have hrun : (execOp a.eval o).run P w = .ok (.enter n #[vx, vy]) w := by
    have hfn : a.eval (.func n) = .func (.func n) #[] #[] := rfl
    simp [execOp, hop, resolve, invoke, hx, hy, hfn, Deferred.ofValue, Result.andThen, hcf]
  rw [hrun, Oper.upon_enter]
  refine hc.mono ?_
  intro e w' h
  obtain ⟨v, rfl, h2⟩ := hK e w' h
  exact h2

theorem l2of_enter (w : World) (args : Array Value) : (callFunc 121 args).run Try.prog w = .ok (.enter 121 args) w := callFunc_enters Try.func121 (by decide) (fun h => by cases h) w args
theorem l2mul_enter (w : World) (args : Array Value) : (callFunc 155 args).run Try.prog w = .ok (.enter 155 args) w := callFunc_enters Try.func155 (by decide) (fun h => by cases h) w args
theorem val_shifted (q : Nat) (xs : List Int) : val (List.replicate q 0 ++ xs) = 65536 ^ q * val xs := by rw [val_append, val_zeros, List.length_replicate, Int.zero_add]
theorem Lim.append {xs ys : List Int} (h : Lim xs) (h' : Lim ys) : Lim (xs ++ ys) := fun z hz => (List.mem_append.1 hz).elim (h z) (h' z)

theorem shl_row {w4 : World} {b q n : Nat} {v4 : Value} {xs : List Int} (h : w4.ownsRow b 3 1 v4 n ((List.replicate q (0 : Int)).map (Value.int .i64) ++ xs.map (Value.int .i64))) : Row .i64 true b w4.heap.size w4 v4 (List.replicate q 0 ++ xs) := by
  refine Row.own (e := 3) (n := n) ?_
  rw [List.map_append]
  exact h

set_option maxHeartbeats 8000000 in
theorem shl_spec {bw : Bool} {lo hi : Nat} {v : Value} {xs : List Int} (w : World) (r : Row .i64 bw lo hi w v xs) (hx : Lim xs) (nx : xs.length ≤ 50000) (k : Nat) (hk : xs = [] ∨ k ≤ 800000) (hk2 : (k : Int) ≤ 9223372036854775807) :
    Calls Try.prog 154 #[.agg #[v], .int .i64 (k : Int)] w fun e w' => ∃ v', e = .returned (.agg #[v']) ∧ Row .i64 true w.heap.size w'.heap.size w' v' (limbs ((val xs).toNat * 2 ^ k)) ∧ Kept 0 0 w w' := by
  have k0 := ((Kept.refl 0 0 w).alloc (.cells #[v] 26)).alloc (.cells #[.slice none 0 0] 26)
  have q1 := r.kept k0 (by omega)
  have c1 : ((w.alloc (.cells #[v] 26)).alloc (.cells #[.slice none 0 0] 26)).cell? ⟨w.heap.size, 0, none⟩ = some v := old_cell _ (new_cell_at _ _ _ _ rfl)
  have c3 : ((w.alloc (.cells #[v] 26)).alloc (.cells #[.slice none 0 0] 26)).cell? ⟨w.heap.size + 1, 0, none⟩ = some (.slice none 0 0) := new_cell_at _ _ _ _ (by simp)
  have f3 : ((w.alloc (.cells #[v] 26)).alloc (.cells #[.slice none 0 0] 26)).frozen? ⟨w.heap.size + 1, 0, none⟩ = false := new_loose _ _ _ _ (by simp)
  obtain ⟨a1, d1, rfl⟩ := Row.form' r
  clear r
  by_cases hz : xs = []
  · subst hz
    have e0 : limbs ((val []).toNat * 2 ^ k) = [] := by simp [val, limbs_zero]
    rw [e0]
    clear q1 c1 c3 f3 k0
    go_enter Try.func154, Try.ntmps154
    go_wp2_with fail
    exact bodyPost_ret (v := .agg #[.slice none 0 0]) (by simp [results, Try.results154, go_sem]) rfl ⟨_, rfl, Row.nil _ _ _ _ _, ((Kept.refl 0 0 w).alloc _).alloc _⟩
  · replace hk := hk.resolve_left hz
    obtain ⟨q, s, hs, rfl⟩ : ∃ q s : Nat, s < 16 ∧ k = 16 * q + s := ⟨k / 16, k % 16, by omega, by omega⟩
    obtain ⟨KK, hK⟩ : ∃ K : Int, K = ((16 * q + s : Nat) : Int) := ⟨_, rfl⟩
    have e3 : KK.tdiv 16 = (q : Int) := by rw [Int.tdiv_eq_ediv_of_nonneg (by omega)]; omega
    have e4 : KK.tmod 16 = (s : Int) := by rw [Int.tmod_eq_emod_of_nonneg (by omega)]; omega
    have hKK : 0 ≤ KK ∧ KK ≤ 800000 := by omega
    rw [← hK]
    have hq5 : q ≤ 50000 := by omega
    obtain ⟨D, hD⟩ : ∃ D : Int, D = ((2 ^ s : Nat) : Int) := ⟨_, rfl⟩
    have hDm : D ≤ 65536 := by
      rw [hD]; have := Nat.pow_le_pow_right (n := 2) (by decide) (show s ≤ 16 by omega); omega
    have hDp : 0 < D := by rw [hD]; have := Nat.pow_pos (n := s) (show 0 < 2 by decide); omega
    have hA : (val (List.replicate q 0 ++ xs) * val (limbs D.toNat)).toNat = (val xs).toNat * 2 ^ (16 * q + s) := by
      rw [val_shifted, limbs_val, Int.toNat_of_nonneg (by omega), hD, Int.mul_assoc, shl_total xs hx q s, Int.toNat_natCast]
    rw [← hA]
    have ep : (2 : Int) ^ s = D := by rw [hD]; simp
    have hD63 : D ≤ 9223372036854775807 := by omega
    have hwD : IntKind.i64.wrap D = D := wrap_small _ (by omega) (by omega)
    have hwq : IntKind.i64.wrap (q : Int) = (q : Int) := wrap_small _ (by omega) (by omega)
    have hws : IntKind.i64.wrap (s : Int) = (s : Int) := wrap_small _ (by omega) (by omega)
    have hM0 : 0 < xs.length := List.length_pos_iff.2 hz
    have hne0 : ((xs.length : Int) == 0) = false := beq_eq_false_iff_ne.2 (by omega)
    have hs0 : ¬ ((s : Int) < 0) := by omega
    have hs64 : (s : Int) < 64 := by omega
    have hl2 : (limbs D.toNat).length ≤ 100000 := by
      have := (limbs_length_le D.toNat 2).2 (by have : (65536 : Int) ^ 2 = 4294967296 := by decide
                                                omega)
      omega
    have hlA : (List.replicate q 0 ++ xs).length ≤ 100000 := by simp; omega
    have hlimA : Lim (List.replicate q 0 ++ xs) := (Lim.zeros q).append hx
    have HA := hide hA
    clear hA hK hk hD
    go_enter Try.func154, Try.ntmps154
    go_wp2_with fail
    generalize (w.alloc (.cells #[.slice a1 xs.length d1] 26)).alloc (.cells #[.slice none 0 0] 26) = W at *
    obtain ⟨i0, hi0, hz0, hz1, hz2⟩ := info_parts Try.info3'
    obtain ⟨w2, hrun, hown2, hgrow2⟩ := run_make_full (P := Try.prog) W.drew W.heap.size 24 3 i0 (.int .i64 0) 1 Try.underlying24 hi0 hz0 hz1 .i64 .i64 q (by rw [hz2]; omega) (by unfold maxLen; omega) (Nat.le_refl _)
    have hf0 := made_fresh (Kept.refl 0 0 W).drew hown2 hgrow2
    have c12 := hf0.k.cell0 c1
    obtain ⟨G, hG0⟩ : ∃ G, G = W.drew.heap.size := ⟨_, rfl⟩
    rw [← hG0] at hrun hf0
    obtain ⟨g5, off5, d5, e5, -, -, hnews⟩ := (q1.kept hf0.k (by omega)).news hz
    cases e5
    have ho := hf0.own
    rw [List.length_replicate] at ho
    have hlk : (xs.map (Value.int .i64)).length = xs.length * 1 := by simp
    have hqx : q + xs.length ≤ maxLen := by unfold maxLen; omega
    have hqb : (q + xs.length) * 8 ≤ 140737488355328 := by omega
    have h01 : 0 < 1 := by decide
    obtain ⟨zz, hzz⟩ : ∃ zz, zz = limbs (val (List.replicate q 0 ++ xs) * val (limbs D.toNat)).toNat := ⟨_, rfl⟩
    have HZ := hide hzz
    have HZZ : Hid (∀ P : List Int → Prop, P (limbs (val (List.replicate q 0 ++ xs) * val (limbs D.toNat)).toNat) → P zz) := fun P h => by rw [hzz]; exact h
    clear hown2 hgrow2 hG0 hzz
    go_region_law (first
      | (refine step_call1 rfl 121 (.tmp 19) _ rfl (l2of_enter _) (.int .i64 D) rfl (of_spec _ D hD63) ?_
         rintro e w5 ⟨v5, rfl, r5, k5⟩
         refine ⟨_, rfl, ?_⟩)
      | (refine step_call2 rfl 155 (.tmp 16) (.tmp 20) _ rfl (l2mul_enter _) (.agg #[.slice a4 (q + xs.length) d4]) (.agg #[v5]) rfl rfl (mul_spec _ (r4.kept k5 (Or.inr (Or.inr (Nat.le_refl _)))) r5 hlimA (limbs_lim _) hlA hl2) ?_
         rintro e w6 ⟨v6, rfl, r6, k6⟩
         refine ⟨_, rfl, ?_⟩
         have r6' := unhide HZZ (fun z => Row .i64 true w5.heap.size w6.heap.size w6 v6 z) r6
         have c36 := ((k4.trans k5).trans k6).cell0 c3
         have f36 := ((k4.trans k5).trans k6).loose0 (World.block_lt_of_cell? _ _ c3) f3
         have hv6 := Row.form' r6'
         clear r6
         obtain ⟨a6, d6, e6⟩ := hv6
         subst e6)
      | (refine step_append_own rfl (.tmp 12) (.tmp 14) 24 rfl W.heap.size 3 i0 (.int .i64 0) 1 8 Try.underlying24 hi0 hz0 hz1 hz2 rfl h01 (.slice (some ⟨G, 0, none⟩) q q) q ((List.replicate q (0 : Int)).map (Value.int .i64)) rfl ho ⟨g5, off5, none⟩ xs.length _ (xs.map (Value.int .i64)) rfl hlk hnews (ints_one _ _) hqx hqb hf0.k.size ?_
         intro v4 w4 hown4 hgrow4 hb4
         have r4 := shl_row hown4
         have k4 := hf0.k.growNew hgrow4 (fun k hk => (ho.lt k hk).1)
         have hv4 := own_slice hown4
         obtain ⟨a4, d4, e4'⟩ := hv4
         subst e4'))
    all_goals
      have b2 := World.block_lt_of_cell? _ _ c3
      have hs4 := k4.size
      have hs5 := k5.size
      dsimp only at b2
      have kk := ((k0.trans k4).trans k5).trans k6
      have R := hide ((r6'.set_other (p := ⟨w.heap.size + 1, 0, none⟩) (.inl (show w.heap.size + 1 < w5.heap.size by omega)) (.slice a6 zz.length d6)).tight.wider (lo' := w.heap.size) (by omega) (Nat.le_refl _))
      have K7 := hide (kk.setNew (p := ⟨w.heap.size + 1, 0, none⟩) (by simp) (.slice a6 zz.length d6))
      clear kk r6' r5 r4 k4 k5 k6 q1 hown4 hnews ho hf0 hrun hgrow4
      go_wp2_with fail
      exact bodyPost_ret (v := .agg #[.slice a6 zz.length d6]) (by simp [results, Try.results154, go_sem, c36]) rfl ⟨_, rfl, by rw [← unhide HZ]; exact unhide R, unhide K7⟩

end Go.Proofs.Ytoijdclblcmpaaa

namespace Go.Proofs.Ytoijdclblcmpaaa
open Go.RowKit
set_option linter.unusedVariables false
set_option maxRecDepth 8000

theorem toNat_kept {bw : Bool} {lo hi : Nat} {v : Value} {zs : List Int} {w0 w : World} (hn : zs.length ≤ 1099511627776) (r : Row .i64 bw lo hi w0 v zs) (k : Kept 0 0 w0 w) :
    Calls Try.prog 51 #[.agg #[v]] w fun e w' => ∃ v', e = .returned (.agg #[v']) ∧ Row .i64 true w.heap.size w'.heap.size w' v' zs ∧ Kept 0 0 w w' := toNat_any _ hn (r.kept k (by omega))

theorem law_new {cur w9 : World} {v : Value} {zs : List Int} {b hi : Nat} (t : TypeId) (k : Kept 0 0 cur w9) (r : Row .i64 true b hi w9 v zs) (hb : cur.heap.size ≤ b) :
    (w9.alloc (.cells #[v] t)).cell? ⟨w9.heap.size, 0, none⟩ = some v ∧ Row .i64 true cur.heap.size (w9.alloc (.cells #[v] t)).heap.size (w9.alloc (.cells #[v] t)) v zs ∧ cur.heap.size ≤ w9.heap.size ∧ w9.heap.size < (w9.alloc (.cells #[v] t)).heap.size ∧ Kept 0 0 cur (w9.alloc (.cells #[v] t)) :=
  ⟨new_cell_at _ _ _ _ rfl, ((r.kept ((Kept.refl 0 0 w9).alloc _) (by omega)).tight.wider hb (Nat.le_refl _)), k.size, by simp, k.alloc _⟩
theorem law_set {cur w9 : World} {X : Nat} {v z : Value} {zs : List Int} {b hi : Nat} (k : Kept 0 0 cur w9) (c : w9.cell? ⟨X, 0, none⟩ = some z) (r : Row .i64 true b hi w9 v zs) (hX : cur.heap.size ≤ X) (hb : X < b) :
    (w9.setCell ⟨X, 0, none⟩ v).cell? ⟨X, 0, none⟩ = some v ∧ Row .i64 true cur.heap.size (w9.setCell ⟨X, 0, none⟩ v).heap.size (w9.setCell ⟨X, 0, none⟩ v) v zs ∧ cur.heap.size ≤ X ∧ X < (w9.setCell ⟨X, 0, none⟩ v).heap.size ∧ Kept 0 0 cur (w9.setCell ⟨X, 0, none⟩ v) :=
  ⟨cell_on _ _ _ _ _ c, ((r.set_other (p := ⟨X, 0, none⟩) (.inl hb) v).tight.wider (by omega) (Nat.le_refl _)), hX, by have := World.block_lt_of_cell? _ _ c; simpa [World.setCell] using this, k.setNew (p := ⟨X, 0, none⟩) hX v⟩

set_option maxHeartbeats 400000 in
theorem markIntS_wide {lo hi : Nat} {v : Value} {zs : List Int} (w : World) (s : Int) (hs0 : 0 ≤ s) (hs1 : s ≤ 1000000000) (hn : zs.length ≤ 1099511627776) (r : Row .i64 true lo hi w v zs) :
    Calls Try.prog 110 #[v, .int .i64 s] w fun e w' => e = .returned (.int .i64 (s + zs.length)) ∧ Row .i64 true lo hi w' v (marks .i64 s zs.length) ∧ Kept lo hi w w' ∧ w'.heap.size = w.heap.size := by
  by_cases hz : zs = []
  · subst hz
    obtain ⟨a, c, rfl, q1, m1, q3⟩ := r
    go_enter Try.func110, Try.ntmps110
    go_wp2
    go_loop [1, 5] (fun kk i => kk = .int .i64 s ∧ i = .int .i64 0) (fun _ _ => 0)
    case atStart => exact ⟨rfl, rfl⟩
    case round =>
      obtain ⟨rfl, rfl⟩ := hrel
      go_wp2
      go_ret
      exact ⟨by simp, ⟨a, c, rfl, q1, m1, fun e => absurd rfl e⟩, Kept.refl _ _ _, rfl⟩
  · obtain ⟨a, c, rfl, q1, m1, q3⟩ := r
    obtain ⟨g, off, rfl, rest⟩ := q3 hz
    have r : Row .i64 true lo hi w (.slice (some ⟨g, off, none⟩) zs.length c) zs := ⟨_, _, rfl, q1, m1, q3⟩
    clear q3 rest
    have hpos : 0 < zs.length := List.length_pos_iff.2 hz
    have r0 : Row .i64 true lo hi w (.slice (some ⟨g, off, none⟩) zs.length c) (marks .i64 s 0 ++ zs.drop 0) := by simpa [marks] using r
    clear r hz q1 m1
    go_enter Try.func110, Try.ntmps110
    go_wp2
    go_loopw [1, 5] (fun kk i wr => ∃ j : Nat, j ≤ zs.length ∧ i = .int .i64 j ∧ kk = .int .i64 (s + j) ∧ Row .i64 true lo hi wr (.slice (some ⟨g, off, none⟩) zs.length c) (marks .i64 s j ++ zs.drop j) ∧ Kept lo hi w wr ∧ wr.heap.size = w.heap.size) (fun _ i _ => zs.length - (intOf i).toNat)
    case atStart => exact ⟨0, Nat.zero_le _, rfl, by simp, r0, Kept.refl _ _ _, rfl⟩
    case round =>
      clear r0
      obtain ⟨j, hj, rfl, rfl, hr, hk, hsz⟩ := hrel
      by_cases hlt : j < zs.length
      · obtain ⟨hc, hf, hl, hh, hgs, -⟩ := hr.at hlt
        generalize (marks .i64 s j ++ zs.drop j).getD j 0 = z at hc
        have HSZ : Hid (wr.heap.size = w.heap.size) := hsz
        clear hsz
        go_wp2
        have ew : IntKind.i64.wrap (s + j) = s + j := wrap_small _ (by omega) (by omega)
        have e2 : (marks .i64 s j ++ zs.drop j).set j (s + j) = marks .i64 s (j + 1) ++ zs.drop (j + 1) := by rw [← marks_step _ _ _ _ hlt, ew]
        have hs := hr.set j hpos (s + j)
        rw [e2] at hs
        have hk' := hk.setCell (p := ⟨g, off + j, none⟩) hl hh (.int .i64 (s + j))
        go_roundw
        case rel => exact ⟨j + 1, by omega, by go_num, by go_num, hs, hk', by simpa [World.setCell] using HSZ.out⟩
        case measure => simp [intOf]; omega
      · have e : j = zs.length := by omega
        subst e
        rw [marks_all] at hr
        have HSZ : Hid (wr.heap.size = w.heap.size) := hsz
        clear hsz
        go_wp2
        go_ret
        exact ⟨rfl, hr, hk, HSZ.out⟩

set_option maxHeartbeats 1000000 in
theorem markNat_wide {lo hi : Nat} {v : Value} {zs : List Int} (w : World) (s : Int) (hs0 : 0 ≤ s) (hs1 : s ≤ 1000000000) (hn : zs.length ≤ 1099511627776) (r : Row .i64 true lo hi w v zs) :
    Calls Try.prog 54 #[.agg #[v], .int .i64 s] w fun e w' => e = .returned (.int .i64 (s + zs.length)) ∧ Row .i64 true lo hi w' v (marks .i64 s zs.length) ∧ Kept lo hi w w' := by
  have s1 := r.kept ((Kept.refl 0 0 w).alloc (.cells #[v] 26)) (by omega)
  obtain ⟨a1, c1, rfl, -⟩ := r
  go_enter Try.func54, Try.ntmps54
  go_wp2_with fail
  refine (markIntS_wide _ s hs0 hs1 hn s1).mono ?_
  rintro e w6 ⟨rfl, r6, k6, -⟩
  have R6 := hide r6
  have K6 := hide (((Kept.refl lo hi w).alloc _).trans k6)
  clear s1 r6 k6
  go_wp2
  go_ret
  exact ⟨rfl, unhide R6, unhide K6⟩

end Go.Proofs.Ytoijdclblcmpaaa
