/-
  Contracts that the proofs of this seat share: Nat13, Nat12.
-/
import Derived.Test.YtfikfmkhmojpfaaBE
import Derived.Test.YtfikfmkhmojpfaaBC
import Derived.Test.YtfikfmkhmojpfaaBF
import Derived.Test.YtfikfmkhmojpfaaBB
import Derived.Deep.RegionLaw
import Derived.Test.YtfikfmkhmojpfaaNat11
import Derived.Deep.RegionWith
namespace Go.Proofs.Ytfikfmkhmojpfaa
open Go.RowKit
set_option linter.unusedVariables false
set_option maxRecDepth 8000
set_option linter.unusedSimpArgs false

theorem callFunc_enters {P : Program} {n : FuncId} {F : Func} (hf : P.funcs[n]? = some F) (h1 : ¬ F.name = "runtime.NumGoroutine") (h2 : ¬ F.body = none) (w : World) (args : Array Value) : (callFunc n args).run P w = .ok (.enter n args) w := by
  simp [callFunc, hf, go_sem, h1, h2]
/-- A call of one argument, as one step of a statement whose order is left open. -/
theorem step_call1 {P : Program} {ops : Array Oper} {o : Oper} {a : Act} {w : World} {K : Act → World → Prop} {Q : Exit → Act → World → Prop} {E : Prop} {R : Ending → World → Prop}
    (hg : o.guard = none) (n : FuncId) (x : Operand) (ts : Array TypeId) (hop : o.op = Op.call { callee := Callee.value (Operand.func n), args := #[x], argTypes := ts })
    (hcf : ∀ args : Array Value, (callFunc n args).run P w = .ok (.enter n args) w) (vx : Value) (hx : a.eval x = vx) (hc : Calls P n #[vx] w R) (hK : ∀ e w', R e w' → ∃ v, e = .returned v ∧ K (a.put o.dst v) w') :
    if Region.wanted o (yielded ops a.tmps) = true then Oper.wp P o a w K Q else E := by
  have hw : Region.wanted o (yielded ops a.tmps) = true := by simp [Region.wanted, hg]
  rw [if_pos hw]
  unfold Oper.wp
  have hrun : (execOp a.eval o).run P w = .ok (.enter n #[vx]) w := by
    have hfn : a.eval (.func n) = .func (.func n) #[] #[] := rfl
    simp [execOp, hop, resolve, invoke, hx, hfn, Deferred.ofValue, Result.andThen, hcf]
  rw [hrun, Oper.upon_enter]
  refine hc.mono ?_
  intro e w' h
  obtain ⟨v, rfl, h2⟩ := hK e w' h
  exact h2
/-- A call of two arguments, likewise. -/
theorem step_call2 {P : Program} {ops : Array Oper} {o : Oper} {a : Act} {w : World} {K : Act → World → Prop} {Q : Exit → Act → World → Prop} {E : Prop} {R : Ending → World → Prop}
    (hg : o.guard = none) (n : FuncId) (x y : Operand) (ts : Array TypeId) (hop : o.op = Op.call { callee := Callee.value (Operand.func n), args := #[x, y], argTypes := ts })
    (hcf : ∀ args : Array Value, (callFunc n args).run P w = .ok (.enter n args) w) (vx vy : Value) (hx : a.eval x = vx) (hy : a.eval y = vy) (hc : Calls P n #[vx, vy] w R) (hK : ∀ e w', R e w' → ∃ v, e = .returned v ∧ K (a.put o.dst v) w') :
    if Region.wanted o (yielded ops a.tmps) = true then Oper.wp P o a w K Q else E := by
  have hw : Region.wanted o (yielded ops a.tmps) = true := by simp [Region.wanted, hg]
  rw [if_pos hw]
  unfold Oper.wp
  have hrun : (execOp a.eval o).run P w = .ok (.enter n #[vx, vy]) w := by
    have hfn : a.eval (.func n) = .func (.func n) #[] #[] := rfl
    simp [execOp, hop, resolve, invoke, hx, hy, hfn, Deferred.ofValue, Result.andThen, hcf]
  rw [hrun, Oper.upon_enter]
  refine hc.mono ?_
  intro e w' h
  obtain ⟨v, rfl, h2⟩ := hK e w' h
  exact h2

theorem l2of_enter (w : World) (args : Array Value) : (callFunc 65 args).run Try.prog w = .ok (.enter 65 args) w := callFunc_enters Try.func65 (by decide) (fun h => by cases h) w args

theorem l2mul_enter (w : World) (args : Array Value) : (callFunc 64 args).run Try.prog w = .ok (.enter 64 args) w := callFunc_enters Try.func64 (by decide) (fun h => by cases h) w args
theorem val_shifted (q : Nat) (xs : List Int) : val (List.replicate q 0 ++ xs) = 65536 ^ q * val xs := by rw [val_append, val_zeros, List.length_replicate, Int.zero_add]
theorem Lim.append {xs ys : List Int} (h : Lim xs) (h' : Lim ys) : Lim (xs ++ ys) := fun z hz => (List.mem_append.1 hz).elim (h z) (h' z)

theorem shl_row {w4 : World} {b q n : Nat} {v4 : Value} {xs : List Int} (h : w4.ownsRow b 3 1 v4 n ((List.replicate q (0 : Int)).map (Value.int .i64) ++ xs.map (Value.int .i64))) : Row .i64 true b w4.heap.size w4 v4 (List.replicate q 0 ++ xs) := by
  refine Row.own (e := 3) (n := n) ?_
  rw [List.map_append]
  exact h

set_option maxHeartbeats 8000000 in
theorem shl_spec {bw : Bool} {lo hi : Nat} {v : Value} {xs : List Int} (w : World) (r : Row .i64 bw lo hi w v xs) (hx : Lim xs) (nx : xs.length ≤ 50000) (k : Nat) (hk : xs = [] ∨ k ≤ 800000) (hk2 : (k : Int) ≤ 9223372036854775807) :
    Calls Try.prog 63 #[.agg #[v], .int .i64 (k : Int)] w fun e w' => ∃ v', e = .returned (.agg #[v']) ∧ Row .i64 true w.heap.size w'.heap.size w' v' (limbs ((val xs).toNat * 2 ^ k)) ∧ Kept 0 0 w w' := by
  have k0 := ((Kept.refl 0 0 w).alloc (.cells #[v] 33)).alloc (.cells #[.slice none 0 0] 33)
  have q1 := r.kept k0 (by omega)
  have c1 : ((w.alloc (.cells #[v] 33)).alloc (.cells #[.slice none 0 0] 33)).cell? ⟨w.heap.size, 0, none⟩ = some v := old_cell _ (new_cell_at _ _ _ _ rfl)
  have c3 : ((w.alloc (.cells #[v] 33)).alloc (.cells #[.slice none 0 0] 33)).cell? ⟨w.heap.size + 1, 0, none⟩ = some (.slice none 0 0) := new_cell_at _ _ _ _ (by simp)
  have f3 : ((w.alloc (.cells #[v] 33)).alloc (.cells #[.slice none 0 0] 33)).frozen? ⟨w.heap.size + 1, 0, none⟩ = false := new_loose _ _ _ _ (by simp)
  obtain ⟨a1, d1, rfl⟩ := Row.form' r
  clear r
  by_cases hz : xs = []
  · subst hz
    have e0 : limbs ((val []).toNat * 2 ^ k) = [] := by simp [val, limbs_zero]
    rw [e0]
    clear q1 c1 c3 f3 k0
    go_enter Try.func63, Try.ntmps63
    go_wp2_with fail
    exact bodyPost_ret (v := .agg #[.slice none 0 0]) (by simp [results, Try.results63, go_sem]) rfl ⟨_, rfl, Row.nil _ _ _ _ _, ((Kept.refl 0 0 w).alloc _).alloc _⟩
  · replace hk := hk.resolve_left hz
    obtain ⟨q, s, hs, rfl⟩ : ∃ q s : Nat, s < 16 ∧ k = 16 * q + s := ⟨k / 16, k % 16, by omega, by omega⟩
    obtain ⟨KK, hK⟩ : ∃ K : Int, K = ((16 * q + s : Nat) : Int) := ⟨_, rfl⟩
    have e3 : KK.tdiv 16 = (q : Int) := by rw [Int.tdiv_eq_ediv_of_nonneg (by omega)]; omega
    have e4 : KK.tmod 16 = (s : Int) := by rw [Int.tmod_eq_emod_of_nonneg (by omega)]; omega
    have hKK : 0 ≤ KK ∧ KK ≤ 800000 := by omega
    rw [← hK]
    have hq5 : q ≤ 50000 := by omega
    obtain ⟨D, hD⟩ : ∃ D : Int, D = ((2 ^ s : Nat) : Int) := ⟨_, rfl⟩
    have hDm : D ≤ 65536 := by
      rw [hD]; have := Nat.pow_le_pow_right (n := 2) (by decide) (show s ≤ 16 by omega); omega
    have hDp : 0 < D := by rw [hD]; have := Nat.pow_pos (n := s) (show 0 < 2 by decide); omega
    have hA : (val (List.replicate q 0 ++ xs) * val (limbs D.toNat)).toNat = (val xs).toNat * 2 ^ (16 * q + s) := by
      rw [val_shifted, limbs_val, Int.toNat_of_nonneg (by omega), hD, Int.mul_assoc, shl_total xs hx q s, Int.toNat_natCast]
    rw [← hA]
    have ep : (2 : Int) ^ s = D := by rw [hD]; simp
    have hD63 : D ≤ 9223372036854775807 := by omega
    have hwD : IntKind.i64.wrap D = D := wrap_small _ (by omega) (by omega)
    have hwq : IntKind.i64.wrap (q : Int) = (q : Int) := wrap_small _ (by omega) (by omega)
    have hws : IntKind.i64.wrap (s : Int) = (s : Int) := wrap_small _ (by omega) (by omega)
    have hM0 : 0 < xs.length := List.length_pos_iff.2 hz
    have hne0 : ((xs.length : Int) == 0) = false := beq_eq_false_iff_ne.2 (by omega)
    have hs0 : ¬ ((s : Int) < 0) := by omega
    have hs64 : (s : Int) < 64 := by omega
    have hl2 : (limbs D.toNat).length ≤ 100000 := by
      have := (limbs_length_le D.toNat 2).2 (by have : (65536 : Int) ^ 2 = 4294967296 := by decide
                                                omega)
      omega
    have hlA : (List.replicate q 0 ++ xs).length ≤ 100000 := by simp; omega
    have hlimA : Lim (List.replicate q 0 ++ xs) := (Lim.zeros q).append hx
    have HA := hide hA
    clear hA hK hk hD
    go_enter Try.func63, Try.ntmps63
    go_wp2_with fail
    generalize (w.alloc (.cells #[.slice a1 xs.length d1] 33)).alloc (.cells #[.slice none 0 0] 33) = W at *
    obtain ⟨i0, hi0, hz0, hz1, hz2⟩ := info_parts Try.info3'
    obtain ⟨w2, hrun, hown2, hgrow2⟩ := run_make_full (P := Try.prog) W.drew W.heap.size 22 3 i0 (.int .i64 0) 1 Try.underlying22 hi0 hz0 hz1 .i64 .i64 q (by rw [hz2]; omega) (by unfold maxLen; omega) (Nat.le_refl _)
    have hf0 := made_fresh (Kept.refl 0 0 W).drew hown2 hgrow2
    have c12 := hf0.k.cell0 c1
    obtain ⟨G, hG0⟩ : ∃ G, G = W.drew.heap.size := ⟨_, rfl⟩
    rw [← hG0] at hrun hf0
    obtain ⟨g5, off5, d5, e5, -, -, hnews⟩ := (q1.kept hf0.k (by omega)).news hz
    cases e5
    have ho := hf0.own
    rw [List.length_replicate] at ho
    have hlk : (xs.map (Value.int .i64)).length = xs.length * 1 := by simp
    have hqx : q + xs.length ≤ maxLen := by unfold maxLen; omega
    have hqb : (q + xs.length) * 8 ≤ 140737488355328 := by omega
    have h01 : 0 < 1 := by decide
    obtain ⟨zz, hzz⟩ : ∃ zz, zz = limbs (val (List.replicate q 0 ++ xs) * val (limbs D.toNat)).toNat := ⟨_, rfl⟩
    have HZ := hide hzz
    have HZZ : Hid (∀ P : List Int → Prop, P (limbs (val (List.replicate q 0 ++ xs) * val (limbs D.toNat)).toNat) → P zz) := fun P h => by rw [hzz]; exact h
    clear hown2 hgrow2 hG0 hzz
    go_region_law (first
      | (refine step_call1 rfl 65 (.tmp 19) _ rfl (l2of_enter _) (.int .i64 D) rfl (of_spec _ D hD63) ?_
         rintro e w5 ⟨v5, rfl, r5, k5⟩
         refine ⟨_, rfl, ?_⟩)
      | (refine step_call2 rfl 64 (.tmp 16) (.tmp 20) _ rfl (l2mul_enter _) (.agg #[.slice a4 (q + xs.length) d4]) (.agg #[v5]) rfl rfl (mul_spec _ (r4.kept k5 (Or.inr (Or.inr (Nat.le_refl _)))) r5 hlimA (limbs_lim _) hlA hl2) ?_
         rintro e w6 ⟨v6, rfl, r6, k6⟩
         refine ⟨_, rfl, ?_⟩
         have r6' := unhide HZZ (fun z => Row .i64 true w5.heap.size w6.heap.size w6 v6 z) r6
         have c36 := ((k4.trans k5).trans k6).cell0 c3
         have f36 := ((k4.trans k5).trans k6).loose0 (World.block_lt_of_cell? _ _ c3) f3
         have hv6 := Row.form' r6'
         clear r6
         obtain ⟨a6, d6, e6⟩ := hv6
         subst e6)
      | (refine step_append_own rfl (.tmp 12) (.tmp 14) 22 rfl W.heap.size 3 i0 (.int .i64 0) 1 8 Try.underlying22 hi0 hz0 hz1 hz2 rfl h01 (.slice (some ⟨G, 0, none⟩) q q) q ((List.replicate q (0 : Int)).map (Value.int .i64)) rfl ho ⟨g5, off5, none⟩ xs.length _ (xs.map (Value.int .i64)) rfl hlk hnews (ints_one _ _) hqx hqb hf0.k.size ?_
         intro v4 w4 hown4 hgrow4 hb4
         have r4 := shl_row hown4
         have k4 := hf0.k.growNew hgrow4 (fun k hk => (ho.lt k hk).1)
         have hv4 := own_slice hown4
         obtain ⟨a4, d4, e4'⟩ := hv4
         subst e4'))
    all_goals
      have b2 := World.block_lt_of_cell? _ _ c3
      have hs4 := k4.size
      have hs5 := k5.size
      dsimp only at b2
      have kk := ((k0.trans k4).trans k5).trans k6
      have R := hide ((r6'.set_other (p := ⟨w.heap.size + 1, 0, none⟩) (.inl (show w.heap.size + 1 < w5.heap.size by omega)) (.slice a6 zz.length d6)).tight.wider (lo' := w.heap.size) (by omega) (Nat.le_refl _))
      have K7 := hide (kk.setNew (p := ⟨w.heap.size + 1, 0, none⟩) (by simp) (.slice a6 zz.length d6))
      clear kk r6' r5 r4 k4 k5 k6 q1 hown4 hnews ho hf0 hrun hgrow4
      go_wp2_with fail
      exact bodyPost_ret (v := .agg #[.slice a6 zz.length d6]) (by simp [results, Try.results63, go_sem, c36]) rfl ⟨_, rfl, by rw [← unhide HZ]; exact unhide R, unhide K7⟩

end Go.Proofs.Ytfikfmkhmojpfaa

namespace Go.Proofs.Ytfikfmkhmojpfaa
open Go.RowKit
set_option linter.unusedVariables false
set_option maxRecDepth 8000
set_option linter.unusedSimpArgs false

end Go.Proofs.Ytfikfmkhmojpfaa
