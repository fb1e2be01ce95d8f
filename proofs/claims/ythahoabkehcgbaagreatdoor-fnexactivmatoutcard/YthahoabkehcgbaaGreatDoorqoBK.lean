/-
  Contracts that the proofs of this seat share: Nat13, Nat12, Trail, TzNum.
-/
import Derived.Test.YthahoabkehcgbaaGreatDoorqoBE
import Derived.Test.YthahoabkehcgbaaGreatDoorqoBC
import Derived.Test.YthahoabkehcgbaaGreatDoorqoBH
import Derived.Test.YthahoabkehcgbaaGreatDoorqoBB
import Derived.Deep.RegionLaw
import Derived.Test.YthahoabkehcgbaaGreatDoorqoBG
import Derived.Deep.RegionWith
import Derived.Lib.TrailingZeros
import Derived.Laws.Bits64b
namespace Go.Proofs.YthahoabkehcgbaaGreatDoor
open Go.RowKit
set_option linter.unusedVariables false
set_option maxRecDepth 8000
set_option linter.unusedSimpArgs false

theorem callFunc_enters {P : Program} {n : FuncId} {F : Func} (hf : P.funcs[n]? = some F) (h1 : ¬ F.name = "runtime.NumGoroutine") (h2 : ¬ F.body = none) (w : World) (args : Array Value) : (callFunc n args).run P w = .ok (.enter n args) w := by
  simp [callFunc, hf, go_sem, h1, h2]
/-- A call of one argument, as one step of a statement whose order is left open. -/
theorem step_call1 {P : Program} {ops : Array Oper} {o : Oper} {a : Act} {w : World} {K : Act → World → Prop} {Q : Exit → Act → World → Prop} {E : Prop} {R : Ending → World → Prop}
    (hg : o.guard = none) (n : FuncId) (x : Operand) (ts : Array TypeId) (hop : o.op = Op.call { callee := Callee.value (Operand.func n), args := #[x], argTypes := ts })
    (hcf : ∀ args : Array Value, (callFunc n args).run P w = .ok (.enter n args) w) (vx : Value) (hx : a.eval x = vx) (hc : Calls P n #[vx] w R) (hK : ∀ e w', R e w' → ∃ v, e = .returned v ∧ K (a.put o.dst v) w') :
    if Region.wanted o (yielded ops a.tmps) = true then Oper.wp P o a w K Q else E := by
  have hw : Region.wanted o (yielded ops a.tmps) = true := by simp [Region.wanted, hg]
  rw [if_pos hw]
  unfold Oper.wp
  have hrun : (execOp a.eval o).run P w = .ok (.enter n #[vx]) w := by
    have hfn : a.eval (.func n) = .func (.func n) #[] #[] := rfl
    simp [execOp, hop, resolve, invoke, hx, hfn, Deferred.ofValue, Result.andThen, hcf]
  rw [hrun, Oper.upon_enter]
  refine hc.mono ?_
  intro e w' h
  obtain ⟨v, rfl, h2⟩ := hK e w' h
  exact h2
/-- A call of two arguments, likewise. -/
theorem step_call2 {P : Program} {ops : Array Oper} {o : Oper} {a : Act} {w : World} {K : Act → World → Prop} {Q : Exit → Act → World → Prop} {E : Prop} {R : Ending → World → Prop}
    (hg : o.guard = none) (n : FuncId) (x y : Operand) (ts : Array TypeId) (hop : o.op = Op.call { callee := Callee.value (Operand.func n), args := #[x, y], argTypes := ts })
    (hcf : ∀ args : Array Value, (callFunc n args).run P w = .ok (.enter n args) w) (vx vy : Value) (hx : a.eval x = vx) (hy : a.eval y = vy) (hc : Calls P n #[vx, vy] w R) (hK : ∀ e w', R e w' → ∃ v, e = .returned v ∧ K (a.put o.dst v) w') :
    if Region.wanted o (yielded ops a.tmps) = true then Oper.wp P o a w K Q else E := by
  have hw : Region.wanted o (yielded ops a.tmps) = true := by simp [Region.wanted, hg]
  rw [if_pos hw]
  unfold Oper.wp
  have hrun : (execOp a.eval o).run P w = .ok (.enter n #[vx, vy]) w := by
    have hfn : a.eval (.func n) = .func (.func n) #[] #[] := rfl
    simp [execOp, hop, resolve, invoke, hx, hy, hfn, Deferred.ofValue, Result.andThen, hcf]
  rw [hrun, Oper.upon_enter]
  refine hc.mono ?_
  intro e w' h
  obtain ⟨v, rfl, h2⟩ := hK e w' h
  exact h2

theorem l2of_enter (w : World) (args : Array Value) : (callFunc 162 args).run Tryz.prog w = .ok (.enter 162 args) w := callFunc_enters Tryz.func162 (by decide) (fun h => by cases h) w args

theorem l2mul_enter (w : World) (args : Array Value) : (callFunc 221 args).run Tryz.prog w = .ok (.enter 221 args) w := callFunc_enters Tryz.func221 (by decide) (fun h => by cases h) w args
theorem val_shifted (q : Nat) (xs : List Int) : val (List.replicate q 0 ++ xs) = 65536 ^ q * val xs := by rw [val_append, val_zeros, List.length_replicate, Int.zero_add]
theorem Lim.append {xs ys : List Int} (h : Lim xs) (h' : Lim ys) : Lim (xs ++ ys) := fun z hz => (List.mem_append.1 hz).elim (h z) (h' z)

theorem shl_row {w4 : World} {b q n : Nat} {v4 : Value} {xs : List Int} (h : w4.ownsRow b 3 1 v4 n ((List.replicate q (0 : Int)).map (Value.int .i64) ++ xs.map (Value.int .i64))) : Row .i64 true b w4.heap.size w4 v4 (List.replicate q 0 ++ xs) := by
  refine Row.own (e := 3) (n := n) ?_
  rw [List.map_append]
  exact h

set_option maxHeartbeats 8000000 in
theorem shl_spec {bw : Bool} {lo hi : Nat} {v : Value} {xs : List Int} (w : World) (r : Row .i64 bw lo hi w v xs) (hx : Lim xs) (nx : xs.length ≤ 50000) (k : Nat) (hk : xs = [] ∨ k ≤ 800000) (hk2 : (k : Int) ≤ 9223372036854775807) :
    Calls Tryz.prog 202 #[.agg #[v], .int .i64 (k : Int)] w fun e w' => ∃ v', e = .returned (.agg #[v']) ∧ Row .i64 true w.heap.size w'.heap.size w' v' (limbs ((val xs).toNat * 2 ^ k)) ∧ Kept 0 0 w w' := by
  have k0 := ((Kept.refl 0 0 w).alloc (.cells #[v] 48)).alloc (.cells #[.slice none 0 0] 48)
  have q1 := r.kept k0 (by omega)
  have c1 : ((w.alloc (.cells #[v] 48)).alloc (.cells #[.slice none 0 0] 48)).cell? ⟨w.heap.size, 0, none⟩ = some v := old_cell _ (new_cell_at _ _ _ _ rfl)
  have c3 : ((w.alloc (.cells #[v] 48)).alloc (.cells #[.slice none 0 0] 48)).cell? ⟨w.heap.size + 1, 0, none⟩ = some (.slice none 0 0) := new_cell_at _ _ _ _ (by simp)
  have f3 : ((w.alloc (.cells #[v] 48)).alloc (.cells #[.slice none 0 0] 48)).frozen? ⟨w.heap.size + 1, 0, none⟩ = false := new_loose _ _ _ _ (by simp)
  obtain ⟨a1, d1, rfl⟩ := Row.form' r
  clear r
  by_cases hz : xs = []
  · subst hz
    have e0 : limbs ((val []).toNat * 2 ^ k) = [] := by simp [val, limbs_zero]
    rw [e0]
    clear q1 c1 c3 f3 k0
    go_enter Tryz.func202, Tryz.ntmps202
    go_wp2_with fail
    exact bodyPost_ret (v := .agg #[.slice none 0 0]) (by simp [results, Tryz.results202, go_sem]) rfl ⟨_, rfl, Row.nil _ _ _ _ _, ((Kept.refl 0 0 w).alloc _).alloc _⟩
  · replace hk := hk.resolve_left hz
    obtain ⟨q, s, hs, rfl⟩ : ∃ q s : Nat, s < 16 ∧ k = 16 * q + s := ⟨k / 16, k % 16, by omega, by omega⟩
    obtain ⟨KK, hK⟩ : ∃ K : Int, K = ((16 * q + s : Nat) : Int) := ⟨_, rfl⟩
    have e3 : KK.tdiv 16 = (q : Int) := by rw [Int.tdiv_eq_ediv_of_nonneg (by omega)]; omega
    have e4 : KK.tmod 16 = (s : Int) := by rw [Int.tmod_eq_emod_of_nonneg (by omega)]; omega
    have hKK : 0 ≤ KK ∧ KK ≤ 800000 := by omega
    rw [← hK]
    have hq5 : q ≤ 50000 := by omega
    obtain ⟨D, hD⟩ : ∃ D : Int, D = ((2 ^ s : Nat) : Int) := ⟨_, rfl⟩
    have hDm : D ≤ 65536 := by
      rw [hD]; have := Nat.pow_le_pow_right (n := 2) (by decide) (show s ≤ 16 by omega); omega
    have hDp : 0 < D := by rw [hD]; have := Nat.pow_pos (n := s) (show 0 < 2 by decide); omega
    have hA : (val (List.replicate q 0 ++ xs) * val (limbs D.toNat)).toNat = (val xs).toNat * 2 ^ (16 * q + s) := by
      rw [val_shifted, limbs_val, Int.toNat_of_nonneg (by omega), hD, Int.mul_assoc, shl_total xs hx q s, Int.toNat_natCast]
    rw [← hA]
    have ep : (2 : Int) ^ s = D := by rw [hD]; simp
    have hD63 : D ≤ 9223372036854775807 := by omega
    have hwD : IntKind.i64.wrap D = D := wrap_small _ (by omega) (by omega)
    have hwq : IntKind.i64.wrap (q : Int) = (q : Int) := wrap_small _ (by omega) (by omega)
    have hws : IntKind.i64.wrap (s : Int) = (s : Int) := wrap_small _ (by omega) (by omega)
    have hM0 : 0 < xs.length := List.length_pos_iff.2 hz
    have hne0 : ((xs.length : Int) == 0) = false := beq_eq_false_iff_ne.2 (by omega)
    have hs0 : ¬ ((s : Int) < 0) := by omega
    have hs64 : (s : Int) < 64 := by omega
    have hl2 : (limbs D.toNat).length ≤ 100000 := by
      have := (limbs_length_le D.toNat 2).2 (by have : (65536 : Int) ^ 2 = 4294967296 := by decide
                                                omega)
      omega
    have hlA : (List.replicate q 0 ++ xs).length ≤ 100000 := by simp; omega
    have hlimA : Lim (List.replicate q 0 ++ xs) := (Lim.zeros q).append hx
    have HA := hide hA
    clear hA hK hk hD
    go_enter Tryz.func202, Tryz.ntmps202
    go_wp2_with fail
    generalize (w.alloc (.cells #[.slice a1 xs.length d1] 48)).alloc (.cells #[.slice none 0 0] 48) = W at *
    obtain ⟨i0, hi0, hz0, hz1, hz2⟩ := info_parts Tryz.info3'
    obtain ⟨w2, hrun, hown2, hgrow2⟩ := run_make_full (P := Tryz.prog) W.drew W.heap.size 39 3 i0 (.int .i64 0) 1 Tryz.underlying39 hi0 hz0 hz1 .i64 .i64 q (by rw [hz2]; omega) (by unfold maxLen; omega) (Nat.le_refl _)
    have hf0 := made_fresh (Kept.refl 0 0 W).drew hown2 hgrow2
    have c12 := hf0.k.cell0 c1
    obtain ⟨G, hG0⟩ : ∃ G, G = W.drew.heap.size := ⟨_, rfl⟩
    rw [← hG0] at hrun hf0
    obtain ⟨g5, off5, d5, e5, -, -, hnews⟩ := (q1.kept hf0.k (by omega)).news hz
    cases e5
    have ho := hf0.own
    rw [List.length_replicate] at ho
    have hlk : (xs.map (Value.int .i64)).length = xs.length * 1 := by simp
    have hqx : q + xs.length ≤ maxLen := by unfold maxLen; omega
    have hqb : (q + xs.length) * 8 ≤ 140737488355328 := by omega
    have h01 : 0 < 1 := by decide
    obtain ⟨zz, hzz⟩ : ∃ zz, zz = limbs (val (List.replicate q 0 ++ xs) * val (limbs D.toNat)).toNat := ⟨_, rfl⟩
    have HZ := hide hzz
    have HZZ : Hid (∀ P : List Int → Prop, P (limbs (val (List.replicate q 0 ++ xs) * val (limbs D.toNat)).toNat) → P zz) := fun P h => by rw [hzz]; exact h
    clear hown2 hgrow2 hG0 hzz
    go_region_law (first
      | (refine step_call1 rfl 162 (.tmp 19) _ rfl (l2of_enter _) (.int .i64 D) rfl (of_spec _ D hD63) ?_
         rintro e w5 ⟨v5, rfl, r5, k5⟩
         refine ⟨_, rfl, ?_⟩)
      | (refine step_call2 rfl 221 (.tmp 16) (.tmp 20) _ rfl (l2mul_enter _) (.agg #[.slice a4 (q + xs.length) d4]) (.agg #[v5]) rfl rfl (mul_spec _ (r4.kept k5 (Or.inr (Or.inr (Nat.le_refl _)))) r5 hlimA (limbs_lim _) hlA hl2) ?_
         rintro e w6 ⟨v6, rfl, r6, k6⟩
         refine ⟨_, rfl, ?_⟩
         have r6' := unhide HZZ (fun z => Row .i64 true w5.heap.size w6.heap.size w6 v6 z) r6
         have c36 := ((k4.trans k5).trans k6).cell0 c3
         have f36 := ((k4.trans k5).trans k6).loose0 (World.block_lt_of_cell? _ _ c3) f3
         have hv6 := Row.form' r6'
         clear r6
         obtain ⟨a6, d6, e6⟩ := hv6
         subst e6)
      | (refine step_append_own rfl (.tmp 12) (.tmp 14) 39 rfl W.heap.size 3 i0 (.int .i64 0) 1 8 Tryz.underlying39 hi0 hz0 hz1 hz2 rfl h01 (.slice (some ⟨G, 0, none⟩) q q) q ((List.replicate q (0 : Int)).map (Value.int .i64)) rfl ho ⟨g5, off5, none⟩ xs.length _ (xs.map (Value.int .i64)) rfl hlk hnews (ints_one _ _) hqx hqb hf0.k.size ?_
         intro v4 w4 hown4 hgrow4 hb4
         have r4 := shl_row hown4
         have k4 := hf0.k.growNew hgrow4 (fun k hk => (ho.lt k hk).1)
         have hv4 := own_slice hown4
         obtain ⟨a4, d4, e4'⟩ := hv4
         subst e4'))
    all_goals
      have b2 := World.block_lt_of_cell? _ _ c3
      have hs4 := k4.size
      have hs5 := k5.size
      dsimp only at b2
      have kk := ((k0.trans k4).trans k5).trans k6
      have R := hide ((r6'.set_other (p := ⟨w.heap.size + 1, 0, none⟩) (.inl (show w.heap.size + 1 < w5.heap.size by omega)) (.slice a6 zz.length d6)).tight.wider (lo' := w.heap.size) (by omega) (Nat.le_refl _))
      have K7 := hide (kk.setNew (p := ⟨w.heap.size + 1, 0, none⟩) (by simp) (.slice a6 zz.length d6))
      clear kk r6' r5 r4 k4 k5 k6 q1 hown4 hnews ho hf0 hrun hgrow4
      go_wp2_with fail
      exact bodyPost_ret (v := .agg #[.slice a6 zz.length d6]) (by simp [results, Tryz.results202, go_sem, c36]) rfl ⟨_, rfl, by rw [← unhide HZ]; exact unhide R, unhide K7⟩

end Go.Proofs.YthahoabkehcgbaaGreatDoor

namespace Go.Proofs.YthahoabkehcgbaaGreatDoor
open Go.RowKit
set_option linter.unusedVariables false
set_option maxRecDepth 8000
set_option linter.unusedSimpArgs false

set_option maxHeartbeats 4000000 in
theorem shr_spec {bw : Bool} {lo hi : Nat} {v : Value} {xs : List Int} (w : World) (r : Row .i64 bw lo hi w v xs) (hx : Lim xs) (nx : xs.length ≤ 100000) (k : Nat) (hk : (k : Int) ≤ 9223372036854775807) :
    Calls Tryz.prog 160 #[.agg #[v], .int .i64 (k : Int)] w fun e w' => ∃ v', e = .returned (.agg #[v']) ∧ Row .i64 true w.heap.size w'.heap.size w' v' (limbs ((val xs).toNat / 2 ^ k)) ∧ Kept 0 0 w w' := by
  have rr := r.read.tight
  obtain ⟨M, hM⟩ : ∃ M, M = xs.length := ⟨_, rfl⟩
  obtain ⟨a1, c1, e1, q1, m1, q3⟩ := r
  rw [← hM] at e1 q1 nx
  subst e1
  unfold maxLen at m1
  clear q3
  obtain ⟨q, s, hs, rfl⟩ : ∃ q s : Nat, s < 16 ∧ k = 16 * q + s := ⟨k / 16, k % 16, by omega, by omega⟩
  have ed : (((16 * q + s : Nat) : Int)).tdiv 16 = q := by rw [Int.tdiv_eq_ediv_of_nonneg (by omega)]; omega
  have et : (((16 * q + s : Nat) : Int)).tmod 16 = s := by rw [Int.tmod_eq_emod_of_nonneg (by omega)]; omega
  have hqr : (q : Int) ≤ 9223372036854775807 := by omega
  by_cases hq : (M : Int) ≤ (q : Int)
  · have e0 : (val xs).toNat / 2 ^ (16 * q + s) = 0 := by
      have h1 := val_lt hx
      have h2 := val_nonneg hx
      rw [pow_limb] at h1
      have h3 : 2 ^ (16 * xs.length) ≤ 2 ^ (16 * q + s) := Nat.pow_le_pow_right (by decide) (by omega)
      exact Nat.div_eq_of_lt (by omega)
    rw [e0, limbs_zero]
    generalize hI : (((16 * q + s : Nat) : Int)) = I at *
    clear e0 rr hI hM
    go_enter Tryz.func160, Tryz.ntmps160
    go_wp2
    exact bodyPost_ret (v := .agg #[.slice none 0 0]) (by simp [results, Tryz.results160, go_sem]) rfl ⟨_, rfl, Row.nil _ _ _ _ _, ((Kept.refl _ _ _).alloc _).alloc _⟩
  · have hat := (row_cell rr).2.2.2 q (by omega)
    obtain ⟨g, off, rfl, -⟩ := hat
    have hv := shr_val hx q s (by omega)
    have r2 := rr.drop q (by omega)
    have k2 := ((Kept.refl 0 0 w).alloc (.cells #[.slice (some ⟨g, off, none⟩) M c1] 48)).alloc (.cells #[.slice none 0 0] 48)
    have r3 := r2.kept k2 (by omega)
    have hp : (1 : Int) ≤ ((2 ^ s : Nat) : Int) ∧ ((2 ^ s : Nat) : Int) ≤ 32768 := by
      have h1 : 2 ^ s ≤ 2 ^ 15 := Nat.pow_le_pow_right (by decide) (by omega)
      have h2 : 0 < 2 ^ s := Nat.pow_pos (by decide)
      omega
    have hlm := hx.drop q
    have hln : (xs.drop q).length ≤ 100000 := by simp; omega
    have hq0 : (q : Int) < (M : Int) := by omega
    rw [← hv]
    have e2s : ((2 ^ s : Nat) : Int) = (2 : Int) ^ s := by simp
    rw [e2s] at hp ⊢
    generalize hI : (((16 * q + s : Nat) : Int)) = I at *
    have HR := hide r3
    have KK := hide k2
    clear hv rr r2 r3 k2 hI hM hq
    go_enter Tryz.func160, Tryz.ntmps160
    go_wp2
    have hb1 : ((w.alloc (.cells #[.slice (some ⟨g, off, none⟩) M c1] 48)).alloc (.cells #[.slice none 0 0] 48)).cell? ⟨w.heap.size, 0, none⟩ = some (.slice (some ⟨g, off, none⟩) M c1) := old_cell _ (new_cell_at _ _ _ _ rfl)
    have hb2 : ((w.alloc (.cells #[.slice (some ⟨g, off, none⟩) M c1] 48)).alloc (.cells #[.slice none 0 0] 48)).cell? ⟨w.heap.size + 1, 0, none⟩ = some (.slice none 0 0) := new_cell_at _ _ _ _ (by simp)
    have hf2 : ((w.alloc (.cells #[.slice (some ⟨g, off, none⟩) M c1] 48)).alloc (.cells #[.slice none 0 0] 48)).frozen? ⟨w.heap.size + 1, 0, none⟩ = false := new_loose _ _ _ _ (by simp)
    have hs2 : ((w.alloc (.cells #[.slice (some ⟨g, off, none⟩) M c1] 48)).alloc (.cells #[.slice none 0 0] 48)).heap.size = w.heap.size + 2 := by simp
    have HS2 := hide hs2
    clear hs2
    generalize (w.alloc (.cells #[.slice (some ⟨g, off, none⟩) M c1] 48)).alloc (.cells #[.slice none 0 0] 48) = W2 at *
    have hq2 : (q : Int) ≤ (M : Int) := by omega
    have hq3 : q ≤ M := by omega
    have hq4 : (0 : Int) ≤ (q : Int) := by omega
    have hq5 : (M : Int) ≤ (c1 : Int) := by omega
    have hq6 : IntKind.i64.wrap (q : Int) = q := by rw [IntKind.wrap_i64]; omega
    have hb3 : (W2.alloc (.cells #[.slice none 0 0] 48)).cell? ⟨w.heap.size, 0, none⟩ = some (.slice (some ⟨g, off, none⟩) M c1) := old_cell _ hb1
    have hq7 : ¬ c1 = q := by omega
    have hq8 : IntKind.i64.wrap ((2 : Int) ^ s) = (2 : Int) ^ s := by rw [IntKind.wrap_i64]; omega
    have HX : Hid (∀ wx wn v' L, Kept 0 0 W2 wx → Kept 0 0 wx wn → Row .i64 true wx.heap.size wn.heap.size wn v' L → wn.cell? ⟨w.heap.size + 1, 0, none⟩ = some (.slice none 0 0) ∧ wn.frozen? ⟨w.heap.size + 1, 0, none⟩ = false ∧ Kept 0 0 w wn ∧ Row .i64 true (w.heap.size + 2) wn.heap.size wn v' L) := fun wx wn v' L h1 h2 h3 => by
      have h12 := h1.trans h2
      have hb := h12.block (w.heap.size + 1) (by have := unhide HS2; omega) (by omega)
      refine ⟨by rw [← hb2]; exact World.cell?_of_block hb, by simpa [World.frozen?, hb] using hf2, (unhide KK).trans h12, h3.wider ?_ (Nat.le_refl _)⟩
      have := unhide HS2
      have := h1.size
      omega
    go_region_with (go_at_call 200; first
      | (refine (small_spec W2.drew ((unhide HR).kept (Kept.refl 0 0 W2).drew (by omega)) hlm hln ((2 : Int) ^ s) (by omega) (by omega)).mono ?_
         rintro e wn ⟨v', rfl, rn, kn⟩
         obtain ⟨x1, x2, x3, x4⟩ := unhide HX _ _ _ _ (Kept.refl 0 0 W2).drew kn rn
         obtain ⟨a', c', rfl, -, -, -⟩ := id rn
         have X3 := hide x3
         have X4 := hide x4
         have y1 : ∀ o, (wn.alloc o).cell? ⟨w.heap.size + 1, 0, none⟩ = some (.slice none 0 0) := fun o => old_cell o x1
         have y2 : w.heap.size + 1 < wn.heap.size := World.block_lt_of_cell? _ _ x1
         have y3 : ¬ w.heap.size + 1 = wn.heap.size := by omega
         have y4 : ¬ wn.heap.size = w.heap.size + 1 := by omega
         clear x3 x4 rn kn)
      | (refine (small_spec (W2.alloc (.cells #[.slice none 0 0] 48)).drew ((unhide HR).kept ((Kept.refl 0 0 W2).alloc _).drew (by omega)) hlm hln ((2 : Int) ^ s) (by omega) (by omega)).mono ?_
         rintro e wn ⟨v', rfl, rn, kn⟩
         obtain ⟨x1, x2, x3, x4⟩ := unhide HX _ _ _ _ ((Kept.refl 0 0 W2).alloc _).drew kn rn
         have hnb : wn.heap[W2.heap.size]? = some (.cells #[.slice none 0 0] 48) := (kn.block W2.heap.size (by simp [World.drew]) (by omega)).trans (heap_alloc_new W2 _)
         have x5 : wn.cell? ⟨W2.heap.size, 0, none⟩ = some (.slice none 0 0) := by simp only [World.cell?, hnb]; rfl
         have x6 : wn.frozen? ⟨W2.heap.size, 0, none⟩ = false := by simp only [World.frozen?, hnb]; rfl
         obtain ⟨a', c', rfl, -, -, -⟩ := id rn
         have X3 := hide x3
         have X4 := hide (rn.wider (lo' := W2.heap.size + 1) (by simp [World.drew]) (Nat.le_refl _))
         have y2 : w.heap.size + 1 < W2.heap.size := by have := unhide HS2; omega
         have y3 : ¬ w.heap.size + 1 = W2.heap.size := by omega
         have y4 : ¬ W2.heap.size = w.heap.size + 1 := by omega
         clear x3 x4 rn kn hnb)
      | (trace_state; fail))
    all_goals clear HX HR KK
    all_goals go_wp2
    all_goals first
      | (have z0 := y1
         have z1 : ∀ o, ((wn.setCell ⟨w.heap.size + 1, 0, none⟩ (.slice a' (limbs (val (xs.drop q) / 2 ^ s).toNat).length c')).alloc o).cell? ⟨w.heap.size + 1, 0, none⟩ = some (.slice a' (limbs (val (xs.drop q) / 2 ^ s).toNat).length c') := fun o => old_cell o (cell_on _ _ _ _ _ x1)
         exact bodyPost_ret (v := .agg #[.slice a' (limbs (val (xs.drop q) / 2 ^ s).toNat).length c']) (by simp [results, Tryz.results160, go_sem, z1]) rfl ⟨_, rfl, (((unhide X4).kept ((Kept.refl (w.heap.size + 1) (w.heap.size + 2) wn).setCell (p := ⟨w.heap.size + 1, 0, none⟩) (Nat.le_refl _) (Nat.lt_succ_self _) _) (by omega)).kept ((Kept.refl 0 0 _).alloc _) (by omega)).tight.wider (by omega) (Nat.le_refl _), ((unhide X3).setNew (p := ⟨w.heap.size + 1, 0, none⟩) (Nat.le_succ _) _).alloc _⟩)
      | exact bodyPost_ret (v := .agg #[.slice a' (limbs (val (xs.drop q) / 2 ^ s).toNat).length c']) (by simp [results, Tryz.results160, go_sem, x1, x5, y3, y4, cell_far]) rfl ⟨_, rfl, (((unhide X4).kept ((Kept.refl W2.heap.size (W2.heap.size + 1) wn).setCell (p := ⟨W2.heap.size, 0, none⟩) (Nat.le_refl _) (Nat.lt_succ_self _) _) (by omega)).kept ((Kept.refl (w.heap.size + 1) (w.heap.size + 2) _).setCell (p := ⟨w.heap.size + 1, 0, none⟩) (Nat.le_refl _) (Nat.lt_succ_self _) _) (by omega)).tight.wider (by omega) (Nat.le_refl _), ((unhide X3).setNew (p := ⟨W2.heap.size, 0, none⟩) (by show _ ≤ W2.heap.size; omega) _).setNew (p := ⟨w.heap.size + 1, 0, none⟩) (Nat.le_succ _) _⟩

end Go.Proofs.YthahoabkehcgbaaGreatDoor

namespace Go.Proofs.YthahoabkehcgbaaGreatDoor
open Go.RowKit
set_option linter.unusedVariables false
set_option maxRecDepth 8000
set_option linter.unusedSimpArgs false

/-- The table of math/bits, as its text lays it. -/
def TabB (w : World) : Prop := ∀ j, j < 64 → w.cell? ⟨1, j, none⟩ = some (.int .u8 (Lib.deBruijn64tab.getD j 0))
theorem TabB.lt {w : World} (h : TabB w) : 1 < w.heap.size := World.block_lt_of_cell? _ ⟨1, 0, none⟩ (h 0 (by decide))
theorem TabB.kept {w w' : World} (h : TabB w) (k : Kept 0 0 w w') : TabB w' := fun j hj => k.cell0 (h j hj)
theorem TabB.mod {S : Nat → Prop} {w w' : World} (h : TabB w) (k : Mod S w w') (hS : ¬ S 1) : TabB w' := fun j hj => k.cell (a := ⟨1, j, none⟩) hS (h j hj)

theorem ctz_is (x : Nat) (h0 : x ≠ 0) (h : x < 2 ^ 64) : x / 2 ^ (Lib.ctz 64 x) % 2 = 1 ∧ ∀ j, j < Lib.ctz 64 x → x / 2 ^ j % 2 = 0 := by
  obtain ⟨m, hm, hk⟩ := Lib.ctzFrom_spec 64 x (by omega) h
  have e : Lib.ctz 64 x = Lib.ctzFrom 64 x := by simp [Lib.ctz, h0]
  rw [e]
  generalize Lib.ctzFrom 64 x = k at *
  subst hm
  constructor
  · rw [Nat.mul_div_cancel_left _ (Nat.pow_pos (by decide))]; omega
  · intro j hj
    obtain ⟨d, rfl⟩ : ∃ d, k = j + (d + 1) := ⟨k - j - 1, by omega⟩
    rw [Nat.pow_add, Nat.mul_assoc, Nat.mul_div_cancel_left _ (Nat.pow_pos (by decide)), Nat.pow_succ, Nat.mul_comm (2 ^ d) 2, Nat.mul_assoc]
    omega
theorem ctz_small (x : Nat) (h0 : x ≠ 0) (h : x < 65536) : Lib.ctz 64 x < 16 := by
  have h1 := (ctz_is x h0 (by omega)).1
  rcases Nat.lt_or_ge (Lib.ctz 64 x) 16 with h2 | h2
  · exact h2
  · have : x / 2 ^ (Lib.ctz 64 x) = 0 := Nat.div_eq_of_lt (Nat.lt_of_lt_of_le h (Nat.pow_le_pow_right (n := 2) (by decide) h2))
    rw [this] at h1
    simp at h1

theorem trail_limbs {zs : List Int} (hl : Lim zs) (i : Nat) (hz : ∀ j, j < i → zs.getD j 0 = 0) (h0 : zs.getD i 0 ≠ 0) : IsTrail (val zs).toNat (16 * i + Lib.ctz 64 (zs.getD i 0).toNat) := by
  have hL := hl.at i
  have hc := ctz_small (zs.getD i 0).toNat (by omega) (by omega)
  obtain ⟨c1, c2⟩ := ctz_is (zs.getD i 0).toNat (by omega) (by omega)
  refine .inr ⟨?_, fun j hj => ?_⟩
  · have := bit_limb hl i (Lib.ctz 64 (zs.getD i 0).toNat) hc
    omega
  · obtain ⟨q, s, hs, rfl⟩ : ∃ q s : Nat, s < 16 ∧ j = 16 * q + s := ⟨j / 16, j % 16, by omega, by omega⟩
    have := bit_limb hl q s hs
    by_cases hq : q < i
    · rw [hz q hq] at this
      simp at this
      omega
    · have hqi : q = i := by omega
      subst hqi
      have := c2 s (by omega)
      omega
theorem trail_none {zs : List Int} (hl : Lim zs) (hz : ∀ j, j < zs.length → zs.getD j 0 = 0) : IsTrail (val zs).toNat 0 := by
  refine .inl ⟨no_bit (m := 16 * zs.length) ?_ (fun j hj => ?_), rfl⟩
  · have h1 := val_lt hl
    have h2 := val_nonneg hl
    rw [pow_limb] at h1
    omega
  · obtain ⟨q, s, hs, rfl⟩ : ∃ q s : Nat, s < 16 ∧ j = 16 * q + s := ⟨j / 16, j % 16, by omega, by omega⟩
    have := bit_limb hl q s hs
    rw [hz q (by omega)] at this
    simp at this
    omega

theorem tz_key (x a : Nat) (hx : x < 18446744073709551616) (hx0 : x ≠ 0) (hlow : x &&& (18446744073709551616 - x) = a) :
    IntKind.u64.wrap (bits BinOp.and IntKind.u64 (x : Int) (IntKind.u64.wrap (-(x : Int))) * 285870213051353865) / 288230376151711744 = ((a * 285870213051353865 % 18446744073709551616 / 288230376151711744 : Nat) : Int) := by
  have e1 : IntKind.u64.wrap (-(x : Int)) = ((18446744073709551616 - x : Nat) : Int) := by rw [IntKind.wrap_u64]; omega
  rw [e1, bits_and_u64_nat x _ hx (by omega), hlow, IntKind.wrap_u64]
  omega

set_option maxHeartbeats 1000000 in
theorem tz64_core (x k idx : Nat) (w : World) (hx0 : ((x : Int) == 0) = false)
    (key : IntKind.u64.wrap (bits BinOp.and IntKind.u64 (x : Int) (IntKind.u64.wrap (-(x : Int))) * 285870213051353865) / 288230376151711744 = (idx : Int))
    (hi : idx < 64) (hk : k < 64) (hcell : w.cell? ⟨1, idx, none⟩ = some (.int .u8 k)) :
    Calls Tryz.prog 230 #[.int .u64 (x : Int)] w fun e w' => e = .returned (.int .i64 k) ∧ w' = w := by
  go_enter Tryz.func230, Tryz.ntmps230
  go_wp2_with (simp only [key])
  go_ret
  exact ⟨rfl, rfl⟩

theorem tz64_impl (x : Nat) (h0 : x ≠ 0) (hx : x < 18446744073709551616) (w : World) (T : TabB w) :
    Calls Tryz.prog 230 #[.int .u64 (x : Int)] w fun e w' => e = .returned (.int .i64 (Lib.ctz 64 x)) ∧ w' = w := by
  obtain ⟨hlow, hk⟩ := Lib.lowest_bit 64 x h0 hx
  obtain ⟨hi, htab⟩ := Lib.deBruijn64_at _ hk
  have hcell := T _ hi
  rw [htab] at hcell
  exact tz64_core x _ _ w (by simp; omega) (tz_key x _ hx h0 hlow) hi hk hcell

set_option maxHeartbeats 1000000 in
theorem tz_impl (x : Nat) (h0 : x ≠ 0) (hx : x < 65536) (w : World) (T : TabB w) :
    Calls Tryz.prog 214 #[.int .u64 (x : Int)] w fun e w' => e = .returned (.int .i64 (Lib.ctz 64 x)) ∧ w' = w := by
  have hz := tz64_impl x h0 (by omega) w T
  generalize Lib.ctz 64 x = k at *
  go_enter Tryz.func214, Tryz.ntmps214
  go_wp2_with fail
  refine hz.mono ?_
  rintro e w1 ⟨rfl, rfl⟩
  clear hz T
  go_wp2
  go_ret
  exact ⟨rfl, rfl⟩

set_option maxHeartbeats 4000000 in
theorem trail_impl {b g : Nat} {v : Value} {zs : List Int} (w : World) (h : Work b w g v zs) (hl : Lim zs) (hlen : zs.length ≤ 100000) (T : TabB w) :
    Calls Tryz.prog 186 #[.pointer (some ⟨g, 0, none⟩)] w fun e w' => ∃ t : Nat, e = .returned (.int .i64 t) ∧ IsTrail (val zs).toNat t ∧ w' = w := by
  obtain ⟨M, hM⟩ : ∃ M, M = zs.length := ⟨_, rfl⟩
  obtain ⟨a1, c1, hv⟩ := h.form
  have hc := h.cell
  rw [← hM] at hv
  subst hv
  have HAT := hide (fun j (hj : j < zs.length) => h.at j hj)
  have HM := hide hM
  have HL := hide hl
  have HT := hide T
  have hm1 : M ≤ 100000 := by omega
  clear h hl T hM hlen
  go_enter Tryz.func186, Tryz.ntmps186
  go_wp2
  go_loopw [10] (fun ii wr => ∃ i : Nat, ii = .int .i64 (i : Int) ∧ i ≤ M ∧ Hid (∀ j, j < i → zs.getD j 0 = 0) ∧ wr = w) (fun ii _ => M - (intOf ii).toNat)
  case atStart => exact ⟨0, rfl, Nat.zero_le _, hide (fun j hj => absurd hj (Nat.not_lt_zero _)), rfl⟩
  case round =>
    obtain ⟨i, rfl, hi, hz, hw⟩ := hrel
    obtain rfl : w = wr := hw.symm
    by_cases hA : i < M
    · obtain ⟨g1, off, c, ev, -, hx1, -, -, -⟩ := unhide HAT i (by have := unhide HM; omega)
      rw [← unhide HM] at ev
      cases ev
      have hL := (unhide HL).at i
      have HTR := hide (fun h0 => trail_limbs (unhide HL) i (unhide hz) h0)
      have hi1 : (i : Int) < (M : Int) := by omega
      generalize hzz : zs.getD i 0 = z at *
      have HZZ := hide hzz
      clear hzz
      by_cases h0 : z = 0
      · have hb : (z != 0) = false := by simp [h0]
        have HZ0 := hide h0
        clear h0 HTR
        go_wp2
        go_roundw
        case rel => exact ⟨i + 1, by go_num, by omega, hide (fun j hj => by
          rcases Nat.lt_succ_iff_lt_or_eq.1 hj with h | h
          · exact unhide hz j h
          · subst h; rw [unhide HZZ, unhide HZ0]), trivial⟩
        case measure => simp [intOf]; omega
      · have hb : (z != 0) = true := by simp [h0]
        obtain ⟨x, hx⟩ : ∃ x : Nat, z = (x : Int) := ⟨z.toNat, by omega⟩
        have hx0 : x ≠ 0 := by omega
        have hx1' : x < 65536 := by omega
        have htr := unhide HTR h0
        rw [hx, Int.toNat_natCast] at htr
        have TZ := hide (tz_impl x hx0 hx1' w (unhide HT))
        have hct := ctz_small x hx0 hx1'
        generalize Lib.ctz 64 x = k at *
        have HTT := hide htr
        have hwu : IntKind.u64.wrap z = (x : Int) := by rw [hx, IntKind.wrap_u64]; omega
        have hw1 : IntKind.i64.wrap (16 * (i : Int)) = 16 * (i : Int) := by rw [IntKind.wrap_i64]; omega
        have hw2 : IntKind.i64.wrap (16 * (i : Int) + (k : Int)) = ((16 * i + k : Nat) : Int) := by rw [IntKind.wrap_i64]; omega
        clear htr HTR h0 hx
        go_wp2_with fail
        refine (unhide TZ).mono ?_
        rintro e w1 ⟨rfl, rfl⟩
        go_wp2
        go_ret
        exact ⟨16 * i + k, rfl, unhide HTT, rfl⟩
    · have hiM : i = M := by omega
      have HTR : Hid (IsTrail (val zs).toNat 0) := trail_none (unhide HL) (fun j hj => unhide hz j (by have := unhide HM; omega))
      have hi1 : ¬ (i : Int) < (M : Int) := by omega
      clear hiM
      go_wp2
      go_ret
      exact ⟨0, rfl, unhide HTR, rfl⟩

end Go.Proofs.YthahoabkehcgbaaGreatDoor

namespace Go.Proofs.YthahoabkehcgbaaGreatDoor
open Go.RowKit
set_option linter.unusedVariables false

theorem limbs_len_le {m n : Nat} (h : m ≤ n) : (limbs m).length ≤ (limbs n).length := by
  refine (limbs_length_le m _).2 ?_
  have := (limbs_length_le n (limbs n).length).1 (Nat.le_refl _)
  omega
/-- How often two divides a number. -/
def tz (n : Nat) : Nat := if n = 0 then 0 else Lib.ctzFrom n n
theorem tz_form {n : Nat} (h : n ≠ 0) : ∃ m, n = 2 ^ tz n * (2 * m + 1) := by
  obtain ⟨m, hm, -⟩ := Lib.ctzFrom_spec n n (by omega) Nat.lt_two_pow_self
  unfold tz
  rw [if_neg h]
  exact ⟨m, hm⟩
theorem trail_form {n k m : Nat} (h : n = 2 ^ k * (2 * m + 1)) : IsTrail n k := by
  subst h
  refine .inr ⟨by rw [Nat.mul_div_cancel_left _ (Nat.pow_pos (by decide))]; omega, fun j hj => ?_⟩
  obtain ⟨d, rfl⟩ : ∃ d, k = j + (d + 1) := ⟨k - j - 1, by omega⟩
  rw [Nat.pow_add, Nat.mul_assoc, Nat.mul_div_cancel_left _ (Nat.pow_pos (by decide)), Nat.pow_succ, Nat.mul_comm (2 ^ d) 2, Nat.mul_assoc]
  omega
theorem tz_is (n : Nat) : IsTrail n (tz n) := by
  by_cases h : n = 0
  · subst h; exact .inl ⟨rfl, rfl⟩
  · obtain ⟨m, hm⟩ := tz_form h
    exact trail_form hm
theorem tz_eq {n t : Nat} (h : IsTrail n t) : t = tz n := h.unique (tz_is n)
theorem tz_shift {n : Nat} (h : n ≠ 0) (k : Nat) : tz (n * 2 ^ k) = tz n + k ∧ n * 2 ^ k / 2 ^ (tz n + k) = n / 2 ^ tz n := by
  obtain ⟨m, hm⟩ := tz_form h
  have e : n * 2 ^ k = 2 ^ (tz n + k) * (2 * m + 1) := by
    conv => lhs; rw [hm]
    rw [Nat.pow_add]
    ac_rfl
  refine ⟨(tz_eq (trail_form e)).symm, ?_⟩
  rw [e, Nat.mul_div_cancel_left _ (Nat.pow_pos (by decide))]
  conv => rhs; lhs; rw [hm]
  rw [Nat.mul_div_cancel_left _ (Nat.pow_pos (by decide))]
theorem tz_odd {n : Nat} (h : n % 2 = 1) : tz n = 0 := (tz_eq (trail_form (n := n) (k := 0) (m := n / 2) (by simp; omega))).symm
theorem odd_part {n : Nat} (h : n ≠ 0) : n / 2 ^ tz n % 2 = 1 ∧ 0 < n / 2 ^ tz n := by
  obtain ⟨m, hm⟩ := tz_form h
  have e : n / 2 ^ tz n = 2 * m + 1 := by
    conv => lhs; lhs; rw [hm]
    rw [Nat.mul_div_cancel_left _ (Nat.pow_pos (by decide))]
  omega
theorem tz_lt {n k : Nat} (h : n ≠ 0) (hk : n < 2 ^ k) : tz n < k := by
  obtain ⟨m, hm⟩ := tz_form h
  rcases Nat.lt_or_ge (tz n) k with h1 | h1
  · exact h1
  · have h2 : 2 ^ k ≤ 2 ^ tz n := Nat.pow_le_pow_right (by decide) h1
    have h3 : 2 ^ tz n ≤ 2 ^ tz n * (2 * m + 1) := Nat.le_mul_of_pos_right _ (by omega)
    omega

end Go.Proofs.YthahoabkehcgbaaGreatDoor

