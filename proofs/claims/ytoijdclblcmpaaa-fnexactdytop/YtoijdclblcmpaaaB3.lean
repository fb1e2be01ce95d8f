/-
  Contracts that the proofs of this seat share: HelpW, Step, Wh1, Wh2, Wh3, ISide, IWh1, IWh2, IWh3, LawW, HelpD.
-/
import Derived.Test.YtoijdclblcmpaaaB2
import Derived.Test.YtoijdclblcmpaaaRows
import Derived.WalkKit
import Derived.Deep.RegionLaw
import Derived.Deep.RegionHeld3
import Derived.Deep.RegionWith
import Derived.Test.YtoijdclblcmpaaaB1
import Derived.Deep.QuietTactic
import Derived.BigQuiet
import Derived.BigRegion
import Derived.Deep.DeepCutAuto
namespace Go.Proofs.Ytoijdclblcmpaaa
open Go.RowKit
set_option linter.unusedVariables false
set_option maxRecDepth 8000

theorem new_cell2 (w : World) (cs : Array Value) (t : TypeId) (n o : Nat) (v : Value) (hn : n = w.heap.size) (hv : cs[o]? = some v) : (w.alloc (.cells cs t)).cell? ⟨n, o, none⟩ = some v := by
  subst hn
  have hg : (w.alloc (.cells cs t)).heap[w.heap.size]? = some (.cells cs t) := heap_alloc_new w _
  simp only [World.cell?, hg]
  simpa using hv
theorem new_loose2 (w : World) (cs : Array Value) (t : TypeId) (n o : Nat) (hn : n = w.heap.size) : (w.alloc (.cells cs t)).frozen? ⟨n, o, none⟩ = false := by
  subst hn
  have hg : (w.alloc (.cells cs t)).heap[w.heap.size]? = some (.cells cs t) := heap_alloc_new w _
  simp only [World.frozen?, hg]
  simp

set_option maxHeartbeats 1000000 in
theorem szWhole_any {bw : Bool} {lo hi : Nat} {v : Value} {zs : List Int} (b : Bool) (w : World) (s : Int) (hs0 : 0 ≤ s) (hs1 : s ≤ 1048576) (r : Row .i64 bw lo hi w v zs) :
    Calls Try.prog 57 #[.agg #[.bool b, v], .int .i64 s] w fun e w' => e = .returned (.int .i64 (if (zs.length : Int) ≤ s then s - zs.length else -1)) ∧ Kept 0 0 w w' := by
  have k0 := (Kept.refl 0 0 w).alloc (.cells #[.bool b, v] 70)
  have s1 := r.kept k0 (by omega)
  have hm := r.len
  unfold maxLen at hm
  obtain ⟨a1, c1, rfl, -⟩ := r
  go_enter Try.func57, Try.ntmps57
  go_wp2_with fail
  refine (szNat_any _ s hs0 hs1 s1).mono ?_
  rintro e w6 ⟨rfl, k6⟩
  have K := hide (k0.trans k6)
  clear s1 k0 k6
  by_cases h : (zs.length : Int) ≤ s
  · rw [if_pos h]
    have h' : ¬ (s - (zs.length : Int)) < 0 := by omega
    go_wp2
    go_ret
    exact ⟨rfl, unhide K⟩
  · rw [if_neg h]
    go_wp2
    go_ret
    exact ⟨rfl, unhide K⟩

set_option maxHeartbeats 1000000 in
theorem eqWhole_same {b1 b2 : Bool} {l1 h1 l2 h2 : Nat} {v1 v2 : Value} {zs : List Int} (b : Bool) (w : World) (r1 : Row .i64 b1 l1 h1 w v1 zs) (r2 : Row .i64 b2 l2 h2 w v2 zs) :
    Calls Try.prog 60 #[.agg #[.bool b, v1], .agg #[.bool b, v2]] w fun e w' => e = .returned (.bool true) ∧ Kept 0 0 w w' := by
  have kk := ((Kept.refl 0 0 w).alloc (.cells #[.bool b, v1] 42)).alloc (.cells #[.bool b, v2] 42)
  have s1 := r1.kept kk (by omega)
  have s2 := r2.kept kk (by omega)
  have KK := hide kk
  obtain ⟨a1, c1, rfl, -⟩ := r1
  obtain ⟨a2, c2, rfl, -⟩ := r2
  have hbb : (b != b) = false := by simp
  clear kk
  go_enter Try.func60, Try.ntmps60
  go_wp2_with fail
  refine (eqNat_same _ s1 s2).mono ?_
  rintro e w6 ⟨rfl, k6⟩
  have K := hide ((unhide KK).trans k6)
  clear s1 s2 k6 KK
  go_wp2
  go_ret
  exact ⟨rfl, unhide K⟩

set_option maxHeartbeats 1000000 in
theorem markWhole_wide {lo hi : Nat} {v : Value} {zs : List Int} (b : Bool) (w : World) (s : Int) (hs0 : 0 ≤ s) (hs1 : s ≤ 1000000000) (hn : zs.length ≤ 1099511627776) (r : Row .i64 true lo hi w v zs) :
    Calls Try.prog 61 #[.agg #[.bool b, v], .int .i64 s] w fun e w' => e = .returned (.int .i64 (s + zs.length)) ∧ Row .i64 true lo hi w' v (marks .i64 s zs.length) ∧ Kept lo hi w w' := by
  have s1 := r.kept ((Kept.refl 0 0 w).alloc (.cells #[.bool b, v] 42)) (by omega)
  obtain ⟨a1, c1, rfl, -⟩ := r
  go_enter Try.func61, Try.ntmps61
  go_wp2_with fail
  refine (markNat_wide _ s hs0 hs1 hn s1).mono ?_
  rintro e w6 ⟨rfl, r6, k6⟩
  have R6 := hide r6
  have K6 := hide (((Kept.refl lo hi w).alloc _).trans k6)
  clear s1 r6 k6
  go_wp2
  go_ret
  exact ⟨rfl, unhide R6, unhide K6⟩

set_option maxHeartbeats 1000000 in
theorem heldWhole_any {bw : Bool} {lo hi : Nat} {v : Value} {n : Nat} (b : Bool) (w : World) (s : Int) (hs0 : 0 ≤ s) (hs1 : s ≤ 1000000) (hn : n ≤ 1099511627776) (r : Row .i64 bw lo hi w v (marks .i64 s n)) :
    Calls Try.prog 62 #[.agg #[.bool b, v], .int .i64 s] w fun e w' => e = .returned (.int .i64 (s + n)) ∧ Kept 0 0 w w' := by
  have k0 := (Kept.refl 0 0 w).alloc (.cells #[.bool b, v] 42)
  have s1 := r.kept k0 (by omega)
  obtain ⟨a1, c1, rfl, -⟩ := r
  have h0 : ¬ (s + (n : Int)) < 0 := by omega
  go_enter Try.func62, Try.ntmps62
  go_wp2_with fail
  refine (heldNat_any _ s hs0 hs1 hn s1).mono ?_
  rintro e w6 ⟨rfl, k6⟩
  have K := hide (k0.trans k6)
  clear s1 k0 k6
  go_wp2
  go_ret
  exact ⟨rfl, unhide K⟩

set_option maxHeartbeats 1000000 in
theorem toWhole_any {bw : Bool} {lo hi : Nat} {v : Value} {zs : List Int} (b : Bool) (w : World) (hn : zs.length ≤ 1099511627776) (r : Row .i64 bw lo hi w v zs) :
    Calls Try.prog 59 #[.agg #[.bool b, v]] w fun e w' => ∃ v', e = .returned (.agg #[.bool b, v']) ∧ Row .i64 true w.heap.size w'.heap.size w' v' zs ∧ Kept 0 0 w w' := by
  obtain ⟨a1, c1, rfl⟩ := Row.form' r
  go_enter Try.func59, Try.ntmps59
  go_wp2_with fail
  generalize hW : ((w.alloc (.cells #[.bool b, .slice a1 zs.length c1] 70)).alloc (.cells #[.bool false, .slice none 0 0] 42)).alloc (.cells #[.bool b, .slice none 0 0] 42) = W at *
  have hk : Kept 0 0 w W := by rw [← hW]; exact (((Kept.refl 0 0 w).alloc _).alloc _).alloc _
  have s1 := r.kept hk (by omega)
  have d0 : W.cell? ⟨w.heap.size + 1, 0, none⟩ = some (.bool false) := by rw [← hW]; exact old_cell _ (new_cell2 _ _ _ _ _ _ (by simp) rfl)
  have d1 : W.cell? ⟨w.heap.size + 1, 1, none⟩ = some (.slice none 0 0) := by rw [← hW]; exact old_cell _ (new_cell2 _ _ _ _ _ _ (by simp) rfl)
  have e0 : W.cell? ⟨w.heap.size + 1 + 1, 0, none⟩ = some (.bool b) := by rw [← hW]; exact new_cell2 _ _ _ _ _ _ (by simp) rfl
  have e1 : W.cell? ⟨w.heap.size + 1 + 1, 1, none⟩ = some (.slice none 0 0) := by rw [← hW]; exact new_cell2 _ _ _ _ _ _ (by simp) rfl
  have f0 : W.frozen? ⟨w.heap.size + 1, 0, none⟩ = false := by rw [← hW]; exact loose_old (by simp) (new_loose2 _ _ _ _ _ (by simp))
  have f1 : W.frozen? ⟨w.heap.size + 1, 1, none⟩ = false := by rw [← hW]; exact loose_old (by simp) (new_loose2 _ _ _ _ _ (by simp))
  have g1 : W.frozen? ⟨w.heap.size + 1 + 1, 1, none⟩ = false := by rw [← hW]; exact new_loose2 _ _ _ _ _ (by simp)
  have hs : W.heap.size = w.heap.size + 3 := by rw [← hW]; simp
  clear hW r
  refine (toNat_any _ hn s1).mono ?_
  rintro e w6 ⟨v6, rfl, r6, k6⟩
  replace d0 := k6.cell0 d0
  replace d1 := k6.cell0 d1
  replace e0 := k6.cell0 e0
  replace e1 := k6.cell0 e1
  replace f0 := k6.loose0 (by simp; omega) f0
  replace f1 := k6.loose0 (by simp; omega) f1
  replace g1 := k6.loose0 (by simp; omega) g1
  obtain ⟨a6, c6, rfl⟩ := Row.form' r6
  have K6 := hide (hk.trans k6)
  have R6 := hide r6
  have HS := hide hs
  clear s1 hk k6 r6 hs
  have R : Hid (Row .i64 true w.heap.size (((w6.setCell ⟨w.heap.size + 1 + 1, 1, none⟩ (.slice a6 zs.length c6)).setCell ⟨w.heap.size + 1, 0, none⟩ (.bool b)).setCell ⟨w.heap.size + 1, 1, none⟩ (.slice a6 zs.length c6)).heap.size (((w6.setCell ⟨w.heap.size + 1 + 1, 1, none⟩ (.slice a6 zs.length c6)).setCell ⟨w.heap.size + 1, 0, none⟩ (.bool b)).setCell ⟨w.heap.size + 1, 1, none⟩ (.slice a6 zs.length c6)) (.slice a6 zs.length c6) zs) :=
    ((((unhide R6).set_other (p := ⟨w.heap.size + 1 + 1, 1, none⟩) (by have := unhide HS; simp; omega) _).set_other (p := ⟨w.heap.size + 1, 0, none⟩) (by have := unhide HS; simp; omega) _).set_other (p := ⟨w.heap.size + 1, 1, none⟩) (by have := unhide HS; simp; omega) _).wider (by have := unhide HS; omega) (by simp [World.setCell])
  have K := hide ((((unhide K6).setNew (p := ⟨w.heap.size + 1 + 1, 1, none⟩) (by simp; omega) (.slice a6 zs.length c6)).setNew (p := ⟨w.heap.size + 1, 0, none⟩) (by simp) (.bool b)).setNew (p := ⟨w.heap.size + 1, 1, none⟩) (by simp) (.slice a6 zs.length c6))
  clear K6 R6 HS
  go_wp2
  exact bodyPost_ret (v := .agg #[.bool b, .slice a6 zs.length c6]) (by simp [results, Try.results59, go_sem, d0, d1]) rfl ⟨_, rfl, unhide R, unhide K⟩

end Go.Proofs.Ytoijdclblcmpaaa

namespace Go.Proofs.Ytoijdclblcmpaaa
open Go.RowKit
set_option linter.unusedVariables false
set_option maxRecDepth 8000
set_option linter.unusedSimpArgs false

theorem enters {P : Program} {n : FuncId} {F : Func} (hf : P.funcs[n]? = some F) (h1 : ¬ F.name = "runtime.NumGoroutine") (h2 : ¬ F.body = none) (w : World) (args : Array Value) : (callFunc n args).run P w = .ok (.enter n args) w := by
  simp [callFunc, hf, go_sem, h1, h2]
/-- A call of one argument. -/
theorem stp1 {P : Program} {ops : Array Oper} {o : Oper} {a : Act} {w : World} {K : Act → World → Prop} {Q : Exit → Act → World → Prop} {E : Prop} {R : Ending → World → Prop}
    (hg : o.guard = none) (n : FuncId) (x : Operand) (ts : Array TypeId) (hop : o.op = Op.call { callee := Callee.value (Operand.func n), args := #[x], argTypes := ts })
    (hcf : ∀ (w : World) (args : Array Value), (callFunc n args).run P w = .ok (.enter n args) w) (vx : Value) (hx : a.eval x = vx) (hc : Calls P n #[vx] w R) (hK : ∀ e w', R e w' → ∃ v, e = .returned v ∧ K (a.put o.dst v) w') :
    if Region.wanted o (yielded ops a.tmps) = true then Oper.wp P o a w K Q else E := by
  have hw : Region.wanted o (yielded ops a.tmps) = true := by simp [Region.wanted, hg]
  rw [if_pos hw]
  unfold Oper.wp
  have hrun : (execOp a.eval o).run P w = .ok (.enter n #[vx]) w := by
    have hfn : a.eval (.func n) = .func (.func n) #[] #[] := rfl
    simp [execOp, hop, resolve, invoke, hx, hfn, Deferred.ofValue, Result.andThen, hcf]
  rw [hrun, Oper.upon_enter]
  refine hc.mono ?_
  intro e w' h
  obtain ⟨v, rfl, h2⟩ := hK e w' h
  exact h2
/-- A call of two arguments. -/
theorem stp2 {P : Program} {ops : Array Oper} {o : Oper} {a : Act} {w : World} {K : Act → World → Prop} {Q : Exit → Act → World → Prop} {E : Prop} {R : Ending → World → Prop}
    (hg : o.guard = none) (n : FuncId) (x y : Operand) (ts : Array TypeId) (hop : o.op = Op.call { callee := Callee.value (Operand.func n), args := #[x, y], argTypes := ts })
    (hcf : ∀ (w : World) (args : Array Value), (callFunc n args).run P w = .ok (.enter n args) w) (vx vy : Value) (hx : a.eval x = vx) (hy : a.eval y = vy) (hc : Calls P n #[vx, vy] w R) (hK : ∀ e w', R e w' → ∃ v, e = .returned v ∧ K (a.put o.dst v) w') :
    if Region.wanted o (yielded ops a.tmps) = true then Oper.wp P o a w K Q else E := by
  have hw : Region.wanted o (yielded ops a.tmps) = true := by simp [Region.wanted, hg]
  rw [if_pos hw]
  unfold Oper.wp
  have hrun : (execOp a.eval o).run P w = .ok (.enter n #[vx, vy]) w := by
    have hfn : a.eval (.func n) = .func (.func n) #[] #[] := rfl
    simp [execOp, hop, resolve, invoke, hx, hy, hfn, Deferred.ofValue, Result.andThen, hcf]
  rw [hrun, Oper.upon_enter]
  refine hc.mono ?_
  intro e w' h
  obtain ⟨v, rfl, h2⟩ := hK e w' h
  exact h2

/-- A call of one argument, its guard decided. -/
theorem wps1 {P : Program} {o : Oper} {a : Act} {w : World} {K : Act → World → Prop} {Q : Exit → Act → World → Prop} {R : Ending → World → Prop}
    (n : FuncId) (x : Operand) (ts : Array TypeId) (hop : o.op = Op.call { callee := Callee.value (Operand.func n), args := #[x], argTypes := ts })
    (hcf : ∀ (w : World) (args : Array Value), (callFunc n args).run P w = .ok (.enter n args) w) (vx : Value) (hx : a.eval x = vx) (hc : Calls P n #[vx] w R) (hK : ∀ e w', R e w' → ∃ v, e = .returned v ∧ K (a.put o.dst v) w') :
    Oper.wp P o a w K Q := by
  unfold Oper.wp
  have hrun : (execOp a.eval o).run P w = .ok (.enter n #[vx]) w := by
    have hfn : a.eval (.func n) = .func (.func n) #[] #[] := rfl
    simp [execOp, hop, resolve, invoke, hx, hfn, Deferred.ofValue, Result.andThen, hcf]
  rw [hrun, Oper.upon_enter]
  refine hc.mono ?_
  intro e w' h
  obtain ⟨v, rfl, h2⟩ := hK e w' h
  exact h2
/-- A call of two arguments, its guard decided. -/
theorem wps2 {P : Program} {o : Oper} {a : Act} {w : World} {K : Act → World → Prop} {Q : Exit → Act → World → Prop} {R : Ending → World → Prop}
    (n : FuncId) (x y : Operand) (ts : Array TypeId) (hop : o.op = Op.call { callee := Callee.value (Operand.func n), args := #[x, y], argTypes := ts })
    (hcf : ∀ (w : World) (args : Array Value), (callFunc n args).run P w = .ok (.enter n args) w) (vx vy : Value) (hx : a.eval x = vx) (hy : a.eval y = vy) (hc : Calls P n #[vx, vy] w R) (hK : ∀ e w', R e w' → ∃ v, e = .returned v ∧ K (a.put o.dst v) w') :
    Oper.wp P o a w K Q := by
  unfold Oper.wp
  have hrun : (execOp a.eval o).run P w = .ok (.enter n #[vx, vy]) w := by
    have hfn : a.eval (.func n) = .func (.func n) #[] #[] := rfl
    simp [execOp, hop, resolve, invoke, hx, hy, hfn, Deferred.ofValue, Result.andThen, hcf]
  rw [hrun, Oper.upon_enter]
  refine hc.mono ?_
  intro e w' h
  obtain ⟨v, rfl, h2⟩ := hK e w' h
  exact h2

theorem in_l2norm : ∀ (w : World) (args : Array Value), (callFunc 133 args).run Try.prog w = .ok (.enter 133 args) w := enters Try.func133 (by decide) (fun h => by cases h)

theorem in_l2of : ∀ (w : World) (args : Array Value), (callFunc 121 args).run Try.prog w = .ok (.enter 121 args) w := enters Try.func121 (by decide) (fun h => by cases h)

theorem in_l2mul : ∀ (w : World) (args : Array Value), (callFunc 155 args).run Try.prog w = .ok (.enter 155 args) w := enters Try.func155 (by decide) (fun h => by cases h)

theorem in_l2cmp : ∀ (w : World) (args : Array Value), (callFunc 173 args).run Try.prog w = .ok (.enter 173 args) w := enters Try.func173 (by decide) (fun h => by cases h)

theorem in_l2sub : ∀ (w : World) (args : Array Value), (callFunc 150 args).run Try.prog w = .ok (.enter 150 args) w := enters Try.func150 (by decide) (fun h => by cases h)

theorem in_l2add : ∀ (w : World) (args : Array Value), (callFunc 120 args).run Try.prog w = .ok (.enter 120 args) w := enters Try.func120 (by decide) (fun h => by cases h)

theorem in_l3make : ∀ (w : World) (args : Array Value), (callFunc 149 args).run Try.prog w = .ok (.enter 149 args) w := enters Try.func149 (by decide) (fun h => by cases h)

theorem in_l3neg : ∀ (w : World) (args : Array Value), (callFunc 135 args).run Try.prog w = .ok (.enter 135 args) w := enters Try.func135 (by decide) (fun h => by cases h)

theorem in_l3fits : ∀ (w : World) (args : Array Value), (callFunc 112 args).run Try.prog w = .ok (.enter 112 args) w := enters Try.func112 (by decide) (fun h => by cases h)

end Go.Proofs.Ytoijdclblcmpaaa

namespace Go.Proofs.Ytoijdclblcmpaaa
open Go.RowKit
set_option linter.unusedVariables false
set_option maxRecDepth 8000
set_option linter.unusedSimpArgs false

/-- Is it a whole number as chapter 3 wants it? -/
def wokB (b : Bool) (zs : List Int) : Bool := okB zs && (!b || decide (0 < (zs.length : Int)))
/-- The number that a sign and limbs stand for. -/
def wval (b : Bool) (zs : List Int) : Int := if b = true then - val zs else val zs
theorem wok_int {b : Bool} {zs : List Int} (h : wokB b zs = true) : b = decide (wval b zs < 0) ∧ zs = limbs (wval b zs).natAbs ∧ zs.length ≤ 100 ∧ Nrm zs := by
  unfold wokB at h
  rw [Bool.and_eq_true] at h
  obtain ⟨h1, h2⟩ := h
  obtain ⟨h3, h4⟩ := (okB_iff zs).1 h1
  have h0 := val_nonneg h4.1
  have hl := nrm_limbs h4
  unfold wval
  cases b
  · refine ⟨?_, ?_, h3, h4⟩
    · simp; omega
    · simp
      rw [show (val zs).natAbs = (val zs).toNat by omega]; exact hl
  · simp at h2
    have hne : zs ≠ [] := by intro e; subst e; simp at h2
    have hp := nrm_pow h4 hne
    have hp0 : (0 : Int) < 65536 ^ (zs.length - 1) := Int.pow_pos (by decide)
    refine ⟨?_, ?_, h3, h4⟩
    · simp; omega
    · simp
      rw [show (val zs).natAbs = (val zs).toNat by omega]; exact hl
theorem wokB_bad {b : Bool} {zs : List Int} (h : okB zs = false) : wokB b zs = false := by unfold wokB; rw [h]; rfl

set_option maxHeartbeats 1000000 in
theorem wok_spec {bw : Bool} {lo hi : Nat} {v : Value} {zs : List Int} (b : Bool) (w : World) (r : Row .i64 bw lo hi w v zs) :
    Calls Try.prog 34 #[.agg #[.bool b, v]] w fun e w' => e = .returned (.bool (wokB b zs)) ∧ Kept 0 0 w w' := by
  have k0 := (Kept.refl 0 0 w).alloc (.cells #[.bool b, v] 42)
  have q := r.kept k0 (by omega)
  have c0 : (w.alloc (.cells #[.bool b, v] 42)).cell? ⟨w.heap.size, 0, none⟩ = some (.bool b) := new_cell2 _ _ _ _ _ _ rfl rfl
  have c1 : (w.alloc (.cells #[.bool b, v] 42)).cell? ⟨w.heap.size, 1, none⟩ = some v := new_cell2 _ _ _ _ _ _ rfl rfl
  obtain ⟨a, c, rfl⟩ := Row.form' r
  clear r
  go_enter Try.func34, Try.ntmps34
  go_wp2_with fail
  generalize w.alloc (.cells #[.bool b, .slice a zs.length c] 42) = W at *
  refine (ok_spec _ q).mono ?_
  rintro e w1 ⟨rfl, k1⟩
  replace c0 := k1.cell0 c0
  replace c1 := k1.cell0 c1
  have K := hide (k0.trans k1)
  clear k0 k1 q
  cases hok : okB zs
  · have HK := hide (wokB_bad (b := b) hok)
    clear hok
    go_wp2
    go_ret
    exact ⟨by rw [unhide HK]; rfl, unhide K⟩
  · have HK : Hid (wokB b zs = (!b || decide (0 < (zs.length : Int)))) := by show _ = _; unfold wokB; rw [hok]; rfl
    clear hok
    cases b
    · go_wp2
      go_ret
      exact ⟨by rw [unhide HK]; rfl, unhide K⟩
    · go_wp2
      go_ret
      exact ⟨by rw [unhide HK]; simp, unhide K⟩

set_option maxHeartbeats 1000000 in
theorem make_spec {bw : Bool} {lo hi : Nat} {v : Value} {zs : List Int} (b : Bool) (w : World) (r : Row .i64 bw lo hi w v zs) (hl : Lim zs) (hlen : zs.length ≤ 1000000) :
    Calls Try.prog 149 #[.bool b, .agg #[v]] w fun e w' => ∃ v', e = .returned (.agg #[.bool (b && decide (0 < zs.length)), v']) ∧ Row .i64 true w.heap.size w'.heap.size w' v' (limbs (val zs).toNat) ∧ Kept 0 0 w w' := by
  have k0 := ((Kept.refl 0 0 w).alloc (.cells #[v] 26)).alloc (.cells #[.bool false, .slice none 0 0] 42)
  have q := r.kept k0 (by omega)
  have c0 : ((w.alloc (.cells #[v] 26)).alloc (.cells #[.bool false, .slice none 0 0] 42)).cell? ⟨w.heap.size, 0, none⟩ = some v := old_cell _ (new_cell2 _ _ _ _ _ _ rfl rfl)
  have d0 : ((w.alloc (.cells #[v] 26)).alloc (.cells #[.bool false, .slice none 0 0] 42)).cell? ⟨w.heap.size + 1, 0, none⟩ = some (.bool false) := new_cell2 _ _ _ _ _ _ (by simp) rfl
  have d1 : ((w.alloc (.cells #[v] 26)).alloc (.cells #[.bool false, .slice none 0 0] 42)).cell? ⟨w.heap.size + 1, 1, none⟩ = some (.slice none 0 0) := new_cell2 _ _ _ _ _ _ (by simp) rfl
  have f0 : ((w.alloc (.cells #[v] 26)).alloc (.cells #[.bool false, .slice none 0 0] 42)).frozen? ⟨w.heap.size + 1, 0, none⟩ = false := new_loose2 _ _ _ _ _ (by simp)
  have f1 : ((w.alloc (.cells #[v] 26)).alloc (.cells #[.bool false, .slice none 0 0] 42)).frozen? ⟨w.heap.size + 1, 1, none⟩ = false := new_loose2 _ _ _ _ _ (by simp)
  obtain ⟨a, c, rfl⟩ := Row.form' r
  clear r
  obtain ⟨zz, hzz⟩ : ∃ zz, limbs (val zs).toNat = zz := ⟨_, rfl⟩
  rw [hzz]
  have HZ := hide hzz
  clear hzz
  cases b
  · go_enter Try.func149, Try.ntmps149
    go_wp2_with fail
    generalize (w.alloc (.cells #[.slice a zs.length c] 26)).alloc (.cells #[.bool false, .slice none 0 0] 42) = W at *
    have b0 := World.block_lt_of_cell? _ _ d0
    dsimp only at b0
    have qd := q.kept ((Kept.refl 0 0 _).drew) (by omega)
    have cd : W.drew.cell? ⟨w.heap.size, 0, none⟩ = some (.slice a zs.length c) := c0
    refine wp_region_held_drew (S := fun w' => w'.cell? ⟨w.heap.size, 0, none⟩ = some (.slice a zs.length c)) (by kernel_rfl) ?_ (fun hHeld => ?_)
    · exact cd
    refine wpAnyH_take (i := 0) (oi := _) (v := .bool false) rfl (by kernel_rfl) (by kernel_rfl) (by kernel_rfl) (fun _ _ _ h => h) (Or.inl ⟨by rfl, ?_⟩) hHeld ?_
    · intro w hSw
      try dsimp only at hSw
      go_simp
    try simp only [Act.put, List.getElem_toArray, List.getElem_cons_succ, List.getElem_cons_zero, List.setIfInBounds_toArray, List.set_cons_zero, List.set_cons_succ]
    refine wpAnyH_take (i := 1) (oi := _) (v := .bool false) rfl (by kernel_rfl) (by kernel_rfl) (by kernel_rfl) (fun _ _ _ h => h) (Or.inl ⟨by rfl, ?_⟩) hHeld ?_
    · intro w hSw
      try dsimp only at hSw
      go_simp
    try simp only [Act.put, List.getElem_toArray, List.getElem_cons_succ, List.getElem_cons_zero, List.setIfInBounds_toArray, List.set_cons_zero, List.set_cons_succ]
    refine wpAnyH_take (i := 2) (v := undef) rfl (by kernel_rfl) (by kernel_rfl) (by kernel_rfl) (fun _ _ _ h => h) (Or.inr ⟨by rfl, rfl⟩) hHeld ?_
    try simp only [Act.put, List.getElem_toArray, List.getElem_cons_succ, List.getElem_cons_zero, List.setIfInBounds_toArray, List.set_cons_zero, List.set_cons_succ]
    refine wpAnyH_take (i := 3) (v := undef) rfl (by kernel_rfl) (by kernel_rfl) (by kernel_rfl) (fun _ _ _ h => h) (Or.inr ⟨by rfl, rfl⟩) hHeld ?_
    try simp only [Act.put, List.getElem_toArray, List.getElem_cons_succ, List.getElem_cons_zero, List.setIfInBounds_toArray, List.set_cons_zero, List.set_cons_succ]
    refine wpAnyH_take (i := 4) (v := undef) rfl (by kernel_rfl) (by kernel_rfl) (by kernel_rfl) (fun _ _ _ h => h) (Or.inr ⟨by rfl, rfl⟩) hHeld ?_
    try simp only [Act.put, List.getElem_toArray, List.getElem_cons_succ, List.getElem_cons_zero, List.setIfInBounds_toArray, List.set_cons_zero, List.set_cons_succ]
    refine wpAnyH_take (i := 5) (v := undef) rfl (by kernel_rfl) (by kernel_rfl) (by kernel_rfl) (fun _ _ _ h => h) (Or.inr ⟨by rfl, rfl⟩) hHeld ?_
    try simp only [Act.put, List.getElem_toArray, List.getElem_cons_succ, List.getElem_cons_zero, List.setIfInBounds_toArray, List.set_cons_zero, List.set_cons_succ]
    refine wpAnyH_take (i := 6) (oi := _) (v := .bool false) rfl (by kernel_rfl) (by kernel_rfl) (by kernel_rfl) (fun _ _ _ h => h) (Or.inl ⟨by rfl, ?_⟩) hHeld ?_
    · intro w hSw
      try dsimp only at hSw
      go_simp
    try simp only [Act.put, List.getElem_toArray, List.getElem_cons_succ, List.getElem_cons_zero, List.setIfInBounds_toArray, List.set_cons_zero, List.set_cons_succ]
    refine wpAnyH_take (i := 7) (oi := _) (v := .pointer (some ⟨w.heap.size, 0, none⟩)) rfl (by kernel_rfl) (by kernel_rfl) (by kernel_rfl) (fun _ _ _ h => h) (Or.inl ⟨by rfl, ?_⟩) hHeld ?_
    · intro w hSw
      try dsimp only at hSw
      go_simp
    try simp only [Act.put, List.getElem_toArray, List.getElem_cons_succ, List.getElem_cons_zero, List.setIfInBounds_toArray, List.set_cons_zero, List.set_cons_succ]
    refine wpAnyH_take (i := 8) (oi := _) (v := .slice a zs.length c) rfl (by kernel_rfl) (by kernel_rfl) (by kernel_rfl) (fun _ _ _ h => h) (Or.inl ⟨by rfl, ?_⟩) hHeld ?_
    · intro w hSw
      try dsimp only at hSw
      go_simp
    try simp only [Act.put, List.getElem_toArray, List.getElem_cons_succ, List.getElem_cons_zero, List.setIfInBounds_toArray, List.set_cons_zero, List.set_cons_succ]
    refine wpAnyH_ready (rs := [9]) (by kernel_rfl) (by simp) ?_
    refine AllReadyH.cons rfl (fun K hK => ?_) AllReadyH.nil
    simp only [List.getElem_toArray, List.getElem_cons_succ, List.getElem_cons_zero]
    rw [if_pos (by rfl)]
    refine wps1 133 (.tmp 13) _ rfl in_l2norm (.slice a zs.length c) rfl (norm_spec _ qd hl hlen) ?_
    rintro e w3 ⟨v3, rfl, r3, k3⟩
    refine ⟨_, rfl, ?_⟩
    refine hK.out _ _ ?_ (fun hHeld => ?_)
    · exact k3.cell0 cd
    clear hK K
    try simp only [Act.put, List.getElem_toArray, List.getElem_cons_succ, List.getElem_cons_zero, List.setIfInBounds_toArray, List.set_cons_zero, List.set_cons_succ]
    have d03 := k3.cell0 (drew_cell d0)
    have d13 := k3.cell0 (drew_cell d1)
    have f03 := k3.loose0 b0 (drew_loose f0)
    have f13 := k3.loose0 b0 (drew_loose f1)
    have s3 := k3.size
    rw [unhide HZ] at r3
    obtain ⟨a3, e3, rfl⟩ := Row.form' r3
    refine wpAnyH_take (i := 10) (oi := _) (v := .agg #[.bool false, .slice a3 zz.length e3]) rfl (by kernel_rfl) (by kernel_rfl) (by kernel_rfl) (fun _ _ _ h => h) (Or.inl ⟨by rfl, ?_⟩) hHeld ?_
    · intro w hSw
      try dsimp only at hSw
      go_simp
    try simp only [Act.put, List.getElem_toArray, List.getElem_cons_succ, List.getElem_cons_zero, List.setIfInBounds_toArray, List.set_cons_zero, List.set_cons_succ]
    refine wpAnyH_ready (rs := [11]) (by kernel_rfl) (by simp) ?_
    refine AllReadyH.cons rfl (fun K hK => ?_) AllReadyH.nil
    simp only [List.getElem_toArray, List.getElem_cons_succ, List.getElem_cons_zero]
    rw [if_pos (by rfl)]
    go_simp
    refine hK.out _ _ ?_ (fun hHeld => ?_)
    · exact cell_aside _ (by simp) (cell_aside _ (by simp) (k3.cell0 cd))
    clear hK K
    try simp only [Act.put, List.getElem_toArray, List.getElem_cons_succ, List.getElem_cons_zero, List.setIfInBounds_toArray, List.set_cons_zero, List.set_cons_succ]
    refine wpAnyH_done (by kernel_rfl) ?_ _
    have R := hide (((r3.set_other (p := ⟨w.heap.size + 1, 0, none⟩) (.inl b0) (.bool false)).set_other (p := ⟨w.heap.size + 1, 1, none⟩) (.inl b0) (.slice a3 zz.length e3)).tight.wider (lo' := w.heap.size) (by have : W.drew.heap.size = W.heap.size := rfl; omega) (Nat.le_refl _))
    have K7 := hide ((((k0.drew).trans k3).setNew (p := ⟨w.heap.size + 1, 0, none⟩) (by simp) (.bool false)).setNew (p := ⟨w.heap.size + 1, 1, none⟩) (by simp) (.slice a3 zz.length e3))
    clear r3 k3 k0 q qd hHeld cd c0
    go_wp2
    exact bodyPost_ret (v := .agg #[.bool false, .slice a3 zz.length e3]) (by simp [results, Try.results149, go_sem, d03, d13]) rfl ⟨_, rfl, unhide R, unhide K7⟩
  · go_enter Try.func149, Try.ntmps149
    go_wp2_with fail
    generalize (w.alloc (.cells #[.slice a zs.length c] 26)).alloc (.cells #[.bool false, .slice none 0 0] 42) = W at *
    have b0 := World.block_lt_of_cell? _ _ d0
    dsimp only at b0
    have qd := q.kept ((Kept.refl 0 0 _).drew) (by omega)
    have cd : W.drew.cell? ⟨w.heap.size, 0, none⟩ = some (.slice a zs.length c) := c0
    refine wp_region_held_drew (S := fun w' => w'.cell? ⟨w.heap.size, 0, none⟩ = some (.slice a zs.length c)) (by kernel_rfl) ?_ (fun hHeld => ?_)
    · exact cd
    refine wpAnyH_take (i := 0) (oi := _) (v := .bool true) rfl (by kernel_rfl) (by kernel_rfl) (by kernel_rfl) (fun _ _ _ h => h) (Or.inl ⟨by rfl, ?_⟩) hHeld ?_
    · intro w hSw
      try dsimp only at hSw
      go_simp
    try simp only [Act.put, List.getElem_toArray, List.getElem_cons_succ, List.getElem_cons_zero, List.setIfInBounds_toArray, List.set_cons_zero, List.set_cons_succ]
    refine wpAnyH_take (i := 1) (oi := _) (v := .bool true) rfl (by kernel_rfl) (by kernel_rfl) (by kernel_rfl) (fun _ _ _ h => h) (Or.inl ⟨by rfl, ?_⟩) hHeld ?_
    · intro w hSw
      try dsimp only at hSw
      go_simp
    try simp only [Act.put, List.getElem_toArray, List.getElem_cons_succ, List.getElem_cons_zero, List.setIfInBounds_toArray, List.set_cons_zero, List.set_cons_succ]
    refine wpAnyH_take (i := 2) (oi := _) (v := .pointer (some ⟨w.heap.size, 0, none⟩)) rfl (by kernel_rfl) (by kernel_rfl) (by kernel_rfl) (fun _ _ _ h => h) (Or.inl ⟨by rfl, ?_⟩) hHeld ?_
    · intro w hSw
      try dsimp only at hSw
      go_simp
    try simp only [Act.put, List.getElem_toArray, List.getElem_cons_succ, List.getElem_cons_zero, List.setIfInBounds_toArray, List.set_cons_zero, List.set_cons_succ]
    refine wpAnyH_take (i := 3) (oi := _) (v := .slice a zs.length c) rfl (by kernel_rfl) (by kernel_rfl) (by kernel_rfl) (fun _ _ _ h => h) (Or.inl ⟨by rfl, ?_⟩) hHeld ?_
    · intro w hSw
      try dsimp only at hSw
      go_simp
    try simp only [Act.put, List.getElem_toArray, List.getElem_cons_succ, List.getElem_cons_zero, List.setIfInBounds_toArray, List.set_cons_zero, List.set_cons_succ]
    refine wpAnyH_take (i := 4) (oi := _) (v := .int .i64 zs.length) rfl (by kernel_rfl) (by kernel_rfl) (by kernel_rfl) (fun _ _ _ h => h) (Or.inl ⟨by rfl, ?_⟩) hHeld ?_
    · intro w hSw
      try dsimp only at hSw
      go_simp
    try simp only [Act.put, List.getElem_toArray, List.getElem_cons_succ, List.getElem_cons_zero, List.setIfInBounds_toArray, List.set_cons_zero, List.set_cons_succ]
    refine wpAnyH_take (i := 5) (oi := _) (v := .bool (decide (0 < zs.length))) rfl (by kernel_rfl) (by kernel_rfl) (by kernel_rfl) (fun _ _ _ h => h) (Or.inl ⟨by rfl, ?_⟩) hHeld ?_
    · intro w hSw
      try dsimp only at hSw
      go_simp
    try simp only [Act.put, List.getElem_toArray, List.getElem_cons_succ, List.getElem_cons_zero, List.setIfInBounds_toArray, List.set_cons_zero, List.set_cons_succ]
    refine wpAnyH_take (i := 6) (oi := _) (v := .bool (decide (0 < zs.length))) rfl (by kernel_rfl) (by kernel_rfl) (by kernel_rfl) (fun _ _ _ h => h) (Or.inl ⟨by rfl, ?_⟩) hHeld ?_
    · intro w hSw
      try dsimp only at hSw
      go_simp
    try simp only [Act.put, List.getElem_toArray, List.getElem_cons_succ, List.getElem_cons_zero, List.setIfInBounds_toArray, List.set_cons_zero, List.set_cons_succ]
    refine wpAnyH_take (i := 7) (oi := _) (v := .pointer (some ⟨w.heap.size, 0, none⟩)) rfl (by kernel_rfl) (by kernel_rfl) (by kernel_rfl) (fun _ _ _ h => h) (Or.inl ⟨by rfl, ?_⟩) hHeld ?_
    · intro w hSw
      try dsimp only at hSw
      go_simp
    try simp only [Act.put, List.getElem_toArray, List.getElem_cons_succ, List.getElem_cons_zero, List.setIfInBounds_toArray, List.set_cons_zero, List.set_cons_succ]
    refine wpAnyH_take (i := 8) (oi := _) (v := .slice a zs.length c) rfl (by kernel_rfl) (by kernel_rfl) (by kernel_rfl) (fun _ _ _ h => h) (Or.inl ⟨by rfl, ?_⟩) hHeld ?_
    · intro w hSw
      try dsimp only at hSw
      go_simp
    try simp only [Act.put, List.getElem_toArray, List.getElem_cons_succ, List.getElem_cons_zero, List.setIfInBounds_toArray, List.set_cons_zero, List.set_cons_succ]
    refine wpAnyH_ready (rs := [9]) (by kernel_rfl) (by simp) ?_
    refine AllReadyH.cons rfl (fun K hK => ?_) AllReadyH.nil
    simp only [List.getElem_toArray, List.getElem_cons_succ, List.getElem_cons_zero]
    rw [if_pos (by rfl)]
    refine wps1 133 (.tmp 13) _ rfl in_l2norm (.slice a zs.length c) rfl (norm_spec _ qd hl hlen) ?_
    rintro e w3 ⟨v3, rfl, r3, k3⟩
    refine ⟨_, rfl, ?_⟩
    refine hK.out _ _ ?_ (fun hHeld => ?_)
    · exact k3.cell0 cd
    clear hK K
    try simp only [Act.put, List.getElem_toArray, List.getElem_cons_succ, List.getElem_cons_zero, List.setIfInBounds_toArray, List.set_cons_zero, List.set_cons_succ]
    have d03 := k3.cell0 (drew_cell d0)
    have d13 := k3.cell0 (drew_cell d1)
    have f03 := k3.loose0 b0 (drew_loose f0)
    have f13 := k3.loose0 b0 (drew_loose f1)
    have s3 := k3.size
    rw [unhide HZ] at r3
    obtain ⟨a3, e3, rfl⟩ := Row.form' r3
    refine wpAnyH_take (i := 10) (oi := _) (v := .agg #[.bool (decide (0 < zs.length)), .slice a3 zz.length e3]) rfl (by kernel_rfl) (by kernel_rfl) (by kernel_rfl) (fun _ _ _ h => h) (Or.inl ⟨by rfl, ?_⟩) hHeld ?_
    · intro w hSw
      try dsimp only at hSw
      go_simp
    try simp only [Act.put, List.getElem_toArray, List.getElem_cons_succ, List.getElem_cons_zero, List.setIfInBounds_toArray, List.set_cons_zero, List.set_cons_succ]
    refine wpAnyH_ready (rs := [11]) (by kernel_rfl) (by simp) ?_
    refine AllReadyH.cons rfl (fun K hK => ?_) AllReadyH.nil
    simp only [List.getElem_toArray, List.getElem_cons_succ, List.getElem_cons_zero]
    rw [if_pos (by rfl)]
    go_simp
    refine hK.out _ _ ?_ (fun hHeld => ?_)
    · exact cell_aside _ (by simp) (cell_aside _ (by simp) (k3.cell0 cd))
    clear hK K
    try simp only [Act.put, List.getElem_toArray, List.getElem_cons_succ, List.getElem_cons_zero, List.setIfInBounds_toArray, List.set_cons_zero, List.set_cons_succ]
    refine wpAnyH_done (by kernel_rfl) ?_ _
    have R := hide (((r3.set_other (p := ⟨w.heap.size + 1, 0, none⟩) (.inl b0) (.bool (decide (0 < zs.length)))).set_other (p := ⟨w.heap.size + 1, 1, none⟩) (.inl b0) (.slice a3 zz.length e3)).tight.wider (lo' := w.heap.size) (by have : W.drew.heap.size = W.heap.size := rfl; omega) (Nat.le_refl _))
    have K7 := hide ((((k0.drew).trans k3).setNew (p := ⟨w.heap.size + 1, 0, none⟩) (by simp) (.bool (decide (0 < zs.length)))).setNew (p := ⟨w.heap.size + 1, 1, none⟩) (by simp) (.slice a3 zz.length e3))
    clear r3 k3 k0 q qd hHeld cd c0
    go_wp2
    exact bodyPost_ret (v := .agg #[.bool (decide (0 < zs.length)), .slice a3 zz.length e3]) (by simp [results, Try.results149, go_sem, d03, d13]) rfl ⟨_, rfl, unhide R, unhide K7⟩

end Go.Proofs.Ytoijdclblcmpaaa

namespace Go.Proofs.Ytoijdclblcmpaaa
open Go.RowKit
set_option linter.unusedVariables false
set_option maxRecDepth 8000
set_option linter.unusedSimpArgs false

/-- A whole number's sign, and the limbs of its size. -/
def wsg (x : Int) : Bool := decide (x < 0)
def wlm (x : Int) : List Int := limbs x.natAbs
theorem limbs_pos (n : Nat) : decide (0 < (limbs n).length) = decide (0 < n) := by
  by_cases h : n = 0
  · subst h; rfl
  · have : limbs n ≠ [] := fun e => h (limbs_eq_nil.1 e)
    rw [decide_eq_true (List.length_pos_iff.2 this), decide_eq_true (by omega)]
theorem wlm_lim (x : Int) : Lim (wlm x) := limbs_lim _
theorem wlm_nrm (x : Int) : Nrm (wlm x) := limbs_nrm _
theorem wlm_val (x : Int) : val (wlm x) = x.natAbs := limbs_val _
theorem wval_int (x : Int) : wval (wsg x) (wlm x) = x := by
  unfold wval; rw [wlm_val]; unfold wsg
  by_cases h : x < 0 <;> simp [h] <;> omega
theorem wlm_wval (b : Bool) {zs : List Int} (hl : Lim zs) : wlm (wval b zs) = limbs (val zs).toNat := by
  have := val_nonneg hl
  unfold wlm wval
  cases b <;> simp <;> congr 1 <;> omega
theorem wsg_wval (b : Bool) (n : Nat) : wsg (wval b (limbs n)) = (b && decide (0 < (limbs n).length)) := by
  rw [limbs_pos]
  unfold wsg wval
  rw [limbs_val]
  cases b <;> simp
theorem wok_of {b : Bool} {zs : List Int} (h : wokB b zs = true) : ∃ x : Int, wval b zs = x ∧ b = wsg x ∧ zs = wlm x ∧ (wlm x).length ≤ 100 := by
  obtain ⟨h1, h2, h3, -⟩ := wok_int h
  exact ⟨_, rfl, h1, h2, by unfold wlm; rw [← h2]; exact h3⟩

theorem mul_len {xs ys : List Int} (hx : Lim xs) (hy : Lim ys) (nx : xs.length ≤ 100000) (ny : ys.length ≤ 100000) : (limbs (val xs * val ys).toNat).length ≤ 1000000 := by
  have h := (limbs_length_le (val xs * val ys).toNat (xs.length + ys.length)).2 (by
    rw [Int.toNat_of_nonneg (Int.mul_nonneg (val_nonneg hx) (val_nonneg hy))]
    exact mul_lt_pow hx hy)
  omega
theorem mul_sgn (s1 s2 : Bool) {xs ys : List Int} (hx : Lim xs) (hy : Lim ys) : wval (!(s1 == s2)) (limbs (val xs * val ys).toNat) = wval s1 xs * wval s2 ys := by
  have h3 := val_nonneg hx
  have h4 := val_nonneg hy
  unfold wval
  rw [limbs_val, Int.toNat_of_nonneg (Int.mul_nonneg h3 h4)]
  cases s1 <;> cases s2 <;> simp [Int.neg_mul, Int.mul_neg]

theorem add_len {xs ys : List Int} (hx : Lim xs) (hy : Lim ys) (nx : xs.length ≤ 100000) (ny : ys.length ≤ 100000) (n : Nat) (hn : (n : Int) ≤ val xs + val ys) : (limbs n).length ≤ 1000000 := by
  have h := (limbs_length_le n (xs.length + ys.length + 1)).2 (by
    have h1 := val_lt hx
    have h2 := val_lt hy
    have e1 := pow_mono (a := xs.length) (b := xs.length + ys.length) (by omega)
    have e2 := pow_mono (a := ys.length) (b := xs.length + ys.length) (by omega)
    rw [Int.pow_succ]
    generalize (65536 : Int) ^ (xs.length + ys.length) = P at *
    omega)
  omega
theorem len_le_of_val {xs ys : List Int} (hx : Lim xs) (hy : Nrm ys) (h : val ys ≤ val xs) : ys.length ≤ xs.length := by
  rcases Nat.lt_or_ge xs.length ys.length with h1 | h1
  · have := val_lt_of_len hx hy h1; omega
  · exact h1

/-- The model's l3make at a number that has its limbs in their one form. -/
theorem make_any {bw : Bool} {lo hi : Nat} {v : Value} {zs : List Int} (b : Bool) (w : World) (r : Row .i64 bw lo hi w v zs) (hn : Nrm zs) (hlen : zs.length ≤ 1000000) :
    Calls Try.prog 149 #[.bool b, .agg #[v]] w fun e w' => ∃ v', e = .returned (.agg #[.bool (wsg (wval b zs)), v']) ∧ Row .i64 true w.heap.size w'.heap.size w' v' (wlm (wval b zs)) ∧ Kept 0 0 w w' := by
  refine (make_spec b w r hn.1 hlen).mono ?_
  rintro e w' ⟨v', rfl, r', k'⟩
  refine ⟨v', ?_, by rw [wlm_wval b hn.1]; exact r', k'⟩
  have e := nrm_limbs hn
  rw [e, wsg_wval]

set_option maxHeartbeats 1000000 in
theorem neg3_spec {bw : Bool} {lo hi : Nat} {v : Value} {zs : List Int} (b : Bool) (w : World) (r : Row .i64 bw lo hi w v zs) (hn : Nrm zs) (hl : zs.length ≤ 1000000) :
    Calls Try.prog 135 #[.agg #[.bool b, v]] w fun e w' => ∃ v', e = .returned (.agg #[.bool (wsg (- wval b zs)), v']) ∧ Row .i64 true w.heap.size w'.heap.size w' v' (wlm (- wval b zs)) ∧ Kept 0 0 w w' := by
  obtain ⟨X, hX⟩ : ∃ X : Int, X = - wval b zs := ⟨_, rfl⟩
  rw [← hX]
  obtain ⟨zz, hzz⟩ : ∃ zz, zz = wlm X := ⟨_, rfl⟩
  obtain ⟨ss, hss⟩ : ∃ ss, ss = wsg X := ⟨_, rfl⟩
  rw [← hzz, ← hss]
  have HX := hide hX
  have HZ := hide hzz
  have HS := hide hss
  clear hX hzz hss
  have k0 : Kept 0 0 w ((w.alloc (.cells #[.bool b, v] 42)).alloc (.cells #[.bool false, .slice none 0 0] 42)) := (((Kept.refl 0 0 w).alloc (.cells #[.bool b, v] 42)).alloc (.cells #[.bool false, .slice none 0 0] 42))
  have p0 : ((w.alloc (.cells #[.bool b, v] 42)).alloc (.cells #[.bool false, .slice none 0 0] 42)).cell? ⟨w.heap.size, 0, none⟩ = some (.bool b) := old_cell _ (new_cell2 _ _ _ _ _ _ (by simp) rfl)
  have p1 : ((w.alloc (.cells #[.bool b, v] 42)).alloc (.cells #[.bool false, .slice none 0 0] 42)).cell? ⟨w.heap.size, 1, none⟩ = some (v) := old_cell _ (new_cell2 _ _ _ _ _ _ (by simp) rfl)
  have q0 : ((w.alloc (.cells #[.bool b, v] 42)).alloc (.cells #[.bool false, .slice none 0 0] 42)).cell? ⟨w.heap.size + 1, 0, none⟩ = some (.bool false) := new_cell2 _ _ _ _ _ _ (by simp) rfl
  have qf0 : ((w.alloc (.cells #[.bool b, v] 42)).alloc (.cells #[.bool false, .slice none 0 0] 42)).frozen? ⟨w.heap.size + 1, 0, none⟩ = false := new_loose2 _ _ _ _ _ (by simp)
  have q1 : ((w.alloc (.cells #[.bool b, v] 42)).alloc (.cells #[.bool false, .slice none 0 0] 42)).cell? ⟨w.heap.size + 1, 1, none⟩ = some (.slice none 0 0) := new_cell2 _ _ _ _ _ _ (by simp) rfl
  have qf1 : ((w.alloc (.cells #[.bool b, v] 42)).alloc (.cells #[.bool false, .slice none 0 0] 42)).frozen? ⟨w.heap.size + 1, 1, none⟩ = false := new_loose2 _ _ _ _ _ (by simp)
  replace r := r.kept k0 (by omega)
  have s0 : ((w.alloc (.cells #[.bool b, v] 42)).alloc (.cells #[.bool false, .slice none 0 0] 42)).heap.size = w.heap.size + 2 := by simp
  obtain ⟨a, c, hv⟩ := Row.form' r
  subst hv
  have K := hide (k0)
  clear k0
  have S0 := hide s0
  clear s0
  go_enter Try.func135, Try.ntmps135
  go_wp2_with fail
  generalize ((w.alloc (.cells #[.bool b, .slice a zs.length c] 42)).alloc (.cells #[.bool false, .slice none 0 0] 42)) = W at *
  have mk := make_any (!b) W r hn hl
  rw [show wval (!b) zs = X from by rw [unhide HX]; unfold wval; cases b <;> simp, ← unhide HZ, ← unhide HS] at mk
  refine (mk).mono ?_
  rintro e w1 ⟨v3, rfl, r3, k1⟩
  replace r := r.kept k1 (by omega)
  replace qf0 := k1.loose0 (World.block_lt_of_cell? _ _ q0) qf0
  replace qf1 := k1.loose0 (World.block_lt_of_cell? _ _ q1) qf1
  replace p0 := k1.cell0 p0
  replace p1 := k1.cell0 p1
  replace q0 := k1.cell0 q0
  replace q1 := k1.cell0 q1
  replace K := hide ((unhide K).trans k1)
  have z2 := k1.size
  clear k1
  clear mk
  obtain ⟨a3, c3, hv⟩ := Row.form' r3
  subst hv
  have bX : w.heap.size + 1 < w1.heap.size := World.block_lt_of_cell? _ _ q0
  have R := hide (((r3.set_other (p := ⟨w.heap.size + 1, 0, none⟩) (.inl (by have := unhide S0; dsimp only; omega)) (.bool ss)).set_other (p := ⟨w.heap.size + 1, 1, none⟩) (.inl (by have := unhide S0; dsimp only; omega)) (.slice a3 zz.length c3)).tight.wider (lo' := w.heap.size) (by have := unhide S0; omega) (Nat.le_refl _))
  have K7 := hide (((unhide K).setNew (p := ⟨w.heap.size + 1, 0, none⟩) (by simp) (.bool ss)).setNew (p := ⟨w.heap.size + 1, 1, none⟩) (by simp) (.slice a3 zz.length c3))
  clear r r3 K
  go_wp2_with fail
  exact bodyPost_ret (v := .agg #[.bool ss, .slice a3 zz.length c3]) (by simp [results, Try.results135, go_sem, q0, q1]) rfl ⟨_, rfl, unhide R, unhide K7⟩

set_option maxHeartbeats 1000000 in
theorem fits3_spec {bw : Bool} {lo hi : Nat} {v : Value} {zs : List Int} (b : Bool) (w : World) (r : Row .i64 bw lo hi w v zs) :
    Calls Try.prog 112 #[.agg #[.bool b, v]] w fun e w' => e = .returned (.tuple #[.agg #[.bool (decide (zs.length ≤ 100) && b), if zs.length ≤ 100 then v else .slice none 0 0], .bool (decide (zs.length ≤ 100))]) ∧ Kept 0 0 w w' := by
  obtain ⟨a, c, rfl, q1, m1, q3⟩ := r
  unfold maxLen at m1
  clear q3
  by_cases h : 100 < (zs.length : Int)
  · have hn : ¬ zs.length ≤ 100 := by omega
    rw [if_neg hn, decide_eq_false hn]
    go_enter Try.func112, Try.ntmps112
    go_wp2
    exact bodyPost_ret (v := .tuple #[.agg #[.bool false, .slice none 0 0], .bool false]) (by simp [results, Try.results112, go_sem]) rfl ⟨rfl, ((Kept.refl _ _ _).alloc _).alloc _⟩
  · have hn : zs.length ≤ 100 := by omega
    rw [if_pos hn, decide_eq_true hn]
    go_enter Try.func112, Try.ntmps112
    go_wp2
    exact bodyPost_ret (v := .tuple #[.agg #[.bool b, .slice a zs.length c], .bool true]) (by simp [results, Try.results112, go_sem]) rfl ⟨rfl, ((Kept.refl _ _ _).alloc _).alloc _⟩

theorem add_sgn (s : Bool) {xs ys : List Int} (hx : Lim xs) (hy : Lim ys) : wval s (limbs (val xs + val ys).toNat) = wval s xs + wval s ys := by
  have h3 := val_nonneg hx
  have h4 := val_nonneg hy
  unfold wval
  rw [limbs_val, Int.toNat_of_nonneg (by omega)]
  cases s <;> simp <;> omega
theorem sub_sgn {s1 s2 : Bool} (h : s1 ≠ s2) {xs ys : List Int} (hle : val ys ≤ val xs) : wval s1 (limbs (val xs - val ys).toNat) = wval s1 xs + wval s2 ys := by
  unfold wval
  rw [limbs_val, Int.toNat_of_nonneg (by omega)]
  cases s1 <;> cases s2 <;> simp at h ⊢ <;> omega
theorem sub_sgn' {s1 s2 : Bool} (h : s1 ≠ s2) {xs ys : List Int} (hle : val xs ≤ val ys) : wval s2 (limbs (val ys - val xs).toNat) = wval s1 xs + wval s2 ys := by
  rw [Int.add_comm]; exact sub_sgn (fun e => h e.symm) hle

/-- A sign and limbs, of any length, that are told in their one way. -/
def WN (b : Bool) (zs : List Int) : Prop := Nrm zs ∧ (b = true → 0 < zs.length)
theorem wok_wn {b : Bool} {zs : List Int} (h : wokB b zs = true) : WN b zs := by
  refine ⟨(wok_int h).2.2.2, fun e => ?_⟩
  unfold wokB at h
  subst e
  simp at h
  exact List.length_pos_iff.2 (fun e => by subst e; simp at h)
theorem WN.int {b : Bool} {zs : List Int} (h : WN b zs) : b = decide (wval b zs < 0) ∧ zs = limbs (wval b zs).natAbs ∧ Nrm zs := by
  obtain ⟨h4, h2⟩ := h
  have h0 := val_nonneg h4.1
  have hl := nrm_limbs h4
  unfold wval
  cases b
  · refine ⟨?_, ?_, h4⟩
    · simp; omega
    · simp
      rw [show (val zs).natAbs = (val zs).toNat by omega]; exact hl
  · have hne : zs ≠ [] := List.length_pos_iff.1 (h2 rfl)
    have hp := nrm_pow h4 hne
    have hp0 : (0 : Int) < 65536 ^ (zs.length - 1) := Int.pow_pos (by decide)
    refine ⟨?_, ?_, h4⟩
    · simp; omega
    · simp
      rw [show (val zs).natAbs = (val zs).toNat by omega]; exact hl

set_option maxHeartbeats 1000000 in
theorem cmp3_wn {b1 b2 : Bool} {l1 h1 l2 h2 : Nat} {v1 v2 : Value} {xs ys : List Int} (s1 s2 : Bool) (w : World) (r1 : Row .i64 b1 l1 h1 w v1 xs) (r2 : Row .i64 b2 l2 h2 w v2 ys) (o1 : WN s1 xs) (o2 : WN s2 ys) :
    Calls Try.prog 147 #[.agg #[.bool s1, v1], .agg #[.bool s2, v2]] w fun e w' => e = .returned (.int .i64 (cmpI (wval s1 xs) (wval s2 ys))) ∧ Kept 0 0 w w' := by
  have k0 := ((Kept.refl 0 0 w).alloc (.cells #[.bool s1, v1] 42)).alloc (.cells #[.bool s2, v2] 42)
  have q1 := r1.kept k0 (by omega)
  have q2 := r2.kept k0 (by omega)
  obtain ⟨a1, c1, rfl⟩ := Row.form' r1
  obtain ⟨a2, c2, rfl⟩ := Row.form' r2
  obtain ⟨x1, x2, hx⟩ := o1.int
  obtain ⟨y1, y2, hy⟩ := o2.int
  have nx := val_nonneg hx.1
  have ny := val_nonneg hy.1
  have HK := hide k0
  clear r1 r2 k0 o1 o2 x2 y2
  cases s1 <;> cases s2
  · have e : cmpI (wval false xs) (wval false ys) = cmpI (val xs) (val ys) := by simp [wval]
    rw [e]
    clear x1 y1 e
    go_enter Try.func147, Try.ntmps147
    go_wp2_with fail
    refine (cmp_spec _ q1 q2 hx hy).mono ?_
    rintro e w6 ⟨rfl, k6⟩
    have K := hide ((unhide HK).trans k6)
    clear q1 q2 k6
    go_wp2
    go_ret
    exact ⟨rfl, unhide K⟩
  · have e : cmpI (wval false xs) (wval true ys) = 1 := by simp [wval] at y1 ⊢; unfold cmpI; rw [if_neg (by omega), if_pos (by omega)]
    rw [e]
    clear x1 y1 e q1 q2
    go_enter Try.func147, Try.ntmps147
    go_wp2
    go_ret
    exact ⟨rfl, unhide HK⟩
  · have e : cmpI (wval true xs) (wval false ys) = -1 := by simp [wval] at x1 ⊢; unfold cmpI; rw [if_pos (by omega)]
    rw [e]
    clear x1 y1 e q1 q2
    go_enter Try.func147, Try.ntmps147
    go_wp2
    go_ret
    exact ⟨rfl, unhide HK⟩
  · have e : cmpI (wval true xs) (wval true ys) = cmpI (val ys) (val xs) := by simp [wval]; unfold cmpI; split <;> split <;> (try split) <;> (try split) <;> omega
    rw [e]
    clear x1 y1 e
    go_enter Try.func147, Try.ntmps147
    go_wp2_with fail
    refine (cmp_spec _ q2 q1 hy hx).mono ?_
    rintro e w6 ⟨rfl, k6⟩
    have K := hide ((unhide HK).trans k6)
    clear q1 q2 k6
    go_wp2
    go_ret
    exact ⟨rfl, unhide K⟩

theorem cmp3_spec {b1 b2 : Bool} {l1 h1 l2 h2 : Nat} {v1 v2 : Value} {xs ys : List Int} (s1 s2 : Bool) (w : World) (r1 : Row .i64 b1 l1 h1 w v1 xs) (r2 : Row .i64 b2 l2 h2 w v2 ys) (o1 : wokB s1 xs = true) (o2 : wokB s2 ys = true) :
    Calls Try.prog 147 #[.agg #[.bool s1, v1], .agg #[.bool s2, v2]] w fun e w' => e = .returned (.int .i64 (cmpI (wval s1 xs) (wval s2 ys))) ∧ Kept 0 0 w w' := cmp3_wn s1 s2 w r1 r2 (wok_wn o1) (wok_wn o2)

theorem of_wlm (n : Int) (h : n < 0) : wval true (limbs (val (limbs (-(n + 1)).toNat) + val (limbs (1 : Int).toNat)).toNat) = n := by
  unfold wval; rw [limbs_val, limbs_val, limbs_val]; simp; omega
theorem of_wlm' (n : Int) (h : ¬ n < 0) : wval false (limbs n.toNat) = n := by
  unfold wval; rw [limbs_val]; simp; omega

set_option maxHeartbeats 4000000 in
theorem of3_spec (n : Int) (hn1 : n ≤ 9223372036854775807) (hn0 : -9223372036854775808 ≤ n) (w : World) :
    Calls Try.prog 144 #[.int .i64 n] w fun e w' => ∃ v', e = .returned (.agg #[.bool (wsg (n)), v']) ∧ Row .i64 true w.heap.size w'.heap.size w' v' (wlm (n)) ∧ Kept 0 0 w w' := by
  obtain ⟨zz, hzz⟩ : ∃ zz, zz = wlm n := ⟨_, rfl⟩
  obtain ⟨ss, hss⟩ : ∃ ss, ss = wsg n := ⟨_, rfl⟩
  rw [← hzz, ← hss]
  have HZ := hide hzz
  have HS := hide hss
  clear hzz hss
  have k0 : Kept 0 0 w (w.alloc (.cells #[.bool false, .slice none 0 0] 42)) := ((Kept.refl 0 0 w).alloc (.cells #[.bool false, .slice none 0 0] 42))
  have q0 : (w.alloc (.cells #[.bool false, .slice none 0 0] 42)).cell? ⟨w.heap.size, 0, none⟩ = some (.bool false) := new_cell2 _ _ _ _ _ _ (by simp) rfl
  have qf0 : (w.alloc (.cells #[.bool false, .slice none 0 0] 42)).frozen? ⟨w.heap.size, 0, none⟩ = false := new_loose2 _ _ _ _ _ (by simp)
  have q1 : (w.alloc (.cells #[.bool false, .slice none 0 0] 42)).cell? ⟨w.heap.size, 1, none⟩ = some (.slice none 0 0) := new_cell2 _ _ _ _ _ _ (by simp) rfl
  have qf1 : (w.alloc (.cells #[.bool false, .slice none 0 0] 42)).frozen? ⟨w.heap.size, 1, none⟩ = false := new_loose2 _ _ _ _ _ (by simp)
  have s0 : (w.alloc (.cells #[.bool false, .slice none 0 0] 42)).heap.size = w.heap.size + 1 := by simp
  have K := hide (k0)
  clear k0
  have S0 := hide s0
  clear s0
  by_cases h : n < 0
  · have h0 := limbs_int_length (-(n + 1)) (by omega)
    have hm : -(n + 1) ≤ 9223372036854775807 := by omega
    have h1 := limbs_int_length 1 (by omega)
    go_enter Try.func144, Try.ntmps144
    go_wp2_with fail
    generalize (w.alloc (.cells #[.bool false, .slice none 0 0] 42)) = W at *
    refine (of_spec _ (-(n + 1)) hm).mono ?_
    rintro e w1 ⟨v3, rfl, r3, k1⟩
    replace qf0 := k1.loose0 (World.block_lt_of_cell? _ _ q0) qf0
    replace qf1 := k1.loose0 (World.block_lt_of_cell? _ _ q1) qf1
    replace q0 := k1.cell0 q0
    replace q1 := k1.cell0 q1
    replace K := hide ((unhide K).trans k1)
    have z2 := k1.size
    clear k1
    go_wp2_with fail
    refine (of_spec _ 1 (by omega)).mono ?_
    rintro e w3 ⟨v4, rfl, r4, k3⟩
    replace r3 := r3.kept k3 (by omega)
    replace qf0 := k3.loose0 (World.block_lt_of_cell? _ _ q0) qf0
    replace qf1 := k3.loose0 (World.block_lt_of_cell? _ _ q1) qf1
    replace q0 := k3.cell0 q0
    replace q1 := k3.cell0 q1
    replace K := hide ((unhide K).trans k3)
    have z4 := k3.size
    clear k3
    go_wp2_with fail
    refine (add_spec _ r3 r4 (limbs_lim _) (limbs_lim _) (by omega) (by omega)).mono ?_
    rintro e w5 ⟨v5, rfl, r5, k5⟩
    replace r3 := r3.kept k5 (by omega)
    replace r4 := r4.kept k5 (by omega)
    replace qf0 := k5.loose0 (World.block_lt_of_cell? _ _ q0) qf0
    replace qf1 := k5.loose0 (World.block_lt_of_cell? _ _ q1) qf1
    replace q0 := k5.cell0 q0
    replace q1 := k5.cell0 q1
    replace K := hide ((unhide K).trans k5)
    have z6 := k5.size
    clear k5
    have hp : (limbs (val (limbs (-(n + 1)).toNat) + val (limbs (1 : Int).toNat)).toNat).length ≤ 1000000 := add_len (limbs_lim (-(n + 1)).toNat) (limbs_lim (1 : Int).toNat) (by omega) (by omega) _ (by rw [limbs_val, limbs_val]; omega)
    have mk := make_any true w5 r5 (limbs_nrm _) hp
    rw [of_wlm n h, ← unhide HZ, ← unhide HS] at mk
    go_wp2_with fail
    refine (mk).mono ?_
    rintro e w7 ⟨v6, rfl, r6, k7⟩
    replace r3 := r3.kept k7 (by omega)
    replace r4 := r4.kept k7 (by omega)
    replace r5 := r5.kept k7 (by omega)
    replace qf0 := k7.loose0 (World.block_lt_of_cell? _ _ q0) qf0
    replace qf1 := k7.loose0 (World.block_lt_of_cell? _ _ q1) qf1
    replace q0 := k7.cell0 q0
    replace q1 := k7.cell0 q1
    replace K := hide ((unhide K).trans k7)
    have z8 := k7.size
    clear k7
    clear mk
    obtain ⟨a6, c6, hv⟩ := Row.form' r6
    subst hv
    have bX : w.heap.size < w7.heap.size := World.block_lt_of_cell? _ _ q0
    have R := hide (((r6.set_other (p := ⟨w.heap.size, 0, none⟩) (.inl (by have := unhide S0; dsimp only; omega)) (.bool ss)).set_other (p := ⟨w.heap.size, 1, none⟩) (.inl (by have := unhide S0; dsimp only; omega)) (.slice a6 zz.length c6)).tight.wider (lo' := w.heap.size) (by have := unhide S0; omega) (Nat.le_refl _))
    have K7 := hide (((unhide K).setNew (p := ⟨w.heap.size, 0, none⟩) (by simp) (.bool ss)).setNew (p := ⟨w.heap.size, 1, none⟩) (by simp) (.slice a6 zz.length c6))
    clear r3 r4 r5 r6 K
    go_wp2_with fail
    exact bodyPost_ret (v := .agg #[.bool ss, .slice a6 zz.length c6]) (by simp [results, Try.results144, go_sem, q0, q1]) rfl ⟨_, rfl, unhide R, unhide K7⟩
  · have h0 := limbs_int_length n hn1
    go_enter Try.func144, Try.ntmps144
    go_wp2_with fail
    generalize (w.alloc (.cells #[.bool false, .slice none 0 0] 42)) = W at *
    refine (of_spec _ n hn1).mono ?_
    rintro e w1 ⟨v3, rfl, r3, k1⟩
    replace qf0 := k1.loose0 (World.block_lt_of_cell? _ _ q0) qf0
    replace qf1 := k1.loose0 (World.block_lt_of_cell? _ _ q1) qf1
    replace q0 := k1.cell0 q0
    replace q1 := k1.cell0 q1
    replace K := hide ((unhide K).trans k1)
    have z2 := k1.size
    clear k1
    have mk := make_any false w1 r3 (limbs_nrm _) (by omega)
    rw [of_wlm' n (by omega), ← unhide HZ, ← unhide HS] at mk
    go_wp2_with fail
    refine (mk).mono ?_
    rintro e w3 ⟨v6, rfl, r6, k3⟩
    replace r3 := r3.kept k3 (by omega)
    replace qf0 := k3.loose0 (World.block_lt_of_cell? _ _ q0) qf0
    replace qf1 := k3.loose0 (World.block_lt_of_cell? _ _ q1) qf1
    replace q0 := k3.cell0 q0
    replace q1 := k3.cell0 q1
    replace K := hide ((unhide K).trans k3)
    have z4 := k3.size
    clear k3
    clear mk
    obtain ⟨a6, c6, hv⟩ := Row.form' r6
    subst hv
    have bX : w.heap.size < w3.heap.size := World.block_lt_of_cell? _ _ q0
    have R := hide (((r6.set_other (p := ⟨w.heap.size, 0, none⟩) (.inl (by have := unhide S0; dsimp only; omega)) (.bool ss)).set_other (p := ⟨w.heap.size, 1, none⟩) (.inl (by have := unhide S0; dsimp only; omega)) (.slice a6 zz.length c6)).tight.wider (lo' := w.heap.size) (by have := unhide S0; omega) (Nat.le_refl _))
    have K7 := hide (((unhide K).setNew (p := ⟨w.heap.size, 0, none⟩) (by simp) (.bool ss)).setNew (p := ⟨w.heap.size, 1, none⟩) (by simp) (.slice a6 zz.length c6))
    clear r3 r6 K
    go_wp2_with fail
    exact bodyPost_ret (v := .agg #[.bool ss, .slice a6 zz.length c6]) (by simp [results, Try.results144, go_sem, q0, q1]) rfl ⟨_, rfl, unhide R, unhide K7⟩

end Go.Proofs.Ytoijdclblcmpaaa

namespace Go.Proofs.Ytoijdclblcmpaaa
open Go.RowKit
set_option linter.unusedVariables false
set_option maxRecDepth 8000
set_option linter.unusedSimpArgs false

/-- What is told: a whole number, if it is to be told and not too long. -/
def ansWB (c : Bool) (x : Int) : Bool := c && decide ((wlm x).length ≤ 100)
def ansWS (c : Bool) (x : Int) : Bool := ansWB c x && wsg x
def ansWL (c : Bool) (x : Int) : List Int := if ansWB c x = true then wlm x else []
theorem ansWB_no {c : Bool} {x : Int} (h : c = false) : ansWB c x = false := by unfold ansWB; rw [h]; rfl
theorem ansWS_no {c : Bool} {x : Int} (h : c = false) : ansWS c x = false := by unfold ansWS; rw [ansWB_no h]; rfl
theorem ansWL_no {c : Bool} {x : Int} (h : c = false) : ansWL c x = [] := by unfold ansWL; rw [ansWB_no h]; rfl
theorem ansWB_yes {c : Bool} {x : Int} (h : c = true) : ansWB c x = decide ((wlm x).length ≤ 100) := by unfold ansWB; rw [h]; rfl
theorem ansWL_len (c : Bool) (x : Int) : (ansWL c x).length ≤ 100 := by
  unfold ansWL ansWB
  split
  · rename_i h; simp at h; exact h.2
  · simp
/-- What a long whole number is told as: nought. -/
theorem ansW_told {c : Bool} {x : Int} (h : c = true) {lo hi : Nat} {w : World} {v : Value} (r : Row .i64 true lo hi w v (wlm x)) :
    ∃ v', (if (wlm x).length ≤ 100 then v else .slice none 0 0) = v' ∧ (decide ((wlm x).length ≤ 100) && wsg x) = ansWS c x ∧ decide ((wlm x).length ≤ 100) = ansWB c x ∧ Row .i64 true lo hi w v' (ansWL c x) := by
  by_cases hl : (wlm x).length ≤ 100
  · refine ⟨v, by rw [if_pos hl], by unfold ansWS; rw [ansWB_yes h], (ansWB_yes h).symm, ?_⟩
    unfold ansWL
    rw [ansWB_yes h, decide_eq_true hl, if_pos rfl]
    exact r
  · refine ⟨_, by rw [if_neg hl], by unfold ansWS; rw [ansWB_yes h], (ansWB_yes h).symm, ?_⟩
    unfold ansWL
    rw [ansWB_yes h, decide_eq_false hl, if_neg (by simp)]
    exact Row.nil _ _ _ _ _

/-- What WholeCmp tells. -/
def cmpW (s1 : Bool) (xs : List Int) (s2 : Bool) (ys : List Int) : Int := if wokB s1 xs = true ∧ wokB s2 ys = true then cmpI (wval s1 xs) (wval s2 ys) else 0
theorem cmpW_bad1 {s1 s2 : Bool} {xs ys : List Int} (h : wokB s1 xs = false) : cmpW s1 xs s2 ys = 0 := by unfold cmpW; rw [if_neg (fun e => by rw [h] at e; cases e.1)]
theorem cmpW_bad2 {s1 s2 : Bool} {xs ys : List Int} (h : wokB s2 ys = false) : cmpW s1 xs s2 ys = 0 := by unfold cmpW; rw [if_neg (fun e => by rw [h] at e; cases e.2)]
theorem cmpW_ok {s1 s2 : Bool} {xs ys : List Int} (h1 : wokB s1 xs = true) (h2 : wokB s2 ys = true) : cmpW s1 xs s2 ys = cmpI (wval s1 xs) (wval s2 ys) := by unfold cmpW; rw [if_pos ⟨h1, h2⟩]

/-- What WholeNeg tells. -/
def negW (b : Bool) (zs : List Int) : Int := if wokB b zs = true then - wval b zs else 0
theorem negW_len (b : Bool) (zs : List Int) : (wlm (negW b zs)).length ≤ 100 := by
  unfold negW
  split
  · rename_i h
    obtain ⟨-, h2, h3, h4⟩ := wok_int h
    rw [show wlm (- wval b zs) = wlm (wval b zs) from by unfold wlm; simp]
    unfold wlm
    rw [← h2]; exact h3
  · simp [wlm, limbs_zero]

set_option maxHeartbeats 1000000 in
theorem wOf_spec (n : Int) (hn1 : n ≤ 9223372036854775807) (hn0 : -9223372036854775808 ≤ n) (w : World) :
    Calls Try.prog 104 #[.int .i64 n] w fun e w' => ∃ v', e = .returned (.agg #[.bool (wsg n), v']) ∧ Row .i64 true w.heap.size w'.heap.size w' v' (wlm n) ∧ Kept 0 0 w w' := by
  obtain ⟨zz, hzz⟩ : ∃ zz, zz = wlm n := ⟨_, rfl⟩
  obtain ⟨ss, hss⟩ : ∃ ss, ss = wsg n := ⟨_, rfl⟩
  rw [← hzz, ← hss]
  have HZ := hide hzz
  have HS := hide hss
  clear hzz hss
  have k0 : Kept 0 0 w (w.alloc (.cells #[.bool false, .slice none 0 0] 42)) := ((Kept.refl 0 0 w).alloc (.cells #[.bool false, .slice none 0 0] 42))
  have q0 : (w.alloc (.cells #[.bool false, .slice none 0 0] 42)).cell? ⟨w.heap.size, 0, none⟩ = some (.bool false) := new_cell2 _ _ _ _ _ _ (by simp) rfl
  have qf0 : (w.alloc (.cells #[.bool false, .slice none 0 0] 42)).frozen? ⟨w.heap.size, 0, none⟩ = false := new_loose2 _ _ _ _ _ (by simp)
  have q1 : (w.alloc (.cells #[.bool false, .slice none 0 0] 42)).cell? ⟨w.heap.size, 1, none⟩ = some (.slice none 0 0) := new_cell2 _ _ _ _ _ _ (by simp) rfl
  have qf1 : (w.alloc (.cells #[.bool false, .slice none 0 0] 42)).frozen? ⟨w.heap.size, 1, none⟩ = false := new_loose2 _ _ _ _ _ (by simp)
  have s0 : (w.alloc (.cells #[.bool false, .slice none 0 0] 42)).heap.size = w.heap.size + 1 := by simp
  have K := hide (k0)
  clear k0
  have S0 := hide s0
  clear s0
  go_enter Try.func104, Try.ntmps104
  go_wp2_with fail
  generalize (w.alloc (.cells #[.bool false, .slice none 0 0] 42)) = W at *
  have mk := of3_spec n hn1 hn0 W
  rw [← unhide HZ, ← unhide HS] at mk
  refine (mk).mono ?_
  rintro e w1 ⟨v3, rfl, r3, k1⟩
  replace qf0 := k1.loose0 (World.block_lt_of_cell? _ _ q0) qf0
  replace qf1 := k1.loose0 (World.block_lt_of_cell? _ _ q1) qf1
  replace q0 := k1.cell0 q0
  replace q1 := k1.cell0 q1
  replace K := hide ((unhide K).trans k1)
  have z2 := k1.size
  clear k1
  clear mk
  obtain ⟨a3, c3, hv⟩ := Row.form' r3
  subst hv
  have bX : w.heap.size < w1.heap.size := World.block_lt_of_cell? _ _ q0
  have R := hide (((r3.set_other (p := ⟨w.heap.size, 0, none⟩) (.inl (by have := unhide S0; dsimp only; omega)) (.bool ss)).set_other (p := ⟨w.heap.size, 1, none⟩) (.inl (by have := unhide S0; dsimp only; omega)) (.slice a3 zz.length c3)).tight.wider (lo' := w.heap.size) (by have := unhide S0; omega) (Nat.le_refl _))
  have K7 := hide (((unhide K).setNew (p := ⟨w.heap.size, 0, none⟩) (by simp) (.bool ss)).setNew (p := ⟨w.heap.size, 1, none⟩) (by simp) (.slice a3 zz.length c3))
  clear r3 K
  go_wp2_with fail
  exact bodyPost_ret (v := .agg #[.bool ss, .slice a3 zz.length c3]) (by simp [results, Try.results104, go_sem, q0, q1]) rfl ⟨_, rfl, unhide R, unhide K7⟩

end Go.Proofs.Ytoijdclblcmpaaa

namespace Go.Proofs.Ytoijdclblcmpaaa
open Go.RowKit
set_option linter.unusedVariables false
set_option maxRecDepth 8000

/-- Behind its first cell block g is as it was. -/
def SameSide (g : Nat) (w w' : World) : Prop := ∀ o, 1 ≤ o → w'.cell? ⟨g, o, none⟩ = w.cell? ⟨g, o, none⟩ ∧ w'.frozen? ⟨g, o, none⟩ = w.frozen? ⟨g, o, none⟩
theorem SameSide.refl (g : Nat) (w : World) : SameSide g w w := fun _ _ => ⟨rfl, rfl⟩
theorem SameSide.trans {g : Nat} {a b c : World} (h : SameSide g a b) (k : SameSide g b c) : SameSide g a c := fun o ho => ⟨(k o ho).1.trans (h o ho).1, (k o ho).2.trans (h o ho).2⟩
theorem SameSide.drewN {g : Nat} {a w : World} (h : SameSide g a w) (n : Nat) : SameSide g a (w.drewN n) := h
theorem side_setAt (w : World) (g p o : Nat) (u : Value) (ho : p ≠ o) : (w.setCell ⟨g, p, none⟩ u).cell? ⟨g, o, none⟩ = w.cell? ⟨g, o, none⟩ := by
  unfold World.cell? World.setCell
  simp only [Array.getElem?_modify]
  cases hb : w.heap[g]? with
  | none => simp
  | some b => cases b <;> simp [ho]
theorem side_set (w : World) (g : Nat) (u : Value) : (w.setCell ⟨g, 0, none⟩ u).cell? ⟨g, 1, none⟩ = w.cell? ⟨g, 1, none⟩ := side_setAt w g 0 1 u (by decide)
theorem SameSide.set0 {g : Nat} {a w : World} (h : SameSide g a w) (u : Value) : SameSide g a (w.setCell ⟨g, 0, none⟩ u) :=
  fun o ho => ⟨(side_setAt w g 0 o u (by omega)).trans (h o ho).1, (frozen_set w g 0 _ u).trans (h o ho).2⟩
theorem SameSide.far {g : Nat} {a w : World} (h : SameSide g a w) {p o : Nat} (hp : p ≠ g) (u : Value) : SameSide g a (w.setCell ⟨p, o, none⟩ u) :=
  fun q hq => ⟨(World.cell?_of_block (w := w) (a := ⟨g, q, none⟩) (Below.heap_setCell _ _ _ _ (fun e => hp e.symm))).trans (h q hq).1, (frozen_set w p o _ u).trans (h q hq).2⟩
theorem SameSide.ofBlock {g : Nat} {w w' : World} (h : w'.heap[g]? = w.heap[g]?) : SameSide g w w' :=
  fun q hq => ⟨World.cell?_of_block (w := w) (a := ⟨g, q, none⟩) h, World.frozen?_of_block (w := w) (a := ⟨g, q, none⟩) h⟩
theorem Kept.side {g : Nat} {w w' : World} (k : Kept 0 0 w w') (hg : g < w.heap.size) : SameSide g w w' := SameSide.ofBlock (k.block g hg (by omega))
theorem Mod.side {S : Nat → Prop} {g : Nat} {w w' : World} (k : Mod S w w') (hg : g < w.heap.size) (hS : ¬ S g) : SameSide g w w' := SameSide.ofBlock (k.block g hg hS)

/-- Behind its first two cells block g is as it was. -/
def SameTail (g : Nat) (w w' : World) : Prop := ∀ o, 2 ≤ o → w'.cell? ⟨g, o, none⟩ = w.cell? ⟨g, o, none⟩ ∧ w'.frozen? ⟨g, o, none⟩ = w.frozen? ⟨g, o, none⟩
theorem SameTail.refl (g : Nat) (w : World) : SameTail g w w := fun _ _ => ⟨rfl, rfl⟩
theorem SameTail.trans {g : Nat} {a b c : World} (h : SameTail g a b) (k : SameTail g b c) : SameTail g a c := fun o ho => ⟨(k o ho).1.trans (h o ho).1, (k o ho).2.trans (h o ho).2⟩
theorem SameTail.drew {g : Nat} {a w : World} (h : SameTail g a w) : SameTail g a w.drew := h
theorem SameTail.drewN {g : Nat} {a w : World} (h : SameTail g a w) (n : Nat) : SameTail g a (w.drewN n) := h
theorem SameSide.tail {g : Nat} {w w' : World} (h : SameSide g w w') : SameTail g w w' := fun o ho => h o (by omega)
theorem SameTail.set1 {g : Nat} {a w : World} (h : SameTail g a w) (u : Value) : SameTail g a (w.setCell ⟨g, 1, none⟩ u) :=
  fun o ho => ⟨(side_setAt w g 1 o u (by omega)).trans (h o ho).1, (frozen_set w g 1 _ u).trans (h o ho).2⟩

set_option maxHeartbeats 4000000 in
theorem trim_side {b g : Nat} {v : Value} {zs : List Int} (w : World) (h : Num b w g v zs) (hl : Lim zs) :
    Calls Try.prog 125 #[.pointer (some ⟨g, 0, none⟩)] w fun e w' => (∃ r, e = .returned r) ∧ ∃ u, Num b w' g u (limbs (val zs).toNat) ∧ u.ownBlock = v.ownBlock ∧ Mod (fun i => i = g) w w' ∧ SameSide g w w' := by
  have hm := h.row.len
  unfold maxLen at hm
  have HL := hide hl
  clear hl
  go_enter Try.func125, Try.ntmps125
  go_wp2
  go_loopw [] (fun wr => ∃ (m : Nat) (u : Value), m ≤ zs.length ∧ Hid (∀ i, m ≤ i → i < zs.length → zs.getD i 0 = 0) ∧ Num b wr g u (zs.take m) ∧ Hid (u.ownBlock = v.ownBlock) ∧ Mod (fun i => i = g) w wr ∧ SameSide g w wr) (fun wr => lenAt wr g)
  case atStart => exact ⟨zs.length, v, Nat.le_refl _, hide (fun i h1 h2 => by omega), by rw [List.take_length]; exact h, hide rfl, Mod.refl _ _, SameSide.refl _ _⟩
  case round =>
    clear h
    obtain ⟨m, u, hmz, hz, n, ho, hmod, hsd⟩ := hrel
    have SS := hide hsd
    clear hsd
    have hlen : (zs.take m).length = m := by simp; omega
    have hlo := n.loose
    by_cases h0 : m = 0
    · subst h0
      obtain ⟨a1, c1, hv⟩ := n.form
      rw [hlen] at hv
      subst hv
      have hce := n.cell
      have e1 := take_limbs zs (unhide HL) 0 (by omega) (unhide hz) (.inl rfl)
      rw [e1] at n
      have NN := hide n
      have MM := hide hmod
      have hd : decide ((0 : Int) < ((0 : Nat) : Int)) = false := rfl
      clear e1 n hmod hlen hz
      go_wp2
      go_quiet (fail)
      go_wp2
      exact bodyPost_end (v := .tuple #[]) (by simp [results, Try.results125, go_sem]) rfl ⟨⟨_, rfl⟩, _, (unhide NN).kept ((Kept.refl 0 0 _).drewN _), unhide ho, (unhide MM).drewN _, (unhide SS).drewN _⟩
    · obtain ⟨gb, cap, hv, hxz, hfz, hgb⟩ := n.at (m - 1) (by omega)
      rw [hlen] at hv
      subst hv
      have hce := n.cell
      have hz1 : (zs.take m).getD (m - 1) 0 = zs.getD (m - 1) 0 := by
        simp only [List.getD, List.getElem?_take]
        rw [if_pos (by omega)]
      rw [hz1] at hxz
      have hpos : (0 : Int) < (m : Int) := by omega
      have hposN : 0 < m := by omega
      have h1m : (1 : Int) ≤ (m : Int) := by omega
      have hcap : (m : Int) - 1 ≤ (cap : Int) := by
        have h5 := n.own
        rw [hlen] at h5
        obtain ⟨g5, cap5, e5, -, h6, -⟩ := own_form h5 (by omega)
        cases e5
        omega
      have ew : IntKind.i64.wrap ((m : Int) - 1) = (m : Int) - 1 := wrap_small _ (by omega) (by omega)
      have et : ((m : Int) - 1).toNat = m - 1 := by omega
      have hi0 : (0 : Int) ≤ (m : Int) - 1 := by omega
      have hi1 : (m : Int) - 1 < (m : Int) := by omega
      have hz1' : ∀ z, zs.getD (m - 1) 0 = z → (z = 0 → ∀ i, m - 1 ≤ i → i < zs.length → zs.getD i 0 = 0) ∧ (z ≠ 0 → zs.take m = limbs (val zs).toNat) := by
        intro z e
        refine ⟨fun e0 i h1 h2 => ?_, fun e0 => take_limbs zs (unhide HL) m (by omega) (unhide hz) (.inr (by rw [e]; exact e0))⟩
        by_cases h3 : i = m - 1
        · rw [h3, e, e0]
        · exact unhide hz i (by omega) h2
      generalize zs.getD (m - 1) 0 = zl at *
      obtain ⟨hza, hzb⟩ := hz1' zl rfl
      clear hz1' hz
      by_cases hzz : zl = 0
      · subst hzz
        have HZ := hide (hza rfl)
        have NC := hide (fun k => (n.kept ((Kept.refl 0 0 _).drewN k)).cut hlen.symm (m - 1) (by omega))
        have MC := hide (fun k => (hmod.drewN k).set (p := ⟨g, 0, none⟩) (.inl rfl) (.slice (some ⟨gb, 0, none⟩) (m - 1) cap))
        have e1 : (zs.take m).take (m - 1) = zs.take (m - 1) := by rw [List.take_take, Nat.min_eq_left (by omega)]
        have E1 := hide e1
        clear hza hzb n hmod hlen e1
        go_wp2
        go_quiet (fail)
        go_wp2
        go_region
        go_wp2
        go_roundw
        case rel => exact ⟨m - 1, .slice (some ⟨gb, 0, none⟩) (m - 1) cap, by omega, HZ, by rw [← unhide E1]; exact unhide NC _, hide (unhide ho), unhide MC _, ((unhide SS).drewN _).set0 _⟩
        case measure => rw [lenAt_of hce, lenAt_of (unhide NC _).cell]; omega
      · have e1 := hzb hzz
        rw [e1] at n
        have NN := hide n
        have MM := hide hmod
        have hb : (zl == 0) = false := beq_eq_false_iff_ne.2 hzz
        clear e1 n hmod hlen hza hzb
        go_wp2
        go_quiet (fail)
        go_wp2
        exact bodyPost_end (v := .tuple #[]) (by simp [results, Try.results125, go_sem]) rfl ⟨⟨_, rfl⟩, _, (unhide NN).kept ((Kept.refl 0 0 _).drewN _), unhide ho, (unhide MM).drewN _, (unhide SS).drewN _⟩

set_option maxHeartbeats 8000000 in
theorem multiply_side {b1 b2 g1 g2 : Nat} {v1 v2 : Value} {xs ys : List Int} (w : World) (n1 : Num b1 w g1 v1 xs) (n2 : Num b2 w g2 v2 ys) (hx : Lim xs) (hy : Lim ys) (nx : xs.length ≤ 100000) (ny : ys.length ≤ 100000) :
    Calls Try.prog 78 #[.pointer (some ⟨g1, 0, none⟩), .pointer (some ⟨g2, 0, none⟩)] w fun e w' => (∃ r, e = .returned r) ∧ ∃ u, Num w.heap.size w' g1 u (limbs (val xs * val ys).toNat) ∧ Mod (fun i => i = g1) w w' ∧ SameSide g1 w w' := by
  obtain ⟨M, hM⟩ : ∃ M, M = xs.length := ⟨_, rfl⟩
  obtain ⟨N, hN⟩ : ∃ N, N = ys.length := ⟨_, rfl⟩
  obtain ⟨a1, c1, hv1⟩ := n1.form
  obtain ⟨a2, c2, hv2⟩ := n2.form
  rw [← hM] at hv1
  rw [← hN] at hv2
  subst hv1
  subst hv2
  have hnx : M ≤ 100000 := by omega
  have hny : N ≤ 100000 := by omega
  have HM := hide hM
  have HN := hide hN
  have N1 := hide n1
  have N2 := hide n2
  clear hM hN nx ny n1 n2
  obtain ⟨P, HP⟩ : ∃ P, Hid (val xs * val ys = P) := ⟨_, rfl⟩
  obtain ⟨T, hT⟩ : ∃ T, T = M + N := ⟨_, rfl⟩
  have hnT : T ≤ 200000 := by omega
  have HT := hide hT
  have hTT : (M : Int) + (N : Int) = (T : Int) := by omega
  have HA1 := hide ((row_cell (unhide N1).row).2.2.2)
  have HA2 := hide ((row_cell (unhide N2).row).2.2.2)
  clear hT
  obtain ⟨i0, hi0, hz0, hz1, hz2⟩ := info_parts Try.info3'
  obtain ⟨w2, hrun, hown2, hgrow2⟩ := run_make_full (P := Try.prog) w.drew w.heap.size 24 3 i0 (.int .i64 0) 1 Try.underlying24 hi0 hz0 hz1 .i64 .i64 T (by rw [hz2]; omega) (by unfold maxLen; omega) (Nat.le_refl _)
  have hf0 := made_fresh (Kept.refl 0 0 w).drew hown2 hgrow2
  have HF := hide hf0
  have hce1 := hf0.k.cell0 (unhide N1).cell
  have hce2 := hf0.k.cell0 (unhide N2).cell
  have hce1w := (unhide N1).cell
  have hce2w := (unhide N2).cell
  obtain ⟨G, hG0⟩ : ∃ G, G = w.drew.heap.size := ⟨_, rfl⟩
  rw [← hG0] at hrun HF
  clear hown2 hgrow2 hf0 hG0 hi0 hz0 hz1 hz2
  go_enter Try.func78, Try.ntmps78
  go_wp2
  go_region
  clear hrun
  go_wp2
  clear hce1 hce2 hce1w hce2w
  go_loopw [29] (fun ii wr => ∃ (ss : List Int) (i : Nat), ii = .int .i64 (i : Int) ∧ i ≤ M ∧ ss.length = T ∧ Bnd ((i : Int) * 4294836225) ss ∧ Hid (val ss = val (xs.take i) * val ys) ∧ Fresh w wr (.slice (some ⟨G, 0, none⟩) T T) ss) (fun ii _ => M - (intOf ii).toNat)
  case atStart => exact ⟨List.replicate T 0, 0, rfl, Nat.zero_le _, by simp, by simpa using Bnd.zeros T, by show _ = _; rw [val_zeros]; simp [val], unhide HF⟩
  case round =>
    clear HF
    obtain ⟨ss, i, rfl, hi, hs, hb, hV, hf⟩ := hrel
    have hce2 := hf.k.cell0 (unhide N2).cell
    by_cases hA : i < M
    · have hi1 : (i : Int) < (M : Int) := by omega
      have hx0 := hx.at i
      obtain ⟨gA, oA, rfl, x1⟩ := unhide HA1 i (by have := unhide HM; omega)
      have x1' := hf.k.cell0 x1
      have hts := val_take_succ xs i (by rw [← unhide HM]; omega)
      have HTS := hide hts
      have HF2 := hide hf
      have HV := hide (unhide hV)
      have HB := hide hb
      generalize hva : xs.getD i 0 = va at *
      have HVA := hide hva
      clear hts hV hva x1 hf hb
      go_wp2
      clear hce2 x1'
      go_loopw [39] (fun kk wr => ∃ (ss' : List Int) (k : Nat), kk = .int .i64 (k : Int) ∧ k ≤ N ∧ ss'.length = T ∧ Hid (Bnd ((i : Int) * 4294836225 + 4294836225) ss') ∧ Hid (∀ q, i + k ≤ q → ss'.getD q 0 ≤ (i : Int) * 4294836225) ∧ Hid (val ss' = val (xs.take i) * val ys + 65536 ^ i * (va * val (ys.take k))) ∧ Fresh w wr (.slice (some ⟨G, 0, none⟩) T T) ss') (fun kk _ => N - (intOf kk).toNat)
      case atStart => exact ⟨ss, 0, rfl, Nat.zero_le _, hs, hide ((unhide HB).more (by omega)), hide (fun q _ => (unhide HB q).2), by show _ = _; rw [unhide HV]; simp [val], unhide HF2⟩
      case round =>
        clear HF2 HV HB hs ss
        obtain ⟨ss, k, rfl, hk, hs, hb, hq, hV, hf⟩ := hrel
        by_cases hB : k < N
        · obtain ⟨gB, oB, rfl, x2⟩ := unhide HA2 k (by have := unhide HN; omega)
          replace x2 := hf.k.cell0 x2
          have hy0 := hy.at k
          have hik : i + k < T := by have := unhide HT; omega
          obtain ⟨y1, y2⟩ := hf.at hs.symm (i + k) hik
          have hV2 := msum_step ss ys i k (by omega) va _ (by rw [← unhide HN]; omega) (unhide hV)
          have hvo0 := (unhide hb (i + k)).1
          have hvo1 := unhide hq (i + k) (Nat.le_refl _)
          generalize hvb : ys.getD k 0 = vb at *
          generalize hvo : ss.getD (i + k) 0 = vo at *
          have hp := limb_mul hx0 hy0
          have hb2 := (unhide hb).set (Int.le_refl _) (i + k) (by omega) (z := vo + va * vb) (by omega) (by omega)
          have HB2 := hide hb2
          have HQ2 : Hid (∀ q, i + (k + 1) ≤ q → (ss.set (i + k) (vo + va * vb)).getD q 0 ≤ (i : Int) * 4294836225) := fun q h => by rw [getD_set_ne _ _ _ _ (by omega)]; exact unhide hq q (by omega)
          have HV2 := hide hV2
          have hi2 : (k : Int) < (N : Int) := by omega
          have hij : (i : Int) + (k : Int) < (T : Int) := by omega
          have hij0 : 0 ≤ (i : Int) + (k : Int) := by omega
          have hX : 0 ≤ vo + va * vb ∧ vo + va * vb ≤ 4294836225 * 100001 := by omega
          have hls : (ss.set (i + k) (vo + va * vb)).length = T := by simpa using hs
          have HLS := hide hls
          have hpt := hide (fun n => (hf.drewN n).put hs.symm (i + k) (vo + va * vb))
          have hp0 := hide (hf.put hs.symm (i + k) (vo + va * vb))
          clear hV hV2 hb hb2 hq hvb hvo hf hs hls
          go_wp2
          go_roundw
          case rel => exact ⟨_, k + 1, by go_num, by omega, unhide HLS, HB2, HQ2, HV2, by first | exact unhide hp0 | exact unhide hpt _⟩
          case measure => simp [intOf]; omega
        · have hkN : k = N := by omega
          subst hkN
          have HV2 : Hid (val ss = val (xs.take (i + 1)) * val ys) := by
            show _ = _
            have e := unhide hV
            rw [List.take_of_length_le (Nat.le_of_eq (unhide HN).symm)] at e
            rw [e, unhide HTS, Int.add_mul, Int.mul_assoc]
          have hi2 : ¬ (k : Int) < (k : Int) := by omega
          have HB2 : Hid (Bnd (((i + 1 : Nat) : Int) * 4294836225) ss) := by
            have e : ((i + 1 : Nat) : Int) * 4294836225 = (i : Int) * 4294836225 + 4294836225 := by omega
            rw [e]; exact unhide hb
          have HF3 := hide hf
          clear hV hb hq hf
          go_wp2
          go_roundw
          case rel => exact ⟨ss, i + 1, by go_num, by omega, hs, unhide HB2, HV2, unhide HF3⟩
          case measure => simp [intOf]; omega
    · have hiM : i = M := by omega
      have hV' := unhide hV
      rw [List.take_of_length_le (by rw [← unhide HM]; omega)] at hV'
      have hi1 : ¬ (i : Int) < (M : Int) := by omega
      have HB3 := hide (hb.more (B' := 429483622500000) (by omega))
      have HV3 : Hid (val ss + 65536 ^ 0 * 0 = P) := by show _ = _; rw [hV', unhide HP]; simp
      have HF3 := hide hf
      clear hV hV' hb hf hiM hce2
      go_wp2
      go_loopw [9, 59] (fun cc ii wr => ∃ (zs : List Int) (c : Int) (i : Nat), cc = .int .i64 c ∧ ii = .int .i64 (i : Int) ∧ i ≤ T ∧ 0 ≤ c ∧ c ≤ 1000000000000000 ∧ zs.length = T ∧ Hid (Bnd 429483622500000 zs) ∧ Hid (∀ q, q < i → zs.getD q 0 ≤ 65535) ∧ Hid (val zs + 65536 ^ i * c = P) ∧ Fresh w wr (.slice (some ⟨G, 0, none⟩) T T) zs) (fun _ ii _ => T - (intOf ii).toNat)
      case atStart => exact ⟨ss, 0, 0, rfl, rfl, Nat.zero_le _, Int.le_refl _, by omega, hs, HB3, hide (fun q h => by omega), HV3, unhide HF3⟩
      case round =>
        clear HF3 HV3 HB3 hs ss hi1 hA hi
        obtain ⟨zs, c, i, rfl, rfl, hi, hc0, hc1, hs, hb, hq, hV, hf⟩ := hrel
        by_cases hB : i < T
        · obtain ⟨y1, y2⟩ := hf.at hs.symm i hB
          have hV2 := carry_step zs i (by omega) c P _ rfl (unhide hV)
          have hz0 := unhide hb i
          generalize hzz : zs.getD i 0 = z at *
          have hb2 := (unhide hb).set (Int.le_refl _) i (by omega) (z := (z + c) % 65536) (by omega) (by omega)
          have HB2 := hide hb2
          have HQ2 : Hid (∀ q, q < i + 1 → (zs.set i ((z + c) % 65536)).getD q 0 ≤ 65535) := fun q h => by
            by_cases e : q = i
            · subst e; rw [getD_set_eq _ _ _ (by omega)]; omega
            · rw [getD_set_ne _ _ _ _ e]; exact unhide hq q (by omega)
          have HV2 := hide hV2
          have hi2 : (i : Int) < (T : Int) := by omega
          have hX : 0 ≤ z + c ∧ z + c ≤ 1429483622500000 := by omega
          have et : (z + c).tmod 65536 = (z + c) % 65536 := by rw [Int.tmod_eq_emod_of_nonneg (by omega)]
          have ed : (z + c).tdiv 65536 = (z + c) / 65536 := by rw [Int.tdiv_eq_ediv_of_nonneg (by omega)]
          have hls : (zs.set i ((z + c) % 65536)).length = T := by simpa using hs
          have HLS := hide hls
          have hdv : 0 ≤ (z + c) / 65536 ∧ (z + c) / 65536 ≤ 1000000000000000 := by omega
          have hpt := hide (fun n => (hf.drewN n).put hs.symm i ((z + c) % 65536))
          have hp0 := hide (hf.put hs.symm i ((z + c) % 65536))
          clear hV hV2 hb hb2 hq hzz hf hs hls
          go_wp2
          go_roundw
          case rel => exact ⟨_, (z + c) / 65536, i + 1, by first | rfl | go_num, by go_num, by omega, hdv.1, hdv.2, unhide HLS, HB2, HQ2, HV2, by first | exact unhide hp0 | exact unhide hpt _⟩
          case measure => simp [intOf]; omega
        · have hiT : i = T := by omega
          subst hiT
          have hlim : Lim zs := lim_of_at (fun q h => ⟨(unhide hb q).1, unhide hq q (by omega)⟩)
          have hv := carry_end hlim hc0 (P := P) (by rw [hs, unhide HT, unhide HM, unhide HN, ← unhide HP]; exact mul_lt_pow hx hy) (by rw [hs]; exact unhide hV)
          have hi2 : ¬ (i : Int) < (i : Int) := by omega
          have hlt1 := (unhide N1).lt
          have hG := (hf.own.lt G rfl).1
          have hc1' := hf.k.cell0 (unhide N1).cell
          have hf1' := hf.k.loose0 (a := ⟨g1, 0, none⟩) hlt1 (unhide N1).loose
          have hown := hf.own
          rw [hs] at hown
          have hnum : Num w.heap.size (wr.setCell ⟨g1, 0, none⟩ (.slice (some ⟨G, 0, none⟩) i i)) g1 (.slice (some ⟨G, 0, none⟩) i i) zs :=
            ⟨cell_on _ _ _ _ _ hc1', by rw [frozen_set]; exact hf1', by rw [hs]; exact own_apart hown (p := ⟨g1, 0, none⟩) (by simp [Value.ownBlock]; omega) _, by simp [Value.ownBlock]; omega⟩
          have hmod : Mod (fun i => i = g1) w (wr.setCell ⟨g1, 0, none⟩ (.slice (some ⟨G, 0, none⟩) i i)) := Mod.set (S := fun i => i = g1) hf.k.toMod (p := ⟨g1, 0, none⟩) (.inl rfl) _
          have NU := hide hnum
          have SD : Hid (SameSide g1 w (wr.setCell ⟨g1, 0, none⟩ (.slice (some ⟨G, 0, none⟩) i i))) := (hf.k.side hlt1).set0 _
          have MO := hide hmod
          have HVV := hide hv
          have HLI := hide hlim
          clear hnum hmod hv hlim hown hf hb hq hV
          go_wp2_with fail
          refine (trim_side _ (unhide NU) (unhide HLI)).mono ?_
          rintro e w6 ⟨⟨r6, rfl⟩, u6, n6, ho6, m6, sd6⟩
          have SD6 := hide ((unhide SD).trans sd6)
          have N6 := hide n6
          rw [unhide HVV, ← unhide HP] at N6
          have M6 := hide ((unhide MO).trans m6)
          clear n6 ho6 m6 sd6
          go_wp2
          exact bodyPost_end (v := .tuple #[]) (by simp [results, Try.results78, go_sem]) rfl ⟨⟨_, rfl⟩, _, unhide N6, unhide M6, unhide SD6⟩

/-- Two numbers that lie apart, newer than w0; since wb only the first one's blocks have turned, and of its cell's block only the first cell. -/
structure TwoS (wb : World) (u0 : Value) (w0 wx : World) (g1 g2 : Nat) (u1 u2 : Value) (xs ys : List Int) : Prop where
  two : Two w0 wx g1 g2 u1 u2 xs ys
  d1 : SameSide g1 wb wx
  m : Mod (Own1 g1 u0) wb wx
  ob : ∀ i, u1.ownBlock = some i → u0.ownBlock = some i ∨ wb.heap.size ≤ i

section
variable {wb w0 wx w w' W : World} {g1 g2 : Nat} {u0 u1 u1' u2 v v' : Value} {xs ys zs qs : List Int}
theorem Two.startS (t : Two w0 w g1 g2 u1 u2 xs ys) : TwoS w u1 w0 w g1 g2 u1 u2 xs ys := ⟨t, SameSide.refl _ _, Mod.refl _ _, fun _ h => .inl h⟩
theorem TwoS.n1 (t : TwoS wb u0 w0 wx g1 g2 u1 u2 xs ys) : Num w0.heap.size wx g1 u1 xs := t.two.n1
theorem TwoS.n2 (t : TwoS wb u0 w0 wx g1 g2 u1 u2 xs ys) : Num w0.heap.size wx g2 u2 ys := t.two.n2
theorem TwoS.k (t : TwoS wb u0 w0 wx g1 g2 u1 u2 xs ys) : Kept 0 0 w0 wx := t.two.k
theorem TwoS.kept (t : TwoS wb u0 w0 W g1 g2 u1 u2 xs ys) (k : Kept 0 0 W w') : TwoS wb u0 w0 w' g1 g2 u1 u2 xs ys := ⟨t.two.kept k, t.d1.trans (k.side t.n1.lt), t.m.kept k, t.ob⟩
theorem TwoS.put {gb cap j n : Nat} (t : TwoS wb u0 w0 w g1 g2 (.slice (some ⟨gb, 0, none⟩) n cap) u2 zs ys) (hn : zs.length = n) (z : Int) :
    TwoS wb u0 w0 (w.setCell ⟨gb, j, none⟩ (.int .i64 z)) g1 g2 (.slice (some ⟨gb, 0, none⟩) n cap) u2 (zs.set j z) ys :=
  ⟨t.two.put hn z, t.d1.far (fun e => t.n1.apart (by simp [Value.ownBlock, e])) _, t.m.set (p := ⟨gb, j, none⟩) ((t.ob gb rfl).imp (fun h => .inr h) id) _, t.ob⟩
theorem TwoS.snoc (t : TwoS wb u0 w0 w g1 g2 v u2 zs ys) (o : Obj) (hg : (w.alloc o).grownBy w' v.ownBlock) (hat : v'.ownBlock = v.ownBlock ∨ v'.ownBlock = some (w.heap.size + 1))
    (hown : w'.ownsRow w0.heap.size 3 1 v' qs.length (qs.map (Value.int .i64))) :
    w'.cell? ⟨g1, 0, none⟩ = some v ∧ w'.frozen? ⟨g1, 0, none⟩ = false ∧ TwoS wb u0 w0 (w'.setCell ⟨g1, 0, none⟩ v') g1 g2 v' u2 qs ys := by
  obtain ⟨e1, e2, t2⟩ := t.two.snoc o hg hat hown
  have k := (Kept.refl 0 0 w).alloc o
  have l1 := t.n1.lt
  have s1 : SameSide g1 (w.alloc o) w' := SameSide.ofBlock (hg.block g1 (by simp; omega) (fun e => t.n1.apart e.symm))
  have hm := ((t.m.kept k).grow hg (fun i hi => (t.ob i hi).imp (fun h => .inr h) id)).set (p := ⟨g1, 0, none⟩) (.inl (.inl rfl)) v'
  refine ⟨e1, e2, t2, ((t.d1.trans (k.side l1)).trans s1).set0 _, hm, fun i hi => ?_⟩
  rcases hat with e | e
  · exact t.ob i (by rw [← e]; exact hi)
  · rw [e] at hi
    simp at hi
    have := t.m.size
    exact .inr (by omega)
theorem TwoS.mod1 (t : TwoS wb u0 w0 W g1 g2 u1 u2 xs ys) (n : Num w0.heap.size w' g1 u1' zs) (ho : u1'.ownBlock = u1.ownBlock) (m : Mod (fun i => i = g1) W w') (s : SameSide g1 W w') : TwoS wb u0 w0 w' g1 g2 u1' u2 zs ys :=
  ⟨t.two.mod1 n ho m, t.d1.trans s, t.m.then m (fun i e => .inl (.inl e)), by rw [ho]; exact t.ob⟩
end

set_option maxHeartbeats 4000000 in
theorem add_twoS {wb w0 w : World} {u0 : Value} {g1 g2 : Nat} {xs ys : List Int} (h : ∃ u1 u2, TwoS wb u0 w0 w g1 g2 u1 u2 xs ys) (hx : Nrm xs) (hy : Nrm ys) (hl1 : xs.length ≤ 100000) (hl2 : ys.length ≤ 100000) :
    Calls Try.prog 76 #[.pointer (some ⟨g1, 0, none⟩), .pointer (some ⟨g2, 0, none⟩)] w fun e w' => (∃ r, e = .returned r) ∧ ∃ u1 u2, TwoS wb u0 w0 w' g1 g2 u1 u2 (limbs (val xs + val ys).toNat) ys := by
  obtain ⟨u1, u2, t0⟩ := h
  obtain ⟨a2, c2, rfl⟩ := t0.n2.form
  generalize hS : val xs + val ys = S
  have h0 := val_nonneg hx.1
  have h0' := val_nonneg hy.1
  obtain ⟨M0, hM0⟩ : ∃ M0 : Nat, M0 = 100000 := ⟨_, rfl⟩
  obtain ⟨M, hMM⟩ : ∃ M : Nat, M = M0 + 1 := ⟨_, rfl⟩
  have hSb : S < 65536 ^ M := by
    have e1 := val_lt hx.1
    have e2 := val_lt hy.1
    have e3 := pow_mono (a := xs.length) (b := M0) (by omega)
    have e4 := pow_mono (a := ys.length) (b := M0) (by omega)
    have e5 : (65536 : Int) ^ M = 65536 ^ M0 * 65536 := by rw [hMM]; exact Int.pow_succ _ _
    have e6 : (0 : Int) < 65536 ^ M0 := Int.pow_pos (by decide)
    generalize (65536 : Int) ^ M0 = P at *
    omega
  have HMM : Hid (M = 100001) := by show _ = _; omega
  clear hMM hM0
  have hSt : Hid (xs = [] ∨ (65536 : Int) ^ (xs.length - 1) ≤ S) := by
    by_cases e : xs = []
    · exact .inl e
    · exact .inr (by have := nrm_pow hx e; omega)
  have HSB := hide hSb
  have HY := hide hy
  have HS0 : Hid (val xs + 65536 ^ 0 * (0 + val (ys.drop 0)) = S) := by show _ = _; simp; exact hS
  have hylim := hy.1
  have hSpos : 0 ≤ S := by omega
  clear hSb hS hy h0 h0'
  go_enter Try.func76, Try.ntmps76
  go_wp2
  go_loopw [4, 5] (fun cc ii wr => ∃ (zs : List Int) (c i : Nat) (v : Value), cc = .int .i64 c ∧ ii = .int .i64 i ∧ c ≤ 1 ∧ i ≤ 100001 ∧ i ≤ zs.length ∧ Lim zs ∧ Hid (val zs + 65536 ^ i * (c + val (ys.drop i)) = S) ∧ Hid (zs = [] ∨ (65536 : Int) ^ (zs.length - 1) ≤ S) ∧ TwoS wb u0 w0 wr g1 g2 v (.slice a2 ys.length c2) zs ys) (fun _ ii _ => 100002 - (intOf ii).toNat)
  case atStart => exact ⟨xs, 0, 0, u1, rfl, rfl, by omega, by omega, by omega, hx.1, HS0, hSt, t0⟩
  case round =>
    clear t0 HS0 hSt
    obtain ⟨zs, c, i, v, rfl, rfl, hc1, hi1, hiz, hlim, hval, htop, t⟩ := hrel
    have hce2 := t.n2.cell
    by_cases hgo : i < ys.length ∨ 0 < c
    · have hD : 1 ≤ (c : Int) + val (ys.drop i) := by
        rcases hgo with h | h
        · have := drop_pos (unhide HY) i h; omega
        · have := val_nonneg ((unhide HY).1.drop i); omega
      have hSi : (65536 : Int) ^ i ≤ S := by
        have e1 := unhide hval
        have e2 := val_nonneg hlim
        have e3 : (65536 : Int) ^ i * 1 ≤ 65536 ^ i * (c + val (ys.drop i)) := Int.mul_le_mul_of_nonneg_left hD (Int.le_of_lt (Int.pow_pos (by decide)))
        omega
      have hi2 : i ≤ 100000 := by
        rcases Nat.lt_or_ge 100000 i with h | h
        · have := pow_mono (a := M) (b := i) (by have := unhide HMM; omega)
          have := unhide HSB
          omega
        · exact h
      have hzl : zs.length ≤ 100001 := by
        rcases unhide htop with e | e
        · rw [e]; simp
        · rcases Nat.lt_or_ge 100001 zs.length with h | h
          · have := pow_mono (a := M) (b := zs.length - 1) (by have := unhide HMM; omega)
            have := unhide HSB
            omega
          · exact h
      have HSI := hide hSi
      clear hSi hD
      by_cases hi : i < zs.length
      · have hne : ((i : Int) == (zs.length : Int)) = false := beq_eq_false_iff_ne.2 (by omega)
        have hiL := hi
        have hlimL := hlim
        have hvalL := hval
        have htopL := htop
        obtain ⟨gb, cap, rfl, hxz, hfz, hgb⟩ := t.n1.at i hiL
        have hce1 := t.n1.cell
        rcases hgo with hgo | hgo
        · have hgo' : (i : Int) < (ys.length : Int) := by omega
          go_wp2
          have hzr := hlimL.at i
          have hyr := hylim.at i
          have hyd := val_drop ys i
          have hput := add_put (zs) ys i hiL c S _ _ rfl hyd (unhide hvalL)
          have hsetl := fun z (h0 : 0 ≤ z) (h1 : z ≤ 65535) => hlimL.set i h0 h1
          have hatc := fun n => at_impl (wr.drewN n) (t.n2.kept ((Kept.refl 0 0 _).drewN n)) i (by omega)
          have HAT := hide hatc
          have tp := fun n z => (t.kept ((Kept.refl 0 0 _).drewN n)).put (j := i) rfl z
          have TP := hide tp
          have HSL := hide hsetl
          have hlen : (zs).length = zs.length := rfl
          try rw [hlen] at hce1
          have hlenset : ∀ z, ((zs).set i z).length = zs.length := fun z => by rw [List.length_set, hlen]
          have HLS := hide hlenset
          generalize hz : (zs).getD i 0 = z at *
          generalize hy2 : ys.getD i 0 = y at *
          have HP := hide hput
          have hs0 : 0 ≤ z + y + c ∧ z + y + c ≤ 131071 := by omega
          have em : (z + y + (c : Int)).tmod 65536 = (z + y + c) % 65536 := by rw [Int.tmod_eq_emod_of_nonneg (by omega)]
          have ed : (z + y + (c : Int)).tdiv 65536 = (z + y + c) / 65536 := by rw [Int.tdiv_eq_ediv_of_nonneg (by omega)]
          have hlt2 : (i : Int) < ((zs.length : Nat) : Int) := by omega
          obtain ⟨c', hc'⟩ : ∃ c' : Nat, (z + y + (c : Int)) / 65536 = c' := ⟨((z + y + (c : Int)) / 65536).toNat, by omega⟩
          clear hatc tp hput hyd hz hy2 t hlimL hvalL hsetl hlenset hlen
          go_quiet ((go_at_call 124; exact (unhide HAT _).mono (fun e w' h => ⟨h.1, _, h.2⟩)))
          go_wp2
          go_roundw
          case rel => exact ⟨(zs).set i ((z + y + c) % 65536), c', i + 1, _, rfl, by go_num, by omega, by omega, by rw [unhide HLS]; omega, unhide HSL _ (by omega) (by omega), by have := unhide HP; rw [hc'] at this; exact this, by rcases unhide htopL with e | e; exact .inl (by rw [e]; rfl); exact .inr (by rw [unhide HLS]; exact e), unhide TP _ _⟩
          case measure => simp [intOf]; omega
        · by_cases hgo2 : i < ys.length
          · have hgo' : (i : Int) < (ys.length : Int) := by omega
            go_wp2
            have hzr := hlimL.at i
            have hyr := hylim.at i
            have hyd := val_drop ys i
            have hput := add_put (zs) ys i hiL c S _ _ rfl hyd (unhide hvalL)
            have hsetl := fun z (h0 : 0 ≤ z) (h1 : z ≤ 65535) => hlimL.set i h0 h1
            have hatc := fun n => at_impl (wr.drewN n) (t.n2.kept ((Kept.refl 0 0 _).drewN n)) i (by omega)
            have HAT := hide hatc
            have tp := fun n z => (t.kept ((Kept.refl 0 0 _).drewN n)).put (j := i) rfl z
            have TP := hide tp
            have HSL := hide hsetl
            have hlen : (zs).length = zs.length := rfl
            try rw [hlen] at hce1
            have hlenset : ∀ z, ((zs).set i z).length = zs.length := fun z => by rw [List.length_set, hlen]
            have HLS := hide hlenset
            generalize hz : (zs).getD i 0 = z at *
            generalize hy2 : ys.getD i 0 = y at *
            have HP := hide hput
            have hs0 : 0 ≤ z + y + c ∧ z + y + c ≤ 131071 := by omega
            have em : (z + y + (c : Int)).tmod 65536 = (z + y + c) % 65536 := by rw [Int.tmod_eq_emod_of_nonneg (by omega)]
            have ed : (z + y + (c : Int)).tdiv 65536 = (z + y + c) / 65536 := by rw [Int.tdiv_eq_ediv_of_nonneg (by omega)]
            have hlt2 : (i : Int) < ((zs.length : Nat) : Int) := by omega
            obtain ⟨c', hc'⟩ : ∃ c' : Nat, (z + y + (c : Int)) / 65536 = c' := ⟨((z + y + (c : Int)) / 65536).toNat, by omega⟩
            clear hatc tp hput hyd hz hy2 t hlimL hvalL hsetl hlenset hlen
            go_quiet ((go_at_call 124; exact (unhide HAT _).mono (fun e w' h => ⟨h.1, _, h.2⟩)))
            go_wp2
            go_roundw
            case rel => exact ⟨(zs).set i ((z + y + c) % 65536), c', i + 1, _, rfl, by go_num, by omega, by omega, by rw [unhide HLS]; omega, unhide HSL _ (by omega) (by omega), by have := unhide HP; rw [hc'] at this; exact this, by rcases unhide htopL with e | e; exact .inl (by rw [e]; rfl); exact .inr (by rw [unhide HLS]; exact e), unhide TP _ _⟩
            case measure => simp [intOf]; omega
          · have hgo' : ¬ (i : Int) < (ys.length : Int) := by omega
            have hgo3 : (0 : Int) < (c : Int) := by omega
            go_wp2
            have hzr := hlimL.at i
            have hyr := hylim.at i
            have hyd := val_drop ys i
            have hput := add_put (zs) ys i hiL c S _ _ rfl hyd (unhide hvalL)
            have hsetl := fun z (h0 : 0 ≤ z) (h1 : z ≤ 65535) => hlimL.set i h0 h1
            have hatc := fun n => at_impl (wr.drewN n) (t.n2.kept ((Kept.refl 0 0 _).drewN n)) i (by omega)
            have HAT := hide hatc
            have tp := fun n z => (t.kept ((Kept.refl 0 0 _).drewN n)).put (j := i) rfl z
            have TP := hide tp
            have HSL := hide hsetl
            have hlen : (zs).length = zs.length := rfl
            try rw [hlen] at hce1
            have hlenset : ∀ z, ((zs).set i z).length = zs.length := fun z => by rw [List.length_set, hlen]
            have HLS := hide hlenset
            generalize hz : (zs).getD i 0 = z at *
            generalize hy2 : ys.getD i 0 = y at *
            have HP := hide hput
            have hs0 : 0 ≤ z + y + c ∧ z + y + c ≤ 131071 := by omega
            have em : (z + y + (c : Int)).tmod 65536 = (z + y + c) % 65536 := by rw [Int.tmod_eq_emod_of_nonneg (by omega)]
            have ed : (z + y + (c : Int)).tdiv 65536 = (z + y + c) / 65536 := by rw [Int.tdiv_eq_ediv_of_nonneg (by omega)]
            have hlt2 : (i : Int) < ((zs.length : Nat) : Int) := by omega
            obtain ⟨c', hc'⟩ : ∃ c' : Nat, (z + y + (c : Int)) / 65536 = c' := ⟨((z + y + (c : Int)) / 65536).toNat, by omega⟩
            clear hatc tp hput hyd hz hy2 t hlimL hvalL hsetl hlenset hlen
            go_quiet ((go_at_call 124; exact (unhide HAT _).mono (fun e w' h => ⟨h.1, _, h.2⟩)))
            go_wp2
            go_roundw
            case rel => exact ⟨(zs).set i ((z + y + c) % 65536), c', i + 1, _, rfl, by go_num, by omega, by omega, by rw [unhide HLS]; omega, unhide HSL _ (by omega) (by omega), by have := unhide HP; rw [hc'] at this; exact this, by rcases unhide htopL with e | e; exact .inl (by rw [e]; rfl); exact .inr (by rw [unhide HLS]; exact e), unhide TP _ _⟩
            case measure => simp [intOf]; omega
      · have hie : i = zs.length := by omega
        have hne : ((i : Int) == (zs.length : Int)) = true := by simp [hie]
        obtain ⟨a1, d1, rfl⟩ := t.n1.form
        have hce1 := t.n1.cell
        have hlo1 := t.n1.loose
        have hown' := own_kept t.n1.own ((Kept.refl 0 0 wr).alloc (.cells #[.int .i64 0] 3))
        have hl' : zs.length ≤ 1000000 := by omega
        have hbb : w0.heap.size ≤ (wr.alloc (.cells #[.int .i64 0] 3)).heap.size := by have := t.k.size; simp; omega
        have HBB := hide hbb
        have hcc : (wr.alloc (.cells #[.int .i64 0] 3)).cell? ⟨wr.heap.size, 0, none⟩ = some (.int .i64 0) := new_cell_at _ _ _ _ rfl
        have HE := hide hie
        clear hbb hie
        by_cases hgo2 : i < ys.length
        · have hgo' : (i : Int) < (ys.length : Int) := by omega
          go_wp2_with (at_builtin; refine wpList_snoc rfl _ _ rfl rfl _ rfl 0 hcc hown' hl' (unhide HBB) ?_)
          intro v' w' hown2 hgrow hat
          unfold OwnL at hown2
          replace hat := unhide hat
          obtain ⟨d1', d2', t2⟩ := t.snoc _ hgrow hat hown2
          have hie := unhide HE
          have hlenA : (zs ++ [(0 : Int)]).length = i + 1 := by simp [hie]
          have hiL : i < (zs ++ [(0 : Int)]).length := by omega
          have hlimL : Lim (zs ++ [(0 : Int)]) := hlim.snoc (by omega) (by omega)
          have hvalL : Hid (val (zs ++ [(0 : Int)]) + 65536 ^ i * (c + val (ys.drop i)) = S) := by have := unhide hval; show _ = _; rw [val_snoc]; simpa using this
          obtain ⟨gb, cap, hvv, hxz, hfz, hgb⟩ := t2.n1.at i hiL
          rw [hlenA] at hvv
          subst hvv
          have hce1' := t2.n1.cell
          have hce2' := t2.n2.cell
          have X1 := hide hce1'
          have X2 := hide hce2'
          have X3 := hide hxz
          have X4 := hide hfz
          generalize hwx : w'.setCell ⟨g1, 0, none⟩ (.slice (some ⟨gb, 0, none⟩) (i + 1) cap) = wx at *
          clear hown' hown2 hgrow hat hce1' hce2' hxz hfz hcc t hce1 hlo1 hlim hval hie hl' hce2
          go_wp2
          have hce1 := unhide X1
          have hce2 := unhide X2
          have hxz := unhide X3
          have hfz := unhide X4
          try rw [hwx]
          have hzr := hlimL.at i
          have hyr := hylim.at i
          have hyd := val_drop ys i
          have hput := add_put (zs ++ [(0 : Int)]) ys i hiL c S _ _ rfl hyd (unhide hvalL)
          have hsetl := fun z (h0 : 0 ≤ z) (h1 : z ≤ 65535) => hlimL.set i h0 h1
          have hatc := fun n => at_impl (wx.drewN n) (t2.n2.kept ((Kept.refl 0 0 _).drewN n)) i (by omega)
          have HAT := hide hatc
          have tp := fun n z => (t2.kept ((Kept.refl 0 0 _).drewN n)).put (j := i) hlenA z
          have TP := hide tp
          have HSL := hide hsetl
          have hlen : (zs ++ [(0 : Int)]).length = (i + 1) := hlenA
          try rw [hlen] at hce1
          have hlenset : ∀ z, ((zs ++ [(0 : Int)]).set i z).length = (i + 1) := fun z => by rw [List.length_set, hlen]
          have HLS := hide hlenset
          generalize hz : (zs ++ [(0 : Int)]).getD i 0 = z at *
          generalize hy2 : ys.getD i 0 = y at *
          have HP := hide hput
          have hs0 : 0 ≤ z + y + c ∧ z + y + c ≤ 131071 := by omega
          have em : (z + y + (c : Int)).tmod 65536 = (z + y + c) % 65536 := by rw [Int.tmod_eq_emod_of_nonneg (by omega)]
          have ed : (z + y + (c : Int)).tdiv 65536 = (z + y + c) / 65536 := by rw [Int.tdiv_eq_ediv_of_nonneg (by omega)]
          have hlt2 : (i : Int) < (((i + 1) : Nat) : Int) := by omega
          obtain ⟨c', hc'⟩ : ∃ c' : Nat, (z + y + (c : Int)) / 65536 = c' := ⟨((z + y + (c : Int)) / 65536).toNat, by omega⟩
          clear hatc tp hput hyd hz hy2 t2 hlimL hvalL hsetl hlenset hlen
          go_quiet ((go_at_call 124; exact (unhide HAT _).mono (fun e w' h => ⟨h.1, _, h.2⟩)))
          go_wp2
          go_roundw
          case rel => exact ⟨(zs ++ [(0 : Int)]).set i ((z + y + c) % 65536), c', i + 1, _, rfl, by go_num, by omega, by omega, by rw [unhide HLS]; omega, unhide HSL _ (by omega) (by omega), by have := unhide HP; rw [hc'] at this; exact this, by refine .inr ?_; rw [unhide HLS]; exact unhide HSI, unhide TP _ _⟩
          case measure => simp [intOf]; omega
        · have hgo' : ¬ (i : Int) < (ys.length : Int) := by omega
          have hgo3 : (0 : Int) < (c : Int) := by omega
          go_wp2_with (at_builtin; refine wpList_snoc rfl _ _ rfl rfl _ rfl 0 hcc hown' hl' (unhide HBB) ?_)
          intro v' w' hown2 hgrow hat
          unfold OwnL at hown2
          replace hat := unhide hat
          obtain ⟨d1', d2', t2⟩ := t.snoc _ hgrow hat hown2
          have hie := unhide HE
          have hlenA : (zs ++ [(0 : Int)]).length = i + 1 := by simp [hie]
          have hiL : i < (zs ++ [(0 : Int)]).length := by omega
          have hlimL : Lim (zs ++ [(0 : Int)]) := hlim.snoc (by omega) (by omega)
          have hvalL : Hid (val (zs ++ [(0 : Int)]) + 65536 ^ i * (c + val (ys.drop i)) = S) := by have := unhide hval; show _ = _; rw [val_snoc]; simpa using this
          obtain ⟨gb, cap, hvv, hxz, hfz, hgb⟩ := t2.n1.at i hiL
          rw [hlenA] at hvv
          subst hvv
          have hce1' := t2.n1.cell
          have hce2' := t2.n2.cell
          have X1 := hide hce1'
          have X2 := hide hce2'
          have X3 := hide hxz
          have X4 := hide hfz
          generalize hwx : w'.setCell ⟨g1, 0, none⟩ (.slice (some ⟨gb, 0, none⟩) (i + 1) cap) = wx at *
          clear hown' hown2 hgrow hat hce1' hce2' hxz hfz hcc t hce1 hlo1 hlim hval hie hl' hce2
          go_wp2
          have hce1 := unhide X1
          have hce2 := unhide X2
          have hxz := unhide X3
          have hfz := unhide X4
          try rw [hwx]
          have hzr := hlimL.at i
          have hyr := hylim.at i
          have hyd := val_drop ys i
          have hput := add_put (zs ++ [(0 : Int)]) ys i hiL c S _ _ rfl hyd (unhide hvalL)
          have hsetl := fun z (h0 : 0 ≤ z) (h1 : z ≤ 65535) => hlimL.set i h0 h1
          have hatc := fun n => at_impl (wx.drewN n) (t2.n2.kept ((Kept.refl 0 0 _).drewN n)) i (by omega)
          have HAT := hide hatc
          have tp := fun n z => (t2.kept ((Kept.refl 0 0 _).drewN n)).put (j := i) hlenA z
          have TP := hide tp
          have HSL := hide hsetl
          have hlen : (zs ++ [(0 : Int)]).length = (i + 1) := hlenA
          try rw [hlen] at hce1
          have hlenset : ∀ z, ((zs ++ [(0 : Int)]).set i z).length = (i + 1) := fun z => by rw [List.length_set, hlen]
          have HLS := hide hlenset
          generalize hz : (zs ++ [(0 : Int)]).getD i 0 = z at *
          generalize hy2 : ys.getD i 0 = y at *
          have HP := hide hput
          have hs0 : 0 ≤ z + y + c ∧ z + y + c ≤ 131071 := by omega
          have em : (z + y + (c : Int)).tmod 65536 = (z + y + c) % 65536 := by rw [Int.tmod_eq_emod_of_nonneg (by omega)]
          have ed : (z + y + (c : Int)).tdiv 65536 = (z + y + c) / 65536 := by rw [Int.tdiv_eq_ediv_of_nonneg (by omega)]
          have hlt2 : (i : Int) < (((i + 1) : Nat) : Int) := by omega
          obtain ⟨c', hc'⟩ : ∃ c' : Nat, (z + y + (c : Int)) / 65536 = c' := ⟨((z + y + (c : Int)) / 65536).toNat, by omega⟩
          clear hatc tp hput hyd hz hy2 t2 hlimL hvalL hsetl hlenset hlen
          go_quiet ((go_at_call 124; exact (unhide HAT _).mono (fun e w' h => ⟨h.1, _, h.2⟩)))
          go_wp2
          go_roundw
          case rel => exact ⟨(zs ++ [(0 : Int)]).set i ((z + y + c) % 65536), c', i + 1, _, rfl, by go_num, by omega, by omega, by rw [unhide HLS]; omega, unhide HSL _ (by omega) (by omega), by have := unhide HP; rw [hc'] at this; exact this, by refine .inr ?_; rw [unhide HLS]; exact unhide HSI, unhide TP _ _⟩
          case measure => simp [intOf]; omega
    · have hgo1 : ¬ (i : Int) < (ys.length : Int) := by omega
      have hc0 : c = 0 := by omega
      subst hc0
      have e1 := unhide hval
      rw [List.drop_of_length_le (by omega)] at e1
      simp [val] at e1
      have e2 := limbs_of_le hlim (by have := unhide htop; rw [e1]; exact this)
      rw [e1] at e2
      rw [e2] at t
      have T1 := hide t
      clear t e2 e1 hval htop hlim
      go_wp2
      exact bodyPost_end (v := .tuple #[]) (by simp [results, Try.results76, go_sem]) rfl ⟨⟨_, rfl⟩, _, _, unhide T1⟩

set_option maxHeartbeats 4000000 in
theorem subtract_twoS {wb w0 w : World} {u0 : Value} {g1 g2 : Nat} {xs ys : List Int} (h : ∃ u1 u2, TwoS wb u0 w0 w g1 g2 u1 u2 xs ys) (hx : Nrm xs) (hy : Nrm ys) (hl1 : xs.length ≤ 100000) (hle : val ys ≤ val xs) :
    Calls Try.prog 80 #[.pointer (some ⟨g1, 0, none⟩), .pointer (some ⟨g2, 0, none⟩)] w fun e w' => (∃ r, e = .returned r) ∧ ∃ u1 u2, TwoS wb u0 w0 w' g1 g2 u1 u2 (limbs (val xs - val ys).toNat) ys := by
  obtain ⟨u1, u2, t0⟩ := h
  obtain ⟨a2, c2, rfl⟩ := t0.n2.form
  generalize hD : val xs - val ys = D
  have HD0 : Hid (0 ≤ D) := by show _ ≤ _; omega
  have HY := hide hy
  have HS0 : Hid (val xs - 65536 ^ 0 * (0 + val (ys.drop 0)) = D) := by show _ = _; simp; exact hD
  have hylim := hy.1
  have hM := t0.n2.row.len
  unfold maxLen at hM
  clear hD hy hle
  go_enter Try.func80, Try.ntmps80
  go_wp2
  go_loopw [4, 5] (fun cc ii wr => ∃ (zs : List Int) (c i : Nat) (v : Value), cc = .int .i64 c ∧ ii = .int .i64 i ∧ c ≤ 1 ∧ i ≤ zs.length ∧ zs.length = xs.length ∧ Lim zs ∧ Hid (val zs - 65536 ^ i * (c + val (ys.drop i)) = D) ∧ TwoS wb u0 w0 wr g1 g2 v (.slice a2 ys.length c2) zs ys) (fun _ ii _ => xs.length + 1 - (intOf ii).toNat)
  case atStart => exact ⟨xs, 0, 0, u1, rfl, rfl, by omega, by omega, rfl, hx.1, HS0, t0⟩
  case round =>
    clear t0 HS0
    obtain ⟨zs, c, i, v, rfl, rfl, hc1, hiz, hzx, hlim, hval, t⟩ := hrel
    have hce2 := t.n2.cell
    by_cases hgo : i < ys.length ∨ 0 < c
    · have hi : i < zs.length := by
        have hD : 1 ≤ (c : Int) + val (ys.drop i) := by
          rcases hgo with h | h
          · have := drop_pos (unhide HY) i h; omega
          · have := val_nonneg ((unhide HY).1.drop i); omega
        have e1 := unhide hval
        have e2 := val_lt hlim
        have e3 : (65536 : Int) ^ i * 1 ≤ 65536 ^ i * (c + val (ys.drop i)) := Int.mul_le_mul_of_nonneg_left hD (Int.le_of_lt (Int.pow_pos (by decide)))
        have e4 := unhide HD0
        rcases Nat.lt_or_ge i zs.length with h | h
        · exact h
        · have := pow_mono (a := zs.length) (b := i) h
          omega
      have HZX := hide hzx
      have hzl : zs.length ≤ 100000 := by omega
      clear hzx
      obtain ⟨gb, cap, rfl, hxz, hfz, hgb⟩ := t.n1.at i hi
      have hce1 := t.n1.cell
      by_cases hgo2 : i < ys.length
      · have hgo' : (i : Int) < (ys.length : Int) := by omega
        go_wp2
        have hzr := hlim.at i
        have hyr := hylim.at i
        have hyd := val_drop ys i
        have hput := fun (c' l : Int) (h : l = zs.getD i 0 - ys.getD i 0 - c + 65536 * c') => sub_put zs ys i hi c c' l D _ hyd h (unhide hval)
        have hsetl := fun z (h0 : 0 ≤ z) (h1 : z ≤ 65535) => hlim.set i h0 h1
        have hatc := fun n => at_impl (wr.drewN n) (t.n2.kept ((Kept.refl 0 0 _).drewN n)) i (by omega)
        have HAT := hide hatc
        have tp := fun n z => (t.kept ((Kept.refl 0 0 _).drewN n)).put (j := i) rfl z
        have TP := hide tp
        have HSL := hide hsetl
        have hlenset : ∀ z, (zs.set i z).length = zs.length := fun z => by rw [List.length_set]
        have HLS := hide hlenset
        generalize hz : zs.getD i 0 = z at *
        generalize hy2 : ys.getD i 0 = y at *
        have HP := hide hput
        have hlt2 : (i : Int) < ((zs.length : Nat) : Int) := by omega
        clear hatc tp hput hyd hz hy2 t hlim hval hsetl hlenset
        by_cases hneg : z - y - (c : Int) < 0
        · go_quiet ((go_at_call 124; exact (unhide HAT _).mono (fun e w' h => ⟨h.1, _, h.2⟩)))
          go_wp2
          go_roundw
          case rel => exact ⟨zs.set i (z - y - c + 65536), 1, i + 1, _, rfl, by go_num, by omega, by rw [unhide HLS]; omega, by rw [unhide HLS]; exact unhide HZX, unhide HSL _ (by omega) (by omega), unhide HP 1 _ (by omega), unhide TP _ _⟩
          case measure => have := unhide HZX; simp [intOf]; omega
        · go_quiet ((go_at_call 124; exact (unhide HAT _).mono (fun e w' h => ⟨h.1, _, h.2⟩)))
          go_wp2
          go_roundw
          case rel => exact ⟨zs.set i (z - y - c), 0, i + 1, _, rfl, by go_num, by omega, by rw [unhide HLS]; omega, by rw [unhide HLS]; exact unhide HZX, unhide HSL _ (by omega) (by omega), unhide HP 0 _ (by omega), unhide TP _ _⟩
          case measure => have := unhide HZX; simp [intOf]; omega
      · have hgo' : ¬ (i : Int) < (ys.length : Int) := by omega
        have hgo3 : (0 : Int) < (c : Int) := by omega
        go_wp2
        have hzr := hlim.at i
        have hyr := hylim.at i
        have hyd := val_drop ys i
        have hput := fun (c' l : Int) (h : l = zs.getD i 0 - ys.getD i 0 - c + 65536 * c') => sub_put zs ys i hi c c' l D _ hyd h (unhide hval)
        have hsetl := fun z (h0 : 0 ≤ z) (h1 : z ≤ 65535) => hlim.set i h0 h1
        have hatc := fun n => at_impl (wr.drewN n) (t.n2.kept ((Kept.refl 0 0 _).drewN n)) i (by omega)
        have HAT := hide hatc
        have tp := fun n z => (t.kept ((Kept.refl 0 0 _).drewN n)).put (j := i) rfl z
        have TP := hide tp
        have HSL := hide hsetl
        have hlenset : ∀ z, (zs.set i z).length = zs.length := fun z => by rw [List.length_set]
        have HLS := hide hlenset
        generalize hz : zs.getD i 0 = z at *
        generalize hy2 : ys.getD i 0 = y at *
        have HP := hide hput
        have hlt2 : (i : Int) < ((zs.length : Nat) : Int) := by omega
        clear hatc tp hput hyd hz hy2 t hlim hval hsetl hlenset
        by_cases hneg : z - y - (c : Int) < 0
        · go_quiet ((go_at_call 124; exact (unhide HAT _).mono (fun e w' h => ⟨h.1, _, h.2⟩)))
          go_wp2
          go_roundw
          case rel => exact ⟨zs.set i (z - y - c + 65536), 1, i + 1, _, rfl, by go_num, by omega, by rw [unhide HLS]; omega, by rw [unhide HLS]; exact unhide HZX, unhide HSL _ (by omega) (by omega), unhide HP 1 _ (by omega), unhide TP _ _⟩
          case measure => have := unhide HZX; simp [intOf]; omega
        · go_quiet ((go_at_call 124; exact (unhide HAT _).mono (fun e w' h => ⟨h.1, _, h.2⟩)))
          go_wp2
          go_roundw
          case rel => exact ⟨zs.set i (z - y - c), 0, i + 1, _, rfl, by go_num, by omega, by rw [unhide HLS]; omega, by rw [unhide HLS]; exact unhide HZX, unhide HSL _ (by omega) (by omega), unhide HP 0 _ (by omega), unhide TP _ _⟩
          case measure => have := unhide HZX; simp [intOf]; omega
    · have hgo1 : ¬ (i : Int) < (ys.length : Int) := by omega
      have hc0 : c = 0 := by omega
      subst hc0
      have e1 := unhide hval
      rw [List.drop_of_length_le (by omega)] at e1
      simp [val] at e1
      have n1 := t.n1
      obtain ⟨a1, d1, rfl⟩ := n1.form
      have TT := hide t
      have HE := hide e1
      clear t hval e1
      go_wp2_with fail
      refine (trim_side _ n1 hlim).mono ?_
      rintro e w6 ⟨⟨r6, rfl⟩, u6, n6, ho6, m6, s6⟩
      have T6 := hide ((unhide TT).mod1 n6 ho6 m6 s6)
      rw [unhide HE] at T6
      clear n1 n6 ho6 m6 s6 TT
      go_wp2
      exact bodyPost_end (v := .tuple #[]) (by simp [results, Try.results80, go_sem]) rfl ⟨⟨_, rfl⟩, _, _, unhide T6⟩

end Go.Proofs.Ytoijdclblcmpaaa

namespace Go.Proofs.Ytoijdclblcmpaaa
open Go.RowKit
set_option linter.unusedVariables false
set_option maxRecDepth 8000
set_option linter.unusedSimpArgs false

/-- The second cell of block g tells the sign s, and may be written. -/
def Sd (w : World) (g : Nat) (s : Bool) : Prop := w.cell? ⟨g, 1, none⟩ = some (.bool s) ∧ w.frozen? ⟨g, 1, none⟩ = false
theorem Sd.same {w w' : World} {g : Nat} {s : Bool} (h : Sd w g s) (k : SameSide g w w') : Sd w' g s := ⟨(k 1 (Nat.le_refl 1)).1.trans h.1, (k 1 (Nat.le_refl 1)).2.trans h.2⟩
theorem Sd.lt {w : World} {g : Nat} {s : Bool} (h : Sd w g s) : g < w.heap.size := World.block_lt_of_cell? _ ⟨g, 1, none⟩ h.1
theorem Sd.kept {w w' : World} {g : Nat} {s : Bool} (h : Sd w g s) (k : Kept 0 0 w w') : Sd w' g s := h.same (k.side h.lt)

set_option maxHeartbeats 1000000 in
theorem wok_impl {bw : Bool} {lo hi : Nat} {v : Value} {zs : List Int} (b : Bool) (w : World) (r : Row .i64 bw lo hi w v zs) :
    Calls Try.prog 35 #[.agg #[.bool b, v]] w fun e w' => e = .returned (.bool (wokB b zs)) ∧ Kept 0 0 w w' := by
  have k0 := (Kept.refl 0 0 w).alloc (.cells #[.bool b, v] 42)
  have q := r.kept k0 (by omega)
  have c0 : (w.alloc (.cells #[.bool b, v] 42)).cell? ⟨w.heap.size, 0, none⟩ = some (.bool b) := new_cell2 _ _ _ _ _ _ rfl rfl
  have c1 : (w.alloc (.cells #[.bool b, v] 42)).cell? ⟨w.heap.size, 1, none⟩ = some v := new_cell2 _ _ _ _ _ _ rfl rfl
  obtain ⟨a, c, rfl⟩ := Row.form' r
  clear r
  go_enter Try.func35, Try.ntmps35
  go_wp2_with fail
  generalize w.alloc (.cells #[.bool b, .slice a zs.length c] 42) = W at *
  refine (ok_impl _ q).mono ?_
  rintro e w1 ⟨rfl, k1⟩
  replace c0 := k1.cell0 c0
  replace c1 := k1.cell0 c1
  have K := hide (k0.trans k1)
  clear k0 k1 q
  cases hok : okB zs
  · have HK := hide (wokB_bad (b := b) hok)
    clear hok
    go_wp2
    go_ret
    exact ⟨by rw [unhide HK]; rfl, unhide K⟩
  · have HK : Hid (wokB b zs = (!b || decide (0 < (zs.length : Int)))) := by show _ = _; unfold wokB; rw [hok]; rfl
    clear hok
    cases b
    · go_wp2
      go_ret
      exact ⟨by rw [unhide HK]; rfl, unhide K⟩
    · go_wp2
      go_ret
      exact ⟨by rw [unhide HK]; simp, unhide K⟩

theorem in_limbsOf : ∀ (w : World) (args : Array Value), (callFunc 75 args).run Try.prog w = .ok (.enter 75 args) w := enters Try.func75 (by decide) (fun h => by cases h)

set_option maxHeartbeats 1000000 in
theorem signedOf_impl {bw : Bool} {lo hi : Nat} {v : Value} {zs : List Int} (b : Bool) (w : World) (r : Row .i64 bw lo hi w v zs) (hl : zs.length ≤ 1000000) :
    Calls Try.prog 91 #[.agg #[.bool b, v]] w fun e w' => ∃ v', e = .returned (.agg #[v', .bool b]) ∧ w'.ownsRow w.heap.size 3 1 v' zs.length (zs.map (Value.int .i64)) ∧ Kept 0 0 w w' := by
  have k0 : Kept 0 0 w ((w.alloc (.cells #[.bool b, v] 42)).alloc (.cells #[.slice none 0 0, .bool false] 102)) := (((Kept.refl 0 0 w).alloc (.cells #[.bool b, v] 42)).alloc (.cells #[.slice none 0 0, .bool false] 102))
  have p0 : ((w.alloc (.cells #[.bool b, v] 42)).alloc (.cells #[.slice none 0 0, .bool false] 102)).cell? ⟨w.heap.size, 0, none⟩ = some (.bool b) := old_cell _ (new_cell2 _ _ _ _ _ _ (by simp) rfl)
  have p1 : ((w.alloc (.cells #[.bool b, v] 42)).alloc (.cells #[.slice none 0 0, .bool false] 102)).cell? ⟨w.heap.size, 1, none⟩ = some (v) := old_cell _ (new_cell2 _ _ _ _ _ _ (by simp) rfl)
  have q0 : ((w.alloc (.cells #[.bool b, v] 42)).alloc (.cells #[.slice none 0 0, .bool false] 102)).cell? ⟨w.heap.size + 1, 0, none⟩ = some (.slice none 0 0) := new_cell2 _ _ _ _ _ _ (by simp) rfl
  have qf0 : ((w.alloc (.cells #[.bool b, v] 42)).alloc (.cells #[.slice none 0 0, .bool false] 102)).frozen? ⟨w.heap.size + 1, 0, none⟩ = false := new_loose2 _ _ _ _ _ (by simp)
  have q1 : ((w.alloc (.cells #[.bool b, v] 42)).alloc (.cells #[.slice none 0 0, .bool false] 102)).cell? ⟨w.heap.size + 1, 1, none⟩ = some (.bool false) := new_cell2 _ _ _ _ _ _ (by simp) rfl
  have qf1 : ((w.alloc (.cells #[.bool b, v] 42)).alloc (.cells #[.slice none 0 0, .bool false] 102)).frozen? ⟨w.heap.size + 1, 1, none⟩ = false := new_loose2 _ _ _ _ _ (by simp)
  replace r := r.kept k0 (by omega)
  have s0 : ((w.alloc (.cells #[.bool b, v] 42)).alloc (.cells #[.slice none 0 0, .bool false] 102)).heap.size = w.heap.size + 2 := by simp
  obtain ⟨a, c, hv⟩ := Row.form' r
  subst hv
  have K := hide (k0)
  clear k0
  have S0 := hide s0
  clear s0
  go_enter Try.func91, Try.ntmps91
  go_wp2_with fail
  generalize ((w.alloc (.cells #[.bool b, .slice a zs.length c] 42)).alloc (.cells #[.slice none 0 0, .bool false] 102)) = W at *
  have kd := (Kept.refl 0 0 W).drew
  replace r := r.kept kd (by omega)
  replace qf0 := kd.loose0 (World.block_lt_of_cell? _ _ q0) qf0
  replace qf1 := kd.loose0 (World.block_lt_of_cell? _ _ q1) qf1
  replace p0 := kd.cell0 p0
  replace p1 := kd.cell0 p1
  replace q0 := kd.cell0 q0
  replace q1 := kd.cell0 q1
  replace K := hide ((unhide K).trans kd)
  have z1 := kd.size
  clear kd
  refine wp_region_held_drew (S := (fun w' => w'.cell? ⟨w.heap.size, 0, none⟩ = some (.bool b) ∧ w'.cell? ⟨w.heap.size, 1, none⟩ = some (.slice a zs.length c))) (by kernel_rfl) ?_ (fun hHeld => ?_)
  · exact ⟨p0, p1⟩
  refine wpAnyH_take (i := 0) (oi := _) (v := .pointer (some ⟨w.heap.size, 1, none⟩)) rfl (by kernel_rfl) (by kernel_rfl) (by kernel_rfl) (fun _ _ _ h => h) (Or.inl ⟨by rfl, ?_⟩) hHeld ?_
  · intro wq hSw
    try dsimp only at hSw
    go_simp
  try simp only [Act.put, List.getElem_toArray, List.getElem_cons_succ, List.getElem_cons_zero, List.setIfInBounds_toArray, List.set_cons_zero, List.set_cons_succ]
  refine wpAnyH_take (i := 1) (oi := _) (v := .agg #[.slice a zs.length c]) rfl (by kernel_rfl) (by kernel_rfl) (by kernel_rfl) (fun _ _ _ h => h) (Or.inl ⟨by rfl, ?_⟩) hHeld ?_
  · intro wq hSw
    try dsimp only at hSw
    go_simp
  try simp only [Act.put, List.getElem_toArray, List.getElem_cons_succ, List.getElem_cons_zero, List.setIfInBounds_toArray, List.set_cons_zero, List.set_cons_succ]
  refine wpAnyH_take (i := 3) (oi := _) (v := .pointer (some ⟨w.heap.size, 0, none⟩)) rfl (by kernel_rfl) (by kernel_rfl) (by kernel_rfl) (fun _ _ _ h => h) (Or.inl ⟨by rfl, ?_⟩) hHeld ?_
  · intro wq hSw
    try dsimp only at hSw
    go_simp
  try simp only [Act.put, List.getElem_toArray, List.getElem_cons_succ, List.getElem_cons_zero, List.setIfInBounds_toArray, List.set_cons_zero, List.set_cons_succ]
  refine wpAnyH_take (i := 4) (oi := _) (v := .bool b) rfl (by kernel_rfl) (by kernel_rfl) (by kernel_rfl) (fun _ _ _ h => h) (Or.inl ⟨by rfl, ?_⟩) hHeld ?_
  · intro wq hSw
    try dsimp only at hSw
    go_simp
  try simp only [Act.put, List.getElem_toArray, List.getElem_cons_succ, List.getElem_cons_zero, List.setIfInBounds_toArray, List.set_cons_zero, List.set_cons_succ]
  refine wpAnyH_ready (rs := [2]) (by kernel_rfl) (by simp) ?_
  refine AllReadyH.cons rfl (fun KK hK => ?_) AllReadyH.nil
  simp only [List.getElem_toArray, List.getElem_cons_succ, List.getElem_cons_zero]
  rw [if_pos (by rfl)]
  refine wps1 75 (.tmp 4) _ rfl in_limbsOf (.agg #[.slice a zs.length c]) rfl (limbsOf_impl _ r hl) ?_
  rintro e w2 ⟨v3, rfl, o3, k2⟩
  refine ⟨_, rfl, ?_⟩
  replace r := r.kept k2 (by omega)
  replace qf0 := k2.loose0 (World.block_lt_of_cell? _ _ q0) qf0
  replace qf1 := k2.loose0 (World.block_lt_of_cell? _ _ q1) qf1
  replace p0 := k2.cell0 p0
  replace p1 := k2.cell0 p1
  replace q0 := k2.cell0 q0
  replace q1 := k2.cell0 q1
  replace K := hide ((unhide K).trans k2)
  have z3 := k2.size
  clear k2
  clear hHeld
  refine hK.out _ _ ?_ (fun hHeld => ?_)
  · exact ⟨p0, p1⟩
  clear hK KK
  try simp only [Act.put, List.getElem_toArray, List.getElem_cons_succ, List.getElem_cons_zero, List.setIfInBounds_toArray, List.set_cons_zero, List.set_cons_succ]
  obtain ⟨a3, c3, hv⟩ := own_slice o3
  subst hv
  refine wpAnyH_take (i := 5) (oi := _) (v := .agg #[.slice a3 zs.length c3, .bool b]) rfl (by kernel_rfl) (by kernel_rfl) (by kernel_rfl) (fun _ _ _ h => h) (Or.inl ⟨by rfl, ?_⟩) hHeld ?_
  · intro wq hSw
    try dsimp only at hSw
    go_simp
  try simp only [Act.put, List.getElem_toArray, List.getElem_cons_succ, List.getElem_cons_zero, List.setIfInBounds_toArray, List.set_cons_zero, List.set_cons_succ]
  refine wpAnyH_ready (rs := [6]) (by kernel_rfl) (by simp) ?_
  refine AllReadyH.cons rfl (fun KK hK => ?_) AllReadyH.nil
  simp only [List.getElem_toArray, List.getElem_cons_succ, List.getElem_cons_zero]
  rw [if_pos (by rfl)]
  go_simp
  clear hHeld
  refine hK.out _ _ ?_ (fun hHeld => ?_)
  · exact ⟨(cell_aside _ (by have := unhide S0; dsimp only; omega) (cell_aside _ (by have := unhide S0; dsimp only; omega) p0)), (cell_aside _ (by have := unhide S0; dsimp only; omega) (cell_aside _ (by have := unhide S0; dsimp only; omega) p1))⟩
  clear hK KK
  try simp only [Act.put, List.getElem_toArray, List.getElem_cons_succ, List.getElem_cons_zero, List.setIfInBounds_toArray, List.set_cons_zero, List.set_cons_succ]
  refine wpAnyH_done (by kernel_rfl) ?_ _
  clear hHeld
  have o3l := o3.lt
  have o3l := o3.lt
  have O := hide (own_less (own_apart (own_apart o3 (p := ⟨w.heap.size + 1, 0, none⟩) (fun e => by have := (o3l _ e).1; have := unhide S0; dsimp only at *; omega) (.slice a3 zs.length c3)) (p := ⟨w.heap.size + 1, 1, none⟩) (fun e => by have := (o3l _ e).1; have := unhide S0; dsimp only at *; omega) (.bool b)) (base' := w.heap.size) (by have := unhide S0; omega))
  have K7 := hide (((unhide K).setNew (p := ⟨w.heap.size + 1, 0, none⟩) (by simp) (.slice a3 zs.length c3)).setNew (p := ⟨w.heap.size + 1, 1, none⟩) (by simp) (.bool b))
  clear o3 o3l r K
  go_wp2_with fail
  exact bodyPost_ret (v := .agg #[.slice a3 zs.length c3, .bool b]) (by simp [results, Try.results91, go_sem, q0, q1]) rfl ⟨_, rfl, unhide O, unhide K7⟩

set_option maxHeartbeats 1000000 in
theorem isBelow_impl {b g : Nat} {v : Value} {zs : List Int} {s : Bool} (w : World) (h : Num b w g v zs) (d : Sd w g s) :
    Calls Try.prog 115 #[.pointer (some ⟨g, 0, none⟩)] w fun e w' => e = .returned (.bool (s && decide (0 < zs.length))) ∧ w' = w := by
  have hc := h.cell
  have hd := d.1
  have hz := isZero_impl w h
  obtain ⟨a1, c1, rfl⟩ := h.form
  have HZ := hide hz
  clear hz h d
  cases s
  · go_enter Try.func115, Try.ntmps115
    go_wp2
    go_ret
    exact ⟨rfl, rfl⟩
  · go_enter Try.func115, Try.ntmps115
    go_wp2_with (go_at_call 127; refine (unhide HZ).mono ?_; rintro e w' ⟨rfl, rfl⟩)
    go_ret
    refine ⟨?_, rfl⟩
    cases zs <;> simp

theorem in_isBelow : ∀ (w : World) (args : Array Value), (callFunc 115 args).run Try.prog w = .ok (.enter 115 args) w := enters Try.func115 (by decide) (fun h => by cases h)

set_option maxHeartbeats 2000000 in
theorem toldSigned_impl {b g : Nat} {v : Value} {zs : List Int} {s : Bool} (w : World) (h : Num b w g v zs) (d : Sd w g s) :
    Calls Try.prog 93 #[.pointer (some ⟨g, 0, none⟩)] w fun e w' => ∃ v', e = .returned (.tuple #[.agg #[.bool (decide (zs.length ≤ 100) && (s && decide (0 < zs.length))), v'], .bool (decide (zs.length ≤ 100))]) ∧ Row .i64 true w.heap.size w'.heap.size w' v' (tell zs) ∧ Kept 0 0 w w' := by
  have hb : (if zs.length ≤ 100 then tell zs = zs else tell zs = []) := by unfold tell; split <;> rfl
  obtain ⟨zz, hzz⟩ : ∃ zz, tell zs = zz := ⟨_, rfl⟩
  rw [hzz] at hb
  rw [hzz]
  have HZ := hide hzz
  clear hzz
  have k0 : Kept 0 0 w (w.alloc (.cells #[.bool false, .slice none 0 0] 42)) := ((Kept.refl 0 0 w).alloc (.cells #[.bool false, .slice none 0 0] 42))
  have q0 : (w.alloc (.cells #[.bool false, .slice none 0 0] 42)).cell? ⟨w.heap.size, 0, none⟩ = some (.bool false) := new_cell2 _ _ _ _ _ _ (by simp) rfl
  have qf0 : (w.alloc (.cells #[.bool false, .slice none 0 0] 42)).frozen? ⟨w.heap.size, 0, none⟩ = false := new_loose2 _ _ _ _ _ (by simp)
  have q1 : (w.alloc (.cells #[.bool false, .slice none 0 0] 42)).cell? ⟨w.heap.size, 1, none⟩ = some (.slice none 0 0) := new_cell2 _ _ _ _ _ _ (by simp) rfl
  have qf1 : (w.alloc (.cells #[.bool false, .slice none 0 0] 42)).frozen? ⟨w.heap.size, 1, none⟩ = false := new_loose2 _ _ _ _ _ (by simp)
  have s0 : (w.alloc (.cells #[.bool false, .slice none 0 0] 42)).heap.size = w.heap.size + 1 := by simp
  have K := hide (k0)
  clear k0
  have S0 := hide s0
  clear s0
  replace h := h.kept (unhide K)
  replace d := d.kept (unhide K)
  go_enter Try.func93, Try.ntmps93
  go_wp2_with fail
  generalize (w.alloc (.cells #[.bool false, .slice none 0 0] 42)) = W at *
  refine (told_impl _ h).mono ?_
  rintro e w1 ⟨v1, rfl, r1, k1⟩
  replace h := h.kept k1
  replace d := d.kept k1
  replace qf0 := k1.loose0 (World.block_lt_of_cell? _ _ q0) qf0
  replace qf1 := k1.loose0 (World.block_lt_of_cell? _ _ q1) qf1
  replace q0 := k1.cell0 q0
  replace q1 := k1.cell0 q1
  replace K := hide ((unhide K).trans k1)
  have z2 := k1.size
  clear k1
  rw [unhide HZ] at r1
  obtain ⟨a1, c1, hv⟩ := Row.form' r1
  subst hv
  have k2 := (Kept.refl 0 0 w1).alloc (.cells #[.slice a1 zz.length c1] 26)
  have y0 : (w1.alloc (.cells #[.slice a1 zz.length c1] 26)).cell? ⟨w1.heap.size, 0, none⟩ = some (.slice a1 zz.length c1) := new_cell2 _ _ _ _ _ _ rfl rfl
  replace r1 := r1.kept k2 (by omega)
  replace h := h.kept k2
  replace d := d.kept k2
  replace qf0 := k2.loose0 (World.block_lt_of_cell? _ _ q0) qf0
  replace qf1 := k2.loose0 (World.block_lt_of_cell? _ _ q1) qf1
  replace q0 := k2.cell0 q0
  replace q1 := k2.cell0 q1
  replace K := hide ((unhide K).trans k2)
  have z3 := k2.size
  clear k2
  by_cases hl : zs.length ≤ 100
  · rw [if_pos hl] at hb
    subst hb
    rw [decide_eq_true hl]
    go_wp2_with fail
    generalize w1.alloc (.cells #[.slice a1 zz.length c1] 26) = W2 at *
    obtain ⟨sg, hsg⟩ : ∃ sg, (s && decide (0 < zz.length)) = sg := ⟨_, rfl⟩
    have hbl := isBelow_impl W2.drew (h.kept (Kept.refl 0 0 W2).drew) (d.kept (Kept.refl 0 0 W2).drew)
    rw [hsg] at hbl
    have HSG := hide hsg
    have hbk : Calls Try.prog 115 #[.pointer (some ⟨g, 0, none⟩)] W2.drew fun e w' => e = .returned (.bool sg) ∧ Kept 0 0 W2.drew w' := hbl.mono (fun e w' h => ⟨h.1, by rw [h.2]; exact Kept.refl 0 0 _⟩)
    clear hsg hbl
    have kd := (Kept.refl 0 0 W2).drew
    replace r1 := r1.kept kd (by omega)
    replace h := h.kept kd
    replace d := d.kept kd
    replace qf0 := kd.loose0 (World.block_lt_of_cell? _ _ q0) qf0
    replace qf1 := kd.loose0 (World.block_lt_of_cell? _ _ q1) qf1
    replace q0 := kd.cell0 q0
    replace q1 := kd.cell0 q1
    replace y0 := kd.cell0 y0
    replace K := hide ((unhide K).trans kd)
    have z4 := kd.size
    clear kd
    refine wp_region_held_drew (S := (fun w' => w'.cell? ⟨w1.heap.size, 0, none⟩ = some (.slice a1 zz.length c1))) (by kernel_rfl) ?_ (fun hHeld => ?_)
    · exact y0
    refine wpAnyH_take (i := 0) (oi := _) (v := .pointer (some ⟨g, 0, none⟩)) rfl (by kernel_rfl) (by kernel_rfl) (by kernel_rfl) (fun _ _ _ h => h) (Or.inl ⟨by rfl, ?_⟩) hHeld ?_
    · intro wq hSw
      try dsimp only at hSw
      go_simp
    try simp only [Act.put, List.getElem_toArray, List.getElem_cons_succ, List.getElem_cons_zero, List.setIfInBounds_toArray, List.set_cons_zero, List.set_cons_succ]
    refine wpAnyH_take (i := 2) (oi := _) (v := .agg #[.slice a1 zz.length c1]) rfl (by kernel_rfl) (by kernel_rfl) (by kernel_rfl) (fun _ _ _ h => h) (Or.inl ⟨by rfl, ?_⟩) hHeld ?_
    · intro wq hSw
      try dsimp only at hSw
      go_simp
    try simp only [Act.put, List.getElem_toArray, List.getElem_cons_succ, List.getElem_cons_zero, List.setIfInBounds_toArray, List.set_cons_zero, List.set_cons_succ]
    refine wpAnyH_ready (rs := [1]) (by kernel_rfl) (by simp) ?_
    refine AllReadyH.cons rfl (fun KK hK => ?_) AllReadyH.nil
    simp only [List.getElem_toArray, List.getElem_cons_succ, List.getElem_cons_zero]
    rw [if_pos (by rfl)]
    refine wps1 115 (.tmp 16) _ rfl in_isBelow (.pointer (some ⟨g, 0, none⟩)) rfl hbk ?_
    rintro e w5 ⟨rfl, k5⟩
    refine ⟨_, rfl, ?_⟩
    replace r1 := r1.kept k5 (by omega)
    replace h := h.kept k5
    replace d := d.kept k5
    replace qf0 := k5.loose0 (World.block_lt_of_cell? _ _ q0) qf0
    replace qf1 := k5.loose0 (World.block_lt_of_cell? _ _ q1) qf1
    replace q0 := k5.cell0 q0
    replace q1 := k5.cell0 q1
    replace y0 := k5.cell0 y0
    replace K := hide ((unhide K).trans k5)
    have z6 := k5.size
    clear k5
    clear hHeld
    refine hK.out _ _ ?_ (fun hHeld => ?_)
    · exact y0
    clear hK KK
    try simp only [Act.put, List.getElem_toArray, List.getElem_cons_succ, List.getElem_cons_zero, List.setIfInBounds_toArray, List.set_cons_zero, List.set_cons_succ]
    refine wpAnyH_take (i := 3) (oi := _) (v := .agg #[.bool sg, .slice a1 zz.length c1]) rfl (by kernel_rfl) (by kernel_rfl) (by kernel_rfl) (fun _ _ _ h => h) (Or.inl ⟨by rfl, ?_⟩) hHeld ?_
    · intro wq hSw
      try dsimp only at hSw
      go_simp
    try simp only [Act.put, List.getElem_toArray, List.getElem_cons_succ, List.getElem_cons_zero, List.setIfInBounds_toArray, List.set_cons_zero, List.set_cons_succ]
    refine wpAnyH_ready (rs := [4]) (by kernel_rfl) (by simp) ?_
    refine AllReadyH.cons rfl (fun KK hK => ?_) AllReadyH.nil
    simp only [List.getElem_toArray, List.getElem_cons_succ, List.getElem_cons_zero]
    rw [if_pos (by rfl)]
    go_simp
    clear hHeld
    refine hK.out _ _ ?_ (fun hHeld => ?_)
    · exact (cell_aside _ (by have := unhide S0; dsimp only; omega) (cell_aside _ (by have := unhide S0; dsimp only; omega) y0))
    clear hK KK
    try simp only [Act.put, List.getElem_toArray, List.getElem_cons_succ, List.getElem_cons_zero, List.setIfInBounds_toArray, List.set_cons_zero, List.set_cons_succ]
    refine wpAnyH_take (i := 5) (oi := _) (v := .bool true) rfl (by kernel_rfl) (by kernel_rfl) (by kernel_rfl) (fun _ _ _ h => h) (Or.inl ⟨by rfl, ?_⟩) hHeld ?_
    · intro wq hSw
      try dsimp only at hSw
      go_simp
    try simp only [Act.put, List.getElem_toArray, List.getElem_cons_succ, List.getElem_cons_zero, List.setIfInBounds_toArray, List.set_cons_zero, List.set_cons_succ]
    refine wpAnyH_done (by kernel_rfl) ?_ _
    clear hHeld
    clear hbk
    have hz0 : w.heap.size < W.heap.size := by have := unhide S0; omega
    have bX : w.heap.size < w5.heap.size := World.block_lt_of_cell? _ _ q0
    have R := hide (((r1.set_other (p := ⟨w.heap.size, 0, none⟩) (.inl (by have := unhide S0; dsimp only; omega)) (.bool sg)).set_other (p := ⟨w.heap.size, 1, none⟩) (.inl (by have := unhide S0; dsimp only; omega)) (.slice a1 zz.length c1)).tight.wider (lo' := w.heap.size) (by have := unhide S0; omega) (Nat.le_refl _))
    have K7 := hide (((unhide K).setNew (p := ⟨w.heap.size, 0, none⟩) (by simp) (.bool sg)).setNew (p := ⟨w.heap.size, 1, none⟩) (by simp) (.slice a1 zz.length c1))
    clear r1 h d K
    go_wp2_with fail
    exact bodyPost_ret (v := .tuple #[.agg #[.bool sg, .slice a1 zz.length c1], .bool true]) (by simp [results, Try.results93, go_sem, q0, q1]) rfl ⟨_, by simp only [decide_eq_true hl, Bool.true_and, unhide HSG], unhide R, unhide K7⟩
  · rw [if_neg hl] at hb
    subst hb
    rw [decide_eq_false hl]
    have K' := hide (((unhide K).setNew (p := ⟨w.heap.size, 0, none⟩) (by simp) (.bool false)).setNew (p := ⟨w.heap.size, 1, none⟩) (by simp) (.slice none 0 0))
    simp only [List.length_nil] at K' q0 q1 qf0 qf1
    clear r1 h d K y0
    go_wp2_with fail
    exact bodyPost_ret (v := .tuple #[.agg #[.bool false, .slice none 0 0], .bool false]) (by simp [results, Try.results93, go_sem, q0, q1]) rfl ⟨_, by rw [decide_eq_false hl]; rfl, Row.nil _ _ _ _ _, unhide K'⟩

end Go.Proofs.Ytoijdclblcmpaaa

namespace Go.Proofs.Ytoijdclblcmpaaa
open Go.RowKit
set_option linter.unusedVariables false
set_option maxRecDepth 8000
set_option linter.unusedSimpArgs false

theorem front_set (w : World) (g : Nat) (u : Value) : (w.setCell ⟨g, 1, none⟩ u).cell? ⟨g, 0, none⟩ = w.cell? ⟨g, 0, none⟩ := by
  unfold World.cell? World.setCell
  simp only [Array.getElem?_modify]
  cases hb : w.heap[g]? with
  | none => simp
  | some b => cases b <;> simp
theorem Num.side {b g : Nat} {w : World} {v : Value} {zs : List Int} (h : Num b w g v zs) (u : Value) : Num b (w.setCell ⟨g, 1, none⟩ u) g v zs :=
  ⟨(front_set w g u).trans h.cell, by rw [frozen_set]; exact h.loose, own_apart h.own (p := ⟨g, 1, none⟩) h.apart u, h.apart⟩
theorem Sd.set {w : World} {g : Nat} {s : Bool} (h : Sd w g s) (t : Bool) : Sd (w.setCell ⟨g, 1, none⟩ (.bool t)) g t :=
  ⟨by have := cell_set w g 1 1 (.bool t) (.bool s) h.1; simpa using this, by rw [frozen_set]; exact h.2⟩

theorem in_multiply : ∀ (w : World) (args : Array Value), (callFunc 78 args).run Try.prog w = .ok (.enter 78 args) w := enters Try.func78 (by decide) (fun h => by cases h)

theorem in_add : ∀ (w : World) (args : Array Value), (callFunc 76 args).run Try.prog w = .ok (.enter 76 args) w := enters Try.func76 (by decide) (fun h => by cases h)

theorem in_subtract : ∀ (w : World) (args : Array Value), (callFunc 80 args).run Try.prog w = .ok (.enter 80 args) w := enters Try.func80 (by decide) (fun h => by cases h)

theorem in_compare : ∀ (w : World) (args : Array Value), (callFunc 79 args).run Try.prog w = .ok (.enter 79 args) w := enters Try.func79 (by decide) (fun h => by cases h)

theorem in_subtractFrom : ∀ (w : World) (args : Array Value), (callFunc 136 args).run Try.prog w = .ok (.enter 136 args) w := enters Try.func136 (by decide) (fun h => by cases h)

theorem in_copied : ∀ (w : World) (args : Array Value), (callFunc 164 args).run Try.prog w = .ok (.enter 164 args) w := enters Try.func164 (by decide) (fun h => by cases h)

set_option maxHeartbeats 1000000 in
theorem turnSign_tail {b g : Nat} {v : Value} {zs : List Int} {s : Bool} (w : World) (h : Num b w g v zs) (d : Sd w g s) :
    Calls Try.prog 95 #[.pointer (some ⟨g, 0, none⟩)] w fun e w' => (∃ r, e = .returned r) ∧ Num b w' g v zs ∧ Sd w' g (!s) ∧ Mod (fun i => i = g) w w' ∧ SameTail g w w' := by
  have hc := d.1
  have hf := d.2
  have N1 := hide h
  have D1 := hide d
  clear h d
  go_enter Try.func95, Try.ntmps95
  go_wp2
  exact bodyPost_end (v := .tuple #[]) (by simp [results, Try.results95, go_sem]) rfl ⟨⟨_, rfl⟩, (unhide N1).side _, (unhide D1).set _, Mod.set (S := fun i => i = g) (Mod.refl _ _) (p := ⟨g, 1, none⟩) (.inl rfl) _, (SameTail.refl _ _).set1 _⟩

theorem turnSign_impl {b g : Nat} {v : Value} {zs : List Int} {s : Bool} (w : World) (h : Num b w g v zs) (d : Sd w g s) :
    Calls Try.prog 95 #[.pointer (some ⟨g, 0, none⟩)] w fun e w' => (∃ r, e = .returned r) ∧ Num b w' g v zs ∧ Sd w' g (!s) ∧ Mod (fun i => i = g) w w' :=
  (turnSign_tail w h d).mono fun _ _ ⟨a, b, c, d, _⟩ => ⟨a, b, c, d⟩

set_option maxHeartbeats 2000000 in
theorem multiplySigned_tail {b1 b2 g1 g2 : Nat} {v1 v2 : Value} {xs ys : List Int} {s1 s2 : Bool} (w : World) (n1 : Num b1 w g1 v1 xs) (n2 : Num b2 w g2 v2 ys) (d1 : Sd w g1 s1) (d2 : Sd w g2 s2) (hne : g1 ≠ g2) (hx : Lim xs) (hy : Lim ys) (nx : xs.length ≤ 100000) (ny : ys.length ≤ 100000) :
    Calls Try.prog 94 #[.pointer (some ⟨g1, 0, none⟩), .pointer (some ⟨g2, 0, none⟩)] w fun e w' => (∃ r, e = .returned r) ∧ ∃ u, Num w.heap.size w' g1 u (limbs (val xs * val ys).toNat) ∧ Sd w' g1 (!(s1 == s2)) ∧ Mod (fun i => i = g1) w w' ∧ SameTail g1 w w' := by
  have kd := (Kept.refl 0 0 w).drew
  have ml := multiply_side w.drew (n1.kept kd) (n2.kept kd) hx hy nx ny
  go_enter Try.func94, Try.ntmps94
  go_wp2_with fail
  refine wp_region_held_drew (S := (fun _ => True)) (by kernel_rfl) ?_ (fun hHeld => ?_)
  · trivial
  refine wpAnyH_take (i := 0) (oi := _) (v := .pointer (some ⟨g1, 0, none⟩)) rfl (by kernel_rfl) (by kernel_rfl) (by kernel_rfl) (fun _ _ _ h => h) (Or.inl ⟨by rfl, ?_⟩) hHeld ?_
  · intro wq hSw
    try dsimp only at hSw
    go_simp
  try simp only [Act.put, List.getElem_toArray, List.getElem_cons_succ, List.getElem_cons_zero, List.setIfInBounds_toArray, List.set_cons_zero, List.set_cons_succ]
  refine wpAnyH_take (i := 1) (oi := _) (v := .pointer (some ⟨g1, 0, none⟩)) rfl (by kernel_rfl) (by kernel_rfl) (by kernel_rfl) (fun _ _ _ h => h) (Or.inl ⟨by rfl, ?_⟩) hHeld ?_
  · intro wq hSw
    try dsimp only at hSw
    go_simp
  try simp only [Act.put, List.getElem_toArray, List.getElem_cons_succ, List.getElem_cons_zero, List.setIfInBounds_toArray, List.set_cons_zero, List.set_cons_succ]
  refine wpAnyH_take (i := 2) (oi := _) (v := .pointer (some ⟨g1, 0, none⟩)) rfl (by kernel_rfl) (by kernel_rfl) (by kernel_rfl) (fun _ _ _ h => h) (Or.inl ⟨by rfl, ?_⟩) hHeld ?_
  · intro wq hSw
    try dsimp only at hSw
    go_simp
  try simp only [Act.put, List.getElem_toArray, List.getElem_cons_succ, List.getElem_cons_zero, List.setIfInBounds_toArray, List.set_cons_zero, List.set_cons_succ]
  refine wpAnyH_take (i := 3) (oi := _) (v := .pointer (some ⟨g2, 0, none⟩)) rfl (by kernel_rfl) (by kernel_rfl) (by kernel_rfl) (fun _ _ _ h => h) (Or.inl ⟨by rfl, ?_⟩) hHeld ?_
  · intro wq hSw
    try dsimp only at hSw
    go_simp
  try simp only [Act.put, List.getElem_toArray, List.getElem_cons_succ, List.getElem_cons_zero, List.setIfInBounds_toArray, List.set_cons_zero, List.set_cons_succ]
  refine wpAnyH_take (i := 4) (oi := _) (v := .pointer (some ⟨g2, 0, none⟩)) rfl (by kernel_rfl) (by kernel_rfl) (by kernel_rfl) (fun _ _ _ h => h) (Or.inl ⟨by rfl, ?_⟩) hHeld ?_
  · intro wq hSw
    try dsimp only at hSw
    go_simp
  try simp only [Act.put, List.getElem_toArray, List.getElem_cons_succ, List.getElem_cons_zero, List.setIfInBounds_toArray, List.set_cons_zero, List.set_cons_succ]
  refine wpAnyH_take (i := 5) (oi := _) (v := .pointer (some ⟨g2, 0, none⟩)) rfl (by kernel_rfl) (by kernel_rfl) (by kernel_rfl) (fun _ _ _ h => h) (Or.inl ⟨by rfl, ?_⟩) hHeld ?_
  · intro wq hSw
    try dsimp only at hSw
    go_simp
  try simp only [Act.put, List.getElem_toArray, List.getElem_cons_succ, List.getElem_cons_zero, List.setIfInBounds_toArray, List.set_cons_zero, List.set_cons_succ]
  refine wpAnyH_ready (rs := [6]) (by kernel_rfl) (by simp) ?_
  refine AllReadyH.cons rfl (fun KK hK => ?_) AllReadyH.nil
  simp only [List.getElem_toArray, List.getElem_cons_succ, List.getElem_cons_zero]
  rw [if_pos (by rfl)]
  refine wps2 78 (.tmp 6) (.tmp 9) _ rfl in_multiply (.pointer (some ⟨g1, 0, none⟩)) (.pointer (some ⟨g2, 0, none⟩)) rfl rfl ml ?_
  rintro e w6 ⟨⟨r6, rfl⟩, u6, n6, m6, sd6⟩
  refine ⟨_, rfl, ?_⟩
  have D1 := hide ((d1.kept kd).same sd6)
  have D2 := hide ((d2.kept kd).same (m6.side (d2.kept kd).lt (fun e => hne e.symm)))
  have hc1 := (unhide D1).1
  have hf1 := (unhide D1).2
  have hc2 := (unhide D2).1
  have SD6 : Hid (SameTail g1 w w6) := SameSide.tail sd6
  have N6 := hide n6
  have M6 := hide m6
  clear n1 n2 d1 d2 n6 m6 sd6 ml
  clear hHeld
  refine hK.out _ _ ?_ (fun hHeld => ?_)
  · trivial
  clear hK KK
  try simp only [Act.put, List.getElem_toArray, List.getElem_cons_succ, List.getElem_cons_zero, List.setIfInBounds_toArray, List.set_cons_zero, List.set_cons_succ]
  refine wpAnyH_done (by kernel_rfl) ?_ _
  clear hHeld
  go_wp2
  go_region
  go_wp2
  exact bodyPost_end (v := .tuple #[]) (by simp [results, Try.results94, go_sem]) rfl ⟨⟨_, rfl⟩, _, ((unhide N6).kept (Kept.refl 0 0 _).drew).side _, ((unhide D1).kept (Kept.refl 0 0 _).drew).set _, Mod.set (S := fun i => i = g1) ((kd.toMod.trans (unhide M6)).kept (Kept.refl 0 0 _).drew) (p := ⟨g1, 1, none⟩) (.inl rfl) _, (unhide SD6).drew.set1 _⟩

theorem multiplySigned_impl {b1 b2 g1 g2 : Nat} {v1 v2 : Value} {xs ys : List Int} {s1 s2 : Bool} (w : World) (n1 : Num b1 w g1 v1 xs) (n2 : Num b2 w g2 v2 ys) (d1 : Sd w g1 s1) (d2 : Sd w g2 s2) (hne : g1 ≠ g2) (hx : Lim xs) (hy : Lim ys) (nx : xs.length ≤ 100000) (ny : ys.length ≤ 100000) :
    Calls Try.prog 94 #[.pointer (some ⟨g1, 0, none⟩), .pointer (some ⟨g2, 0, none⟩)] w fun e w' => (∃ r, e = .returned r) ∧ ∃ u, Num w.heap.size w' g1 u (limbs (val xs * val ys).toNat) ∧ Sd w' g1 (!(s1 == s2)) ∧ Mod (fun i => i = g1) w w' :=
  (multiplySigned_tail w n1 n2 d1 d2 hne hx hy nx ny).mono fun _ _ ⟨a, u, b, c, d, _⟩ => ⟨a, u, b, c, d⟩

theorem own_base {w : World} {b b' n : Nat} {e : TypeId} {v : Value} {xs : List Value} (h : w.ownsRow b e 1 v n xs) (hb : ∀ i, v.ownBlock = some i → b' ≤ i) : w.ownsRow b' e 1 v n xs := by
  refine ⟨h.1, ?_⟩
  rcases h.2 with hn | ⟨g, cap, cur, rfl, h1, rest⟩
  · exact .inl hn
  · exact .inr ⟨g, cap, cur, rfl, hb g rfl, rest⟩
/-- Two numbers with signs, apart, newer than w0. -/
structure Sig2 (w0 w : World) (g1 g2 : Nat) (s1 : Bool) (xs : List Int) (s2 : Bool) (ys : List Int) : Prop where
  two : ∃ u1 u2, Two w0 w g1 g2 u1 u2 xs ys
  d1 : Sd w g1 s1
  d2 : Sd w g2 s2

set_option maxHeartbeats 2000000 in
theorem subtractFrom_impl {w0 w : World} {g1 g2 : Nat} {u1 u2 : Value} {xs ys : List Int} (t : Two w0 w g1 g2 u1 u2 xs ys) (hx : Nrm xs) (hy : Nrm ys) (hl1 : ys.length ≤ 100000) (hle : val xs ≤ val ys) :
    Calls Try.prog 136 #[.pointer (some ⟨g1, 0, none⟩), .pointer (some ⟨g2, 0, none⟩)] w fun e w' => (∃ r, e = .returned r) ∧ (∃ u, Num w.heap.size w' g1 u (limbs (val ys - val xs).toNat)) ∧ SameSide g1 w w' ∧ Mod (fun i => i = g1) w w' := by
  go_enter Try.func136, Try.ntmps136
  go_wp2_with fail
  refine (copied_impl _ t.n2 (by omega)).mono ?_
  rintro e w2 ⟨v2, rfl, o2, k2⟩
  have hl := o2.lt
  have n3 := Num.new 88 o2
  have kk := k2.alloc (.cells #[v2] 88)
  have lg := t.n1.lt
  have hs := k2.size
  have ht := t.k.size
  have t3 : Two w0 (w2.alloc (.cells #[v2] 88)) w2.heap.size g1 v2 u1 ys xs :=
    ⟨n3.less ht, t.n1.kept kk, by omega, fun e => by have := (hl _ e).1; omega, fun e => by have := (t.n1.own.lt _ e).2; omega, fun k e1 e2 => by have := (hl _ e1).1; have := (t.n1.own.lt _ e2).2; omega, t.k.trans kk, by omega, t.b1⟩
  obtain ⟨a2, c2, rfl⟩ := own_slice o2
  have ts := t3.startS
  have ob : ∀ i, (Value.slice a2 ys.length c2).ownBlock = some i → w.heap.size ≤ i := fun i e => (hl i e).1
  have KK := hide kk
  have T := hide t
  have OB := hide ob
  clear n3 t3 o2 k2 hl ob kk t
  go_wp2_with fail
  generalize w2.alloc (.cells #[.slice a2 ys.length c2] 88) = W3 at *
  refine (subtract_twoS ⟨_, _, ts⟩ hy hx hl1 hle).mono ?_
  rintro e w6 ⟨⟨r6, rfl⟩, v6, v6', t6⟩
  have c6 := t6.n1.cell
  have c7 := t6.n2.cell
  have f7 := t6.n2.loose
  have o6 := t6.n1.own
  have ap := t6.two.o12
  have TT := hide t6
  obtain ⟨a6, d6, hv⟩ := own_slice o6
  generalize hzz : limbs (val ys - val xs).toNat = zz at *
  subst hv
  obtain ⟨a7, d7, hv⟩ := (unhide TT).n2.form
  subst hv
  have hne : g1 ≠ w2.heap.size := by omega
  have hb6 : ∀ i, (Value.slice a6 zz.length d6).ownBlock = some i → w.heap.size ≤ i := fun i e => by
    rcases (unhide TT).ob i e with h | h
    · exact unhide OB i h
    · have := (unhide KK).size; omega
  have HN : Hid (∀ n, Num w.heap.size ((w6.drewN n).setCell ⟨g1, 0, none⟩ (.slice a6 zz.length d6)) g1 (.slice a6 zz.length d6) zz) := fun n =>
    ⟨cell_on _ _ _ _ _ c7, by rw [frozen_set]; exact f7, own_apart (own_base o6 hb6) (p := ⟨g1, 0, none⟩) (fun e => ap e) _, fun e => ap e⟩
  have HS : Hid (∀ n, SameSide g1 w ((w6.drewN n).setCell ⟨g1, 0, none⟩ (.slice a6 zz.length d6))) := fun n => ((((unhide KK).side lg).trans ((unhide TT).m.side (by have := (unhide KK).size; omega) (fun e => e.elim (fun e => hne e) (fun e => by have := unhide OB _ e; omega)))).drewN n).set0 _
  have HM : Hid (∀ n, Mod (fun i => i = g1) w ((w6.drewN n).setCell ⟨g1, 0, none⟩ (.slice a6 zz.length d6))) := fun n => Mod.set (S := fun i => i = g1) ((Mod.then (S := fun i => i = g1) (unhide KK).toMod (unhide TT).m (fun i e => e.elim (fun e => by omega) (fun e => .inr (unhide OB _ e)))).drewN n) (p := ⟨g1, 0, none⟩) (.inl rfl) _
  have HZ := hide hzz
  clear o6 ap t6 ts hzz hb6 TT
  go_wp2_with fail
  exact bodyPost_end (v := .tuple #[]) (by simp [results, Try.results136, go_sem]) rfl ⟨⟨_, rfl⟩, ⟨_, by rw [unhide HZ]; exact unhide HN 0⟩, unhide HS 0, unhide HM 0⟩

set_option maxHeartbeats 4000000 in
theorem addSigned_tail {w0 w : World} {g1 g2 : Nat} {s1 s2 : Bool} {xs ys : List Int} (S : Sig2 w0 w g1 g2 s1 xs s2 ys) (hx : Nrm xs) (hy : Nrm ys) (nx : xs.length ≤ 100000) (ny : ys.length ≤ 100000) :
    Calls Try.prog 92 #[.pointer (some ⟨g1, 0, none⟩), .pointer (some ⟨g2, 0, none⟩)] w fun e w' => (∃ r, e = .returned r) ∧ ∃ u s zs, Num w0.heap.size w' g1 u zs ∧ Sd w' g1 s ∧ Nrm zs ∧ wval s zs = wval s1 xs + wval s2 ys ∧ zs.length ≤ 1000000 ∧ Kept 0 0 w0 w' ∧ SameTail g1 w w' := by
  have hc1 := S.d1.1
  have hc2 := S.d2.1
  have SS := hide S
  obtain ⟨u1, u2, t⟩ := S.two
  have T := hide t
  have hx0 := val_nonneg hx.1
  have hy0 := val_nonneg hy.1
  clear S t
  by_cases hs : s1 = s2
  · subst hs
    go_enter Try.func92, Try.ntmps92
    go_wp2_with fail
    go_quiet (fail)
    go_wp2_with fail
    refine wp_region_held_drew (S := (fun _ => True)) (by kernel_rfl) ?_ (fun hHeld => ?_)
    · trivial
    refine wpAnyH_take (i := 0) (oi := _) (v := .pointer (some ⟨g1, 0, none⟩)) rfl (by kernel_rfl) (by kernel_rfl) (by kernel_rfl) (fun _ _ _ h => h) (Or.inl ⟨by rfl, ?_⟩) hHeld ?_
    · intro wq hSw
      try dsimp only at hSw
      go_simp
    try simp only [Act.put, List.getElem_toArray, List.getElem_cons_succ, List.getElem_cons_zero, List.setIfInBounds_toArray, List.set_cons_zero, List.set_cons_succ]
    refine wpAnyH_take (i := 1) (oi := _) (v := .pointer (some ⟨g1, 0, none⟩)) rfl (by kernel_rfl) (by kernel_rfl) (by kernel_rfl) (fun _ _ _ h => h) (Or.inl ⟨by rfl, ?_⟩) hHeld ?_
    · intro wq hSw
      try dsimp only at hSw
      go_simp
    try simp only [Act.put, List.getElem_toArray, List.getElem_cons_succ, List.getElem_cons_zero, List.setIfInBounds_toArray, List.set_cons_zero, List.set_cons_succ]
    refine wpAnyH_take (i := 2) (oi := _) (v := .pointer (some ⟨g1, 0, none⟩)) rfl (by kernel_rfl) (by kernel_rfl) (by kernel_rfl) (fun _ _ _ h => h) (Or.inl ⟨by rfl, ?_⟩) hHeld ?_
    · intro wq hSw
      try dsimp only at hSw
      go_simp
    try simp only [Act.put, List.getElem_toArray, List.getElem_cons_succ, List.getElem_cons_zero, List.setIfInBounds_toArray, List.set_cons_zero, List.set_cons_succ]
    refine wpAnyH_take (i := 3) (oi := _) (v := .pointer (some ⟨g2, 0, none⟩)) rfl (by kernel_rfl) (by kernel_rfl) (by kernel_rfl) (fun _ _ _ h => h) (Or.inl ⟨by rfl, ?_⟩) hHeld ?_
    · intro wq hSw
      try dsimp only at hSw
      go_simp
    try simp only [Act.put, List.getElem_toArray, List.getElem_cons_succ, List.getElem_cons_zero, List.setIfInBounds_toArray, List.set_cons_zero, List.set_cons_succ]
    refine wpAnyH_take (i := 4) (oi := _) (v := .pointer (some ⟨g2, 0, none⟩)) rfl (by kernel_rfl) (by kernel_rfl) (by kernel_rfl) (fun _ _ _ h => h) (Or.inl ⟨by rfl, ?_⟩) hHeld ?_
    · intro wq hSw
      try dsimp only at hSw
      go_simp
    try simp only [Act.put, List.getElem_toArray, List.getElem_cons_succ, List.getElem_cons_zero, List.setIfInBounds_toArray, List.set_cons_zero, List.set_cons_succ]
    refine wpAnyH_take (i := 5) (oi := _) (v := .pointer (some ⟨g2, 0, none⟩)) rfl (by kernel_rfl) (by kernel_rfl) (by kernel_rfl) (fun _ _ _ h => h) (Or.inl ⟨by rfl, ?_⟩) hHeld ?_
    · intro wq hSw
      try dsimp only at hSw
      go_simp
    try simp only [Act.put, List.getElem_toArray, List.getElem_cons_succ, List.getElem_cons_zero, List.setIfInBounds_toArray, List.set_cons_zero, List.set_cons_succ]
    refine wpAnyH_ready (rs := [6]) (by kernel_rfl) (by simp) ?_
    refine AllReadyH.cons rfl (fun KK hK => ?_) AllReadyH.nil
    simp only [List.getElem_toArray, List.getElem_cons_succ, List.getElem_cons_zero]
    rw [if_pos (by rfl)]
    refine wps2 76 (.tmp 15) (.tmp 18) _ rfl in_add (.pointer (some ⟨g1, 0, none⟩)) (.pointer (some ⟨g2, 0, none⟩)) rfl rfl (add_twoS ⟨_, _, (((unhide T).kept ((Kept.refl 0 0 w).drewN _)).kept (Kept.refl 0 0 _).drew).startS⟩ hx hy nx ny) ?_
    rintro e w6 ⟨⟨r6, rfl⟩, u6, v6, t6⟩
    refine ⟨_, rfl, ?_⟩
    have N6 := hide t6.n1
    have D6 := hide ((((unhide SS).d1.kept ((Kept.refl 0 0 w).drewN _)).kept (Kept.refl 0 0 _).drew).same t6.d1)
    have K6 := hide t6.k
    have TL6 : Hid (SameTail g1 w w6) := SameSide.tail t6.d1
    have EQ : Hid (wval s1 (limbs (val xs + val ys).toNat) = wval s1 xs + wval s1 ys) := add_sgn s1 hx.1 hy.1
    have LN : Hid ((limbs (val xs + val ys).toNat).length ≤ 1000000) := add_len hx.1 hy.1 nx ny _ (by omega)
    clear t6 hc1 hc2
    clear hHeld
    refine hK.out _ _ ?_ (fun hHeld => ?_)
    · trivial
    clear hK KK
    try simp only [Act.put, List.getElem_toArray, List.getElem_cons_succ, List.getElem_cons_zero, List.setIfInBounds_toArray, List.set_cons_zero, List.set_cons_succ]
    refine wpAnyH_done (by kernel_rfl) ?_ _
    clear hHeld
    go_wp2_with fail
    exact bodyPost_ret (v := .tuple #[]) (by simp [results, Try.results92, go_sem]) rfl ⟨⟨_, rfl⟩, _, _, _, unhide N6, unhide D6, limbs_nrm _, unhide EQ, unhide LN, unhide K6, unhide TL6⟩
  have hsb : (s1 == s2) = false := beq_eq_false_iff_ne.2 hs
  have HNE := hide hs
  clear hs
  by_cases hle : val ys ≤ val xs
  · have hd : decide (cmpI (val xs) (val ys) < 0) = false := decide_eq_false (by unfold cmpI; split <;> (try split) <;> omega)
    have hd' : ¬ cmpI (val xs) (val ys) < 0 := of_decide_eq_false hd
    go_enter Try.func92, Try.ntmps92
    go_wp2_with fail
    go_quiet (fail)
    go_upto_region 2 with fail
    refine wp_region_held_drew (S := (fun _ => True)) (by kernel_rfl) ?_ (fun hHeld => ?_)
    · trivial
    refine wpAnyH_take (i := 0) (oi := _) (v := .pointer (some ⟨g1, 0, none⟩)) rfl (by kernel_rfl) (by kernel_rfl) (by kernel_rfl) (fun _ _ _ h => h) (Or.inl ⟨by rfl, ?_⟩) hHeld ?_
    · intro wq hSw
      try dsimp only at hSw
      go_simp
    try simp only [Act.put, List.getElem_toArray, List.getElem_cons_succ, List.getElem_cons_zero, List.setIfInBounds_toArray, List.set_cons_zero, List.set_cons_succ]
    refine wpAnyH_take (i := 1) (oi := _) (v := .pointer (some ⟨g1, 0, none⟩)) rfl (by kernel_rfl) (by kernel_rfl) (by kernel_rfl) (fun _ _ _ h => h) (Or.inl ⟨by rfl, ?_⟩) hHeld ?_
    · intro wq hSw
      try dsimp only at hSw
      go_simp
    try simp only [Act.put, List.getElem_toArray, List.getElem_cons_succ, List.getElem_cons_zero, List.setIfInBounds_toArray, List.set_cons_zero, List.set_cons_succ]
    refine wpAnyH_take (i := 2) (oi := _) (v := .pointer (some ⟨g1, 0, none⟩)) rfl (by kernel_rfl) (by kernel_rfl) (by kernel_rfl) (fun _ _ _ h => h) (Or.inl ⟨by rfl, ?_⟩) hHeld ?_
    · intro wq hSw
      try dsimp only at hSw
      go_simp
    try simp only [Act.put, List.getElem_toArray, List.getElem_cons_succ, List.getElem_cons_zero, List.setIfInBounds_toArray, List.set_cons_zero, List.set_cons_succ]
    refine wpAnyH_take (i := 3) (oi := _) (v := .pointer (some ⟨g2, 0, none⟩)) rfl (by kernel_rfl) (by kernel_rfl) (by kernel_rfl) (fun _ _ _ h => h) (Or.inl ⟨by rfl, ?_⟩) hHeld ?_
    · intro wq hSw
      try dsimp only at hSw
      go_simp
    try simp only [Act.put, List.getElem_toArray, List.getElem_cons_succ, List.getElem_cons_zero, List.setIfInBounds_toArray, List.set_cons_zero, List.set_cons_succ]
    refine wpAnyH_take (i := 4) (oi := _) (v := .pointer (some ⟨g2, 0, none⟩)) rfl (by kernel_rfl) (by kernel_rfl) (by kernel_rfl) (fun _ _ _ h => h) (Or.inl ⟨by rfl, ?_⟩) hHeld ?_
    · intro wq hSw
      try dsimp only at hSw
      go_simp
    try simp only [Act.put, List.getElem_toArray, List.getElem_cons_succ, List.getElem_cons_zero, List.setIfInBounds_toArray, List.set_cons_zero, List.set_cons_succ]
    refine wpAnyH_take (i := 5) (oi := _) (v := .pointer (some ⟨g2, 0, none⟩)) rfl (by kernel_rfl) (by kernel_rfl) (by kernel_rfl) (fun _ _ _ h => h) (Or.inl ⟨by rfl, ?_⟩) hHeld ?_
    · intro wq hSw
      try dsimp only at hSw
      go_simp
    try simp only [Act.put, List.getElem_toArray, List.getElem_cons_succ, List.getElem_cons_zero, List.setIfInBounds_toArray, List.set_cons_zero, List.set_cons_succ]
    refine wpAnyH_ready (rs := [6]) (by kernel_rfl) (by simp) ?_
    refine AllReadyH.cons rfl (fun KK hK => ?_) AllReadyH.nil
    simp only [List.getElem_toArray, List.getElem_cons_succ, List.getElem_cons_zero]
    rw [if_pos (by rfl)]
    refine wps2 79 (.tmp 22) (.tmp 25) _ rfl in_compare (.pointer (some ⟨g1, 0, none⟩)) (.pointer (some ⟨g2, 0, none⟩)) rfl rfl (compare_impl _ (((unhide T).kept ((Kept.refl 0 0 w).drewN _)).kept (Kept.refl 0 0 _).drew).n1 (((unhide T).kept ((Kept.refl 0 0 w).drewN _)).kept (Kept.refl 0 0 _).drew).n2 hx hy) ?_
    rintro e w5 ⟨rfl, k5⟩
    refine ⟨_, rfl, ?_⟩
    have T5 := hide ((((unhide T).kept ((Kept.refl 0 0 w).drewN _)).kept (Kept.refl 0 0 _).drew).kept k5)
    have E1 := hide ((((unhide SS).d1.kept ((Kept.refl 0 0 w).drewN _)).kept (Kept.refl 0 0 _).drew).kept k5)
    have E2 := hide ((((unhide SS).d2.kept ((Kept.refl 0 0 w).drewN _)).kept (Kept.refl 0 0 _).drew).kept k5)
    have SD5 : Hid (SameSide g1 w w5) := k5.side (unhide SS).d1.lt
    clear k5 hc1 hc2
    clear hHeld
    refine hK.out _ _ ?_ (fun hHeld => ?_)
    · trivial
    clear hK KK
    try simp only [Act.put, List.getElem_toArray, List.getElem_cons_succ, List.getElem_cons_zero, List.setIfInBounds_toArray, List.set_cons_zero, List.set_cons_succ]
    refine wpAnyH_take (i := 7) (oi := _) (v := .bool false) rfl (by kernel_rfl) (by kernel_rfl) (by kernel_rfl) (fun _ _ _ h => h) (Or.inl ⟨by rfl, ?_⟩) hHeld ?_
    · intro wq hSw
      try dsimp only at hSw
      go_simp
    try simp only [Act.put, List.getElem_toArray, List.getElem_cons_succ, List.getElem_cons_zero, List.setIfInBounds_toArray, List.set_cons_zero, List.set_cons_succ]
    refine wpAnyH_done (by kernel_rfl) ?_ _
    clear hHeld
    clear hd hd'
    go_wp2_with fail
    refine wp_region_held_drew (S := (fun _ => True)) (by kernel_rfl) ?_ (fun hHeld => ?_)
    · trivial
    refine wpAnyH_take (i := 0) (oi := _) (v := .pointer (some ⟨g1, 0, none⟩)) rfl (by kernel_rfl) (by kernel_rfl) (by kernel_rfl) (fun _ _ _ h => h) (Or.inl ⟨by rfl, ?_⟩) hHeld ?_
    · intro wq hSw
      try dsimp only at hSw
      go_simp
    try simp only [Act.put, List.getElem_toArray, List.getElem_cons_succ, List.getElem_cons_zero, List.setIfInBounds_toArray, List.set_cons_zero, List.set_cons_succ]
    refine wpAnyH_take (i := 1) (oi := _) (v := .pointer (some ⟨g1, 0, none⟩)) rfl (by kernel_rfl) (by kernel_rfl) (by kernel_rfl) (fun _ _ _ h => h) (Or.inl ⟨by rfl, ?_⟩) hHeld ?_
    · intro wq hSw
      try dsimp only at hSw
      go_simp
    try simp only [Act.put, List.getElem_toArray, List.getElem_cons_succ, List.getElem_cons_zero, List.setIfInBounds_toArray, List.set_cons_zero, List.set_cons_succ]
    refine wpAnyH_take (i := 2) (oi := _) (v := .pointer (some ⟨g1, 0, none⟩)) rfl (by kernel_rfl) (by kernel_rfl) (by kernel_rfl) (fun _ _ _ h => h) (Or.inl ⟨by rfl, ?_⟩) hHeld ?_
    · intro wq hSw
      try dsimp only at hSw
      go_simp
    try simp only [Act.put, List.getElem_toArray, List.getElem_cons_succ, List.getElem_cons_zero, List.setIfInBounds_toArray, List.set_cons_zero, List.set_cons_succ]
    refine wpAnyH_take (i := 3) (oi := _) (v := .pointer (some ⟨g2, 0, none⟩)) rfl (by kernel_rfl) (by kernel_rfl) (by kernel_rfl) (fun _ _ _ h => h) (Or.inl ⟨by rfl, ?_⟩) hHeld ?_
    · intro wq hSw
      try dsimp only at hSw
      go_simp
    try simp only [Act.put, List.getElem_toArray, List.getElem_cons_succ, List.getElem_cons_zero, List.setIfInBounds_toArray, List.set_cons_zero, List.set_cons_succ]
    refine wpAnyH_take (i := 4) (oi := _) (v := .pointer (some ⟨g2, 0, none⟩)) rfl (by kernel_rfl) (by kernel_rfl) (by kernel_rfl) (fun _ _ _ h => h) (Or.inl ⟨by rfl, ?_⟩) hHeld ?_
    · intro wq hSw
      try dsimp only at hSw
      go_simp
    try simp only [Act.put, List.getElem_toArray, List.getElem_cons_succ, List.getElem_cons_zero, List.setIfInBounds_toArray, List.set_cons_zero, List.set_cons_succ]
    refine wpAnyH_take (i := 5) (oi := _) (v := .pointer (some ⟨g2, 0, none⟩)) rfl (by kernel_rfl) (by kernel_rfl) (by kernel_rfl) (fun _ _ _ h => h) (Or.inl ⟨by rfl, ?_⟩) hHeld ?_
    · intro wq hSw
      try dsimp only at hSw
      go_simp
    try simp only [Act.put, List.getElem_toArray, List.getElem_cons_succ, List.getElem_cons_zero, List.setIfInBounds_toArray, List.set_cons_zero, List.set_cons_succ]
    refine wpAnyH_ready (rs := [6]) (by kernel_rfl) (by simp) ?_
    refine AllReadyH.cons rfl (fun KK hK => ?_) AllReadyH.nil
    simp only [List.getElem_toArray, List.getElem_cons_succ, List.getElem_cons_zero]
    rw [if_pos (by rfl)]
    refine wps2 80 (.tmp 42) (.tmp 45) _ rfl in_subtract (.pointer (some ⟨g1, 0, none⟩)) (.pointer (some ⟨g2, 0, none⟩)) rfl rfl (subtract_twoS ⟨_, _, ((unhide T5).kept (Kept.refl 0 0 _).drew).startS⟩ hx hy nx hle) ?_
    rintro e w6 ⟨⟨r6, rfl⟩, u6, v6, t6⟩
    refine ⟨_, rfl, ?_⟩
    have N6 := hide t6.n1
    have D6 := hide (((unhide E1).kept (Kept.refl 0 0 _).drew).same t6.d1)
    have K6 := hide t6.k
    have TL6 : Hid (SameTail g1 w w6) := ((unhide SD5).trans t6.d1).tail
    have EQ : Hid (wval s1 (limbs (val xs - val ys).toNat) = wval s1 xs + wval s2 ys) := sub_sgn (unhide HNE) hle
    have LN : Hid ((limbs (val xs - val ys).toNat).length ≤ 1000000) := add_len hx.1 hy.1 nx ny _ (by omega)
    clear t6
    clear hHeld
    refine hK.out _ _ ?_ (fun hHeld => ?_)
    · trivial
    clear hK KK
    try simp only [Act.put, List.getElem_toArray, List.getElem_cons_succ, List.getElem_cons_zero, List.setIfInBounds_toArray, List.set_cons_zero, List.set_cons_succ]
    refine wpAnyH_done (by kernel_rfl) ?_ _
    clear hHeld
    go_wp2_with fail
    exact bodyPost_end (v := .tuple #[]) (by simp [results, Try.results92, go_sem]) rfl ⟨⟨_, rfl⟩, _, _, _, unhide N6, unhide D6, limbs_nrm _, unhide EQ, unhide LN, unhide K6, unhide TL6⟩
  · have hle' : val xs ≤ val ys := by omega
    have hd : decide (cmpI (val xs) (val ys) < 0) = true := decide_eq_true (by unfold cmpI; rw [if_pos (by omega)]; omega)
    have hd' : cmpI (val xs) (val ys) < 0 := of_decide_eq_true hd
    go_enter Try.func92, Try.ntmps92
    go_wp2_with fail
    go_quiet (fail)
    go_upto_region 2 with fail
    refine wp_region_held_drew (S := (fun _ => True)) (by kernel_rfl) ?_ (fun hHeld => ?_)
    · trivial
    refine wpAnyH_take (i := 0) (oi := _) (v := .pointer (some ⟨g1, 0, none⟩)) rfl (by kernel_rfl) (by kernel_rfl) (by kernel_rfl) (fun _ _ _ h => h) (Or.inl ⟨by rfl, ?_⟩) hHeld ?_
    · intro wq hSw
      try dsimp only at hSw
      go_simp
    try simp only [Act.put, List.getElem_toArray, List.getElem_cons_succ, List.getElem_cons_zero, List.setIfInBounds_toArray, List.set_cons_zero, List.set_cons_succ]
    refine wpAnyH_take (i := 1) (oi := _) (v := .pointer (some ⟨g1, 0, none⟩)) rfl (by kernel_rfl) (by kernel_rfl) (by kernel_rfl) (fun _ _ _ h => h) (Or.inl ⟨by rfl, ?_⟩) hHeld ?_
    · intro wq hSw
      try dsimp only at hSw
      go_simp
    try simp only [Act.put, List.getElem_toArray, List.getElem_cons_succ, List.getElem_cons_zero, List.setIfInBounds_toArray, List.set_cons_zero, List.set_cons_succ]
    refine wpAnyH_take (i := 2) (oi := _) (v := .pointer (some ⟨g1, 0, none⟩)) rfl (by kernel_rfl) (by kernel_rfl) (by kernel_rfl) (fun _ _ _ h => h) (Or.inl ⟨by rfl, ?_⟩) hHeld ?_
    · intro wq hSw
      try dsimp only at hSw
      go_simp
    try simp only [Act.put, List.getElem_toArray, List.getElem_cons_succ, List.getElem_cons_zero, List.setIfInBounds_toArray, List.set_cons_zero, List.set_cons_succ]
    refine wpAnyH_take (i := 3) (oi := _) (v := .pointer (some ⟨g2, 0, none⟩)) rfl (by kernel_rfl) (by kernel_rfl) (by kernel_rfl) (fun _ _ _ h => h) (Or.inl ⟨by rfl, ?_⟩) hHeld ?_
    · intro wq hSw
      try dsimp only at hSw
      go_simp
    try simp only [Act.put, List.getElem_toArray, List.getElem_cons_succ, List.getElem_cons_zero, List.setIfInBounds_toArray, List.set_cons_zero, List.set_cons_succ]
    refine wpAnyH_take (i := 4) (oi := _) (v := .pointer (some ⟨g2, 0, none⟩)) rfl (by kernel_rfl) (by kernel_rfl) (by kernel_rfl) (fun _ _ _ h => h) (Or.inl ⟨by rfl, ?_⟩) hHeld ?_
    · intro wq hSw
      try dsimp only at hSw
      go_simp
    try simp only [Act.put, List.getElem_toArray, List.getElem_cons_succ, List.getElem_cons_zero, List.setIfInBounds_toArray, List.set_cons_zero, List.set_cons_succ]
    refine wpAnyH_take (i := 5) (oi := _) (v := .pointer (some ⟨g2, 0, none⟩)) rfl (by kernel_rfl) (by kernel_rfl) (by kernel_rfl) (fun _ _ _ h => h) (Or.inl ⟨by rfl, ?_⟩) hHeld ?_
    · intro wq hSw
      try dsimp only at hSw
      go_simp
    try simp only [Act.put, List.getElem_toArray, List.getElem_cons_succ, List.getElem_cons_zero, List.setIfInBounds_toArray, List.set_cons_zero, List.set_cons_succ]
    refine wpAnyH_ready (rs := [6]) (by kernel_rfl) (by simp) ?_
    refine AllReadyH.cons rfl (fun KK hK => ?_) AllReadyH.nil
    simp only [List.getElem_toArray, List.getElem_cons_succ, List.getElem_cons_zero]
    rw [if_pos (by rfl)]
    refine wps2 79 (.tmp 22) (.tmp 25) _ rfl in_compare (.pointer (some ⟨g1, 0, none⟩)) (.pointer (some ⟨g2, 0, none⟩)) rfl rfl (compare_impl _ (((unhide T).kept ((Kept.refl 0 0 w).drewN _)).kept (Kept.refl 0 0 _).drew).n1 (((unhide T).kept ((Kept.refl 0 0 w).drewN _)).kept (Kept.refl 0 0 _).drew).n2 hx hy) ?_
    rintro e w5 ⟨rfl, k5⟩
    refine ⟨_, rfl, ?_⟩
    have T5 := hide ((((unhide T).kept ((Kept.refl 0 0 w).drewN _)).kept (Kept.refl 0 0 _).drew).kept k5)
    have E1 := hide ((((unhide SS).d1.kept ((Kept.refl 0 0 w).drewN _)).kept (Kept.refl 0 0 _).drew).kept k5)
    have E2 := hide ((((unhide SS).d2.kept ((Kept.refl 0 0 w).drewN _)).kept (Kept.refl 0 0 _).drew).kept k5)
    have SD5 : Hid (SameSide g1 w w5) := k5.side (unhide SS).d1.lt
    clear k5 hc1 hc2
    clear hHeld
    refine hK.out _ _ ?_ (fun hHeld => ?_)
    · trivial
    clear hK KK
    try simp only [Act.put, List.getElem_toArray, List.getElem_cons_succ, List.getElem_cons_zero, List.setIfInBounds_toArray, List.set_cons_zero, List.set_cons_succ]
    refine wpAnyH_take (i := 7) (oi := _) (v := .bool true) rfl (by kernel_rfl) (by kernel_rfl) (by kernel_rfl) (fun _ _ _ h => h) (Or.inl ⟨by rfl, ?_⟩) hHeld ?_
    · intro wq hSw
      try dsimp only at hSw
      go_simp
    try simp only [Act.put, List.getElem_toArray, List.getElem_cons_succ, List.getElem_cons_zero, List.setIfInBounds_toArray, List.set_cons_zero, List.set_cons_succ]
    refine wpAnyH_done (by kernel_rfl) ?_ _
    clear hHeld
    clear hd hd'
    go_wp2_with fail
    refine (subtractFrom_impl (unhide T5) hx hy ny hle').mono ?_
    rintro e w6 ⟨⟨r6, rfl⟩, ⟨u6, n6⟩, sd6, m6⟩
    have D1 := hide ((unhide E1).same sd6)
    have D2 := hide ((unhide E2).same (m6.side (unhide E2).lt (fun e => (unhide T5).ne e.symm)))
    have hc1 := (unhide D1).1
    have hf1 := (unhide D1).2
    have hc2 := (unhide D2).1
    have N6 := hide ((n6.less (unhide T5).k.size).side (.bool s2))
    have D6 := hide ((unhide D1).set s2)
    have K6 := hide (((unhide T5).k.mod m6 (fun i e => by rw [e]; exact (unhide T5).b1)).setNew (p := ⟨g1, 1, none⟩) (unhide T5).b1 (.bool s2))
    have EQ : Hid (wval s2 (limbs (val ys - val xs).toNat) = wval s1 xs + wval s2 ys) := sub_sgn' (unhide HNE) hle'
    have LN : Hid ((limbs (val ys - val xs).toNat).length ≤ 1000000) := add_len hx.1 hy.1 nx ny _ (by omega)
    have TL6 : Hid (SameTail g1 w (w6.setCell ⟨g1, 1, none⟩ (.bool s2))) := ((unhide SD5).trans sd6).tail.set1 _
    clear n6 sd6 m6
    go_wp2_with fail
    exact bodyPost_ret (v := .tuple #[]) (by simp [results, Try.results92, go_sem]) rfl ⟨⟨_, rfl⟩, _, _, _, unhide N6, unhide D6, limbs_nrm _, unhide EQ, unhide LN, unhide K6, unhide TL6⟩

theorem addSigned_impl {w0 w : World} {g1 g2 : Nat} {s1 s2 : Bool} {xs ys : List Int} (S : Sig2 w0 w g1 g2 s1 xs s2 ys) (hx : Nrm xs) (hy : Nrm ys) (nx : xs.length ≤ 100000) (ny : ys.length ≤ 100000) :
    Calls Try.prog 92 #[.pointer (some ⟨g1, 0, none⟩), .pointer (some ⟨g2, 0, none⟩)] w fun e w' => (∃ r, e = .returned r) ∧ ∃ u s zs, Num w0.heap.size w' g1 u zs ∧ Sd w' g1 s ∧ Nrm zs ∧ wval s zs = wval s1 xs + wval s2 ys ∧ zs.length ≤ 1000000 ∧ Kept 0 0 w0 w' :=
  (addSigned_tail S hx hy nx ny).mono fun _ _ ⟨a, u, s, zs, b, c, d, e, f, g, _⟩ => ⟨a, u, s, zs, b, c, d, e, f, g⟩

set_option maxHeartbeats 4000000 in
theorem compareSigned_wn {w0 w : World} {g1 g2 : Nat} {s1 s2 : Bool} {xs ys : List Int} (S : Sig2 w0 w g1 g2 s1 xs s2 ys) (o1 : WN s1 xs) (o2 : WN s2 ys) :
    Calls Try.prog 97 #[.pointer (some ⟨g1, 0, none⟩), .pointer (some ⟨g2, 0, none⟩)] w fun e w' => e = .returned (.int .i64 (cmpI (wval s1 xs) (wval s2 ys))) ∧ Kept 0 0 w w' := by
  obtain ⟨x1, x2, hx⟩ := o1.int
  obtain ⟨y1, y2, hy⟩ := o2.int
  have nx := val_nonneg hx.1
  have ny := val_nonneg hy.1
  obtain ⟨u1, u2, t⟩ := S.two
  have b1 := isBelow_impl w t.n1 S.d1
  have b2 := isBelow_impl w t.n2 S.d2
  have e1 : (s1 && decide (0 < xs.length)) = s1 := by
    cases s1
    · rfl
    · exact decide_eq_true (o1.2 rfl)
  have e2 : (s2 && decide (0 < ys.length)) = s2 := by
    cases s2
    · rfl
    · exact decide_eq_true (o2.2 rfl)
  rw [e1] at b1
  rw [e2] at b2
  have T := hide t
  have B1 := hide b1
  have B2 := hide b2
  clear S t b1 b2 x2 y2 e1 e2 o1 o2
  cases s1 <;> cases s2
  · have e : cmpI (wval false xs) (wval false ys) = cmpI (val xs) (val ys) := by simp [wval]
    rw [e]
    clear x1 y1 e
    go_enter Try.func97, Try.ntmps97
    go_wp2_with (first | (go_at_call_of 115 (Value.pointer (some ⟨g1, 0, none⟩)); refine (unhide B1).mono ?_; rintro e w' ⟨rfl, rfl⟩) | (go_at_call_of 115 (Value.pointer (some ⟨g2, 0, none⟩)); refine (unhide B2).mono ?_; rintro e w' ⟨rfl, rfl⟩))
    refine wp_region_held_drew (S := (fun _ => True)) (by kernel_rfl) ?_ (fun hHeld => ?_)
    · trivial
    refine wpAnyH_take (i := 0) (oi := _) (v := .pointer (some ⟨g1, 0, none⟩)) rfl (by kernel_rfl) (by kernel_rfl) (by kernel_rfl) (fun _ _ _ h => h) (Or.inl ⟨by rfl, ?_⟩) hHeld ?_
    · intro wq hSw
      try dsimp only at hSw
      go_simp
    try simp only [Act.put, List.getElem_toArray, List.getElem_cons_succ, List.getElem_cons_zero, List.setIfInBounds_toArray, List.set_cons_zero, List.set_cons_succ]
    refine wpAnyH_take (i := 1) (oi := _) (v := .pointer (some ⟨g1, 0, none⟩)) rfl (by kernel_rfl) (by kernel_rfl) (by kernel_rfl) (fun _ _ _ h => h) (Or.inl ⟨by rfl, ?_⟩) hHeld ?_
    · intro wq hSw
      try dsimp only at hSw
      go_simp
    try simp only [Act.put, List.getElem_toArray, List.getElem_cons_succ, List.getElem_cons_zero, List.setIfInBounds_toArray, List.set_cons_zero, List.set_cons_succ]
    refine wpAnyH_take (i := 2) (oi := _) (v := .pointer (some ⟨g1, 0, none⟩)) rfl (by kernel_rfl) (by kernel_rfl) (by kernel_rfl) (fun _ _ _ h => h) (Or.inl ⟨by rfl, ?_⟩) hHeld ?_
    · intro wq hSw
      try dsimp only at hSw
      go_simp
    try simp only [Act.put, List.getElem_toArray, List.getElem_cons_succ, List.getElem_cons_zero, List.setIfInBounds_toArray, List.set_cons_zero, List.set_cons_succ]
    refine wpAnyH_take (i := 3) (oi := _) (v := .pointer (some ⟨g2, 0, none⟩)) rfl (by kernel_rfl) (by kernel_rfl) (by kernel_rfl) (fun _ _ _ h => h) (Or.inl ⟨by rfl, ?_⟩) hHeld ?_
    · intro wq hSw
      try dsimp only at hSw
      go_simp
    try simp only [Act.put, List.getElem_toArray, List.getElem_cons_succ, List.getElem_cons_zero, List.setIfInBounds_toArray, List.set_cons_zero, List.set_cons_succ]
    refine wpAnyH_take (i := 4) (oi := _) (v := .pointer (some ⟨g2, 0, none⟩)) rfl (by kernel_rfl) (by kernel_rfl) (by kernel_rfl) (fun _ _ _ h => h) (Or.inl ⟨by rfl, ?_⟩) hHeld ?_
    · intro wq hSw
      try dsimp only at hSw
      go_simp
    try simp only [Act.put, List.getElem_toArray, List.getElem_cons_succ, List.getElem_cons_zero, List.setIfInBounds_toArray, List.set_cons_zero, List.set_cons_succ]
    refine wpAnyH_take (i := 5) (oi := _) (v := .pointer (some ⟨g2, 0, none⟩)) rfl (by kernel_rfl) (by kernel_rfl) (by kernel_rfl) (fun _ _ _ h => h) (Or.inl ⟨by rfl, ?_⟩) hHeld ?_
    · intro wq hSw
      try dsimp only at hSw
      go_simp
    try simp only [Act.put, List.getElem_toArray, List.getElem_cons_succ, List.getElem_cons_zero, List.setIfInBounds_toArray, List.set_cons_zero, List.set_cons_succ]
    refine wpAnyH_ready (rs := [6]) (by kernel_rfl) (by simp) ?_
    refine AllReadyH.cons rfl (fun KK hK => ?_) AllReadyH.nil
    simp only [List.getElem_toArray, List.getElem_cons_succ, List.getElem_cons_zero]
    rw [if_pos (by rfl)]
    refine wps2 79 (.tmp 27) (.tmp 30) _ rfl in_compare (.pointer (some ⟨g1, 0, none⟩)) (.pointer (some ⟨g2, 0, none⟩)) rfl rfl (compare_impl _ ((unhide T).kept (Kept.refl 0 0 _).drew).n1 ((unhide T).kept (Kept.refl 0 0 _).drew).n2 hx hy) ?_
    rintro e w5 ⟨rfl, k5⟩
    refine ⟨_, rfl, ?_⟩
    have K5 := hide ((Kept.refl 0 0 _).drew.trans k5)
    clear k5
    clear hHeld
    refine hK.out _ _ ?_ (fun hHeld => ?_)
    · trivial
    clear hK KK
    try simp only [Act.put, List.getElem_toArray, List.getElem_cons_succ, List.getElem_cons_zero, List.setIfInBounds_toArray, List.set_cons_zero, List.set_cons_succ]
    refine wpAnyH_take (i := 7) (oi := _) (v := .int .i64 (cmpI (val xs) (val ys))) rfl (by kernel_rfl) (by kernel_rfl) (by kernel_rfl) (fun _ _ _ h => h) (Or.inl ⟨by rfl, ?_⟩) hHeld ?_
    · intro wq hSw
      try dsimp only at hSw
      go_simp
    try simp only [Act.put, List.getElem_toArray, List.getElem_cons_succ, List.getElem_cons_zero, List.setIfInBounds_toArray, List.set_cons_zero, List.set_cons_succ]
    refine wpAnyH_done (by kernel_rfl) ?_ _
    clear hHeld
    go_wp2
    go_ret
    exact ⟨rfl, unhide K5⟩
  · have e : cmpI (wval false xs) (wval true ys) = 1 := by simp [wval] at y1 ⊢; unfold cmpI; rw [if_neg (by omega), if_pos (by omega)]
    rw [e]
    clear x1 y1 e
    go_enter Try.func97, Try.ntmps97
    go_wp2_with (first | (go_at_call_of 115 (Value.pointer (some ⟨g1, 0, none⟩)); refine (unhide B1).mono ?_; rintro e w' ⟨rfl, rfl⟩) | (go_at_call_of 115 (Value.pointer (some ⟨g2, 0, none⟩)); refine (unhide B2).mono ?_; rintro e w' ⟨rfl, rfl⟩))
    go_ret
    exact ⟨rfl, Kept.refl 0 0 _⟩
  · have e : cmpI (wval true xs) (wval false ys) = -1 := by simp [wval] at x1 ⊢; unfold cmpI; rw [if_pos (by omega)]
    rw [e]
    clear x1 y1 e
    go_enter Try.func97, Try.ntmps97
    go_wp2_with (first | (go_at_call_of 115 (Value.pointer (some ⟨g1, 0, none⟩)); refine (unhide B1).mono ?_; rintro e w' ⟨rfl, rfl⟩) | (go_at_call_of 115 (Value.pointer (some ⟨g2, 0, none⟩)); refine (unhide B2).mono ?_; rintro e w' ⟨rfl, rfl⟩))
    go_ret
    exact ⟨rfl, Kept.refl 0 0 _⟩
  · have e : cmpI (wval true xs) (wval true ys) = cmpI (val ys) (val xs) := by simp [wval]; unfold cmpI; split <;> split <;> (try split) <;> (try split) <;> omega
    rw [e]
    clear x1 y1 e
    go_enter Try.func97, Try.ntmps97
    go_wp2_with (first | (go_at_call_of 115 (Value.pointer (some ⟨g1, 0, none⟩)); refine (unhide B1).mono ?_; rintro e w' ⟨rfl, rfl⟩) | (go_at_call_of 115 (Value.pointer (some ⟨g2, 0, none⟩)); refine (unhide B2).mono ?_; rintro e w' ⟨rfl, rfl⟩))
    refine wp_region_held_drew (S := (fun _ => True)) (by kernel_rfl) ?_ (fun hHeld => ?_)
    · trivial
    refine wpAnyH_take (i := 0) (oi := _) (v := .pointer (some ⟨g2, 0, none⟩)) rfl (by kernel_rfl) (by kernel_rfl) (by kernel_rfl) (fun _ _ _ h => h) (Or.inl ⟨by rfl, ?_⟩) hHeld ?_
    · intro wq hSw
      try dsimp only at hSw
      go_simp
    try simp only [Act.put, List.getElem_toArray, List.getElem_cons_succ, List.getElem_cons_zero, List.setIfInBounds_toArray, List.set_cons_zero, List.set_cons_succ]
    refine wpAnyH_take (i := 1) (oi := _) (v := .pointer (some ⟨g2, 0, none⟩)) rfl (by kernel_rfl) (by kernel_rfl) (by kernel_rfl) (fun _ _ _ h => h) (Or.inl ⟨by rfl, ?_⟩) hHeld ?_
    · intro wq hSw
      try dsimp only at hSw
      go_simp
    try simp only [Act.put, List.getElem_toArray, List.getElem_cons_succ, List.getElem_cons_zero, List.setIfInBounds_toArray, List.set_cons_zero, List.set_cons_succ]
    refine wpAnyH_take (i := 2) (oi := _) (v := .pointer (some ⟨g2, 0, none⟩)) rfl (by kernel_rfl) (by kernel_rfl) (by kernel_rfl) (fun _ _ _ h => h) (Or.inl ⟨by rfl, ?_⟩) hHeld ?_
    · intro wq hSw
      try dsimp only at hSw
      go_simp
    try simp only [Act.put, List.getElem_toArray, List.getElem_cons_succ, List.getElem_cons_zero, List.setIfInBounds_toArray, List.set_cons_zero, List.set_cons_succ]
    refine wpAnyH_take (i := 3) (oi := _) (v := .pointer (some ⟨g1, 0, none⟩)) rfl (by kernel_rfl) (by kernel_rfl) (by kernel_rfl) (fun _ _ _ h => h) (Or.inl ⟨by rfl, ?_⟩) hHeld ?_
    · intro wq hSw
      try dsimp only at hSw
      go_simp
    try simp only [Act.put, List.getElem_toArray, List.getElem_cons_succ, List.getElem_cons_zero, List.setIfInBounds_toArray, List.set_cons_zero, List.set_cons_succ]
    refine wpAnyH_take (i := 4) (oi := _) (v := .pointer (some ⟨g1, 0, none⟩)) rfl (by kernel_rfl) (by kernel_rfl) (by kernel_rfl) (fun _ _ _ h => h) (Or.inl ⟨by rfl, ?_⟩) hHeld ?_
    · intro wq hSw
      try dsimp only at hSw
      go_simp
    try simp only [Act.put, List.getElem_toArray, List.getElem_cons_succ, List.getElem_cons_zero, List.setIfInBounds_toArray, List.set_cons_zero, List.set_cons_succ]
    refine wpAnyH_take (i := 5) (oi := _) (v := .pointer (some ⟨g1, 0, none⟩)) rfl (by kernel_rfl) (by kernel_rfl) (by kernel_rfl) (fun _ _ _ h => h) (Or.inl ⟨by rfl, ?_⟩) hHeld ?_
    · intro wq hSw
      try dsimp only at hSw
      go_simp
    try simp only [Act.put, List.getElem_toArray, List.getElem_cons_succ, List.getElem_cons_zero, List.setIfInBounds_toArray, List.set_cons_zero, List.set_cons_succ]
    refine wpAnyH_ready (rs := [6]) (by kernel_rfl) (by simp) ?_
    refine AllReadyH.cons rfl (fun KK hK => ?_) AllReadyH.nil
    simp only [List.getElem_toArray, List.getElem_cons_succ, List.getElem_cons_zero]
    rw [if_pos (by rfl)]
    refine wps2 79 (.tmp 14) (.tmp 17) _ rfl in_compare (.pointer (some ⟨g2, 0, none⟩)) (.pointer (some ⟨g1, 0, none⟩)) rfl rfl (compare_impl _ ((unhide T).kept (Kept.refl 0 0 _).drew).n2 ((unhide T).kept (Kept.refl 0 0 _).drew).n1 hy hx) ?_
    rintro e w5 ⟨rfl, k5⟩
    refine ⟨_, rfl, ?_⟩
    have K5 := hide ((Kept.refl 0 0 _).drew.trans k5)
    clear k5
    clear hHeld
    refine hK.out _ _ ?_ (fun hHeld => ?_)
    · trivial
    clear hK KK
    try simp only [Act.put, List.getElem_toArray, List.getElem_cons_succ, List.getElem_cons_zero, List.setIfInBounds_toArray, List.set_cons_zero, List.set_cons_succ]
    refine wpAnyH_take (i := 7) (oi := _) (v := .int .i64 (cmpI (val ys) (val xs))) rfl (by kernel_rfl) (by kernel_rfl) (by kernel_rfl) (fun _ _ _ h => h) (Or.inl ⟨by rfl, ?_⟩) hHeld ?_
    · intro wq hSw
      try dsimp only at hSw
      go_simp
    try simp only [Act.put, List.getElem_toArray, List.getElem_cons_succ, List.getElem_cons_zero, List.setIfInBounds_toArray, List.set_cons_zero, List.set_cons_succ]
    refine wpAnyH_done (by kernel_rfl) ?_ _
    clear hHeld
    go_wp2
    go_ret
    exact ⟨rfl, unhide K5⟩

theorem compareSigned_impl {w0 w : World} {g1 g2 : Nat} {s1 s2 : Bool} {xs ys : List Int} (S : Sig2 w0 w g1 g2 s1 xs s2 ys) (o1 : wokB s1 xs = true) (o2 : wokB s2 ys = true) :
    Calls Try.prog 97 #[.pointer (some ⟨g1, 0, none⟩), .pointer (some ⟨g2, 0, none⟩)] w fun e w' => e = .returned (.int .i64 (cmpI (wval s1 xs) (wval s2 ys))) ∧ Kept 0 0 w w' :=
  compareSigned_wn S (wok_wn o1) (wok_wn o2)

set_option maxHeartbeats 4000000 in
theorem signedOfInt_impl (n : Int) (hn1 : n ≤ 9223372036854775807) (hn0 : -9223372036854775808 ≤ n) (w : World) :
    Calls Try.prog 96 #[.int .i64 n] w fun e w' => ∃ v', e = .returned (.agg #[v', .bool (wsg n)]) ∧ w'.ownsRow w.heap.size 3 1 v' (wlm n).length ((wlm n).map (Value.int .i64)) ∧ Kept 0 0 w w' := by
  obtain ⟨zz, hzz⟩ : ∃ zz, zz = wlm n := ⟨_, rfl⟩
  obtain ⟨ss, hss⟩ : ∃ ss, ss = wsg n := ⟨_, rfl⟩
  rw [← hzz, ← hss]
  have HZ := hide hzz
  have HS := hide hss
  clear hzz hss
  have k0 : Kept 0 0 w (w.alloc (.cells #[.slice none 0 0, .bool false] 102)) := ((Kept.refl 0 0 w).alloc (.cells #[.slice none 0 0, .bool false] 102))
  have q0 : (w.alloc (.cells #[.slice none 0 0, .bool false] 102)).cell? ⟨w.heap.size, 0, none⟩ = some (.slice none 0 0) := new_cell2 _ _ _ _ _ _ (by simp) rfl
  have qf0 : (w.alloc (.cells #[.slice none 0 0, .bool false] 102)).frozen? ⟨w.heap.size, 0, none⟩ = false := new_loose2 _ _ _ _ _ (by simp)
  have q1 : (w.alloc (.cells #[.slice none 0 0, .bool false] 102)).cell? ⟨w.heap.size, 1, none⟩ = some (.bool false) := new_cell2 _ _ _ _ _ _ (by simp) rfl
  have qf1 : (w.alloc (.cells #[.slice none 0 0, .bool false] 102)).frozen? ⟨w.heap.size, 1, none⟩ = false := new_loose2 _ _ _ _ _ (by simp)
  have s0 : (w.alloc (.cells #[.slice none 0 0, .bool false] 102)).heap.size = w.heap.size + 1 := by simp
  have K := hide (k0)
  clear k0
  have S0 := hide s0
  clear s0
  by_cases h : n < 0
  · have h0 := limbs_int_length (-(n + 1)) (by omega)
    have h1 := limbs_int_length 1 (by omega)
    have hm : -(n + 1) ≤ 9223372036854775807 := by omega
    have HSS : Hid (ss = true) := by show _ = _; rw [unhide HS]; unfold wsg; simp; omega
    have hzz : zz = limbs (val (limbs (-(n + 1)).toNat) + val (limbs (1 : Int).toNat)).toNat := by rw [unhide HZ]; unfold wlm; rw [limbs_val, limbs_val]; congr 1; omega
    have HZZ := hide hzz
    clear hzz
    go_enter Try.func96, Try.ntmps96
    go_wp2_with fail
    generalize (w.alloc (.cells #[.slice none 0 0, .bool false] 102)) = W at *
    have KW := Kept.refl 0 0 W
    have QW := hide (And.intro q0 (And.intro q1 (And.intro qf0 qf1)))
    have KW0 := hide (unhide K)
    refine (limbsOfInt_impl _ (-(n + 1)) hm).mono ?_
    rintro e w1 ⟨v3, rfl, o3, k1⟩
    replace KW := KW.trans k1
    replace qf0 := k1.loose0 (World.block_lt_of_cell? _ _ q0) qf0
    replace qf1 := k1.loose0 (World.block_lt_of_cell? _ _ q1) qf1
    replace q0 := k1.cell0 q0
    replace q1 := k1.cell0 q1
    replace K := hide ((unhide K).trans k1)
    have z2 := k1.size
    clear k1
    generalize hzx : limbs (-(n + 1)).toNat = xs at *
    obtain ⟨a3, c3, hv⟩ := own_slice o3
    subst hv
    have k4 := (Kept.refl 0 0 w1).alloc (.cells #[.slice a3 xs.length c3, .bool true] 102)
    have n3 : Num W.heap.size (w1.alloc (.cells #[.slice a3 xs.length c3, .bool true] 102)) w1.heap.size (.slice a3 xs.length c3) xs := ⟨new_cell2 _ _ _ _ _ _ rfl rfl, new_loose2 _ _ _ _ _ rfl, own_kept o3 k4, fun e => by have := (o3.lt _ e).2; omega⟩
    have d3 : Sd (w1.alloc (.cells #[.slice a3 xs.length c3, .bool true] 102)) w1.heap.size true := ⟨new_cell2 _ _ _ _ _ _ rfl rfl, new_loose2 _ _ _ _ _ rfl⟩
    replace KW := KW.trans k4
    replace qf0 := k4.loose0 (World.block_lt_of_cell? _ _ q0) qf0
    replace qf1 := k4.loose0 (World.block_lt_of_cell? _ _ q1) qf1
    replace q0 := k4.cell0 q0
    replace q1 := k4.cell0 q1
    replace K := hide ((unhide K).trans k4)
    have z3 := k4.size
    have z4 : w1.heap.size < (w1.alloc (.cells #[.slice a3 xs.length c3, .bool true] 102)).heap.size := by simp
    clear k4
    go_wp2_with fail
    generalize w1.alloc (.cells #[.slice a3 xs.length c3, .bool true] 102) = W4 at *
    refine (limbsOfInt_impl _ 1 (by omega)).mono ?_
    rintro e w4 ⟨v5, rfl, o5, k4⟩
    replace KW := KW.trans k4
    replace n3 := n3.kept k4
    replace d3 := d3.kept k4
    replace qf0 := k4.loose0 (World.block_lt_of_cell? _ _ q0) qf0
    replace qf1 := k4.loose0 (World.block_lt_of_cell? _ _ q1) qf1
    replace q0 := k4.cell0 q0
    replace q1 := k4.cell0 q1
    replace K := hide ((unhide K).trans k4)
    have z5 := k4.size
    clear k4
    generalize hyy : limbs (1 : Int).toNat = ys at *
    obtain ⟨a5, c5, hv⟩ := own_slice o5
    subst hv
    have k6 := (Kept.refl 0 0 w4).alloc (.cells #[.slice a5 ys.length c5] 88)
    have n5 : Num W4.heap.size (w4.alloc (.cells #[.slice a5 ys.length c5] 88)) w4.heap.size (.slice a5 ys.length c5) ys := Num.new _ o5
    replace KW := KW.trans k6
    replace n3 := n3.kept k6
    replace d3 := d3.kept k6
    replace qf0 := k6.loose0 (World.block_lt_of_cell? _ _ q0) qf0
    replace qf1 := k6.loose0 (World.block_lt_of_cell? _ _ q1) qf1
    replace q0 := k6.cell0 q0
    replace q1 := k6.cell0 q1
    replace K := hide ((unhide K).trans k6)
    have z6 := k6.size
    clear k6
    have l3 := o3.lt
    have l5 := o5.lt
    have hnx : Nrm xs := by rw [← hzx]; exact limbs_nrm _
    have hny : Nrm ys := by rw [← hyy]; exact limbs_nrm _
    have t5 : Two W (w4.alloc (.cells #[.slice a5 ys.length c5] 88)) w1.heap.size w4.heap.size (.slice a3 xs.length c3) (.slice a5 ys.length c5) xs ys := ⟨n3, n5.less (by omega), by omega, fun e => by have := (l3 _ e).2; omega, fun e => by have := (l5 _ e).1; omega, fun k e1 e2 => by have := (l3 _ e1).2; have := (l5 _ e2).1; omega, KW, by omega, by omega⟩
    clear o3 o5 l3 l5 n3 n5
    go_wp2_with fail
    generalize w4.alloc (.cells #[.slice a5 ys.length c5] 88) = W6 at *
    refine (add_twoS ⟨_, _, t5.startS⟩ hnx hny (by omega) (by omega)).mono ?_
    rintro e w7 ⟨⟨r7, rfl⟩, u7, v7, t7⟩
    rw [← unhide HZZ] at t7
    have o7 := t7.n1.own
    have c70 := t7.n1.cell
    have D7 := d3.same t7.d1
    have c71 := D7.1
    have k7 := t7.k
    replace qf0 := k7.loose0 (World.block_lt_of_cell? _ _ (unhide QW).1) (unhide QW).2.2.1
    replace qf1 := k7.loose0 (World.block_lt_of_cell? _ _ (unhide QW).2.1) (unhide QW).2.2.2
    replace q0 := k7.cell0 (unhide QW).1
    replace q1 := k7.cell0 (unhide QW).2.1
    replace K := hide ((unhide KW0).trans k7)
    clear k7 KW KW0 QW t5 d3 D7 t7
    obtain ⟨a7, c7, hv⟩ := own_slice o7
    subst hv
    have hX1 : w1.heap.size ≠ w.heap.size := by have := unhide S0; omega
    have hX2 : w.heap.size ≠ w1.heap.size := by have := unhide S0; omega
    have ol := o7.lt
    have O := hide (own_less (own_apart (own_apart o7 (p := ⟨w.heap.size, 0, none⟩) (fun e => by have := (ol _ e).1; have := unhide S0; dsimp only at *; omega) (.slice a7 zz.length c7)) (p := ⟨w.heap.size, 1, none⟩) (fun e => by have := (ol _ e).1; have := unhide S0; dsimp only at *; omega) (.bool true)) (base' := w.heap.size) (by have := unhide S0; omega))
    have K7 := hide (((unhide K).setNew (p := ⟨w.heap.size, 0, none⟩) (by simp) (.slice a7 zz.length c7)).setNew (p := ⟨w.heap.size, 1, none⟩) (by simp) (.bool true))
    clear o7 ol K
    go_wp2_with fail
    exact bodyPost_ret (v := .agg #[.slice a7 zz.length c7, .bool true]) (by simp [results, Try.results96, go_sem, q0, q1]) rfl ⟨_, by rw [unhide HSS], unhide O, unhide K7⟩
  · have h0 := limbs_int_length n hn1
    have HSS : Hid (ss = false) := by show _ = _; rw [unhide HS]; unfold wsg; simp; omega
    have hzz : zz = limbs n.toNat := by rw [unhide HZ]; unfold wlm; congr 1; omega
    have HZZ := hide hzz
    clear hzz
    go_enter Try.func96, Try.ntmps96
    go_wp2_with fail
    generalize (w.alloc (.cells #[.slice none 0 0, .bool false] 102)) = W at *
    refine (limbsOfInt_impl _ n hn1).mono ?_
    rintro e w1 ⟨v3, rfl, o3, k1⟩
    replace qf0 := k1.loose0 (World.block_lt_of_cell? _ _ q0) qf0
    replace qf1 := k1.loose0 (World.block_lt_of_cell? _ _ q1) qf1
    replace q0 := k1.cell0 q0
    replace q1 := k1.cell0 q1
    replace K := hide ((unhide K).trans k1)
    have z2 := k1.size
    clear k1
    rw [← unhide HZZ] at o3
    obtain ⟨a3, c3, hv⟩ := own_slice o3
    subst hv
    have ol := o3.lt
    have O := hide (own_less (own_apart (own_apart o3 (p := ⟨w.heap.size, 0, none⟩) (fun e => by have := (ol _ e).1; have := unhide S0; dsimp only at *; omega) (.slice a3 zz.length c3)) (p := ⟨w.heap.size, 1, none⟩) (fun e => by have := (ol _ e).1; have := unhide S0; dsimp only at *; omega) (.bool false)) (base' := w.heap.size) (by have := unhide S0; omega))
    have K7 := hide (((unhide K).setNew (p := ⟨w.heap.size, 0, none⟩) (by simp) (.slice a3 zz.length c3)).setNew (p := ⟨w.heap.size, 1, none⟩) (by simp) (.bool false))
    clear o3 ol K
    go_wp2_with fail
    exact bodyPost_ret (v := .agg #[.slice a3 zz.length c3, .bool false]) (by simp [results, Try.results96, go_sem, q0, q1]) rfl ⟨_, by rw [unhide HSS], unhide O, unhide K7⟩

end Go.Proofs.Ytoijdclblcmpaaa

namespace Go.Proofs.Ytoijdclblcmpaaa
open Go.RowKit
set_option linter.unusedVariables false
set_option maxRecDepth 8000
set_option linter.unusedSimpArgs false

theorem put_sig {w : World} {X b : Nat} {u z p : Value} {xs : List Int} (s : Bool) (O : w.ownsRow b 3 1 u xs.length (xs.map (Value.int .i64)))
    (cX : w.cell? ⟨X, 0, none⟩ = some z) (dX : w.cell? ⟨X, 1, none⟩ = some p) (fX : w.frozen? ⟨X, 0, none⟩ = false) (gX : w.frozen? ⟨X, 1, none⟩ = false) (hu : u.ownBlock ≠ some X) :
    Num b ((w.setCell ⟨X, 0, none⟩ u).setCell ⟨X, 1, none⟩ (.bool s)) X u xs ∧ Sd ((w.setCell ⟨X, 0, none⟩ u).setCell ⟨X, 1, none⟩ (.bool s)) X s ∧ Mod (fun i => i = X) w ((w.setCell ⟨X, 0, none⟩ u).setCell ⟨X, 1, none⟩ (.bool s)) := by
  have a2 : (w.setCell ⟨X, 0, none⟩ u).cell? ⟨X, 1, none⟩ = some p := (side_set _ _ _).trans dX
  refine ⟨⟨(front_set _ _ _).trans (cell_on _ _ _ _ _ cX), by rw [frozen_set, frozen_set]; exact fX, own_apart (own_apart O (p := ⟨X, 0, none⟩) hu u) (p := ⟨X, 1, none⟩) hu _, hu⟩, ⟨by have := cell_set _ X 1 1 (.bool s) _ a2; simpa using this, by rw [frozen_set, frozen_set]; exact gX⟩, ?_⟩
  exact Mod.set (S := fun i => i = X) (Mod.set (S := fun i => i = X) (Mod.refl _ _) (p := ⟨X, 0, none⟩) (.inl rfl) _) (p := ⟨X, 1, none⟩) (.inl rfl) _
theorem sig_pair {w0 w4 : World} {X Y b1 b2 : Nat} {u1 u2 z1 z2 p1 p2 : Value} {xs ys : List Int} (s1 s2 : Bool) (hk : Kept 0 0 w0 w4) (O1 : w4.ownsRow b1 3 1 u1 xs.length (xs.map (Value.int .i64))) (O2 : w4.ownsRow b2 3 1 u2 ys.length (ys.map (Value.int .i64)))
    (cX : w4.cell? ⟨X, 0, none⟩ = some z1) (dX : w4.cell? ⟨X, 1, none⟩ = some p1) (fX : w4.frozen? ⟨X, 0, none⟩ = false) (gX : w4.frozen? ⟨X, 1, none⟩ = false)
    (cY : w4.cell? ⟨Y, 0, none⟩ = some z2) (dY : w4.cell? ⟨Y, 1, none⟩ = some p2) (fY : w4.frozen? ⟨Y, 0, none⟩ = false) (gY : w4.frozen? ⟨Y, 1, none⟩ = false)
    (hXY : X ≠ Y) (hX : w0.heap.size ≤ X) (hY : w0.heap.size ≤ Y) (hb1 : w0.heap.size ≤ b1) (hb2 : w0.heap.size ≤ b2)
    (h1X : u1.ownBlock ≠ some X) (h1Y : u1.ownBlock ≠ some Y) (h2X : u2.ownBlock ≠ some X) (h2Y : u2.ownBlock ≠ some Y) (h12 : ∀ k, u1.ownBlock = some k → u2.ownBlock ≠ some k) :
    Sig2 w0 ((((w4.setCell ⟨X, 0, none⟩ u1).setCell ⟨X, 1, none⟩ (.bool s1)).setCell ⟨Y, 0, none⟩ u2).setCell ⟨Y, 1, none⟩ (.bool s2)) X Y s1 xs s2 ys := by
  obtain ⟨n1, d1, m1⟩ := put_sig s1 O1 cX dX fX gX h1X
  have lY : Y < w4.heap.size := World.block_lt_of_cell? _ ⟨Y, 0, none⟩ cY
  obtain ⟨n2, d2, m2⟩ := put_sig s2 (m1.own O2 (fun i e e' => h2X (by rw [e, e']))) (m1.cellAt (fun e => hXY e.symm) cY) (m1.cellAt (fun e => hXY e.symm) dY) (m1.looseAt (fun e => hXY e.symm) lY fY) (m1.looseAt (fun e => hXY e.symm) lY gY) h2Y
  have n1' := n1.mod m2 hXY (fun i e e' => h1Y (by rw [e, e']))
  exact ⟨⟨u1, u2, n1'.less hb1, n2.less hb2, hXY, h1Y, h2X, h12, (hk.mod m1 (fun i e => by rw [e]; exact hX)).mod m2 (fun i e => by rw [e]; exact hY), hX, hY⟩, d1.same (m2.side d1.lt hXY), d2⟩

theorem in_signedOf : ∀ (w : World) (args : Array Value), (callFunc 91 args).run Try.prog w = .ok (.enter 91 args) w := enters Try.func91 (by decide) (fun h => by cases h)

theorem told_ans {c s : Bool} {x : Int} {zs : List Int} (hc : c = true) (hn : Nrm zs) (he : wval s zs = x) :
    (decide (zs.length ≤ 100) && (s && decide (0 < zs.length))) = ansWS c x ∧ decide (zs.length ≤ 100) = ansWB c x ∧ tell zs = ansWL c x := by
  have e1 : wlm x = zs := by rw [← he, wlm_wval s hn.1, ← nrm_limbs hn]
  have e2 : wsg x = (s && decide (0 < zs.length)) := by
    have := wsg_wval s (val zs).toNat
    rw [← nrm_limbs hn, he] at this
    exact this
  unfold ansWS ansWL
  rw [ansWB_yes hc, e1, e2]
  refine ⟨rfl, rfl, ?_⟩
  unfold tell
  by_cases h : zs.length ≤ 100
  · rw [if_pos h, decide_eq_true h, if_pos rfl]
  · rw [if_neg h, decide_eq_false h, if_neg (by simp)]

end Go.Proofs.Ytoijdclblcmpaaa

namespace Go.Proofs.Ytoijdclblcmpaaa
open Go.RowKit
set_option linter.unusedVariables false
set_option maxRecDepth 8000

theorem Kept.wide {lo hi : Nat} {a b c : World} (k : Kept 0 0 a b) (m : Kept lo hi b c) (h : a.heap.size ≤ lo) : Kept 0 0 a c :=
  ⟨m.os.trans k.os, m.tape.trans k.tape, m.output.trans k.output, Nat.le_trans k.size m.size, fun i hi' ho => (m.block i (Nat.lt_of_lt_of_le hi' k.size) (.inl (by omega))).trans (k.block i hi' ho)⟩
theorem law_setN {cur w9 : World} {X : Nat} {v z : Value} {zs : List Int} {b hi : Nat} (k : Kept 0 0 cur w9) (c : w9.cell? ⟨X, 0, none⟩ = some z) (r : Row .i64 true b hi w9 v zs) (hX : cur.heap.size ≤ X) (hb : X < b ∨ hi ≤ X) (hc : cur.heap.size ≤ b) :
    (w9.setCell ⟨X, 0, none⟩ v).cell? ⟨X, 0, none⟩ = some v ∧ Row .i64 true cur.heap.size (w9.setCell ⟨X, 0, none⟩ v).heap.size (w9.setCell ⟨X, 0, none⟩ v) v zs ∧ cur.heap.size ≤ X ∧ X < (w9.setCell ⟨X, 0, none⟩ v).heap.size ∧ Kept 0 0 cur (w9.setCell ⟨X, 0, none⟩ v) :=
  ⟨cell_on _ _ _ _ _ c, ((r.set_other (p := ⟨X, 0, none⟩) hb v).tight.wider hc (Nat.le_refl _)), hX, by have := World.block_lt_of_cell? _ _ c; simpa [World.setCell] using this, k.setNew (p := ⟨X, 0, none⟩) hX v⟩
theorem law_setW {cur w9 : World} {X : Nat} {v z z' : Value} {zs : List Int} {b hi : Nat} (s : Bool) (k : Kept 0 0 cur w9) (c : w9.cell? ⟨X, 0, none⟩ = some z) (c' : w9.cell? ⟨X, 1, none⟩ = some z') (r : Row .i64 true b hi w9 v zs) (hX : cur.heap.size ≤ X) (hb : X < b ∨ hi ≤ X) (hc : cur.heap.size ≤ b) :
    ((w9.setCell ⟨X, 0, none⟩ (.bool s)).setCell ⟨X, 1, none⟩ v).cell? ⟨X, 0, none⟩ = some (.bool s) ∧ ((w9.setCell ⟨X, 0, none⟩ (.bool s)).setCell ⟨X, 1, none⟩ v).cell? ⟨X, 1, none⟩ = some v ∧ Row .i64 true cur.heap.size ((w9.setCell ⟨X, 0, none⟩ (.bool s)).setCell ⟨X, 1, none⟩ v).heap.size ((w9.setCell ⟨X, 0, none⟩ (.bool s)).setCell ⟨X, 1, none⟩ v) v zs ∧ cur.heap.size ≤ X ∧ X < ((w9.setCell ⟨X, 0, none⟩ (.bool s)).setCell ⟨X, 1, none⟩ v).heap.size ∧ Kept 0 0 cur ((w9.setCell ⟨X, 0, none⟩ (.bool s)).setCell ⟨X, 1, none⟩ v) := by
  have e1 : (w9.setCell ⟨X, 0, none⟩ (.bool s)).cell? ⟨X, 0, none⟩ = some (.bool s) := cell_on _ _ _ _ _ c
  have e2 := cell_set w9 X 1 0 (.bool s) z' c'
  rw [if_neg (by decide)] at e2
  have e3 := cell_set _ X 0 1 v _ e1
  rw [if_neg (by decide)] at e3
  have e4 := cell_set _ X 1 1 v _ e2
  rw [if_pos rfl] at e4
  exact ⟨e3, e4, (((r.set_other (p := ⟨X, 0, none⟩) hb (.bool s)).set_other (p := ⟨X, 1, none⟩) hb v).tight.wider hc (Nat.le_refl _)), hX, by have := World.block_lt_of_cell? _ _ c; simpa [World.setCell] using this, (k.setNew (p := ⟨X, 0, none⟩) hX _).setNew (p := ⟨X, 1, none⟩) hX v⟩

theorem in_toN : ∀ (w : World) (args : Array Value), (callFunc 51 args).run Try.prog w = .ok (.enter 51 args) w := enters Try.func51 (by decide) (fun h => by cases h)

theorem in_eqN : ∀ (w : World) (args : Array Value), (callFunc 53 args).run Try.prog w = .ok (.enter 53 args) w := enters Try.func53 (by decide) (fun h => by cases h)

theorem in_toW : ∀ (w : World) (args : Array Value), (callFunc 59 args).run Try.prog w = .ok (.enter 59 args) w := enters Try.func59 (by decide) (fun h => by cases h)

theorem in_eqW : ∀ (w : World) (args : Array Value), (callFunc 60 args).run Try.prog w = .ok (.enter 60 args) w := enters Try.func60 (by decide) (fun h => by cases h)

theorem in_impl_WholeAdd : ∀ (w : World) (args : Array Value), (callFunc 31 args).run Try.prog w = .ok (.enter 31 args) w := enters Try.func31 (by decide) (fun h => by cases h)

theorem in_impl_WholeSub : ∀ (w : World) (args : Array Value), (callFunc 38 args).run Try.prog w = .ok (.enter 38 args) w := enters Try.func38 (by decide) (fun h => by cases h)

theorem in_impl_WholeMul : ∀ (w : World) (args : Array Value), (callFunc 32 args).run Try.prog w = .ok (.enter 32 args) w := enters Try.func32 (by decide) (fun h => by cases h)

theorem in_spec_WholeDiv : ∀ (w : World) (args : Array Value), (callFunc 58 args).run Try.prog w = .ok (.enter 58 args) w := enters Try.func58 (by decide) (fun h => by cases h)

theorem in_impl_WholeDiv : ∀ (w : World) (args : Array Value), (callFunc 41 args).run Try.prog w = .ok (.enter 41 args) w := enters Try.func41 (by decide) (fun h => by cases h)

theorem in_impl_WholeCmp : ∀ (w : World) (args : Array Value), (callFunc 39 args).run Try.prog w = .ok (.enter 39 args) w := enters Try.func39 (by decide) (fun h => by cases h)

end Go.Proofs.Ytoijdclblcmpaaa

namespace Go.Proofs.Ytoijdclblcmpaaa
open Go.RowKit
set_option linter.unusedVariables false
set_option maxRecDepth 8000

set_option maxHeartbeats 1000000 in
theorem szDy_any {bw : Bool} {lo hi : Nat} {v : Value} {zs : List Int} (b : Bool) (x : Int) (w : World) (s : Int) (hs0 : 0 ≤ s) (hs1 : s ≤ 1048576) (r : Row .i64 bw lo hi w v zs) :
    Calls Try.prog 65 #[.agg #[.bool b, v, .int .i64 x], .int .i64 s] w fun e w' => e = .returned (.int .i64 (if (zs.length : Int) ≤ s then s - zs.length else -1)) ∧ Kept 0 0 w w' := by
  have k0 := (Kept.refl 0 0 w).alloc (.cells #[.bool b, v, .int .i64 x] 78)
  have s1 := r.kept k0 (by omega)
  have hm := r.len
  unfold maxLen at hm
  obtain ⟨a1, c1, rfl, -⟩ := r
  go_enter Try.func65, Try.ntmps65
  go_wp2_with fail
  refine (szWhole_any _ _ s hs0 hs1 s1).mono ?_
  rintro e w6 ⟨rfl, k6⟩
  have K := hide (k0.trans k6)
  clear s1 k0 k6
  by_cases h : (zs.length : Int) ≤ s
  · rw [if_pos h]
    have h' : ¬ (s - (zs.length : Int)) < 0 := by omega
    go_wp2
    go_ret
    exact ⟨rfl, unhide K⟩
  · rw [if_neg h]
    go_wp2
    go_ret
    exact ⟨rfl, unhide K⟩

set_option maxHeartbeats 1000000 in
theorem eqDy_same {b1 b2 : Bool} {l1 h1 l2 h2 : Nat} {v1 v2 : Value} {zs : List Int} (b : Bool) (x : Int) (w : World) (r1 : Row .i64 b1 l1 h1 w v1 zs) (r2 : Row .i64 b2 l2 h2 w v2 zs) :
    Calls Try.prog 68 #[.agg #[.bool b, v1, .int .i64 x], .agg #[.bool b, v2, .int .i64 x]] w fun e w' => e = .returned (.bool true) ∧ Kept 0 0 w w' := by
  have kk := ((Kept.refl 0 0 w).alloc (.cells #[.bool b, v1, .int .i64 x] 56)).alloc (.cells #[.bool b, v2, .int .i64 x] 56)
  have c1 : ((w.alloc (.cells #[.bool b, v1, .int .i64 x] 56)).alloc (.cells #[.bool b, v2, .int .i64 x] 56)).cell? ⟨w.heap.size, 2, none⟩ = some (.int .i64 x) := old_cell _ (new_cell2 _ _ _ _ _ _ (by simp) rfl)
  have c2 : ((w.alloc (.cells #[.bool b, v1, .int .i64 x] 56)).alloc (.cells #[.bool b, v2, .int .i64 x] 56)).cell? ⟨w.heap.size + 1, 2, none⟩ = some (.int .i64 x) := new_cell2 _ _ _ _ _ _ (by simp) rfl
  have s1 := r1.kept kk (by omega)
  have s2 := r2.kept kk (by omega)
  have KK := hide kk
  obtain ⟨a1, d1, rfl, -⟩ := r1
  obtain ⟨a2, d2, rfl, -⟩ := r2
  have hbb : (x != x) = false := by simp
  clear kk
  go_enter Try.func68, Try.ntmps68
  go_wp2_with fail
  refine (eqWhole_same _ _ s1 s2).mono ?_
  rintro e w6 ⟨rfl, k6⟩
  replace c1 := k6.cell0 c1
  replace c2 := k6.cell0 c2
  have K := hide ((unhide KK).trans k6)
  clear s1 s2 k6 KK
  go_wp2
  go_ret
  exact ⟨rfl, unhide K⟩

set_option maxHeartbeats 1000000 in
theorem markDy_wide {lo hi : Nat} {v : Value} {zs : List Int} (b : Bool) (x : Int) (w : World) (s : Int) (hs0 : 0 ≤ s) (hs1 : s ≤ 1000000000) (hn : zs.length ≤ 1099511627776) (r : Row .i64 true lo hi w v zs) :
    Calls Try.prog 73 #[.agg #[.bool b, v, .int .i64 x], .int .i64 s] w fun e w' => e = .returned (.int .i64 (s + zs.length)) ∧ Row .i64 true lo hi w' v (marks .i64 s zs.length) ∧ Kept lo hi w w' := by
  have s1 := r.kept ((Kept.refl 0 0 w).alloc (.cells #[.bool b, v, .int .i64 x] 56)) (by omega)
  obtain ⟨a1, c1, rfl, -⟩ := r
  go_enter Try.func73, Try.ntmps73
  go_wp2_with fail
  refine (markWhole_wide _ _ s hs0 hs1 hn s1).mono ?_
  rintro e w6 ⟨rfl, r6, k6⟩
  have R6 := hide r6
  have K6 := hide (((Kept.refl lo hi w).alloc _).trans k6)
  clear s1 r6 k6
  go_wp2
  go_ret
  exact ⟨rfl, unhide R6, unhide K6⟩

set_option maxHeartbeats 1000000 in
theorem toDy_any {bw : Bool} {lo hi : Nat} {v : Value} {zs : List Int} (b : Bool) (x : Int) (w : World) (hn : zs.length ≤ 1099511627776) (r : Row .i64 bw lo hi w v zs) :
    Calls Try.prog 66 #[.agg #[.bool b, v, .int .i64 x]] w fun e w' => ∃ v', e = .returned (.agg #[.bool b, v', .int .i64 x]) ∧ Row .i64 true w.heap.size w'.heap.size w' v' zs ∧ Kept 0 0 w w' := by
  have k0 : Kept 0 0 w (((w.alloc (.cells #[.bool b, v, .int .i64 x] 78)).alloc (.cells #[.bool false, .slice none 0 0, .int .i64 0] 56)).alloc (.cells #[.bool false, .slice none 0 0, .int .i64 0] 56)) := ((((Kept.refl 0 0 w).alloc (.cells #[.bool b, v, .int .i64 x] 78)).alloc (.cells #[.bool false, .slice none 0 0, .int .i64 0] 56)).alloc (.cells #[.bool false, .slice none 0 0, .int .i64 0] 56))
  have A0 : (((w.alloc (.cells #[.bool b, v, .int .i64 x] 78)).alloc (.cells #[.bool false, .slice none 0 0, .int .i64 0] 56)).alloc (.cells #[.bool false, .slice none 0 0, .int .i64 0] 56)).cell? ⟨w.heap.size, 0, none⟩ = some (.bool b) := old_cell _ (old_cell _ (new_cell2 _ _ _ _ _ _ (by simp) rfl))
  have A1 : (((w.alloc (.cells #[.bool b, v, .int .i64 x] 78)).alloc (.cells #[.bool false, .slice none 0 0, .int .i64 0] 56)).alloc (.cells #[.bool false, .slice none 0 0, .int .i64 0] 56)).cell? ⟨w.heap.size, 1, none⟩ = some (v) := old_cell _ (old_cell _ (new_cell2 _ _ _ _ _ _ (by simp) rfl))
  have A2 : (((w.alloc (.cells #[.bool b, v, .int .i64 x] 78)).alloc (.cells #[.bool false, .slice none 0 0, .int .i64 0] 56)).alloc (.cells #[.bool false, .slice none 0 0, .int .i64 0] 56)).cell? ⟨w.heap.size, 2, none⟩ = some (.int .i64 x) := old_cell _ (old_cell _ (new_cell2 _ _ _ _ _ _ (by simp) rfl))
  have R0 : (((w.alloc (.cells #[.bool b, v, .int .i64 x] 78)).alloc (.cells #[.bool false, .slice none 0 0, .int .i64 0] 56)).alloc (.cells #[.bool false, .slice none 0 0, .int .i64 0] 56)).cell? ⟨w.heap.size + 1, 0, none⟩ = some (.bool false) := old_cell _ (new_cell2 _ _ _ _ _ _ (by simp) rfl)
  have Rf0 : (((w.alloc (.cells #[.bool b, v, .int .i64 x] 78)).alloc (.cells #[.bool false, .slice none 0 0, .int .i64 0] 56)).alloc (.cells #[.bool false, .slice none 0 0, .int .i64 0] 56)).frozen? ⟨w.heap.size + 1, 0, none⟩ = false := loose_old (by simp <;> omega) (new_loose2 _ _ _ _ _ (by simp))
  have R1 : (((w.alloc (.cells #[.bool b, v, .int .i64 x] 78)).alloc (.cells #[.bool false, .slice none 0 0, .int .i64 0] 56)).alloc (.cells #[.bool false, .slice none 0 0, .int .i64 0] 56)).cell? ⟨w.heap.size + 1, 1, none⟩ = some (.slice none 0 0) := old_cell _ (new_cell2 _ _ _ _ _ _ (by simp) rfl)
  have Rf1 : (((w.alloc (.cells #[.bool b, v, .int .i64 x] 78)).alloc (.cells #[.bool false, .slice none 0 0, .int .i64 0] 56)).alloc (.cells #[.bool false, .slice none 0 0, .int .i64 0] 56)).frozen? ⟨w.heap.size + 1, 1, none⟩ = false := loose_old (by simp <;> omega) (new_loose2 _ _ _ _ _ (by simp))
  have R2 : (((w.alloc (.cells #[.bool b, v, .int .i64 x] 78)).alloc (.cells #[.bool false, .slice none 0 0, .int .i64 0] 56)).alloc (.cells #[.bool false, .slice none 0 0, .int .i64 0] 56)).cell? ⟨w.heap.size + 1, 2, none⟩ = some (.int .i64 0) := old_cell _ (new_cell2 _ _ _ _ _ _ (by simp) rfl)
  have Rf2 : (((w.alloc (.cells #[.bool b, v, .int .i64 x] 78)).alloc (.cells #[.bool false, .slice none 0 0, .int .i64 0] 56)).alloc (.cells #[.bool false, .slice none 0 0, .int .i64 0] 56)).frozen? ⟨w.heap.size + 1, 2, none⟩ = false := loose_old (by simp <;> omega) (new_loose2 _ _ _ _ _ (by simp))
  have O0 : (((w.alloc (.cells #[.bool b, v, .int .i64 x] 78)).alloc (.cells #[.bool false, .slice none 0 0, .int .i64 0] 56)).alloc (.cells #[.bool false, .slice none 0 0, .int .i64 0] 56)).cell? ⟨w.heap.size + 2, 0, none⟩ = some (.bool false) := new_cell2 _ _ _ _ _ _ (by simp) rfl
  have Of0 : (((w.alloc (.cells #[.bool b, v, .int .i64 x] 78)).alloc (.cells #[.bool false, .slice none 0 0, .int .i64 0] 56)).alloc (.cells #[.bool false, .slice none 0 0, .int .i64 0] 56)).frozen? ⟨w.heap.size + 2, 0, none⟩ = false := new_loose2 _ _ _ _ _ (by simp)
  have O1 : (((w.alloc (.cells #[.bool b, v, .int .i64 x] 78)).alloc (.cells #[.bool false, .slice none 0 0, .int .i64 0] 56)).alloc (.cells #[.bool false, .slice none 0 0, .int .i64 0] 56)).cell? ⟨w.heap.size + 2, 1, none⟩ = some (.slice none 0 0) := new_cell2 _ _ _ _ _ _ (by simp) rfl
  have Of1 : (((w.alloc (.cells #[.bool b, v, .int .i64 x] 78)).alloc (.cells #[.bool false, .slice none 0 0, .int .i64 0] 56)).alloc (.cells #[.bool false, .slice none 0 0, .int .i64 0] 56)).frozen? ⟨w.heap.size + 2, 1, none⟩ = false := new_loose2 _ _ _ _ _ (by simp)
  have O2 : (((w.alloc (.cells #[.bool b, v, .int .i64 x] 78)).alloc (.cells #[.bool false, .slice none 0 0, .int .i64 0] 56)).alloc (.cells #[.bool false, .slice none 0 0, .int .i64 0] 56)).cell? ⟨w.heap.size + 2, 2, none⟩ = some (.int .i64 0) := new_cell2 _ _ _ _ _ _ (by simp) rfl
  have Of2 : (((w.alloc (.cells #[.bool b, v, .int .i64 x] 78)).alloc (.cells #[.bool false, .slice none 0 0, .int .i64 0] 56)).alloc (.cells #[.bool false, .slice none 0 0, .int .i64 0] 56)).frozen? ⟨w.heap.size + 2, 2, none⟩ = false := new_loose2 _ _ _ _ _ (by simp)
  replace r := r.kept k0 (by omega)
  have s0 : (((w.alloc (.cells #[.bool b, v, .int .i64 x] 78)).alloc (.cells #[.bool false, .slice none 0 0, .int .i64 0] 56)).alloc (.cells #[.bool false, .slice none 0 0, .int .i64 0] 56)).heap.size = w.heap.size + 3 := by simp
  obtain ⟨a1, c1, hv⟩ := Row.form' r
  subst hv
  have K := hide (k0)
  clear k0
  have S0 := hide s0
  clear s0
  go_enter Try.func66, Try.ntmps66
  go_wp2_with fail
  generalize (((w.alloc (.cells #[.bool b, .slice a1 zs.length c1, .int .i64 x] 78)).alloc (.cells #[.bool false, .slice none 0 0, .int .i64 0] 56)).alloc (.cells #[.bool false, .slice none 0 0, .int .i64 0] 56)) = W at *
  refine (toWhole_any _ _ hn r).mono ?_
  rintro e w1 ⟨v6, rfl, r6, k1⟩
  replace r := r.kept k1 (by omega)
  replace Rf0 := k1.loose0 (World.block_lt_of_cell? _ _ R0) Rf0
  replace Rf1 := k1.loose0 (World.block_lt_of_cell? _ _ R1) Rf1
  replace Rf2 := k1.loose0 (World.block_lt_of_cell? _ _ R2) Rf2
  replace Of0 := k1.loose0 (World.block_lt_of_cell? _ _ O0) Of0
  replace Of1 := k1.loose0 (World.block_lt_of_cell? _ _ O1) Of1
  replace Of2 := k1.loose0 (World.block_lt_of_cell? _ _ O2) Of2
  replace A0 := k1.cell0 A0
  replace A1 := k1.cell0 A1
  replace A2 := k1.cell0 A2
  replace R0 := k1.cell0 R0
  replace R1 := k1.cell0 R1
  replace R2 := k1.cell0 R2
  replace O0 := k1.cell0 O0
  replace O1 := k1.cell0 O1
  replace O2 := k1.cell0 O2
  replace K := hide ((unhide K).trans k1)
  have z2 := k1.size
  clear k1
  obtain ⟨a6, c6, hv⟩ := Row.form' r6
  subst hv
  have bX : w.heap.size + 2 < w1.heap.size := World.block_lt_of_cell? _ _ O0
  have R := hide (((((((r6.set_other (p := ⟨w.heap.size + 2, 0, none⟩) (.inl (by have := unhide S0; dsimp only; omega)) (.bool b)).set_other (p := ⟨w.heap.size + 2, 1, none⟩) (.inl (by have := unhide S0; dsimp only; omega)) (.slice a6 zs.length c6)).set_other (p := ⟨w.heap.size + 2, 2, none⟩) (.inl (by have := unhide S0; dsimp only; omega)) (.int .i64 x)).set_other (p := ⟨w.heap.size + 1, 0, none⟩) (.inl (by have := unhide S0; dsimp only; omega)) (.bool b)).set_other (p := ⟨w.heap.size + 1, 1, none⟩) (.inl (by have := unhide S0; dsimp only; omega)) (.slice a6 zs.length c6)).set_other (p := ⟨w.heap.size + 1, 2, none⟩) (.inl (by have := unhide S0; dsimp only; omega)) (.int .i64 x)).tight.wider (lo' := w.heap.size) (by have := unhide S0; omega) (Nat.le_refl _))
  have K7 := hide (((((((unhide K).setNew (p := ⟨w.heap.size + 2, 0, none⟩) (by simp) (.bool b)).setNew (p := ⟨w.heap.size + 2, 1, none⟩) (by simp) (.slice a6 zs.length c6)).setNew (p := ⟨w.heap.size + 2, 2, none⟩) (by simp) (.int .i64 x)).setNew (p := ⟨w.heap.size + 1, 0, none⟩) (by simp) (.bool b)).setNew (p := ⟨w.heap.size + 1, 1, none⟩) (by simp) (.slice a6 zs.length c6)).setNew (p := ⟨w.heap.size + 1, 2, none⟩) (by simp) (.int .i64 x))
  clear r r6 K
  go_wp2
  exact bodyPost_ret (v := .agg #[.bool b, .slice a6 zs.length c6, .int .i64 x]) (by simp [results, Try.results66, go_sem, R0, R1, R2]) rfl ⟨_, rfl, unhide R, unhide K7⟩

end Go.Proofs.Ytoijdclblcmpaaa
