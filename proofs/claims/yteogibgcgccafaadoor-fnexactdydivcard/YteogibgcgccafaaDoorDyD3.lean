/-
  Quotients of dyadic numbers: the model's l4div and DyDiv.
-/
import Derived.Test.YteogibgcgccafaaDoorDyD1
import Derived.Test.YteogibgcgccafaaDoorDyD2
namespace Go.Proofs.YteogibgcgccafaaDoor
open Go.RowKit
set_option linter.unusedVariables false
set_option maxRecDepth 8000
set_option linter.unusedSimpArgs false

theorem divM_zero (mode : Nat) (s : Bool) (Y : Nat) (k : Int) : divM mode s 0 Y k = 0 := by
  unfold divM
  rw [(quo_zero Y k).1, (quo_zero Y k).2]
  have e : rndN mode s 0 false = 0 := by
    unfold rndN
    rw [show rndX 0 false = true from rfl]
    rfl
  rw [e, limbs_zero, wval_nil]
theorem rndM_zero (mode : Nat) (s : Bool) (k : Int) : rndM mode s 0 k = 0 := by
  unfold rndM
  rw [(rnd_zero k mode s).2, limbs_zero, wval_nil]
theorem divM_lt {xs : List Int} (hx : Lim xs) (nx : xs.length ≤ 100) (mode : Nat) (s : Bool) (Y : Nat) (k : Int) (hk : k ≤ 9001) : (divM mode s (val xs).toNat Y k).natAbs < 2 ^ (16 * 701) := by
  unfold divM
  rw [wval_abs (limbs_lim _), limbs_val, Int.toNat_natCast]
  have e1 := quo_len hx nx Y k hk
  have e2 := rndN_len mode s (quoN (val xs).toNat Y k) (quoL (val xs).toNat Y k)
  have e3 : (limbs (rndN mode s (quoN (val xs).toNat Y k) (quoL (val xs).toNat Y k))).length ≤ 701 := by omega
  have e4 := (limbs_length_le _ _).1 e3
  rw [pow_limb] at e4
  exact_mod_cast e4
/-- what l4quot answers: a number in its one form, and what it rounds to. -/
structure QuoAns (S : Bool) (zs : List Int) (E low : Int) (sg : Bool) (V Y : Nat) (k : Int) : Prop where
  wn : WN S zs
  odd : zs ≠ [] → val zs % 2 = 1
  nil : zs = [] → E = 0
  len : zs.length ≤ 40000
  lo : -200000 ≤ E
  hi : E ≤ 200000
  rnd : ∀ mode : Nat, rndM mode S (val zs).toNat (E - (low - 1)) = divM mode sg V Y k
theorem quoAns_pos {xs : List Int} (hx : Lim xs) (nx : xs.length ≤ 100) (hV : (val xs).toNat ≠ 0) {Y : Nat} (hY : 0 < Y) (k low : Int) (hk : k ≤ 9001) (hl0 : -3000 ≤ low) (hl1 : low ≤ 3000) (sg : Bool) :
    QuoAns (wsg (wval sg (limbs (quoQ (val xs).toNat Y (k + 1))))) (dlm (wval sg (limbs (quoQ (val xs).toNat Y (k + 1))))) (dex (wval sg (limbs (quoQ (val xs).toNat Y (k + 1)))) (low - 3)) low sg (val xs).toNat Y k := by
  have q1 := quo_round (val xs).toNat Y hV hY k low sg
  have q2 := quo_pos (val xs).toNat Y hV hY (k + 1)
  obtain ⟨AA, hAA⟩ : ∃ A : Nat, A = 10700 := ⟨_, rfl⟩
  have b1 := quoX_lt hx nx (k + 1) (by omega) hAA
  have b2 : quoN (val xs).toNat Y (k + 1) ≤ quoX (val xs).toNat (k + 1) := Nat.div_le_self _ _
  have b3 : quoQ (val xs).toNat Y (k + 1) < 2 ^ (AA + 1) := by
    unfold quoQ
    rw [Nat.pow_succ]
    split <;> omega
  generalize quoQ (val xs).toNat Y (k + 1) = Q at *
  have ha : (wval sg (limbs Q)).natAbs = Q := by rw [wval_abs (limbs_lim Q), limbs_val, Int.toNat_natCast]
  have hne : wval sg (limbs Q) ≠ 0 := by intro e; rw [e] at ha; simp at ha; omega
  have hw : WN sg (limbs Q) := ⟨limbs_nrm _, fun _ => len_pos_limbs q2⟩
  have hsg := wn_sign hw
  have hd := dlm_pos hne
  have ht := tz_lt q2 b3
  have he : dex (wval sg (limbs Q)) (low - 3) = low - 3 + (tz Q : Int) := by unfold dex; rw [if_neg hne, ha]
  refine ⟨⟨limbs_nrm _, fun _ => hd.1⟩, fun _ => hd.2, fun h => ?_, ?_, ?_, ?_, fun mode => ?_⟩
  · rw [h] at hd; exact absurd hd.1 (by simp)
  · unfold dlm
    rw [ha]
    have l1 := limbs_len_le (Nat.div_le_self Q (2 ^ tz Q))
    have l2 : (limbs Q).length ≤ 700 := limbs_len_of b3 (by omega)
    omega
  · omega
  · omega
  · unfold rndM divM
    rw [q1.1, q1.2, hsg]
theorem quoAns_zero (low : Int) (sg : Bool) (Y : Nat) (k : Int) : QuoAns false [] 0 low sg 0 Y k :=
  ⟨⟨limbs_zero ▸ limbs_nrm 0, fun h => by cases h⟩, fun h => absurd rfl h, fun _ => rfl, by simp, by omega, by omega, fun mode => by rw [show (val []).toNat = 0 from rfl, rndM_zero, divM_zero]⟩

/-- A call of four arguments, its guard decided. -/
theorem wps4 {P : Program} {o : Oper} {a : Act} {w : World} {K : Act → World → Prop} {Q : Exit → Act → World → Prop} {R : Ending → World → Prop}
    (n : FuncId) (x y z u : Operand) (ts : Array TypeId) (hop : o.op = Op.call { callee := Callee.value (Operand.func n), args := #[x, y, z, u], argTypes := ts })
    (hcf : ∀ (w : World) (args : Array Value), (callFunc n args).run P w = .ok (.enter n args) w) (vx vy vz vu : Value) (hx : a.eval x = vx) (hy : a.eval y = vy) (hz : a.eval z = vz) (hu : a.eval u = vu) (hc : Calls P n #[vx, vy, vz, vu] w R) (hK : ∀ e w', R e w' → ∃ v, e = .returned v ∧ K (a.put o.dst v) w') :
    Oper.wp P o a w K Q := by
  unfold Oper.wp
  have hrun : (execOp a.eval o).run P w = .ok (.enter n #[vx, vy, vz, vu]) w := by
    have hfn : a.eval (.func n) = .func (.func n) #[] #[] := rfl
    simp [execOp, hop, resolve, invoke, hx, hy, hz, hu, hfn, Deferred.ofValue, Result.andThen, hcf]
  rw [hrun, Oper.upon_enter]
  refine hc.mono ?_
  intro e w' h
  obtain ⟨v, rfl, h2⟩ := hK e w' h
  exact h2

theorem in_spec_DyDiv : ∀ (w : World) (args : Array Value), (callFunc 5 args).run Tryd.prog w = .ok (.enter 5 args) w := enters Tryd.func5 (by decide) (fun h => by cases h)

theorem in_impl_DyDiv : ∀ (w : World) (args : Array Value), (callFunc 7 args).run Tryd.prog w = .ok (.enter 7 args) w := enters Tryd.func7 (by decide) (fun h => by cases h)

set_option maxHeartbeats 4000000 in
theorem l4quot_nil {b1 b2 : Bool} {l1 h1 l2 h2 : Nat} {v1 v2 : Value} {xs ys : List Int} (s1 s2 : Bool) (x1 x2 low : Int) (hl0 : -3000 ≤ low) (hl1 : low ≤ 3000) (w : World) (r1 : Row .i64 b1 l1 h1 w v1 xs) (r2 : Row .i64 b2 l2 h2 w v2 ys) (o1 : dokB s1 xs x1 = true) (o2 : dokB s2 ys x2 = true) (hxn : xs.length = 0) :
    Calls Tryd.prog 30 #[.agg #[.bool s1, v1, .int .i64 x1], .agg #[.bool s2, v2, .int .i64 x2], .int .i64 low] w fun e w' => e = .returned (.agg #[.bool false, .slice none 0 0, .int .i64 0]) ∧ Kept 0 0 w w' := by
  replace r1 := r1.tight
  replace r2 := r2.tight
  have k0 : Kept 0 0 w (((w.alloc (.cells #[.bool s1, v1, .int .i64 x1] 34)).alloc (.cells #[.bool s2, v2, .int .i64 x2] 34)).alloc (.cells #[.bool false, .slice none 0 0, .int .i64 0] 34)) := ((((Kept.refl 0 0 w).alloc (.cells #[.bool s1, v1, .int .i64 x1] 34)).alloc (.cells #[.bool s2, v2, .int .i64 x2] 34)).alloc (.cells #[.bool false, .slice none 0 0, .int .i64 0] 34))
  have p0 : (((w.alloc (.cells #[.bool s1, v1, .int .i64 x1] 34)).alloc (.cells #[.bool s2, v2, .int .i64 x2] 34)).alloc (.cells #[.bool false, .slice none 0 0, .int .i64 0] 34)).cell? ⟨w.heap.size, 0, none⟩ = some (.bool s1) := old_cell _ (old_cell _ (new_cell2 _ _ _ _ _ _ (by simp) rfl))
  have p1 : (((w.alloc (.cells #[.bool s1, v1, .int .i64 x1] 34)).alloc (.cells #[.bool s2, v2, .int .i64 x2] 34)).alloc (.cells #[.bool false, .slice none 0 0, .int .i64 0] 34)).cell? ⟨w.heap.size, 1, none⟩ = some (v1) := old_cell _ (old_cell _ (new_cell2 _ _ _ _ _ _ (by simp) rfl))
  have p2 : (((w.alloc (.cells #[.bool s1, v1, .int .i64 x1] 34)).alloc (.cells #[.bool s2, v2, .int .i64 x2] 34)).alloc (.cells #[.bool false, .slice none 0 0, .int .i64 0] 34)).cell? ⟨w.heap.size, 2, none⟩ = some (.int .i64 x1) := old_cell _ (old_cell _ (new_cell2 _ _ _ _ _ _ (by simp) rfl))
  have t0 : (((w.alloc (.cells #[.bool s1, v1, .int .i64 x1] 34)).alloc (.cells #[.bool s2, v2, .int .i64 x2] 34)).alloc (.cells #[.bool false, .slice none 0 0, .int .i64 0] 34)).cell? ⟨w.heap.size + 1, 0, none⟩ = some (.bool s2) := old_cell _ (new_cell2 _ _ _ _ _ _ (by simp) rfl)
  have t1 : (((w.alloc (.cells #[.bool s1, v1, .int .i64 x1] 34)).alloc (.cells #[.bool s2, v2, .int .i64 x2] 34)).alloc (.cells #[.bool false, .slice none 0 0, .int .i64 0] 34)).cell? ⟨w.heap.size + 1, 1, none⟩ = some (v2) := old_cell _ (new_cell2 _ _ _ _ _ _ (by simp) rfl)
  have t2 : (((w.alloc (.cells #[.bool s1, v1, .int .i64 x1] 34)).alloc (.cells #[.bool s2, v2, .int .i64 x2] 34)).alloc (.cells #[.bool false, .slice none 0 0, .int .i64 0] 34)).cell? ⟨w.heap.size + 1, 2, none⟩ = some (.int .i64 x2) := old_cell _ (new_cell2 _ _ _ _ _ _ (by simp) rfl)
  have q0 : (((w.alloc (.cells #[.bool s1, v1, .int .i64 x1] 34)).alloc (.cells #[.bool s2, v2, .int .i64 x2] 34)).alloc (.cells #[.bool false, .slice none 0 0, .int .i64 0] 34)).cell? ⟨w.heap.size + 2, 0, none⟩ = some (.bool false) := new_cell2 _ _ _ _ _ _ (by simp) rfl
  have qf0 : (((w.alloc (.cells #[.bool s1, v1, .int .i64 x1] 34)).alloc (.cells #[.bool s2, v2, .int .i64 x2] 34)).alloc (.cells #[.bool false, .slice none 0 0, .int .i64 0] 34)).frozen? ⟨w.heap.size + 2, 0, none⟩ = false := new_loose2 _ _ _ _ _ (by simp)
  have q1 : (((w.alloc (.cells #[.bool s1, v1, .int .i64 x1] 34)).alloc (.cells #[.bool s2, v2, .int .i64 x2] 34)).alloc (.cells #[.bool false, .slice none 0 0, .int .i64 0] 34)).cell? ⟨w.heap.size + 2, 1, none⟩ = some (.slice none 0 0) := new_cell2 _ _ _ _ _ _ (by simp) rfl
  have qf1 : (((w.alloc (.cells #[.bool s1, v1, .int .i64 x1] 34)).alloc (.cells #[.bool s2, v2, .int .i64 x2] 34)).alloc (.cells #[.bool false, .slice none 0 0, .int .i64 0] 34)).frozen? ⟨w.heap.size + 2, 1, none⟩ = false := new_loose2 _ _ _ _ _ (by simp)
  have q2 : (((w.alloc (.cells #[.bool s1, v1, .int .i64 x1] 34)).alloc (.cells #[.bool s2, v2, .int .i64 x2] 34)).alloc (.cells #[.bool false, .slice none 0 0, .int .i64 0] 34)).cell? ⟨w.heap.size + 2, 2, none⟩ = some (.int .i64 0) := new_cell2 _ _ _ _ _ _ (by simp) rfl
  have qf2 : (((w.alloc (.cells #[.bool s1, v1, .int .i64 x1] 34)).alloc (.cells #[.bool s2, v2, .int .i64 x2] 34)).alloc (.cells #[.bool false, .slice none 0 0, .int .i64 0] 34)).frozen? ⟨w.heap.size + 2, 2, none⟩ = false := new_loose2 _ _ _ _ _ (by simp)
  replace r1 := r1.kept k0 (by omega)
  replace r2 := r2.kept k0 (by omega)
  have s0 : (((w.alloc (.cells #[.bool s1, v1, .int .i64 x1] 34)).alloc (.cells #[.bool s2, v2, .int .i64 x2] 34)).alloc (.cells #[.bool false, .slice none 0 0, .int .i64 0] 34)).heap.size = w.heap.size + 3 := by simp
  obtain ⟨a1, c1, hv⟩ := Row.form' r1
  subst hv
  obtain ⟨a2, c2, hv⟩ := Row.form' r2
  subst hv
  have K := hide (k0)
  clear k0
  have S0 := hide s0
  clear s0
  go_enter Tryd.func30, Tryd.ntmps30
  have hb0 : ((xs.length : Int) == 0) = true := beq_iff_eq.2 (by omega)
  clear r1 r2 K
  go_wp2_with fail
  exact bodyPost_ret (v := .agg #[.bool false, .slice none 0 0, .int .i64 0]) (by simp [results, Tryd.results30, go_sem, q0, q1, q2]) rfl ⟨rfl, (((Kept.refl 0 0 w).alloc _).alloc _).alloc _⟩

theorem l4quot_any {b1 b2 : Bool} {l1 h1 l2 h2 : Nat} {v1 v2 : Value} {xs ys : List Int} (s1 s2 : Bool) (x1 x2 low : Int) (hl0 : -3000 ≤ low) (hl1 : low ≤ 3000) (w : World) (r1 : Row .i64 b1 l1 h1 w v1 xs) (r2 : Row .i64 b2 l2 h2 w v2 ys) (o1 : dokB s1 xs x1 = true) (o2 : dokB s2 ys x2 = true) (hyn : ys.length ≠ 0) :
    Calls Tryd.prog 30 #[.agg #[.bool s1, v1, .int .i64 x1], .agg #[.bool s2, v2, .int .i64 x2], .int .i64 low] w fun e w' => ∃ v' S zs E, e = .returned (.agg #[.bool S, v', .int .i64 E]) ∧ Row .i64 true w.heap.size w'.heap.size w' v' zs ∧ QuoAns S zs E low (s1 != s2) (val xs).toNat (val ys).toNat (x1 - x2 - (low - 1)) ∧ Kept 0 0 w w' := by
  obtain ⟨w1', e1, e2, -, -⟩ := dok_parts o1
  obtain ⟨w2', e3, e4, -, -⟩ := dok_parts o2
  obtain ⟨-, -, lx, hx⟩ := wok_int w1'
  obtain ⟨-, -, ly, hy⟩ := wok_int w2'
  by_cases hxn : xs.length = 0
  · refine (l4quot_nil s1 s2 x1 x2 low hl0 hl1 w r1 r2 o1 o2 hxn).mono ?_
    rintro e w' ⟨rfl, k⟩
    have hx0 : (val xs).toNat = 0 := by rw [List.length_eq_zero_iff.1 hxn]; rfl
    rw [hx0]
    exact ⟨_, _, _, _, rfl, Row.nil _ _ _ _ _, quoAns_zero _ _ _ _, k⟩
  · have hv0 : (val xs).toNat ≠ 0 := fun e => hxn (by have h := nrm_limbs hx; rw [e, limbs_zero] at h; rw [h]; rfl)
    have hyv : 0 < (val ys).toNat := Nat.pos_of_ne_zero (fun e => hyn (by have h := nrm_limbs hy; rw [e, limbs_zero] at h; rw [h]; rfl))
    refine (l4quot_spec s1 s2 x1 x2 low hl0 hl1 w r1 r2 o1 o2 hxn hyn).mono ?_
    rintro e w' ⟨v', rfl, r', k⟩
    exact ⟨v', _, _, _, rfl, r', quoAns_pos hx.1 lx hv0 hyv _ low (by omega) hl0 hl1 _, k⟩

set_option maxHeartbeats 4000000 in
theorem l4div_spec {b1 b2 : Bool} {l1 h1 l2 h2 : Nat} {v1 v2 : Value} {xs ys : List Int} (s1 s2 : Bool) (x1 x2 low : Int) (hl0 : -3000 ≤ low) (hl1 : low ≤ 3000) (w : World) (r1 : Row .i64 b1 l1 h1 w v1 xs) (r2 : Row .i64 b2 l2 h2 w v2 ys) (o1 : dokB s1 xs x1 = true) (o2 : dokB s2 ys x2 = true) (hyn : ys.length ≠ 0) (mode : Int) (hm0 : 0 ≤ mode) (hm4 : mode ≤ 4) :
    Calls Tryd.prog 15 #[.agg #[.bool s1, v1, .int .i64 x1], .agg #[.bool s2, v2, .int .i64 x2], .int .i64 low, .int .i64 mode] w fun e w' => ∃ v', e = .returned (.agg #[.bool (wsg (divM mode.toNat (s1 != s2) (val xs).toNat (val ys).toNat (x1 - x2 - (low - 1)))), v', .int .i64 (dex (divM mode.toNat (s1 != s2) (val xs).toNat (val ys).toNat (x1 - x2 - (low - 1))) low)]) ∧ Row .i64 true w.heap.size w'.heap.size w' v' (dlm (divM mode.toNat (s1 != s2) (val xs).toNat (val ys).toNat (x1 - x2 - (low - 1)))) ∧ Kept 0 0 w w' := by
  replace r1 := r1.tight
  replace r2 := r2.tight
  obtain ⟨M, hM⟩ : ∃ y, divM mode.toNat (s1 != s2) (val xs).toNat (val ys).toNat (x1 - x2 - (low - 1)) = y := ⟨_, rfl⟩
  rw [hM]
  have HM := hide hM
  clear hM
  obtain ⟨sM, hsM⟩ : ∃ y, wsg M = y := ⟨_, rfl⟩
  obtain ⟨zM, hzM⟩ : ∃ y, dlm M = y := ⟨_, rfl⟩
  obtain ⟨eM, heM⟩ : ∃ y, dex M low = y := ⟨_, rfl⟩
  rw [hsM, hzM, heM]
  have HsM := hide hsM
  have HzM := hide hzM
  have HeM := hide heM
  clear hsM hzM heM
  have k0 : Kept 0 0 w (((w.alloc (.cells #[.bool s1, v1, .int .i64 x1] 34)).alloc (.cells #[.bool s2, v2, .int .i64 x2] 34)).alloc (.cells #[.bool false, .slice none 0 0, .int .i64 0] 34)) := ((((Kept.refl 0 0 w).alloc (.cells #[.bool s1, v1, .int .i64 x1] 34)).alloc (.cells #[.bool s2, v2, .int .i64 x2] 34)).alloc (.cells #[.bool false, .slice none 0 0, .int .i64 0] 34))
  have p0 : (((w.alloc (.cells #[.bool s1, v1, .int .i64 x1] 34)).alloc (.cells #[.bool s2, v2, .int .i64 x2] 34)).alloc (.cells #[.bool false, .slice none 0 0, .int .i64 0] 34)).cell? ⟨w.heap.size, 0, none⟩ = some (.bool s1) := old_cell _ (old_cell _ (new_cell2 _ _ _ _ _ _ (by simp) rfl))
  have p1 : (((w.alloc (.cells #[.bool s1, v1, .int .i64 x1] 34)).alloc (.cells #[.bool s2, v2, .int .i64 x2] 34)).alloc (.cells #[.bool false, .slice none 0 0, .int .i64 0] 34)).cell? ⟨w.heap.size, 1, none⟩ = some (v1) := old_cell _ (old_cell _ (new_cell2 _ _ _ _ _ _ (by simp) rfl))
  have p2 : (((w.alloc (.cells #[.bool s1, v1, .int .i64 x1] 34)).alloc (.cells #[.bool s2, v2, .int .i64 x2] 34)).alloc (.cells #[.bool false, .slice none 0 0, .int .i64 0] 34)).cell? ⟨w.heap.size, 2, none⟩ = some (.int .i64 x1) := old_cell _ (old_cell _ (new_cell2 _ _ _ _ _ _ (by simp) rfl))
  have t0 : (((w.alloc (.cells #[.bool s1, v1, .int .i64 x1] 34)).alloc (.cells #[.bool s2, v2, .int .i64 x2] 34)).alloc (.cells #[.bool false, .slice none 0 0, .int .i64 0] 34)).cell? ⟨w.heap.size + 1, 0, none⟩ = some (.bool s2) := old_cell _ (new_cell2 _ _ _ _ _ _ (by simp) rfl)
  have t1 : (((w.alloc (.cells #[.bool s1, v1, .int .i64 x1] 34)).alloc (.cells #[.bool s2, v2, .int .i64 x2] 34)).alloc (.cells #[.bool false, .slice none 0 0, .int .i64 0] 34)).cell? ⟨w.heap.size + 1, 1, none⟩ = some (v2) := old_cell _ (new_cell2 _ _ _ _ _ _ (by simp) rfl)
  have t2 : (((w.alloc (.cells #[.bool s1, v1, .int .i64 x1] 34)).alloc (.cells #[.bool s2, v2, .int .i64 x2] 34)).alloc (.cells #[.bool false, .slice none 0 0, .int .i64 0] 34)).cell? ⟨w.heap.size + 1, 2, none⟩ = some (.int .i64 x2) := old_cell _ (new_cell2 _ _ _ _ _ _ (by simp) rfl)
  have q0 : (((w.alloc (.cells #[.bool s1, v1, .int .i64 x1] 34)).alloc (.cells #[.bool s2, v2, .int .i64 x2] 34)).alloc (.cells #[.bool false, .slice none 0 0, .int .i64 0] 34)).cell? ⟨w.heap.size + 2, 0, none⟩ = some (.bool false) := new_cell2 _ _ _ _ _ _ (by simp) rfl
  have qf0 : (((w.alloc (.cells #[.bool s1, v1, .int .i64 x1] 34)).alloc (.cells #[.bool s2, v2, .int .i64 x2] 34)).alloc (.cells #[.bool false, .slice none 0 0, .int .i64 0] 34)).frozen? ⟨w.heap.size + 2, 0, none⟩ = false := new_loose2 _ _ _ _ _ (by simp)
  have q1 : (((w.alloc (.cells #[.bool s1, v1, .int .i64 x1] 34)).alloc (.cells #[.bool s2, v2, .int .i64 x2] 34)).alloc (.cells #[.bool false, .slice none 0 0, .int .i64 0] 34)).cell? ⟨w.heap.size + 2, 1, none⟩ = some (.slice none 0 0) := new_cell2 _ _ _ _ _ _ (by simp) rfl
  have qf1 : (((w.alloc (.cells #[.bool s1, v1, .int .i64 x1] 34)).alloc (.cells #[.bool s2, v2, .int .i64 x2] 34)).alloc (.cells #[.bool false, .slice none 0 0, .int .i64 0] 34)).frozen? ⟨w.heap.size + 2, 1, none⟩ = false := new_loose2 _ _ _ _ _ (by simp)
  have q2 : (((w.alloc (.cells #[.bool s1, v1, .int .i64 x1] 34)).alloc (.cells #[.bool s2, v2, .int .i64 x2] 34)).alloc (.cells #[.bool false, .slice none 0 0, .int .i64 0] 34)).cell? ⟨w.heap.size + 2, 2, none⟩ = some (.int .i64 0) := new_cell2 _ _ _ _ _ _ (by simp) rfl
  have qf2 : (((w.alloc (.cells #[.bool s1, v1, .int .i64 x1] 34)).alloc (.cells #[.bool s2, v2, .int .i64 x2] 34)).alloc (.cells #[.bool false, .slice none 0 0, .int .i64 0] 34)).frozen? ⟨w.heap.size + 2, 2, none⟩ = false := new_loose2 _ _ _ _ _ (by simp)
  replace r1 := r1.kept k0 (by omega)
  replace r2 := r2.kept k0 (by omega)
  have s0 : (((w.alloc (.cells #[.bool s1, v1, .int .i64 x1] 34)).alloc (.cells #[.bool s2, v2, .int .i64 x2] 34)).alloc (.cells #[.bool false, .slice none 0 0, .int .i64 0] 34)).heap.size = w.heap.size + 3 := by simp
  obtain ⟨a1, c1, hv⟩ := Row.form' r1
  subst hv
  obtain ⟨a2, c2, hv⟩ := Row.form' r2
  subst hv
  have K := hide (k0)
  clear k0
  have S0 := hide s0
  clear s0
  go_enter Tryd.func15, Tryd.ntmps15
  go_wp2_with fail
  generalize (((w.alloc (.cells #[.bool s1, .slice a1 xs.length c1, .int .i64 x1] 34)).alloc (.cells #[.bool s2, .slice a2 ys.length c2, .int .i64 x2] 34)).alloc (.cells #[.bool false, .slice none 0 0, .int .i64 0] 34)) = W at *
  refine (l4quot_any s1 s2 x1 x2 low hl0 hl1 _ r1 r2 o1 o2 hyn).mono ?_
  rintro e w1 ⟨v3, S3, z3, E3, rfl, r3, qa, k1⟩
  replace r1 := r1.kept k1 (.inr (.inr (Nat.le_refl 0)))
  replace r2 := r2.kept k1 (.inr (.inr (Nat.le_refl 0)))
  replace qf0 := k1.loose0 (World.block_lt_of_cell? _ _ q0) qf0
  replace qf1 := k1.loose0 (World.block_lt_of_cell? _ _ q1) qf1
  replace qf2 := k1.loose0 (World.block_lt_of_cell? _ _ q2) qf2
  replace p0 := k1.cell0 p0
  replace p1 := k1.cell0 p1
  replace p2 := k1.cell0 p2
  replace t0 := k1.cell0 t0
  replace t1 := k1.cell0 t1
  replace t2 := k1.cell0 t2
  replace q0 := k1.cell0 q0
  replace q1 := k1.cell0 q1
  replace q2 := k1.cell0 q2
  replace K := hide ((unhide K).trans k1)
  have z2 := k1.size
  clear k1
  clear r1 r2
  obtain ⟨a3, c3, hv⟩ := Row.form' r3
  subst hv
  have mr := round4_two S3 E3 low qa.lo qa.hi (by omega) (by omega) w1 r3 qa.wn qa.odd qa.nil qa.len mode hm0 hm4
  rw [qa.rnd mode.toNat, unhide HM, unhide HsM, unhide HzM, unhide HeM] at mr
  obtain ⟨X3, hX3⟩ : ∃ y, rndX (scN (val z3).toNat (E3 - (low - 1))) (scL (val z3).toNat (E3 - (low - 1))) = y := ⟨_, rfl⟩
  rw [hX3] at mr
  clear hX3 qa HM HsM HzM HeM
  go_wp2_with fail
  refine (mr).mono ?_
  rintro e w3 ⟨v6, rfl, r6, k3⟩
  replace r3 := r3.kept k3 (.inr (.inr (Nat.le_refl 0)))
  replace qf0 := k3.loose0 (World.block_lt_of_cell? _ _ q0) qf0
  replace qf1 := k3.loose0 (World.block_lt_of_cell? _ _ q1) qf1
  replace qf2 := k3.loose0 (World.block_lt_of_cell? _ _ q2) qf2
  replace p0 := k3.cell0 p0
  replace p1 := k3.cell0 p1
  replace p2 := k3.cell0 p2
  replace t0 := k3.cell0 t0
  replace t1 := k3.cell0 t1
  replace t2 := k3.cell0 t2
  replace q0 := k3.cell0 q0
  replace q1 := k3.cell0 q1
  replace q2 := k3.cell0 q2
  replace K := hide ((unhide K).trans k3)
  have z4 := k3.size
  clear k3
  clear mr
  replace r6 : Row .i64 true (w.heap.size + 3) w3.heap.size w3 v6 zM := by
    have := unhide S0
    rcases r6 with r6 | r6
    · exact r6.tight.wider (by omega) (Nat.le_refl _)
    · exact r6.wider (by omega) (Nat.le_refl _)
  clear r3
  obtain ⟨a6, c6, hv⟩ := Row.form' r6
  subst hv
  have kn := (Kept.refl 0 0 w3).alloc (.cells #[.bool sM, .slice a6 zM.length c6, .int .i64 eM] 34)
  have u0 : (w3.alloc (.cells #[.bool sM, .slice a6 zM.length c6, .int .i64 eM] 34)).cell? ⟨w3.heap.size, 0, none⟩ = some (.bool sM) := new_cell2 _ _ _ _ _ _ (by simp) rfl
  have u1 : (w3.alloc (.cells #[.bool sM, .slice a6 zM.length c6, .int .i64 eM] 34)).cell? ⟨w3.heap.size, 1, none⟩ = some (.slice a6 zM.length c6) := new_cell2 _ _ _ _ _ _ (by simp) rfl
  have u2 : (w3.alloc (.cells #[.bool sM, .slice a6 zM.length c6, .int .i64 eM] 34)).cell? ⟨w3.heap.size, 2, none⟩ = some (.int .i64 eM) := new_cell2 _ _ _ _ _ _ (by simp) rfl
  have sz5 : w3.heap.size + 1 ≤ (w3.alloc (.cells #[.bool sM, .slice a6 zM.length c6, .int .i64 eM] 34)).heap.size := by simp
  replace r6 := r6.kept kn (.inr (.inr (Nat.le_refl 0)))
  replace qf0 := kn.loose0 (World.block_lt_of_cell? _ _ q0) qf0
  replace qf1 := kn.loose0 (World.block_lt_of_cell? _ _ q1) qf1
  replace qf2 := kn.loose0 (World.block_lt_of_cell? _ _ q2) qf2
  replace p0 := kn.cell0 p0
  replace p1 := kn.cell0 p1
  replace p2 := kn.cell0 p2
  replace t0 := kn.cell0 t0
  replace t1 := kn.cell0 t1
  replace t2 := kn.cell0 t2
  replace q0 := kn.cell0 q0
  replace q1 := kn.cell0 q1
  replace q2 := kn.cell0 q2
  replace K := hide ((unhide K).trans kn)
  have z6 := kn.size
  clear kn
  go_wp2_with fail
  generalize (w3.alloc (.cells #[.bool sM, .slice a6 zM.length c6, .int .i64 eM] 34)) = wn7 at *
  have R := hide ((((r6.set_other (p := ⟨w.heap.size + 2, 0, none⟩) (.inl (by have := unhide S0; dsimp only; omega)) (.bool sM)).set_other (p := ⟨w.heap.size + 2, 1, none⟩) (.inl (by have := unhide S0; dsimp only; omega)) (.slice a6 zM.length c6)).set_other (p := ⟨w.heap.size + 2, 2, none⟩) (.inl (by have := unhide S0; dsimp only; omega)) (.int .i64 eM)).tight.wider (lo' := w.heap.size) (by have := unhide S0; omega) (Nat.le_refl _))
  have K7 := hide ((((unhide K).setNew (p := ⟨w.heap.size + 2, 0, none⟩) (by simp) (.bool sM)).setNew (p := ⟨w.heap.size + 2, 1, none⟩) (by simp) (.slice a6 zM.length c6)).setNew (p := ⟨w.heap.size + 2, 2, none⟩) (by simp) (.int .i64 eM))
  clear r6 K 
  go_wp2_with fail
  exact bodyPost_ret (v := .agg #[.bool sM, .slice a6 zM.length c6, .int .i64 eM]) (by simp [results, Tryd.results15, go_sem, q0, q1, q2]) rfl ⟨_, rfl, unhide R, unhide K7⟩

set_option maxHeartbeats 4000000 in
theorem ddiv_spec {b1 b2 : Bool} {l1 h1 l2 h2 : Nat} {v1 v2 : Value} {xs ys : List Int} (s1 s2 : Bool) (x1 x2 : Int) (hx1 : x1 ≤ 9223372036854775807) (hx0 : -9223372036854775808 ≤ x1) (hy1 : x2 ≤ 9223372036854775807) (hy0 : -9223372036854775808 ≤ x2) (low mode : Int) (w : World) (r1 : Row .i64 b1 l1 h1 w v1 xs) (r2 : Row .i64 b2 l2 h2 w v2 ys) :
    Calls Tryd.prog 5 #[.agg #[.bool s1, v1, .int .i64 x1], .agg #[.bool s2, v2, .int .i64 x2], .int .i64 low, .int .i64 mode] w fun e w' => ∃ v', e = .returned (.tuple #[.agg #[.bool (ansDS ((dokB s1 xs x1 && dokB s2 ys x2) && (!decide (ys.length = 0) && mayR low mode)) (divM mode.toNat (s1 != s2) (val xs).toNat (val ys).toNat (x1 - x2 - (low - 1))) low), v', .int .i64 (ansDE ((dokB s1 xs x1 && dokB s2 ys x2) && (!decide (ys.length = 0) && mayR low mode)) (divM mode.toNat (s1 != s2) (val xs).toNat (val ys).toNat (x1 - x2 - (low - 1))) low)], .bool (ansDB ((dokB s1 xs x1 && dokB s2 ys x2) && (!decide (ys.length = 0) && mayR low mode)) (divM mode.toNat (s1 != s2) (val xs).toNat (val ys).toNat (x1 - x2 - (low - 1))) low)]) ∧ Row .i64 true w.heap.size w'.heap.size w' v' (ansDL ((dokB s1 xs x1 && dokB s2 ys x2) && (!decide (ys.length = 0) && mayR low mode)) (divM mode.toNat (s1 != s2) (val xs).toNat (val ys).toNat (x1 - x2 - (low - 1))) low) ∧ Kept 0 0 w w' := by
  obtain ⟨GS, hGS⟩ : ∃ y, ansDS ((dokB s1 xs x1 && dokB s2 ys x2) && (!decide (ys.length = 0) && mayR low mode)) (divM mode.toNat (s1 != s2) (val xs).toNat (val ys).toNat (x1 - x2 - (low - 1))) (low) = y := ⟨_, rfl⟩
  obtain ⟨GL, hGL⟩ : ∃ y, ansDL ((dokB s1 xs x1 && dokB s2 ys x2) && (!decide (ys.length = 0) && mayR low mode)) (divM mode.toNat (s1 != s2) (val xs).toNat (val ys).toNat (x1 - x2 - (low - 1))) (low) = y := ⟨_, rfl⟩
  obtain ⟨GE, hGE⟩ : ∃ y, ansDE ((dokB s1 xs x1 && dokB s2 ys x2) && (!decide (ys.length = 0) && mayR low mode)) (divM mode.toNat (s1 != s2) (val xs).toNat (val ys).toNat (x1 - x2 - (low - 1))) (low) = y := ⟨_, rfl⟩
  obtain ⟨GB, hGB⟩ : ∃ y, ansDB ((dokB s1 xs x1 && dokB s2 ys x2) && (!decide (ys.length = 0) && mayR low mode)) (divM mode.toNat (s1 != s2) (val xs).toNat (val ys).toNat (x1 - x2 - (low - 1))) (low) = y := ⟨_, rfl⟩
  try rw [hGS]
  try rw [hGL]
  try rw [hGE]
  try rw [hGB]
  have HGS := hide hGS
  have HGL := hide hGL
  have HGE := hide hGE
  have HGB := hide hGB
  clear hGS hGL hGE hGB
  have k0 : Kept 0 0 w (((w.alloc (.cells #[.bool s1, v1, .int .i64 x1] 34)).alloc (.cells #[.bool s2, v2, .int .i64 x2] 34)).alloc (.cells #[.bool false, .slice none 0 0, .int .i64 0] 34)) := ((((Kept.refl 0 0 w).alloc (.cells #[.bool s1, v1, .int .i64 x1] 34)).alloc (.cells #[.bool s2, v2, .int .i64 x2] 34)).alloc (.cells #[.bool false, .slice none 0 0, .int .i64 0] 34))
  have p0 : (((w.alloc (.cells #[.bool s1, v1, .int .i64 x1] 34)).alloc (.cells #[.bool s2, v2, .int .i64 x2] 34)).alloc (.cells #[.bool false, .slice none 0 0, .int .i64 0] 34)).cell? ⟨w.heap.size, 0, none⟩ = some (.bool s1) := old_cell _ (old_cell _ (new_cell2 _ _ _ _ _ _ (by simp) rfl))
  have p1 : (((w.alloc (.cells #[.bool s1, v1, .int .i64 x1] 34)).alloc (.cells #[.bool s2, v2, .int .i64 x2] 34)).alloc (.cells #[.bool false, .slice none 0 0, .int .i64 0] 34)).cell? ⟨w.heap.size, 1, none⟩ = some (v1) := old_cell _ (old_cell _ (new_cell2 _ _ _ _ _ _ (by simp) rfl))
  have p2 : (((w.alloc (.cells #[.bool s1, v1, .int .i64 x1] 34)).alloc (.cells #[.bool s2, v2, .int .i64 x2] 34)).alloc (.cells #[.bool false, .slice none 0 0, .int .i64 0] 34)).cell? ⟨w.heap.size, 2, none⟩ = some (.int .i64 x1) := old_cell _ (old_cell _ (new_cell2 _ _ _ _ _ _ (by simp) rfl))
  have t0 : (((w.alloc (.cells #[.bool s1, v1, .int .i64 x1] 34)).alloc (.cells #[.bool s2, v2, .int .i64 x2] 34)).alloc (.cells #[.bool false, .slice none 0 0, .int .i64 0] 34)).cell? ⟨w.heap.size + 1, 0, none⟩ = some (.bool s2) := old_cell _ (new_cell2 _ _ _ _ _ _ (by simp) rfl)
  have t1 : (((w.alloc (.cells #[.bool s1, v1, .int .i64 x1] 34)).alloc (.cells #[.bool s2, v2, .int .i64 x2] 34)).alloc (.cells #[.bool false, .slice none 0 0, .int .i64 0] 34)).cell? ⟨w.heap.size + 1, 1, none⟩ = some (v2) := old_cell _ (new_cell2 _ _ _ _ _ _ (by simp) rfl)
  have t2 : (((w.alloc (.cells #[.bool s1, v1, .int .i64 x1] 34)).alloc (.cells #[.bool s2, v2, .int .i64 x2] 34)).alloc (.cells #[.bool false, .slice none 0 0, .int .i64 0] 34)).cell? ⟨w.heap.size + 1, 2, none⟩ = some (.int .i64 x2) := old_cell _ (new_cell2 _ _ _ _ _ _ (by simp) rfl)
  have q0 : (((w.alloc (.cells #[.bool s1, v1, .int .i64 x1] 34)).alloc (.cells #[.bool s2, v2, .int .i64 x2] 34)).alloc (.cells #[.bool false, .slice none 0 0, .int .i64 0] 34)).cell? ⟨w.heap.size + 2, 0, none⟩ = some (.bool false) := new_cell2 _ _ _ _ _ _ (by simp) rfl
  have qf0 : (((w.alloc (.cells #[.bool s1, v1, .int .i64 x1] 34)).alloc (.cells #[.bool s2, v2, .int .i64 x2] 34)).alloc (.cells #[.bool false, .slice none 0 0, .int .i64 0] 34)).frozen? ⟨w.heap.size + 2, 0, none⟩ = false := new_loose2 _ _ _ _ _ (by simp)
  have q1 : (((w.alloc (.cells #[.bool s1, v1, .int .i64 x1] 34)).alloc (.cells #[.bool s2, v2, .int .i64 x2] 34)).alloc (.cells #[.bool false, .slice none 0 0, .int .i64 0] 34)).cell? ⟨w.heap.size + 2, 1, none⟩ = some (.slice none 0 0) := new_cell2 _ _ _ _ _ _ (by simp) rfl
  have qf1 : (((w.alloc (.cells #[.bool s1, v1, .int .i64 x1] 34)).alloc (.cells #[.bool s2, v2, .int .i64 x2] 34)).alloc (.cells #[.bool false, .slice none 0 0, .int .i64 0] 34)).frozen? ⟨w.heap.size + 2, 1, none⟩ = false := new_loose2 _ _ _ _ _ (by simp)
  have q2 : (((w.alloc (.cells #[.bool s1, v1, .int .i64 x1] 34)).alloc (.cells #[.bool s2, v2, .int .i64 x2] 34)).alloc (.cells #[.bool false, .slice none 0 0, .int .i64 0] 34)).cell? ⟨w.heap.size + 2, 2, none⟩ = some (.int .i64 0) := new_cell2 _ _ _ _ _ _ (by simp) rfl
  have qf2 : (((w.alloc (.cells #[.bool s1, v1, .int .i64 x1] 34)).alloc (.cells #[.bool s2, v2, .int .i64 x2] 34)).alloc (.cells #[.bool false, .slice none 0 0, .int .i64 0] 34)).frozen? ⟨w.heap.size + 2, 2, none⟩ = false := new_loose2 _ _ _ _ _ (by simp)
  replace r1 := r1.kept k0 (by omega)
  replace r2 := r2.kept k0 (by omega)
  have s0 : (((w.alloc (.cells #[.bool s1, v1, .int .i64 x1] 34)).alloc (.cells #[.bool s2, v2, .int .i64 x2] 34)).alloc (.cells #[.bool false, .slice none 0 0, .int .i64 0] 34)).heap.size = w.heap.size + 3 := by simp
  obtain ⟨a1, c1, hv⟩ := Row.form' r1
  subst hv
  obtain ⟨a2, c2, hv⟩ := Row.form' r2
  subst hv
  have K := hide (k0)
  clear k0
  have S0 := hide s0
  clear s0
  go_enter Tryd.func5, Tryd.ntmps5
  go_wp2_with fail
  generalize (((w.alloc (.cells #[.bool s1, .slice a1 xs.length c1, .int .i64 x1] 34)).alloc (.cells #[.bool s2, .slice a2 ys.length c2, .int .i64 x2] 34)).alloc (.cells #[.bool false, .slice none 0 0, .int .i64 0] 34)) = W at *
  refine (dok_spec s1 x1 hx1 hx0 _ r1).mono ?_
  rintro e w1 ⟨rfl, k1⟩
  replace r1 := r1.kept k1 (.inr (.inr (Nat.le_refl 0)))
  replace r2 := r2.kept k1 (.inr (.inr (Nat.le_refl 0)))
  replace qf0 := k1.loose0 (World.block_lt_of_cell? _ _ q0) qf0
  replace qf1 := k1.loose0 (World.block_lt_of_cell? _ _ q1) qf1
  replace qf2 := k1.loose0 (World.block_lt_of_cell? _ _ q2) qf2
  replace p0 := k1.cell0 p0
  replace p1 := k1.cell0 p1
  replace p2 := k1.cell0 p2
  replace t0 := k1.cell0 t0
  replace t1 := k1.cell0 t1
  replace t2 := k1.cell0 t2
  replace q0 := k1.cell0 q0
  replace q1 := k1.cell0 q1
  replace q2 := k1.cell0 q2
  replace K := hide ((unhide K).trans k1)
  have z2 := k1.size
  clear k1
  cases ho1 : dokB s1 xs x1
  · have HB0 : Hid (((dokB s1 xs x1 && dokB s2 ys x2) && (!decide (ys.length = 0) && mayR low mode)) = false) := by show _ = _; rw [ho1]; rfl
    have HF : Hid (GS = false ∧ GL = [] ∧ GE = 0 ∧ GB = false) := by
      have hno : GB = false := by rw [← unhide HGB]; exact ansDB_no (unhide HB0)
      have hno' := hno
      rw [← unhide HGB] at hno'
      obtain ⟨b1, b2, b3⟩ := ansD_no hno'
      exact ⟨by rw [← unhide HGS, b1], by rw [← unhide HGL, b2], by rw [← unhide HGE, b3], hno⟩
    have KF := hide ((((unhide K).setNew (p := ⟨w.heap.size + 2, 0, none⟩) (by simp) (.bool false)).setNew (p := ⟨w.heap.size + 2, 1, none⟩) (by simp) (.slice none 0 0)).setNew (p := ⟨w.heap.size + 2, 2, none⟩) (by simp) (.int .i64 0))
    clear r1 r2 K
    go_wp2_with fail
    exact bodyPost_ret (v := .tuple #[.agg #[.bool false, .slice none 0 0, .int .i64 0], .bool false]) (by simp [results, Tryd.results5, go_sem, q0, q1, q2]) rfl ⟨_, by rw [(unhide HF).1, (unhide HF).2.2.1, (unhide HF).2.2.2], by rw [(unhide HF).2.1]; exact Row.nil _ _ _ _ _, unhide KF⟩
  have HO1 := hide ho1
  clear ho1
  go_wp2_with fail
  refine (dok_spec s2 x2 hy1 hy0 _ r2).mono ?_
  rintro e w3 ⟨rfl, k3⟩
  replace r1 := r1.kept k3 (.inr (.inr (Nat.le_refl 0)))
  replace r2 := r2.kept k3 (.inr (.inr (Nat.le_refl 0)))
  replace qf0 := k3.loose0 (World.block_lt_of_cell? _ _ q0) qf0
  replace qf1 := k3.loose0 (World.block_lt_of_cell? _ _ q1) qf1
  replace qf2 := k3.loose0 (World.block_lt_of_cell? _ _ q2) qf2
  replace p0 := k3.cell0 p0
  replace p1 := k3.cell0 p1
  replace p2 := k3.cell0 p2
  replace t0 := k3.cell0 t0
  replace t1 := k3.cell0 t1
  replace t2 := k3.cell0 t2
  replace q0 := k3.cell0 q0
  replace q1 := k3.cell0 q1
  replace q2 := k3.cell0 q2
  replace K := hide ((unhide K).trans k3)
  have z4 := k3.size
  clear k3
  cases ho2 : dokB s2 ys x2
  · have HB0 : Hid (((dokB s1 xs x1 && dokB s2 ys x2) && (!decide (ys.length = 0) && mayR low mode)) = false) := by show _ = _; rw [ho2, Bool.and_false]; rfl
    have HF : Hid (GS = false ∧ GL = [] ∧ GE = 0 ∧ GB = false) := by
      have hno : GB = false := by rw [← unhide HGB]; exact ansDB_no (unhide HB0)
      have hno' := hno
      rw [← unhide HGB] at hno'
      obtain ⟨b1, b2, b3⟩ := ansD_no hno'
      exact ⟨by rw [← unhide HGS, b1], by rw [← unhide HGL, b2], by rw [← unhide HGE, b3], hno⟩
    have KF := hide ((((unhide K).setNew (p := ⟨w.heap.size + 2, 0, none⟩) (by simp) (.bool false)).setNew (p := ⟨w.heap.size + 2, 1, none⟩) (by simp) (.slice none 0 0)).setNew (p := ⟨w.heap.size + 2, 2, none⟩) (by simp) (.int .i64 0))
    clear r1 r2 K
    go_wp2_with fail
    exact bodyPost_ret (v := .tuple #[.agg #[.bool false, .slice none 0 0, .int .i64 0], .bool false]) (by simp [results, Tryd.results5, go_sem, q0, q1, q2]) rfl ⟨_, by rw [(unhide HF).1, (unhide HF).2.2.1, (unhide HF).2.2.2], by rw [(unhide HF).2.1]; exact Row.nil _ _ _ _ _, unhide KF⟩
  have HO2 := hide ho2
  clear ho2
  by_cases hy0' : ys.length = 0
  · have hb0 : ((ys.length : Int) == 0) = true := beq_iff_eq.2 (by omega)
    have HB0 : Hid (((dokB s1 xs x1 && dokB s2 ys x2) && (!decide (ys.length = 0) && mayR low mode)) = false) := by show _ = _; rw [decide_eq_true hy0']; simp
    have HF : Hid (GS = false ∧ GL = [] ∧ GE = 0 ∧ GB = false) := by
      have hno : GB = false := by rw [← unhide HGB]; exact ansDB_no (unhide HB0)
      have hno' := hno
      rw [← unhide HGB] at hno'
      obtain ⟨b1, b2, b3⟩ := ansD_no hno'
      exact ⟨by rw [← unhide HGS, b1], by rw [← unhide HGL, b2], by rw [← unhide HGE, b3], hno⟩
    have KF := hide ((((unhide K).setNew (p := ⟨w.heap.size + 2, 0, none⟩) (by simp) (.bool false)).setNew (p := ⟨w.heap.size + 2, 1, none⟩) (by simp) (.slice none 0 0)).setNew (p := ⟨w.heap.size + 2, 2, none⟩) (by simp) (.int .i64 0))
    clear r1 r2 K
    go_wp2_with fail
    exact bodyPost_ret (v := .tuple #[.agg #[.bool false, .slice none 0 0, .int .i64 0], .bool false]) (by simp [results, Tryd.results5, go_sem, q0, q1, q2]) rfl ⟨_, by rw [(unhide HF).1, (unhide HF).2.2.1, (unhide HF).2.2.2], by rw [(unhide HF).2.1]; exact Row.nil _ _ _ _ _, unhide KF⟩
  have hb0 : ((ys.length : Int) == 0) = false := beq_eq_false_iff_ne.2 (by omega)
  by_cases hl1 : low < -3000
  · have HB0 : Hid (((dokB s1 xs x1 && dokB s2 ys x2) && (!decide (ys.length = 0) && mayR low mode)) = false) := by show _ = _; unfold mayR; rw [decide_eq_false (show ¬ -3000 ≤ low by omega)]; simp
    have HF : Hid (GS = false ∧ GL = [] ∧ GE = 0 ∧ GB = false) := by
      have hno : GB = false := by rw [← unhide HGB]; exact ansDB_no (unhide HB0)
      have hno' := hno
      rw [← unhide HGB] at hno'
      obtain ⟨b1, b2, b3⟩ := ansD_no hno'
      exact ⟨by rw [← unhide HGS, b1], by rw [← unhide HGL, b2], by rw [← unhide HGE, b3], hno⟩
    have KF := hide ((((unhide K).setNew (p := ⟨w.heap.size + 2, 0, none⟩) (by simp) (.bool false)).setNew (p := ⟨w.heap.size + 2, 1, none⟩) (by simp) (.slice none 0 0)).setNew (p := ⟨w.heap.size + 2, 2, none⟩) (by simp) (.int .i64 0))
    clear r1 r2 K
    go_wp2_with fail
    exact bodyPost_ret (v := .tuple #[.agg #[.bool false, .slice none 0 0, .int .i64 0], .bool false]) (by simp [results, Tryd.results5, go_sem, q0, q1, q2]) rfl ⟨_, by rw [(unhide HF).1, (unhide HF).2.2.1, (unhide HF).2.2.2], by rw [(unhide HF).2.1]; exact Row.nil _ _ _ _ _, unhide KF⟩
  by_cases hl2 : 3000 < low
  · have HB0 : Hid (((dokB s1 xs x1 && dokB s2 ys x2) && (!decide (ys.length = 0) && mayR low mode)) = false) := by show _ = _; unfold mayR; rw [decide_eq_false (show ¬ low ≤ 3000 by omega)]; simp
    have HF : Hid (GS = false ∧ GL = [] ∧ GE = 0 ∧ GB = false) := by
      have hno : GB = false := by rw [← unhide HGB]; exact ansDB_no (unhide HB0)
      have hno' := hno
      rw [← unhide HGB] at hno'
      obtain ⟨b1, b2, b3⟩ := ansD_no hno'
      exact ⟨by rw [← unhide HGS, b1], by rw [← unhide HGL, b2], by rw [← unhide HGE, b3], hno⟩
    have KF := hide ((((unhide K).setNew (p := ⟨w.heap.size + 2, 0, none⟩) (by simp) (.bool false)).setNew (p := ⟨w.heap.size + 2, 1, none⟩) (by simp) (.slice none 0 0)).setNew (p := ⟨w.heap.size + 2, 2, none⟩) (by simp) (.int .i64 0))
    clear r1 r2 K
    go_wp2_with fail
    exact bodyPost_ret (v := .tuple #[.agg #[.bool false, .slice none 0 0, .int .i64 0], .bool false]) (by simp [results, Tryd.results5, go_sem, q0, q1, q2]) rfl ⟨_, by rw [(unhide HF).1, (unhide HF).2.2.1, (unhide HF).2.2.2], by rw [(unhide HF).2.1]; exact Row.nil _ _ _ _ _, unhide KF⟩
  go_wp2_with fail
  refine (mode_spec mode _).mono ?_
  rintro e w5 ⟨rfl, rfl⟩
  cases hm : modeB mode
  · have HB0 : Hid (((dokB s1 xs x1 && dokB s2 ys x2) && (!decide (ys.length = 0) && mayR low mode)) = false) := by show _ = _; unfold mayR; rw [hm]; simp
    have HF : Hid (GS = false ∧ GL = [] ∧ GE = 0 ∧ GB = false) := by
      have hno : GB = false := by rw [← unhide HGB]; exact ansDB_no (unhide HB0)
      have hno' := hno
      rw [← unhide HGB] at hno'
      obtain ⟨b1, b2, b3⟩ := ansD_no hno'
      exact ⟨by rw [← unhide HGS, b1], by rw [← unhide HGL, b2], by rw [← unhide HGE, b3], hno⟩
    have KF := hide ((((unhide K).setNew (p := ⟨w.heap.size + 2, 0, none⟩) (by simp) (.bool false)).setNew (p := ⟨w.heap.size + 2, 1, none⟩) (by simp) (.slice none 0 0)).setNew (p := ⟨w.heap.size + 2, 2, none⟩) (by simp) (.int .i64 0))
    clear r1 r2 K
    go_wp2_with fail
    exact bodyPost_ret (v := .tuple #[.agg #[.bool false, .slice none 0 0, .int .i64 0], .bool false]) (by simp [results, Tryd.results5, go_sem, q0, q1, q2]) rfl ⟨_, by rw [(unhide HF).1, (unhide HF).2.2.1, (unhide HF).2.2.2], by rw [(unhide HF).2.1]; exact Row.nil _ _ _ _ _, unhide KF⟩
  have HC : Hid (((dokB s1 xs x1 && dokB s2 ys x2) && (!decide (ys.length = 0) && mayR low mode)) = true) := by show _ = _; rw [unhide HO1, unhide HO2, decide_eq_false hy0']; unfold mayR; rw [hm, decide_eq_true (show -3000 ≤ low by omega), decide_eq_true (show low ≤ 3000 by omega)]; rfl
  have hmm : 0 ≤ mode ∧ mode ≤ 4 := by unfold modeB at hm; simp at hm; exact hm
  obtain ⟨w1', e1, e2, -, -⟩ := dok_parts (unhide HO1)
  obtain ⟨w2', e3, e4, -, -⟩ := dok_parts (unhide HO2)
  obtain ⟨-, -, lx, hx⟩ := wok_int w1'
  clear w1' w2'
  have rg := dex_range (divM mode.toNat (s1 != s2) (val xs).toNat (val ys).toNat (x1 - x2 - (low - 1))) low (by omega) (by omega) (divM_lt hx.1 lx mode.toNat (s1 != s2) (val ys).toNat (x1 - x2 - (low - 1)) (by omega)) (by omega)
  have md := l4div_spec s1 s2 x1 x2 low (by omega) (by omega) w5 r1 r2 (unhide HO1) (unhide HO2) hy0' mode hmm.1 hmm.2
  obtain ⟨y1, y2, y3, y4⟩ := fits_ans (unhide HC) (divM mode.toNat (s1 != s2) (val xs).toNat (val ys).toNat (x1 - x2 - (low - 1))) low
  rw [unhide HGS] at y1
  rw [unhide HGE] at y2
  rw [unhide HGB] at y3
  rw [unhide HGL] at y4
  obtain ⟨M, hM⟩ : ∃ y, divM mode.toNat (s1 != s2) (val xs).toNat (val ys).toNat (x1 - x2 - (low - 1)) = y := ⟨_, rfl⟩
  rw [hM] at rg md y1 y2 y3 y4
  clear hM HGS HGL HGE HGB HC
  obtain ⟨sM, hsM⟩ : ∃ y, wsg M = y := ⟨_, rfl⟩
  obtain ⟨zM, hzM⟩ : ∃ y, dlm M = y := ⟨_, rfl⟩
  obtain ⟨eM, heM⟩ : ∃ y, dex M low = y := ⟨_, rfl⟩
  simp only [hsM, hzM, heM] at md y1 y2 y3 y4 rg
  clear hsM hzM heM
  go_wp2_with fail
  refine (md).mono ?_
  rintro e w5 ⟨v6, rfl, r6, k5⟩
  replace r1 := r1.kept k5 (.inr (.inr (Nat.le_refl 0)))
  replace r2 := r2.kept k5 (.inr (.inr (Nat.le_refl 0)))
  replace qf0 := k5.loose0 (World.block_lt_of_cell? _ _ q0) qf0
  replace qf1 := k5.loose0 (World.block_lt_of_cell? _ _ q1) qf1
  replace qf2 := k5.loose0 (World.block_lt_of_cell? _ _ q2) qf2
  replace p0 := k5.cell0 p0
  replace p1 := k5.cell0 p1
  replace p2 := k5.cell0 p2
  replace t0 := k5.cell0 t0
  replace t1 := k5.cell0 t1
  replace t2 := k5.cell0 t2
  replace q0 := k5.cell0 q0
  replace q1 := k5.cell0 q1
  replace q2 := k5.cell0 q2
  replace K := hide ((unhide K).trans k5)
  have z6 := k5.size
  clear k5
  clear md
  clear r1 r2
  have mk := fits4_spec sM eM rg.1 rg.2 w5 r6
  rw [y4, y1, y2, y3] at mk
  clear y1 y2 y3 y4 rg
  go_wp2_with fail
  refine (mk).mono ?_
  rintro e w7 ⟨v8, rfl, r8, k7⟩
  replace r6 := r6.kept k7 (.inr (.inr (Nat.le_refl 0)))
  replace qf0 := k7.loose0 (World.block_lt_of_cell? _ _ q0) qf0
  replace qf1 := k7.loose0 (World.block_lt_of_cell? _ _ q1) qf1
  replace qf2 := k7.loose0 (World.block_lt_of_cell? _ _ q2) qf2
  replace p0 := k7.cell0 p0
  replace p1 := k7.cell0 p1
  replace p2 := k7.cell0 p2
  replace t0 := k7.cell0 t0
  replace t1 := k7.cell0 t1
  replace t2 := k7.cell0 t2
  replace q0 := k7.cell0 q0
  replace q1 := k7.cell0 q1
  replace q2 := k7.cell0 q2
  replace K := hide ((unhide K).trans k7)
  have z8 := k7.size
  clear k7
  clear mk
  obtain ⟨a8, c8, hv⟩ := Row.form' r8
  subst hv
  clear r6
  have R := hide ((((r8.set_other (p := ⟨w.heap.size + 2, 0, none⟩) (.inl (by have := unhide S0; dsimp only; omega)) (.bool GS)).set_other (p := ⟨w.heap.size + 2, 1, none⟩) (.inl (by have := unhide S0; dsimp only; omega)) (.slice a8 GL.length c8)).set_other (p := ⟨w.heap.size + 2, 2, none⟩) (.inl (by have := unhide S0; dsimp only; omega)) (.int .i64 GE)).tight.wider (lo' := w.heap.size) (by have := unhide S0; omega) (Nat.le_refl _))
  have K7 := hide ((((unhide K).setNew (p := ⟨w.heap.size + 2, 0, none⟩) (by simp) (.bool GS)).setNew (p := ⟨w.heap.size + 2, 1, none⟩) (by simp) (.slice a8 GL.length c8)).setNew (p := ⟨w.heap.size + 2, 2, none⟩) (by simp) (.int .i64 GE))
  clear r8 K 
  go_wp2_with fail
  exact bodyPost_ret (v := .tuple #[.agg #[.bool GS, .slice a8 GL.length c8, .int .i64 GE], .bool GB]) (by simp [results, Tryd.results5, go_sem, q0, q1, q2]) rfl ⟨_, rfl, unhide R, unhide K7⟩

end Go.Proofs.YteogibgcgccafaaDoor
