/-
  Quotients of dyadic numbers: the model's l4quot.
-/
import Derived.Test.YtflpkblmcnkghaaDoorBS
import Derived.Test.YtflpkblmcnkghaaDoorBM
import Derived.Test.YtflpkblmcnkghaaDoorDy6
import Derived.Deep.DeepCutAuto
import Derived.Deep.RegionHeld3
namespace Go.Proofs.YtflpkblmcnkghaaDoor
open Go.RowKit
set_option linter.unusedVariables false
set_option maxRecDepth 8000
set_option linter.unusedSimpArgs false

theorem quoX_zero (V : Nat) {k : Int} (h : k ≤ 0) : quoX V k = V := by
  unfold quoX
  rw [show k.toNat = 0 by omega, Nat.pow_zero, Nat.mul_one]
theorem len_pos_limbs {n : Nat} (h : n ≠ 0) : 0 < (limbs n).length := by
  rcases Nat.eq_zero_or_pos (limbs n).length with e | e
  ·have e2 := List.length_eq_zero_iff.1 e
   have e3 := limbs_val n
   rw [e2] at e3
   simp [val] at e3
   omega
  ·exact e
theorem limbs_len_of {n A m : Nat} (h : n < 2 ^ A) (hA : A ≤ 16 * m) : (limbs n).length ≤ m := by
  refine (limbs_length_le _ _).2 ?_
  rw [pow_limb]
  exact_mod_cast Nat.lt_of_lt_of_le h (Nat.pow_le_pow_right (by decide) hA)
theorem quoX_lt {xs : List Int} (hx : Lim xs) (nx : xs.length ≤ 100) (k : Int) (hk : k ≤ 9100) {A : Nat} (hA : A = 10700) : quoX (val xs).toNat k < 2 ^ A := by
  have h0 := val_nonneg hx
  have h1 := val_lt hx
  rw [pow_limb] at h1
  have h2 : (val xs).toNat < 2 ^ (16 * xs.length) := by omega
  have h5 : quoX (val xs).toNat k < 2 ^ (16 * xs.length) * 2 ^ k.toNat := Nat.mul_lt_mul_of_pos_right h2 (Nat.pow_pos (by decide))
  rw [← Nat.pow_add] at h5
  exact Nat.lt_of_lt_of_le h5 (Nat.pow_le_pow_right (by decide) (by omega))

set_option maxHeartbeats 8000000 in
theorem l4quot_spec {b1 b2 : Bool} {l1 h1 l2 h2 : Nat} {v1 v2 : Value} {xs ys : List Int} (s1 s2 : Bool) (x1 x2 low : Int) (hl0 : -3000 ≤ low) (hl1 : low ≤ 3000) (w : World) (r1 : Row .i64 b1 l1 h1 w v1 xs) (r2 : Row .i64 b2 l2 h2 w v2 ys) (o1 : dokB s1 xs x1 = true) (o2 : dokB s2 ys x2 = true) (hxn : xs.length ≠ 0) (hyn : ys.length ≠ 0) :
    Calls Tryd.prog 17 #[.agg #[.bool s1, v1, .int .i64 x1], .agg #[.bool s2, v2, .int .i64 x2], .int .i64 low] w fun e w' => ∃ v', e = .returned (.agg #[.bool (wsg (wval (s1 != s2) (limbs (quoQ (val xs).toNat (val ys).toNat (x1 - x2 - (low - 1) + 1))))), v', .int .i64 (dex (wval (s1 != s2) (limbs (quoQ (val xs).toNat (val ys).toNat (x1 - x2 - (low - 1) + 1)))) (low - 3))]) ∧ Row .i64 true w.heap.size w'.heap.size w' v' (dlm (wval (s1 != s2) (limbs (quoQ (val xs).toNat (val ys).toNat (x1 - x2 - (low - 1) + 1))))) ∧ Kept 0 0 w w' := by
  replace r1 := r1.tight
  replace r2 := r2.tight
  obtain ⟨w1', e1, e2, -, -⟩ := dok_parts o1
  obtain ⟨w2', e3, e4, -, -⟩ := dok_parts o2
  obtain ⟨-, -, lx, hx⟩ := wok_int w1'
  obtain ⟨-, -, ly, hy⟩ := wok_int w2'
  clear w1' w2'
  have hx0 := val_nonneg hx.1
  have hy0 := val_nonneg hy.1
  have hv0 : (val xs).toNat ≠ 0 := fun e => hxn (by have h := nrm_limbs hx; rw [e, limbs_zero] at h; rw [h]; rfl)
  have hyv : 0 < (val ys).toNat := Nat.pos_of_ne_zero (fun e => hyn (by have h := nrm_limbs hy; rw [e, limbs_zero] at h; rw [h]; rfl))
  obtain ⟨KK, hKK⟩ : ∃ y, x1 - x2 - low + 2 = y := ⟨_, rfl⟩
  have hK1 : (x1 - x2 - (low - 1) + 1) = KK := by omega
  rw [hK1]
  obtain ⟨NV, hNV⟩ : ∃ y, quoX (val xs).toNat KK = y := ⟨_, rfl⟩
  obtain ⟨DV, hDV⟩ : ∃ y, quoX (val ys).toNat (-KK) = y := ⟨_, rfl⟩
  obtain ⟨AA, hAA⟩ : ∃ A : Nat, A = 10700 := ⟨_, rfl⟩
  have bN : NV < 2 ^ AA := by rw [← hNV]; exact quoX_lt hx.1 lx _ (by omega) hAA
  have bD : DV < 2 ^ AA := by rw [← hDV]; exact quoX_lt hy.1 ly _ (by omega) hAA
  have pD : 0 < DV := by rw [← hDV]; exact Nat.mul_pos hyv (Nat.pow_pos (by decide))
  obtain ⟨QN, hQN⟩ : ∃ y, quoN (val xs).toNat (val ys).toNat KK = y := ⟨_, rfl⟩
  have eQ : QN = NV / DV := by rw [← hQN, ← hNV, ← hDV]; rfl
  obtain ⟨QL, hQL⟩ : ∃ y, quoL (val xs).toNat (val ys).toNat KK = y := ⟨_, rfl⟩
  have eL : QL = decide (NV % DV ≠ 0) := by rw [← hQL, ← hNV, ← hDV]; rfl
  obtain ⟨QQ, hQQ⟩ : ∃ y, quoQ (val xs).toNat (val ys).toNat KK = y := ⟨_, rfl⟩
  have eQQ : QQ = 2 * QN + (if QL = true then 1 else 0) := by rw [← hQQ, ← hQN, ← hQL]; rfl
  have pQ : QQ ≠ 0 := by rw [← hQQ]; exact quo_pos _ _ hv0 hyv _
  have bQ : QN < 2 ^ AA := by rw [eQ]; exact Nat.lt_of_le_of_lt (Nat.div_le_self _ _) bN
  rw [hQQ]
  obtain ⟨SG, hSG⟩ : ∃ y, (s1 != s2) = y := ⟨_, rfl⟩
  rw [hSG]
  replace hSG : (!(s1 == s2)) = SG := hSG
  obtain ⟨MQ, hMQ⟩ : ∃ y, wval SG (limbs QQ) = y := ⟨_, rfl⟩
  rw [hMQ]
  obtain ⟨GS, hGS⟩ : ∃ y, wsg MQ = y := ⟨_, rfl⟩
  obtain ⟨GL, hGL⟩ : ∃ y, dlm MQ = y := ⟨_, rfl⟩
  obtain ⟨GE, hGE⟩ : ∃ y, dex MQ (low - 3) = y := ⟨_, rfl⟩
  rw [hGS, hGL, hGE]
  have HGS := hide hGS
  clear hGS
  have HGL := hide hGL
  clear hGL
  have HGE := hide hGE
  clear hGE
  have HNV := hide hNV
  clear hNV
  have HDV := hide hDV
  clear hDV
  have HQN := hide hQN
  clear hQN
  have HQL := hide hQL
  clear hQL
  have HQQ := hide hQQ
  clear hQQ
  have HMQ := hide hMQ
  clear hMQ
  have EQ := hide eQ
  have EL := hide eL
  have EQQ := hide eQQ
  clear eQ eL eQQ hK1
  have hb0 : ((xs.length : Int) == 0) = false := beq_eq_false_iff_ne.2 (by omega)
  have hw1 : IntKind.i64.wrap (x1 - x2) = x1 - x2 := w64 _ (by omega) (by omega)
  have hw2 : IntKind.i64.wrap (x1 - x2 - low) = x1 - x2 - low := w64 _ (by omega) (by omega)
  have hw3 : IntKind.i64.wrap (x1 - x2 - low + 2) = KK := by rw [w64 _ (by omega) (by omega)]; exact hKK
  have hw4 : IntKind.i64.wrap (low - 3) = low - 3 := w64 _ (by omega) (by omega)
  have hw5 : IntKind.i64.wrap (-KK) = -KK := w64 _ (by omega) (by omega)
  have hKb : -9100 ≤ KK ∧ KK ≤ 9100 := by omega
  clear hKK
  have lN : (limbs NV).length ≤ 700 := limbs_len_of bN (by omega)
  have lD : (limbs DV).length ≤ 700 := limbs_len_of bD (by omega)
  have lQ : (limbs QN).length ≤ 700 := limbs_len_of bQ (by omega)
  have bQQ : QQ < 2 ^ (AA + 1) := by rw [unhide EQQ, Nat.pow_succ]; split <;> omega
  have lQQ : (limbs QQ).length ≤ 700 := limbs_len_of bQQ (by omega)
  have lQ2 : (limbs (QN * 2)).length ≤ 700 := limbs_len_of (A := AA + 1) (by rw [Nat.pow_succ]; omega) (by omega)
  clear bN bD bQ bQQ hAA
  obtain ⟨Wn, hn0⟩ : ∃ wz, wz = (((w.alloc (.cells #[.bool s1, v1, .int .i64 x1] 41)).alloc (.cells #[.bool s2, v2, .int .i64 x2] 41)).alloc (.cells #[.bool false, .slice none 0 0, .int .i64 0] 41)) := ⟨_, rfl⟩
  have k0 : Kept 0 0 w Wn := by rw [hn0]; exact ((((Kept.refl 0 0 w).alloc _).alloc _).alloc _)
  have p0 : Wn.cell? ⟨w.heap.size, 0, none⟩ = some (.bool s1) := by rw [hn0]; exact old_cell _ (old_cell _ (new_cell2 _ _ _ _ _ _ (by simp) rfl))
  have p1 : Wn.cell? ⟨w.heap.size, 1, none⟩ = some (v1) := by rw [hn0]; exact old_cell _ (old_cell _ (new_cell2 _ _ _ _ _ _ (by simp) rfl))
  have p2 : Wn.cell? ⟨w.heap.size, 2, none⟩ = some (.int .i64 x1) := by rw [hn0]; exact old_cell _ (old_cell _ (new_cell2 _ _ _ _ _ _ (by simp) rfl))
  have t0 : Wn.cell? ⟨w.heap.size + 1, 0, none⟩ = some (.bool s2) := by rw [hn0]; exact old_cell _ (new_cell2 _ _ _ _ _ _ (by simp) rfl)
  have t1 : Wn.cell? ⟨w.heap.size + 1, 1, none⟩ = some (v2) := by rw [hn0]; exact old_cell _ (new_cell2 _ _ _ _ _ _ (by simp) rfl)
  have t2 : Wn.cell? ⟨w.heap.size + 1, 2, none⟩ = some (.int .i64 x2) := by rw [hn0]; exact old_cell _ (new_cell2 _ _ _ _ _ _ (by simp) rfl)
  have q0 : Wn.cell? ⟨w.heap.size + 2, 0, none⟩ = some (.bool false) := by rw [hn0]; exact new_cell2 _ _ _ _ _ _ (by simp) rfl
  have qf0 : Wn.frozen? ⟨w.heap.size + 2, 0, none⟩ = false := by rw [hn0]; exact new_loose2 _ _ _ _ _ (by simp)
  have q1 : Wn.cell? ⟨w.heap.size + 2, 1, none⟩ = some (.slice none 0 0) := by rw [hn0]; exact new_cell2 _ _ _ _ _ _ (by simp) rfl
  have qf1 : Wn.frozen? ⟨w.heap.size + 2, 1, none⟩ = false := by rw [hn0]; exact new_loose2 _ _ _ _ _ (by simp)
  have q2 : Wn.cell? ⟨w.heap.size + 2, 2, none⟩ = some (.int .i64 0) := by rw [hn0]; exact new_cell2 _ _ _ _ _ _ (by simp) rfl
  have qf2 : Wn.frozen? ⟨w.heap.size + 2, 2, none⟩ = false := by rw [hn0]; exact new_loose2 _ _ _ _ _ (by simp)
  subst hn0
  replace r1 := r1.kept k0 (by omega)
  replace r2 := r2.kept k0 (by omega)
  have s0 : (((w.alloc (.cells #[.bool s1, v1, .int .i64 x1] 41)).alloc (.cells #[.bool s2, v2, .int .i64 x2] 41)).alloc (.cells #[.bool false, .slice none 0 0, .int .i64 0] 41)).heap.size = w.heap.size + 3 := by simp
  obtain ⟨a1, c1, hv⟩ := Row.form' r1
  subst hv
  obtain ⟨a2, c2, hv⟩ := Row.form' r2
  subst hv
  have K := hide (k0)
  clear k0
  have S0 := hide s0
  clear s0
  go_enter Tryd.func17, Tryd.ntmps17
  go_upto_region 4 with fail
  generalize (((w.alloc (.cells #[.bool s1, .slice a1 xs.length c1, .int .i64 x1] 41)).alloc (.cells #[.bool s2, .slice a2 ys.length c2, .int .i64 x2] 41)).alloc (.cells #[.bool false, .slice none 0 0, .int .i64 0] 41)) = W at *
  have oN := p1
  have kn := (Kept.refl 0 0 W).alloc (.cells #[.slice a1 xs.length c1] 37)
  have N0 : (W.alloc (.cells #[.slice a1 xs.length c1] 37)).cell? ⟨W.heap.size, 0, none⟩ = some (.slice a1 xs.length c1) := new_cell2 _ _ _ _ _ _ rfl rfl
  have Nf0 : (W.alloc (.cells #[.slice a1 xs.length c1] 37)).frozen? ⟨W.heap.size, 0, none⟩ = false := new_loose2 _ _ _ _ _ rfl
  have szN : W.heap.size + 1 = (W.alloc (.cells #[.slice a1 xs.length c1] 37)).heap.size := by simp
  replace r1 := r1.kp kn
  replace r2 := r2.kp kn
  replace qf0 := kn.loose0 (zbl q0) qf0
  replace qf1 := kn.loose0 (zbl q1) qf1
  replace qf2 := kn.loose0 (zbl q2) qf2
  replace p0 := kn.cell0 p0
  replace p1 := kn.cell0 p1
  replace p2 := kn.cell0 p2
  replace t0 := kn.cell0 t0
  replace t1 := kn.cell0 t1
  replace t2 := kn.cell0 t2
  replace q0 := kn.cell0 q0
  replace q1 := kn.cell0 q1
  replace q2 := kn.cell0 q2
  replace K := hide ((unhide K).trans kn)
  have z2 := kn.size
  clear kn
  go_upto_region 5 with fail
  clear oN
  have SzN := hide szN
  clear szN
  generalize W.alloc (.cells #[.slice a1 xs.length c1] 37) = wm1 at *
  have leN := Nat.le_of_eq (unhide SzN)
  clear SzN
  have oD := t1
  have kn := (Kept.refl 0 0 wm1).alloc (.cells #[.slice a2 ys.length c2] 37)
  have D0 : (wm1.alloc (.cells #[.slice a2 ys.length c2] 37)).cell? ⟨wm1.heap.size, 0, none⟩ = some (.slice a2 ys.length c2) := new_cell2 _ _ _ _ _ _ rfl rfl
  have Df0 : (wm1.alloc (.cells #[.slice a2 ys.length c2] 37)).frozen? ⟨wm1.heap.size, 0, none⟩ = false := new_loose2 _ _ _ _ _ rfl
  have szD : wm1.heap.size + 1 = (wm1.alloc (.cells #[.slice a2 ys.length c2] 37)).heap.size := by simp
  replace r1 := r1.kp kn
  replace r2 := r2.kp kn
  replace qf0 := kn.loose0 (zbl q0) qf0
  replace qf1 := kn.loose0 (zbl q1) qf1
  replace qf2 := kn.loose0 (zbl q2) qf2
  replace Nf0 := kn.loose0 (zbl N0) Nf0
  replace p0 := kn.cell0 p0
  replace p1 := kn.cell0 p1
  replace p2 := kn.cell0 p2
  replace t0 := kn.cell0 t0
  replace t1 := kn.cell0 t1
  replace t2 := kn.cell0 t2
  replace q0 := kn.cell0 q0
  replace q1 := kn.cell0 q1
  replace q2 := kn.cell0 q2
  replace N0 := kn.cell0 N0
  replace K := hide ((unhide K).trans kn)
  have z4 := kn.size
  clear kn
  go_upto_region 6 with fail
  clear oD
  have SzD := hide szD
  clear szD
  generalize wm1.alloc (.cells #[.slice a2 ys.length c2] 37) = wm3 at *
  have leD := Nat.le_of_eq (unhide SzD)
  clear SzD
  by_cases hk : 0 ≤ KK
  ·obtain ⟨KN, hKN⟩ : ∃ n : Nat, KK = (n : Int) := ⟨KK.toNat, by omega⟩
   have mk := shl_spec wm3 r1 hx.1 (by omega) KN (.inr (by omega)) (by omega)
   rw [show (val xs).toNat * 2 ^ KN = NV by rw [← unhide HNV, hKN]; rfl, ← hKN] at mk
   clear hKN
   go_wp2_with fail
   refine (mk).mono ?_
   rintro e w5 ⟨vn, rfl, rn, k5⟩
   replace r1 := r1.kp k5
   replace r2 := r2.kp k5
   replace qf0 := k5.loose0 (zbl q0) qf0
   replace qf1 := k5.loose0 (zbl q1) qf1
   replace qf2 := k5.loose0 (zbl q2) qf2
   replace Nf0 := k5.loose0 (zbl N0) Nf0
   replace Df0 := k5.loose0 (zbl D0) Df0
   replace p0 := k5.cell0 p0
   replace p1 := k5.cell0 p1
   replace p2 := k5.cell0 p2
   replace t0 := k5.cell0 t0
   replace t1 := k5.cell0 t1
   replace t2 := k5.cell0 t2
   replace q0 := k5.cell0 q0
   replace q1 := k5.cell0 q1
   replace q2 := k5.cell0 q2
   replace N0 := k5.cell0 N0
   replace D0 := k5.cell0 D0
   replace K := hide ((unhide K).trans k5)
   have z6 := k5.size
   clear k5
   clear mk
   obtain ⟨an, cn, hv⟩ := Row.form' rn
   subst hv
   go_upto_region 9 with fail
   have sS0 := unhide S0
   replace r1 := r1.set_other (p := ⟨W.heap.size, 0, none⟩) (by dsimp only; omega) (.slice an (limbs NV).length cn)
   replace r2 := r2.set_other (p := ⟨W.heap.size, 0, none⟩) (by dsimp only; omega) (.slice an (limbs NV).length cn)
   replace rn := rn.set_other (p := ⟨W.heap.size, 0, none⟩) (by dsimp only; omega) (.slice an (limbs NV).length cn)
   replace p0 := cell_aside (.slice an (limbs NV).length cn) (r := ⟨W.heap.size, 0, none⟩) (by dsimp only; omega) p0
   replace p1 := cell_aside (.slice an (limbs NV).length cn) (r := ⟨W.heap.size, 0, none⟩) (by dsimp only; omega) p1
   replace p2 := cell_aside (.slice an (limbs NV).length cn) (r := ⟨W.heap.size, 0, none⟩) (by dsimp only; omega) p2
   replace t0 := cell_aside (.slice an (limbs NV).length cn) (r := ⟨W.heap.size, 0, none⟩) (by dsimp only; omega) t0
   replace t1 := cell_aside (.slice an (limbs NV).length cn) (r := ⟨W.heap.size, 0, none⟩) (by dsimp only; omega) t1
   replace t2 := cell_aside (.slice an (limbs NV).length cn) (r := ⟨W.heap.size, 0, none⟩) (by dsimp only; omega) t2
   replace q0 := cell_aside (.slice an (limbs NV).length cn) (r := ⟨W.heap.size, 0, none⟩) (by dsimp only; omega) q0
   replace q1 := cell_aside (.slice an (limbs NV).length cn) (r := ⟨W.heap.size, 0, none⟩) (by dsimp only; omega) q1
   replace q2 := cell_aside (.slice an (limbs NV).length cn) (r := ⟨W.heap.size, 0, none⟩) (by dsimp only; omega) q2
   replace D0 := cell_aside (.slice an (limbs NV).length cn) (r := ⟨W.heap.size, 0, none⟩) (by dsimp only; omega) D0
   replace qf0 : (w5.setCell ⟨W.heap.size, 0, none⟩ (.slice an (limbs NV).length cn)).frozen? _ = false := (frozen_set _ _ _ _ _).trans qf0
   replace qf1 : (w5.setCell ⟨W.heap.size, 0, none⟩ (.slice an (limbs NV).length cn)).frozen? _ = false := (frozen_set _ _ _ _ _).trans qf1
   replace qf2 : (w5.setCell ⟨W.heap.size, 0, none⟩ (.slice an (limbs NV).length cn)).frozen? _ = false := (frozen_set _ _ _ _ _).trans qf2
   replace Nf0 : (w5.setCell ⟨W.heap.size, 0, none⟩ (.slice an (limbs NV).length cn)).frozen? _ = false := (frozen_set _ _ _ _ _).trans Nf0
   replace Df0 : (w5.setCell ⟨W.heap.size, 0, none⟩ (.slice an (limbs NV).length cn)).frozen? _ = false := (frozen_set _ _ _ _ _).trans Df0
   replace N0 : (w5.setCell ⟨W.heap.size, 0, none⟩ (.slice an (limbs NV).length cn)).cell? ⟨W.heap.size, 0, none⟩ = some (.slice an (limbs NV).length cn) := cell_on _ _ _ _ _ N0
   replace K := hide ((unhide K).setNew (p := ⟨W.heap.size, 0, none⟩) (by dsimp only; omega) (.slice an (limbs NV).length cn))
   have zs7 : (w5.setCell ⟨W.heap.size, 0, none⟩ (.slice an (limbs NV).length cn)).heap.size = w5.heap.size := by simp [World.setCell]
   clear sS0
   generalize w5.setCell ⟨W.heap.size, 0, none⟩ (.slice an (limbs NV).length cn) = ws7 at *
   have evN : val (limbs NV) = (NV : Int) := limbs_val _
   have evD : val ys = (DV : Int) := by rw [← unhide HDV, quoX_zero _ (by omega)]; omega
   have lmN : Lim (limbs NV) := limbs_lim _
   have nrD : Nrm ys := hy
   have pDv : 0 < val ys := by omega
   have mk := div_spec ws7 rn r2 lmN nrD (by omega) (by omega) pDv
   rw [evN, evD] at mk
   rw [show ((NV : Int) / (DV : Int)).toNat = QN by rw [unhide EQ, ← Int.natCast_ediv, Int.toNat_natCast], show ((NV : Int) % (DV : Int)).toNat = NV % DV by rw [← Int.natCast_emod, Int.toNat_natCast]] at mk
   go_wp2_with fail
   refine (mk).mono ?_
   rintro e w8 ⟨vq, vr, rfl, rq, rr, k8⟩
   replace r1 := r1.kp k8
   replace r2 := r2.kp k8
   replace rn := rn.kp k8
   replace qf0 := k8.loose0 (zbl q0) qf0
   replace qf1 := k8.loose0 (zbl q1) qf1
   replace qf2 := k8.loose0 (zbl q2) qf2
   replace Nf0 := k8.loose0 (zbl N0) Nf0
   replace Df0 := k8.loose0 (zbl D0) Df0
   replace p0 := k8.cell0 p0
   replace p1 := k8.cell0 p1
   replace p2 := k8.cell0 p2
   replace t0 := k8.cell0 t0
   replace t1 := k8.cell0 t1
   replace t2 := k8.cell0 t2
   replace q0 := k8.cell0 q0
   replace q1 := k8.cell0 q1
   replace q2 := k8.cell0 q2
   replace N0 := k8.cell0 N0
   replace D0 := k8.cell0 D0
   replace K := hide ((unhide K).trans k8)
   have z9 := k8.size
   clear k8
   clear mk
   obtain ⟨aq, cq, hv⟩ := Row.form' rq
   subst hv
   obtain ⟨ar, cr, hv⟩ := Row.form' rr
   subst hv
   have kn := ((Kept.refl 0 0 w8).alloc (.cells #[.slice aq (limbs QN).length cq] 37)).alloc (.cells #[.slice ar (limbs (NV % DV)).length cr] 37)
   have U0 : ((w8.alloc (.cells #[.slice aq (limbs QN).length cq] 37)).alloc (.cells #[.slice ar (limbs (NV % DV)).length cr] 37)).cell? ⟨w8.heap.size, 0, none⟩ = some (.slice aq (limbs QN).length cq) := old_cell _ (new_cell2 _ _ _ _ _ _ (by simp) rfl)
   have Uf0 : ((w8.alloc (.cells #[.slice aq (limbs QN).length cq] 37)).alloc (.cells #[.slice ar (limbs (NV % DV)).length cr] 37)).frozen? ⟨w8.heap.size, 0, none⟩ = false := loose_old (by simp <;> omega) (new_loose2 _ _ _ _ _ (by simp))
   have R0 : ((w8.alloc (.cells #[.slice aq (limbs QN).length cq] 37)).alloc (.cells #[.slice ar (limbs (NV % DV)).length cr] 37)).cell? ⟨w8.heap.size + 1, 0, none⟩ = some (.slice ar (limbs (NV % DV)).length cr) := new_cell2 _ _ _ _ _ _ (by simp) rfl
   have szU : w8.heap.size + 2 ≤ ((w8.alloc (.cells #[.slice aq (limbs QN).length cq] 37)).alloc (.cells #[.slice ar (limbs (NV % DV)).length cr] 37)).heap.size := by simp
   replace r1 := r1.kp kn
   replace r2 := r2.kp kn
   replace rn := rn.kp kn
   replace rq := rq.kp kn
   replace rr := rr.kp kn
   replace qf0 := kn.loose0 (zbl q0) qf0
   replace qf1 := kn.loose0 (zbl q1) qf1
   replace qf2 := kn.loose0 (zbl q2) qf2
   replace Nf0 := kn.loose0 (zbl N0) Nf0
   replace Df0 := kn.loose0 (zbl D0) Df0
   replace p0 := kn.cell0 p0
   replace p1 := kn.cell0 p1
   replace p2 := kn.cell0 p2
   replace t0 := kn.cell0 t0
   replace t1 := kn.cell0 t1
   replace t2 := kn.cell0 t2
   replace q0 := kn.cell0 q0
   replace q1 := kn.cell0 q1
   replace q2 := kn.cell0 q2
   replace N0 := kn.cell0 N0
   replace D0 := kn.cell0 D0
   replace K := hide ((unhide K).trans kn)
   have z11 := kn.size
   clear kn
   go_upto_region 10 with fail
   generalize ((w8.alloc (.cells #[.slice aq (limbs QN).length cq] 37)).alloc (.cells #[.slice ar (limbs (NV % DV)).length cr] 37)) = wu at *
   have mk := shl_spec wu rq (limbs_lim _) (by omega) 1 (.inr (by omega)) (by omega)
   rw [limbs_val, Int.toNat_natCast, Nat.pow_one] at mk
   go_wp2_with fail
   refine (mk).mono ?_
   rintro e w12 ⟨vs, rfl, rs, k12⟩
   replace r1 := r1.kp k12
   replace r2 := r2.kp k12
   replace rn := rn.kp k12
   replace rq := rq.kp k12
   replace rr := rr.kp k12
   replace qf0 := k12.loose0 (zbl q0) qf0
   replace qf1 := k12.loose0 (zbl q1) qf1
   replace qf2 := k12.loose0 (zbl q2) qf2
   replace Nf0 := k12.loose0 (zbl N0) Nf0
   replace Df0 := k12.loose0 (zbl D0) Df0
   replace Uf0 := k12.loose0 (zbl U0) Uf0
   replace p0 := k12.cell0 p0
   replace p1 := k12.cell0 p1
   replace p2 := k12.cell0 p2
   replace t0 := k12.cell0 t0
   replace t1 := k12.cell0 t1
   replace t2 := k12.cell0 t2
   replace q0 := k12.cell0 q0
   replace q1 := k12.cell0 q1
   replace q2 := k12.cell0 q2
   replace N0 := k12.cell0 N0
   replace D0 := k12.cell0 D0
   replace U0 := k12.cell0 U0
   replace R0 := k12.cell0 R0
   replace K := hide ((unhide K).trans k12)
   have z13 := k12.size
   clear k12
   clear mk
   obtain ⟨ah, ch, hv⟩ := Row.form' rs
   subst hv
   go_upto_region 11 with fail
   have sS0 := unhide S0
   replace r1 := r1.set_other (p := ⟨w8.heap.size, 0, none⟩) (by dsimp only; omega) (.slice ah (limbs (QN * 2)).length ch)
   replace r2 := r2.set_other (p := ⟨w8.heap.size, 0, none⟩) (by dsimp only; omega) (.slice ah (limbs (QN * 2)).length ch)
   replace rn := rn.set_other (p := ⟨w8.heap.size, 0, none⟩) (by dsimp only; omega) (.slice ah (limbs (QN * 2)).length ch)
   replace rq := rq.set_other (p := ⟨w8.heap.size, 0, none⟩) (by dsimp only; omega) (.slice ah (limbs (QN * 2)).length ch)
   replace rr := rr.set_other (p := ⟨w8.heap.size, 0, none⟩) (by dsimp only; omega) (.slice ah (limbs (QN * 2)).length ch)
   replace rs := rs.set_other (p := ⟨w8.heap.size, 0, none⟩) (by dsimp only; omega) (.slice ah (limbs (QN * 2)).length ch)
   replace p0 := cell_aside (.slice ah (limbs (QN * 2)).length ch) (r := ⟨w8.heap.size, 0, none⟩) (by dsimp only; omega) p0
   replace p1 := cell_aside (.slice ah (limbs (QN * 2)).length ch) (r := ⟨w8.heap.size, 0, none⟩) (by dsimp only; omega) p1
   replace p2 := cell_aside (.slice ah (limbs (QN * 2)).length ch) (r := ⟨w8.heap.size, 0, none⟩) (by dsimp only; omega) p2
   replace t0 := cell_aside (.slice ah (limbs (QN * 2)).length ch) (r := ⟨w8.heap.size, 0, none⟩) (by dsimp only; omega) t0
   replace t1 := cell_aside (.slice ah (limbs (QN * 2)).length ch) (r := ⟨w8.heap.size, 0, none⟩) (by dsimp only; omega) t1
   replace t2 := cell_aside (.slice ah (limbs (QN * 2)).length ch) (r := ⟨w8.heap.size, 0, none⟩) (by dsimp only; omega) t2
   replace q0 := cell_aside (.slice ah (limbs (QN * 2)).length ch) (r := ⟨w8.heap.size, 0, none⟩) (by dsimp only; omega) q0
   replace q1 := cell_aside (.slice ah (limbs (QN * 2)).length ch) (r := ⟨w8.heap.size, 0, none⟩) (by dsimp only; omega) q1
   replace q2 := cell_aside (.slice ah (limbs (QN * 2)).length ch) (r := ⟨w8.heap.size, 0, none⟩) (by dsimp only; omega) q2
   replace N0 := cell_aside (.slice ah (limbs (QN * 2)).length ch) (r := ⟨w8.heap.size, 0, none⟩) (by dsimp only; omega) N0
   replace D0 := cell_aside (.slice ah (limbs (QN * 2)).length ch) (r := ⟨w8.heap.size, 0, none⟩) (by dsimp only; omega) D0
   replace R0 := cell_aside (.slice ah (limbs (QN * 2)).length ch) (r := ⟨w8.heap.size, 0, none⟩) (by dsimp only; omega) R0
   replace qf0 : (w12.setCell ⟨w8.heap.size, 0, none⟩ (.slice ah (limbs (QN * 2)).length ch)).frozen? _ = false := (frozen_set _ _ _ _ _).trans qf0
   replace qf1 : (w12.setCell ⟨w8.heap.size, 0, none⟩ (.slice ah (limbs (QN * 2)).length ch)).frozen? _ = false := (frozen_set _ _ _ _ _).trans qf1
   replace qf2 : (w12.setCell ⟨w8.heap.size, 0, none⟩ (.slice ah (limbs (QN * 2)).length ch)).frozen? _ = false := (frozen_set _ _ _ _ _).trans qf2
   replace Nf0 : (w12.setCell ⟨w8.heap.size, 0, none⟩ (.slice ah (limbs (QN * 2)).length ch)).frozen? _ = false := (frozen_set _ _ _ _ _).trans Nf0
   replace Df0 : (w12.setCell ⟨w8.heap.size, 0, none⟩ (.slice ah (limbs (QN * 2)).length ch)).frozen? _ = false := (frozen_set _ _ _ _ _).trans Df0
   replace Uf0 : (w12.setCell ⟨w8.heap.size, 0, none⟩ (.slice ah (limbs (QN * 2)).length ch)).frozen? _ = false := (frozen_set _ _ _ _ _).trans Uf0
   replace U0 : (w12.setCell ⟨w8.heap.size, 0, none⟩ (.slice ah (limbs (QN * 2)).length ch)).cell? ⟨w8.heap.size, 0, none⟩ = some (.slice ah (limbs (QN * 2)).length ch) := cell_on _ _ _ _ _ U0
   replace K := hide ((unhide K).setNew (p := ⟨w8.heap.size, 0, none⟩) (by dsimp only; omega) (.slice ah (limbs (QN * 2)).length ch))
   have zs14 : (w12.setCell ⟨w8.heap.size, 0, none⟩ (.slice ah (limbs (QN * 2)).length ch)).heap.size = w12.heap.size := by simp [World.setCell]
   clear sS0
   generalize w12.setCell ⟨w8.heap.size, 0, none⟩ (.slice ah (limbs (QN * 2)).length ch) = ws14 at *
   by_cases hr : NV % DV = 0
   ·have hq2 : QQ = QN * 2 := by rw [unhide EQQ, unhide EL, decide_eq_false (by simp [hr]), if_neg (by decide)]; omega
    have HQ9 : Hid (limbs (QN * 2) = limbs QQ) := by show _ = _; rw [hq2]
    have hnl : limbs (val (limbs (QN * 2))).toNat = limbs QQ := by rw [limbs_val, Int.toNat_natCast, hq2]
    have lml : Lim (limbs (QN * 2)) := limbs_lim _
    have hrl : (limbs (NV % DV)).length = 0 := by rw [hr, limbs_zero]; rfl
    have hrd : ¬ (0 : Int) < ((limbs (NV % DV)).length : Int) := by omega
    clear hr hq2 hrl
    go_upto_region 13 with fail
    have hsg : (SG && decide (0 < (limbs (QN * 2)).length)) = SG := by rw [unhide HQ9, decide_eq_true (len_pos_limbs pQ), Bool.and_true]
    have mk := make_spec SG ws14 rs lml (by omega)
    rw [hsg, hnl] at mk
    clear hsg hnl HQ9
    go_wp2_with fail
    refine (mk).mono ?_
    rintro e w15 ⟨v3, rfl, r3, k15⟩
    replace r1 := r1.kp k15
    replace r2 := r2.kp k15
    replace rn := rn.kp k15
    replace rq := rq.kp k15
    replace rr := rr.kp k15
    replace rs := rs.kp k15
    replace qf0 := k15.loose0 (zbl q0) qf0
    replace qf1 := k15.loose0 (zbl q1) qf1
    replace qf2 := k15.loose0 (zbl q2) qf2
    replace Nf0 := k15.loose0 (zbl N0) Nf0
    replace Df0 := k15.loose0 (zbl D0) Df0
    replace Uf0 := k15.loose0 (zbl U0) Uf0
    replace p0 := k15.cell0 p0
    replace p1 := k15.cell0 p1
    replace p2 := k15.cell0 p2
    replace t0 := k15.cell0 t0
    replace t1 := k15.cell0 t1
    replace t2 := k15.cell0 t2
    replace q0 := k15.cell0 q0
    replace q1 := k15.cell0 q1
    replace q2 := k15.cell0 q2
    replace N0 := k15.cell0 N0
    replace D0 := k15.cell0 D0
    replace U0 := k15.cell0 U0
    replace R0 := k15.cell0 R0
    replace K := hide ((unhide K).trans k15)
    have z16 := k15.size
    clear k15
    clear mk
    have mk := make4_spec SG (low - 3) MQ (unhide HMQ) (by omega) (by omega) w15 r3 ⟨limbs_nrm _, fun _ => len_pos_limbs pQ⟩ (by omega)
    rw [unhide HGS, unhide HGL, unhide HGE] at mk
    go_wp2_with fail
    refine (mk).mono ?_
    rintro e w17 ⟨v8, rfl, r8, k17⟩
    replace r1 := r1.kp k17
    replace r2 := r2.kp k17
    replace rn := rn.kp k17
    replace rq := rq.kp k17
    replace rr := rr.kp k17
    replace rs := rs.kp k17
    replace r3 := r3.kp k17
    replace qf0 := k17.loose0 (zbl q0) qf0
    replace qf1 := k17.loose0 (zbl q1) qf1
    replace qf2 := k17.loose0 (zbl q2) qf2
    replace Nf0 := k17.loose0 (zbl N0) Nf0
    replace Df0 := k17.loose0 (zbl D0) Df0
    replace Uf0 := k17.loose0 (zbl U0) Uf0
    replace p0 := k17.cell0 p0
    replace p1 := k17.cell0 p1
    replace p2 := k17.cell0 p2
    replace t0 := k17.cell0 t0
    replace t1 := k17.cell0 t1
    replace t2 := k17.cell0 t2
    replace q0 := k17.cell0 q0
    replace q1 := k17.cell0 q1
    replace q2 := k17.cell0 q2
    replace N0 := k17.cell0 N0
    replace D0 := k17.cell0 D0
    replace U0 := k17.cell0 U0
    replace R0 := k17.cell0 R0
    replace K := hide ((unhide K).trans k17)
    have z18 := k17.size
    clear k17
    clear mk
    obtain ⟨a8, c8, hv⟩ := Row.form' r8
    subst hv
    have R := hide ((((r8.set_other (p := ⟨w.heap.size + 2, 0, none⟩) (.inl (by have := unhide S0; dsimp only; omega)) (.bool GS)).set_other (p := ⟨w.heap.size + 2, 1, none⟩) (.inl (by have := unhide S0; dsimp only; omega)) (.slice a8 GL.length c8)).set_other (p := ⟨w.heap.size + 2, 2, none⟩) (.inl (by have := unhide S0; dsimp only; omega)) (.int .i64 GE)).tight.wider (lo' := w.heap.size) (by have := unhide S0; omega) (Nat.le_refl _))
    have K7 := hide ((((unhide K).setNew (p := ⟨w.heap.size + 2, 0, none⟩) (by simp) (.bool GS)).setNew (p := ⟨w.heap.size + 2, 1, none⟩) (by simp) (.slice a8 GL.length c8)).setNew (p := ⟨w.heap.size + 2, 2, none⟩) (by simp) (.int .i64 GE))
    clear r1 r2 rn rq rr rs r3 r8 K 
    go_wp2_with fail
    exact bodyPost_ret (v := .agg #[.bool GS, .slice a8 GL.length c8, .int .i64 GE]) (by simp [results, Tryd.results17, go_sem, q0, q1, q2]) rfl ⟨_, rfl, unhide R, unhide K7⟩
   ·have hq2 : QQ = QN * 2 + 1 := by rw [unhide EQQ, unhide EL, decide_eq_true hr, if_pos rfl]; omega
    have hrl := len_pos_limbs hr
    have hrd : (0 : Int) < ((limbs (NV % DV)).length : Int) := by omega
    have eS : (val (limbs (QN * 2)) + val (limbs (1 : Int).toNat)).toNat = QQ := by rw [limbs_val, limbs_val, hq2]; omega
    have HQ9 : Hid (limbs QQ = limbs QQ) := rfl
    have hnl : limbs (val (limbs QQ)).toNat = limbs QQ := by rw [limbs_val, Int.toNat_natCast]
    have lml : Lim (limbs QQ) := limbs_lim _
    clear hr hq2 hrl
    go_upto_region 12 with fail
    have kd := (Kept.refl 0 0 ws14).drew
    replace r1 := r1.kp kd
    replace r2 := r2.kp kd
    replace rn := rn.kp kd
    replace rq := rq.kp kd
    replace rr := rr.kp kd
    replace rs := rs.kp kd
    replace qf0 := kd.loose0 (zbl q0) qf0
    replace qf1 := kd.loose0 (zbl q1) qf1
    replace qf2 := kd.loose0 (zbl q2) qf2
    replace Nf0 := kd.loose0 (zbl N0) Nf0
    replace Df0 := kd.loose0 (zbl D0) Df0
    replace Uf0 := kd.loose0 (zbl U0) Uf0
    replace p0 := kd.cell0 p0
    replace p1 := kd.cell0 p1
    replace p2 := kd.cell0 p2
    replace t0 := kd.cell0 t0
    replace t1 := kd.cell0 t1
    replace t2 := kd.cell0 t2
    replace q0 := kd.cell0 q0
    replace q1 := kd.cell0 q1
    replace q2 := kd.cell0 q2
    replace N0 := kd.cell0 N0
    replace D0 := kd.cell0 D0
    replace U0 := kd.cell0 U0
    replace R0 := kd.cell0 R0
    replace K := hide ((unhide K).trans kd)
    have z15 := kd.size
    clear kd
    refine wp_region_held_drew (S := (fun w' => True)) (by kernel_rfl) ?_ (fun hH => ?_)
    ·exact trivial
    generalize ws14.drew = wd16 at *
    refine wpAnyH_ready (rs := [0, 1]) (by kernel_rfl) (by simp) ?_
    refine AllReadyH.cons rfl (fun KK hK => ?_) (AllReadyH.cons rfl (fun KK hK => ?_) AllReadyH.nil)
    ·simp only [zq1, zq2, zq3]
     rw [if_pos (by rfl)]
     go_simp
     clear hH
     refine hK.out _ _ ?_ (fun hH => ?_)
     ·exact trivial
     clear hK KK
     try simp only [Act.put, zq1, zq2, zq3, zq4, zq5, zq6]
     refine wpAnyH_ready (rs := [1]) (by kernel_rfl) (by simp) ?_
     refine AllReadyH.cons rfl (fun KK hK => ?_) AllReadyH.nil
     simp only [zq1, zq2, zq3]
     rw [if_pos (by rfl)]
     refine wps1 29 (.const (.int .i64 1)) _ rfl in_l2of_r (.int .i64 1) rfl (of_spec _ 1 (by omega)) ?_
     rintro e w17 ⟨v4, rfl, r4, k17⟩
     refine ⟨_, rfl, ?_⟩
     replace r1 := r1.kp k17
     replace r2 := r2.kp k17
     replace rn := rn.kp k17
     replace rq := rq.kp k17
     replace rr := rr.kp k17
     replace rs := rs.kp k17
     replace qf0 := k17.loose0 (zbl q0) qf0
     replace qf1 := k17.loose0 (zbl q1) qf1
     replace qf2 := k17.loose0 (zbl q2) qf2
     replace Nf0 := k17.loose0 (zbl N0) Nf0
     replace Df0 := k17.loose0 (zbl D0) Df0
     replace Uf0 := k17.loose0 (zbl U0) Uf0
     replace p0 := k17.cell0 p0
     replace p1 := k17.cell0 p1
     replace p2 := k17.cell0 p2
     replace t0 := k17.cell0 t0
     replace t1 := k17.cell0 t1
     replace t2 := k17.cell0 t2
     replace q0 := k17.cell0 q0
     replace q1 := k17.cell0 q1
     replace q2 := k17.cell0 q2
     replace N0 := k17.cell0 N0
     replace D0 := k17.cell0 D0
     replace U0 := k17.cell0 U0
     replace R0 := k17.cell0 R0
     replace K := hide ((unhide K).trans k17)
     have z18 := k17.size
     clear k17
     obtain ⟨a4, c4, hv⟩ := Row.form' r4
     subst hv
     clear hH
     refine hK.out _ _ ?_ (fun hH => ?_)
     ·exact trivial
     clear hK KK
     try simp only [Act.put, zq1, zq2, zq3, zq4, zq5, zq6]
     refine wpAnyH_ready (rs := [2]) (by kernel_rfl) (by simp) ?_
     refine AllReadyH.cons rfl (fun KK hK => ?_) AllReadyH.nil
     simp only [zq1, zq2, zq3]
     rw [if_pos (by rfl)]
     refine wps2 36 (.tmp 54) (.tmp 55) _ rfl in_l2add_r (.agg #[.slice ah (limbs (QN * 2)).length ch]) (.agg #[.slice a4 (limbs (1 : Int).toNat).length c4]) rfl rfl (add_spec _ rs r4 (limbs_lim _) (limbs_lim _) (by omega) (by decide)) ?_
     rintro e w19 ⟨v5, rfl, r5, k19⟩
     refine ⟨_, rfl, ?_⟩
     replace r1 := r1.kp k19
     replace r2 := r2.kp k19
     replace rn := rn.kp k19
     replace rq := rq.kp k19
     replace rr := rr.kp k19
     replace rs := rs.kp k19
     replace r4 := r4.kp k19
     replace qf0 := k19.loose0 (zbl q0) qf0
     replace qf1 := k19.loose0 (zbl q1) qf1
     replace qf2 := k19.loose0 (zbl q2) qf2
     replace Nf0 := k19.loose0 (zbl N0) Nf0
     replace Df0 := k19.loose0 (zbl D0) Df0
     replace Uf0 := k19.loose0 (zbl U0) Uf0
     replace p0 := k19.cell0 p0
     replace p1 := k19.cell0 p1
     replace p2 := k19.cell0 p2
     replace t0 := k19.cell0 t0
     replace t1 := k19.cell0 t1
     replace t2 := k19.cell0 t2
     replace q0 := k19.cell0 q0
     replace q1 := k19.cell0 q1
     replace q2 := k19.cell0 q2
     replace N0 := k19.cell0 N0
     replace D0 := k19.cell0 D0
     replace U0 := k19.cell0 U0
     replace R0 := k19.cell0 R0
     replace K := hide ((unhide K).trans k19)
     have z20 := k19.size
     clear k19
     rw [eS] at r5
     clear hH
     refine hK.out _ _ ?_ (fun hH => ?_)
     ·exact trivial
     clear hK KK
     try simp only [Act.put, zq1, zq2, zq3, zq4, zq5, zq6]
     obtain ⟨a5, c5, hv⟩ := Row.form' r5
     subst hv
     refine wpAnyH_ready (rs := [3]) (by kernel_rfl) (by simp) ?_
     refine AllReadyH.cons rfl (fun KK hK => ?_) AllReadyH.nil
     simp only [zq1, zq2, zq3]
     rw [if_pos (by rfl)]
     go_simp
     clear hH
     refine hK.out _ _ ?_ (fun hH => ?_)
     ·trivial
     clear hK KK
     try simp only [Act.put, zq1, zq2, zq3, zq4, zq5, zq6]
     refine wpAnyH_done (by kernel_rfl) ?_ _
     clear hH
     try go_simp
     have sS0 := unhide S0
     replace r1 := r1.set_other (p := ⟨w8.heap.size, 0, none⟩) (by dsimp only; omega) (.slice a5 (limbs QQ).length c5)
     replace r2 := r2.set_other (p := ⟨w8.heap.size, 0, none⟩) (by dsimp only; omega) (.slice a5 (limbs QQ).length c5)
     replace rn := rn.set_other (p := ⟨w8.heap.size, 0, none⟩) (by dsimp only; omega) (.slice a5 (limbs QQ).length c5)
     replace rq := rq.set_other (p := ⟨w8.heap.size, 0, none⟩) (by dsimp only; omega) (.slice a5 (limbs QQ).length c5)
     replace rr := rr.set_other (p := ⟨w8.heap.size, 0, none⟩) (by dsimp only; omega) (.slice a5 (limbs QQ).length c5)
     replace rs := rs.set_other (p := ⟨w8.heap.size, 0, none⟩) (by dsimp only; omega) (.slice a5 (limbs QQ).length c5)
     replace r4 := r4.set_other (p := ⟨w8.heap.size, 0, none⟩) (by dsimp only; omega) (.slice a5 (limbs QQ).length c5)
     replace r5 := r5.set_other (p := ⟨w8.heap.size, 0, none⟩) (by dsimp only; omega) (.slice a5 (limbs QQ).length c5)
     replace p0 := cell_aside (.slice a5 (limbs QQ).length c5) (r := ⟨w8.heap.size, 0, none⟩) (by dsimp only; omega) p0
     replace p1 := cell_aside (.slice a5 (limbs QQ).length c5) (r := ⟨w8.heap.size, 0, none⟩) (by dsimp only; omega) p1
     replace p2 := cell_aside (.slice a5 (limbs QQ).length c5) (r := ⟨w8.heap.size, 0, none⟩) (by dsimp only; omega) p2
     replace t0 := cell_aside (.slice a5 (limbs QQ).length c5) (r := ⟨w8.heap.size, 0, none⟩) (by dsimp only; omega) t0
     replace t1 := cell_aside (.slice a5 (limbs QQ).length c5) (r := ⟨w8.heap.size, 0, none⟩) (by dsimp only; omega) t1
     replace t2 := cell_aside (.slice a5 (limbs QQ).length c5) (r := ⟨w8.heap.size, 0, none⟩) (by dsimp only; omega) t2
     replace q0 := cell_aside (.slice a5 (limbs QQ).length c5) (r := ⟨w8.heap.size, 0, none⟩) (by dsimp only; omega) q0
     replace q1 := cell_aside (.slice a5 (limbs QQ).length c5) (r := ⟨w8.heap.size, 0, none⟩) (by dsimp only; omega) q1
     replace q2 := cell_aside (.slice a5 (limbs QQ).length c5) (r := ⟨w8.heap.size, 0, none⟩) (by dsimp only; omega) q2
     replace N0 := cell_aside (.slice a5 (limbs QQ).length c5) (r := ⟨w8.heap.size, 0, none⟩) (by dsimp only; omega) N0
     replace D0 := cell_aside (.slice a5 (limbs QQ).length c5) (r := ⟨w8.heap.size, 0, none⟩) (by dsimp only; omega) D0
     replace R0 := cell_aside (.slice a5 (limbs QQ).length c5) (r := ⟨w8.heap.size, 0, none⟩) (by dsimp only; omega) R0
     replace qf0 : (w19.setCell ⟨w8.heap.size, 0, none⟩ (.slice a5 (limbs QQ).length c5)).frozen? _ = false := (frozen_set _ _ _ _ _).trans qf0
     replace qf1 : (w19.setCell ⟨w8.heap.size, 0, none⟩ (.slice a5 (limbs QQ).length c5)).frozen? _ = false := (frozen_set _ _ _ _ _).trans qf1
     replace qf2 : (w19.setCell ⟨w8.heap.size, 0, none⟩ (.slice a5 (limbs QQ).length c5)).frozen? _ = false := (frozen_set _ _ _ _ _).trans qf2
     replace Nf0 : (w19.setCell ⟨w8.heap.size, 0, none⟩ (.slice a5 (limbs QQ).length c5)).frozen? _ = false := (frozen_set _ _ _ _ _).trans Nf0
     replace Df0 : (w19.setCell ⟨w8.heap.size, 0, none⟩ (.slice a5 (limbs QQ).length c5)).frozen? _ = false := (frozen_set _ _ _ _ _).trans Df0
     replace Uf0 : (w19.setCell ⟨w8.heap.size, 0, none⟩ (.slice a5 (limbs QQ).length c5)).frozen? _ = false := (frozen_set _ _ _ _ _).trans Uf0
     replace U0 : (w19.setCell ⟨w8.heap.size, 0, none⟩ (.slice a5 (limbs QQ).length c5)).cell? ⟨w8.heap.size, 0, none⟩ = some (.slice a5 (limbs QQ).length c5) := cell_on _ _ _ _ _ U0
     replace K := hide ((unhide K).setNew (p := ⟨w8.heap.size, 0, none⟩) (by dsimp only; omega) (.slice a5 (limbs QQ).length c5))
     have zs21 : (w19.setCell ⟨w8.heap.size, 0, none⟩ (.slice a5 (limbs QQ).length c5)).heap.size = w19.heap.size := by simp [World.setCell]
     clear sS0
     generalize w19.setCell ⟨w8.heap.size, 0, none⟩ (.slice a5 (limbs QQ).length c5) = ws21 at *
     go_upto_region 13 with fail
     have hsg : (SG && decide (0 < (limbs QQ).length)) = SG := by rw [unhide HQ9, decide_eq_true (len_pos_limbs pQ), Bool.and_true]
     have mk := make_spec SG ws21 r5 lml (by omega)
     rw [hsg, hnl] at mk
     clear hsg hnl HQ9
     go_wp2_with fail
     refine (mk).mono ?_
     rintro e w22 ⟨v3, rfl, r3, k22⟩
     replace r1 := r1.kp k22
     replace r2 := r2.kp k22
     replace rn := rn.kp k22
     replace rq := rq.kp k22
     replace rr := rr.kp k22
     replace rs := rs.kp k22
     replace r4 := r4.kp k22
     replace r5 := r5.kp k22
     replace qf0 := k22.loose0 (zbl q0) qf0
     replace qf1 := k22.loose0 (zbl q1) qf1
     replace qf2 := k22.loose0 (zbl q2) qf2
     replace Nf0 := k22.loose0 (zbl N0) Nf0
     replace Df0 := k22.loose0 (zbl D0) Df0
     replace Uf0 := k22.loose0 (zbl U0) Uf0
     replace p0 := k22.cell0 p0
     replace p1 := k22.cell0 p1
     replace p2 := k22.cell0 p2
     replace t0 := k22.cell0 t0
     replace t1 := k22.cell0 t1
     replace t2 := k22.cell0 t2
     replace q0 := k22.cell0 q0
     replace q1 := k22.cell0 q1
     replace q2 := k22.cell0 q2
     replace N0 := k22.cell0 N0
     replace D0 := k22.cell0 D0
     replace U0 := k22.cell0 U0
     replace R0 := k22.cell0 R0
     replace K := hide ((unhide K).trans k22)
     have z23 := k22.size
     clear k22
     clear mk
     have mk := make4_spec SG (low - 3) MQ (unhide HMQ) (by omega) (by omega) w22 r3 ⟨limbs_nrm _, fun _ => len_pos_limbs pQ⟩ (by omega)
     rw [unhide HGS, unhide HGL, unhide HGE] at mk
     go_wp2_with fail
     refine (mk).mono ?_
     rintro e w24 ⟨v8, rfl, r8, k24⟩
     replace r1 := r1.kp k24
     replace r2 := r2.kp k24
     replace rn := rn.kp k24
     replace rq := rq.kp k24
     replace rr := rr.kp k24
     replace rs := rs.kp k24
     replace r4 := r4.kp k24
     replace r5 := r5.kp k24
     replace r3 := r3.kp k24
     replace qf0 := k24.loose0 (zbl q0) qf0
     replace qf1 := k24.loose0 (zbl q1) qf1
     replace qf2 := k24.loose0 (zbl q2) qf2
     replace Nf0 := k24.loose0 (zbl N0) Nf0
     replace Df0 := k24.loose0 (zbl D0) Df0
     replace Uf0 := k24.loose0 (zbl U0) Uf0
     replace p0 := k24.cell0 p0
     replace p1 := k24.cell0 p1
     replace p2 := k24.cell0 p2
     replace t0 := k24.cell0 t0
     replace t1 := k24.cell0 t1
     replace t2 := k24.cell0 t2
     replace q0 := k24.cell0 q0
     replace q1 := k24.cell0 q1
     replace q2 := k24.cell0 q2
     replace N0 := k24.cell0 N0
     replace D0 := k24.cell0 D0
     replace U0 := k24.cell0 U0
     replace R0 := k24.cell0 R0
     replace K := hide ((unhide K).trans k24)
     have z25 := k24.size
     clear k24
     clear mk
     obtain ⟨a8, c8, hv⟩ := Row.form' r8
     subst hv
     have R := hide ((((r8.set_other (p := ⟨w.heap.size + 2, 0, none⟩) (.inl (by have := unhide S0; dsimp only; omega)) (.bool GS)).set_other (p := ⟨w.heap.size + 2, 1, none⟩) (.inl (by have := unhide S0; dsimp only; omega)) (.slice a8 GL.length c8)).set_other (p := ⟨w.heap.size + 2, 2, none⟩) (.inl (by have := unhide S0; dsimp only; omega)) (.int .i64 GE)).tight.wider (lo' := w.heap.size) (by have := unhide S0; omega) (Nat.le_refl _))
     have K7 := hide ((((unhide K).setNew (p := ⟨w.heap.size + 2, 0, none⟩) (by simp) (.bool GS)).setNew (p := ⟨w.heap.size + 2, 1, none⟩) (by simp) (.slice a8 GL.length c8)).setNew (p := ⟨w.heap.size + 2, 2, none⟩) (by simp) (.int .i64 GE))
     clear r1 r2 rn rq rr rs r4 r5 r3 r8 K 
     go_wp2_with fail
     exact bodyPost_ret (v := .agg #[.bool GS, .slice a8 GL.length c8, .int .i64 GE]) (by simp [results, Tryd.results17, go_sem, q0, q1, q2]) rfl ⟨_, rfl, unhide R, unhide K7⟩
    ·simp only [zq1, zq2, zq3]
     rw [if_pos (by rfl)]
     refine wps1 29 (.const (.int .i64 1)) _ rfl in_l2of_r (.int .i64 1) rfl (of_spec _ 1 (by omega)) ?_
     rintro e w17 ⟨v4, rfl, r4, k17⟩
     refine ⟨_, rfl, ?_⟩
     replace r1 := r1.kp k17
     replace r2 := r2.kp k17
     replace rn := rn.kp k17
     replace rq := rq.kp k17
     replace rr := rr.kp k17
     replace rs := rs.kp k17
     replace qf0 := k17.loose0 (zbl q0) qf0
     replace qf1 := k17.loose0 (zbl q1) qf1
     replace qf2 := k17.loose0 (zbl q2) qf2
     replace Nf0 := k17.loose0 (zbl N0) Nf0
     replace Df0 := k17.loose0 (zbl D0) Df0
     replace Uf0 := k17.loose0 (zbl U0) Uf0
     replace p0 := k17.cell0 p0
     replace p1 := k17.cell0 p1
     replace p2 := k17.cell0 p2
     replace t0 := k17.cell0 t0
     replace t1 := k17.cell0 t1
     replace t2 := k17.cell0 t2
     replace q0 := k17.cell0 q0
     replace q1 := k17.cell0 q1
     replace q2 := k17.cell0 q2
     replace N0 := k17.cell0 N0
     replace D0 := k17.cell0 D0
     replace U0 := k17.cell0 U0
     replace R0 := k17.cell0 R0
     replace K := hide ((unhide K).trans k17)
     have z18 := k17.size
     clear k17
     obtain ⟨a4, c4, hv⟩ := Row.form' r4
     subst hv
     clear hH
     refine hK.out _ _ ?_ (fun hH => ?_)
     ·exact trivial
     clear hK KK
     try simp only [Act.put, zq1, zq2, zq3, zq4, zq5, zq6]
     refine wpAnyH_ready (rs := [0]) (by kernel_rfl) (by simp) ?_
     refine AllReadyH.cons rfl (fun KK hK => ?_) AllReadyH.nil
     simp only [zq1, zq2, zq3]
     rw [if_pos (by rfl)]
     go_simp
     clear hH
     refine hK.out _ _ ?_ (fun hH => ?_)
     ·exact trivial
     clear hK KK
     try simp only [Act.put, zq1, zq2, zq3, zq4, zq5, zq6]
     refine wpAnyH_ready (rs := [2]) (by kernel_rfl) (by simp) ?_
     refine AllReadyH.cons rfl (fun KK hK => ?_) AllReadyH.nil
     simp only [zq1, zq2, zq3]
     rw [if_pos (by rfl)]
     refine wps2 36 (.tmp 54) (.tmp 55) _ rfl in_l2add_r (.agg #[.slice ah (limbs (QN * 2)).length ch]) (.agg #[.slice a4 (limbs (1 : Int).toNat).length c4]) rfl rfl (add_spec _ rs r4 (limbs_lim _) (limbs_lim _) (by omega) (by decide)) ?_
     rintro e w19 ⟨v5, rfl, r5, k19⟩
     refine ⟨_, rfl, ?_⟩
     replace r1 := r1.kp k19
     replace r2 := r2.kp k19
     replace rn := rn.kp k19
     replace rq := rq.kp k19
     replace rr := rr.kp k19
     replace rs := rs.kp k19
     replace r4 := r4.kp k19
     replace qf0 := k19.loose0 (zbl q0) qf0
     replace qf1 := k19.loose0 (zbl q1) qf1
     replace qf2 := k19.loose0 (zbl q2) qf2
     replace Nf0 := k19.loose0 (zbl N0) Nf0
     replace Df0 := k19.loose0 (zbl D0) Df0
     replace Uf0 := k19.loose0 (zbl U0) Uf0
     replace p0 := k19.cell0 p0
     replace p1 := k19.cell0 p1
     replace p2 := k19.cell0 p2
     replace t0 := k19.cell0 t0
     replace t1 := k19.cell0 t1
     replace t2 := k19.cell0 t2
     replace q0 := k19.cell0 q0
     replace q1 := k19.cell0 q1
     replace q2 := k19.cell0 q2
     replace N0 := k19.cell0 N0
     replace D0 := k19.cell0 D0
     replace U0 := k19.cell0 U0
     replace R0 := k19.cell0 R0
     replace K := hide ((unhide K).trans k19)
     have z20 := k19.size
     clear k19
     rw [eS] at r5
     clear hH
     refine hK.out _ _ ?_ (fun hH => ?_)
     ·exact trivial
     clear hK KK
     try simp only [Act.put, zq1, zq2, zq3, zq4, zq5, zq6]
     obtain ⟨a5, c5, hv⟩ := Row.form' r5
     subst hv
     refine wpAnyH_ready (rs := [3]) (by kernel_rfl) (by simp) ?_
     refine AllReadyH.cons rfl (fun KK hK => ?_) AllReadyH.nil
     simp only [zq1, zq2, zq3]
     rw [if_pos (by rfl)]
     go_simp
     clear hH
     refine hK.out _ _ ?_ (fun hH => ?_)
     ·trivial
     clear hK KK
     try simp only [Act.put, zq1, zq2, zq3, zq4, zq5, zq6]
     refine wpAnyH_done (by kernel_rfl) ?_ _
     clear hH
     try go_simp
     have sS0 := unhide S0
     replace r1 := r1.set_other (p := ⟨w8.heap.size, 0, none⟩) (by dsimp only; omega) (.slice a5 (limbs QQ).length c5)
     replace r2 := r2.set_other (p := ⟨w8.heap.size, 0, none⟩) (by dsimp only; omega) (.slice a5 (limbs QQ).length c5)
     replace rn := rn.set_other (p := ⟨w8.heap.size, 0, none⟩) (by dsimp only; omega) (.slice a5 (limbs QQ).length c5)
     replace rq := rq.set_other (p := ⟨w8.heap.size, 0, none⟩) (by dsimp only; omega) (.slice a5 (limbs QQ).length c5)
     replace rr := rr.set_other (p := ⟨w8.heap.size, 0, none⟩) (by dsimp only; omega) (.slice a5 (limbs QQ).length c5)
     replace rs := rs.set_other (p := ⟨w8.heap.size, 0, none⟩) (by dsimp only; omega) (.slice a5 (limbs QQ).length c5)
     replace r4 := r4.set_other (p := ⟨w8.heap.size, 0, none⟩) (by dsimp only; omega) (.slice a5 (limbs QQ).length c5)
     replace r5 := r5.set_other (p := ⟨w8.heap.size, 0, none⟩) (by dsimp only; omega) (.slice a5 (limbs QQ).length c5)
     replace p0 := cell_aside (.slice a5 (limbs QQ).length c5) (r := ⟨w8.heap.size, 0, none⟩) (by dsimp only; omega) p0
     replace p1 := cell_aside (.slice a5 (limbs QQ).length c5) (r := ⟨w8.heap.size, 0, none⟩) (by dsimp only; omega) p1
     replace p2 := cell_aside (.slice a5 (limbs QQ).length c5) (r := ⟨w8.heap.size, 0, none⟩) (by dsimp only; omega) p2
     replace t0 := cell_aside (.slice a5 (limbs QQ).length c5) (r := ⟨w8.heap.size, 0, none⟩) (by dsimp only; omega) t0
     replace t1 := cell_aside (.slice a5 (limbs QQ).length c5) (r := ⟨w8.heap.size, 0, none⟩) (by dsimp only; omega) t1
     replace t2 := cell_aside (.slice a5 (limbs QQ).length c5) (r := ⟨w8.heap.size, 0, none⟩) (by dsimp only; omega) t2
     replace q0 := cell_aside (.slice a5 (limbs QQ).length c5) (r := ⟨w8.heap.size, 0, none⟩) (by dsimp only; omega) q0
     replace q1 := cell_aside (.slice a5 (limbs QQ).length c5) (r := ⟨w8.heap.size, 0, none⟩) (by dsimp only; omega) q1
     replace q2 := cell_aside (.slice a5 (limbs QQ).length c5) (r := ⟨w8.heap.size, 0, none⟩) (by dsimp only; omega) q2
     replace N0 := cell_aside (.slice a5 (limbs QQ).length c5) (r := ⟨w8.heap.size, 0, none⟩) (by dsimp only; omega) N0
     replace D0 := cell_aside (.slice a5 (limbs QQ).length c5) (r := ⟨w8.heap.size, 0, none⟩) (by dsimp only; omega) D0
     replace R0 := cell_aside (.slice a5 (limbs QQ).length c5) (r := ⟨w8.heap.size, 0, none⟩) (by dsimp only; omega) R0
     replace qf0 : (w19.setCell ⟨w8.heap.size, 0, none⟩ (.slice a5 (limbs QQ).length c5)).frozen? _ = false := (frozen_set _ _ _ _ _).trans qf0
     replace qf1 : (w19.setCell ⟨w8.heap.size, 0, none⟩ (.slice a5 (limbs QQ).length c5)).frozen? _ = false := (frozen_set _ _ _ _ _).trans qf1
     replace qf2 : (w19.setCell ⟨w8.heap.size, 0, none⟩ (.slice a5 (limbs QQ).length c5)).frozen? _ = false := (frozen_set _ _ _ _ _).trans qf2
     replace Nf0 : (w19.setCell ⟨w8.heap.size, 0, none⟩ (.slice a5 (limbs QQ).length c5)).frozen? _ = false := (frozen_set _ _ _ _ _).trans Nf0
     replace Df0 : (w19.setCell ⟨w8.heap.size, 0, none⟩ (.slice a5 (limbs QQ).length c5)).frozen? _ = false := (frozen_set _ _ _ _ _).trans Df0
     replace Uf0 : (w19.setCell ⟨w8.heap.size, 0, none⟩ (.slice a5 (limbs QQ).length c5)).frozen? _ = false := (frozen_set _ _ _ _ _).trans Uf0
     replace U0 : (w19.setCell ⟨w8.heap.size, 0, none⟩ (.slice a5 (limbs QQ).length c5)).cell? ⟨w8.heap.size, 0, none⟩ = some (.slice a5 (limbs QQ).length c5) := cell_on _ _ _ _ _ U0
     replace K := hide ((unhide K).setNew (p := ⟨w8.heap.size, 0, none⟩) (by dsimp only; omega) (.slice a5 (limbs QQ).length c5))
     have zs21 : (w19.setCell ⟨w8.heap.size, 0, none⟩ (.slice a5 (limbs QQ).length c5)).heap.size = w19.heap.size := by simp [World.setCell]
     clear sS0
     generalize w19.setCell ⟨w8.heap.size, 0, none⟩ (.slice a5 (limbs QQ).length c5) = ws21 at *
     go_upto_region 13 with fail
     have hsg : (SG && decide (0 < (limbs QQ).length)) = SG := by rw [unhide HQ9, decide_eq_true (len_pos_limbs pQ), Bool.and_true]
     have mk := make_spec SG ws21 r5 lml (by omega)
     rw [hsg, hnl] at mk
     clear hsg hnl HQ9
     go_wp2_with fail
     refine (mk).mono ?_
     rintro e w22 ⟨v3, rfl, r3, k22⟩
     replace r1 := r1.kp k22
     replace r2 := r2.kp k22
     replace rn := rn.kp k22
     replace rq := rq.kp k22
     replace rr := rr.kp k22
     replace rs := rs.kp k22
     replace r4 := r4.kp k22
     replace r5 := r5.kp k22
     replace qf0 := k22.loose0 (zbl q0) qf0
     replace qf1 := k22.loose0 (zbl q1) qf1
     replace qf2 := k22.loose0 (zbl q2) qf2
     replace Nf0 := k22.loose0 (zbl N0) Nf0
     replace Df0 := k22.loose0 (zbl D0) Df0
     replace Uf0 := k22.loose0 (zbl U0) Uf0
     replace p0 := k22.cell0 p0
     replace p1 := k22.cell0 p1
     replace p2 := k22.cell0 p2
     replace t0 := k22.cell0 t0
     replace t1 := k22.cell0 t1
     replace t2 := k22.cell0 t2
     replace q0 := k22.cell0 q0
     replace q1 := k22.cell0 q1
     replace q2 := k22.cell0 q2
     replace N0 := k22.cell0 N0
     replace D0 := k22.cell0 D0
     replace U0 := k22.cell0 U0
     replace R0 := k22.cell0 R0
     replace K := hide ((unhide K).trans k22)
     have z23 := k22.size
     clear k22
     clear mk
     have mk := make4_spec SG (low - 3) MQ (unhide HMQ) (by omega) (by omega) w22 r3 ⟨limbs_nrm _, fun _ => len_pos_limbs pQ⟩ (by omega)
     rw [unhide HGS, unhide HGL, unhide HGE] at mk
     go_wp2_with fail
     refine (mk).mono ?_
     rintro e w24 ⟨v8, rfl, r8, k24⟩
     replace r1 := r1.kp k24
     replace r2 := r2.kp k24
     replace rn := rn.kp k24
     replace rq := rq.kp k24
     replace rr := rr.kp k24
     replace rs := rs.kp k24
     replace r4 := r4.kp k24
     replace r5 := r5.kp k24
     replace r3 := r3.kp k24
     replace qf0 := k24.loose0 (zbl q0) qf0
     replace qf1 := k24.loose0 (zbl q1) qf1
     replace qf2 := k24.loose0 (zbl q2) qf2
     replace Nf0 := k24.loose0 (zbl N0) Nf0
     replace Df0 := k24.loose0 (zbl D0) Df0
     replace Uf0 := k24.loose0 (zbl U0) Uf0
     replace p0 := k24.cell0 p0
     replace p1 := k24.cell0 p1
     replace p2 := k24.cell0 p2
     replace t0 := k24.cell0 t0
     replace t1 := k24.cell0 t1
     replace t2 := k24.cell0 t2
     replace q0 := k24.cell0 q0
     replace q1 := k24.cell0 q1
     replace q2 := k24.cell0 q2
     replace N0 := k24.cell0 N0
     replace D0 := k24.cell0 D0
     replace U0 := k24.cell0 U0
     replace R0 := k24.cell0 R0
     replace K := hide ((unhide K).trans k24)
     have z25 := k24.size
     clear k24
     clear mk
     obtain ⟨a8, c8, hv⟩ := Row.form' r8
     subst hv
     have R := hide ((((r8.set_other (p := ⟨w.heap.size + 2, 0, none⟩) (.inl (by have := unhide S0; dsimp only; omega)) (.bool GS)).set_other (p := ⟨w.heap.size + 2, 1, none⟩) (.inl (by have := unhide S0; dsimp only; omega)) (.slice a8 GL.length c8)).set_other (p := ⟨w.heap.size + 2, 2, none⟩) (.inl (by have := unhide S0; dsimp only; omega)) (.int .i64 GE)).tight.wider (lo' := w.heap.size) (by have := unhide S0; omega) (Nat.le_refl _))
     have K7 := hide ((((unhide K).setNew (p := ⟨w.heap.size + 2, 0, none⟩) (by simp) (.bool GS)).setNew (p := ⟨w.heap.size + 2, 1, none⟩) (by simp) (.slice a8 GL.length c8)).setNew (p := ⟨w.heap.size + 2, 2, none⟩) (by simp) (.int .i64 GE))
     clear r1 r2 rn rq rr rs r4 r5 r3 r8 K 
     go_wp2_with fail
     exact bodyPost_ret (v := .agg #[.bool GS, .slice a8 GL.length c8, .int .i64 GE]) (by simp [results, Tryd.results17, go_sem, q0, q1, q2]) rfl ⟨_, rfl, unhide R, unhide K7⟩
  obtain ⟨KN, hKN⟩ : ∃ n : Nat, -KK = (n : Int) := ⟨(-KK).toNat, by omega⟩
  have mk := shl_spec wm3 r2 hy.1 (by omega) KN (.inr (by omega)) (by omega)
  rw [show (val ys).toNat * 2 ^ KN = DV by rw [← unhide HDV, hKN]; rfl, ← hKN] at mk
  clear hKN
  go_wp2_with fail
  refine (mk).mono ?_
  rintro e w5 ⟨vn, rfl, rn, k5⟩
  replace r1 := r1.kp k5
  replace r2 := r2.kp k5
  replace qf0 := k5.loose0 (zbl q0) qf0
  replace qf1 := k5.loose0 (zbl q1) qf1
  replace qf2 := k5.loose0 (zbl q2) qf2
  replace Nf0 := k5.loose0 (zbl N0) Nf0
  replace Df0 := k5.loose0 (zbl D0) Df0
  replace p0 := k5.cell0 p0
  replace p1 := k5.cell0 p1
  replace p2 := k5.cell0 p2
  replace t0 := k5.cell0 t0
  replace t1 := k5.cell0 t1
  replace t2 := k5.cell0 t2
  replace q0 := k5.cell0 q0
  replace q1 := k5.cell0 q1
  replace q2 := k5.cell0 q2
  replace N0 := k5.cell0 N0
  replace D0 := k5.cell0 D0
  replace K := hide ((unhide K).trans k5)
  have z6 := k5.size
  clear k5
  clear mk
  obtain ⟨an, cn, hv⟩ := Row.form' rn
  subst hv
  go_upto_region 9 with fail
  have sS0 := unhide S0
  replace r1 := r1.set_other (p := ⟨wm1.heap.size, 0, none⟩) (by dsimp only; omega) (.slice an (limbs DV).length cn)
  replace r2 := r2.set_other (p := ⟨wm1.heap.size, 0, none⟩) (by dsimp only; omega) (.slice an (limbs DV).length cn)
  replace rn := rn.set_other (p := ⟨wm1.heap.size, 0, none⟩) (by dsimp only; omega) (.slice an (limbs DV).length cn)
  replace p0 := cell_aside (.slice an (limbs DV).length cn) (r := ⟨wm1.heap.size, 0, none⟩) (by dsimp only; omega) p0
  replace p1 := cell_aside (.slice an (limbs DV).length cn) (r := ⟨wm1.heap.size, 0, none⟩) (by dsimp only; omega) p1
  replace p2 := cell_aside (.slice an (limbs DV).length cn) (r := ⟨wm1.heap.size, 0, none⟩) (by dsimp only; omega) p2
  replace t0 := cell_aside (.slice an (limbs DV).length cn) (r := ⟨wm1.heap.size, 0, none⟩) (by dsimp only; omega) t0
  replace t1 := cell_aside (.slice an (limbs DV).length cn) (r := ⟨wm1.heap.size, 0, none⟩) (by dsimp only; omega) t1
  replace t2 := cell_aside (.slice an (limbs DV).length cn) (r := ⟨wm1.heap.size, 0, none⟩) (by dsimp only; omega) t2
  replace q0 := cell_aside (.slice an (limbs DV).length cn) (r := ⟨wm1.heap.size, 0, none⟩) (by dsimp only; omega) q0
  replace q1 := cell_aside (.slice an (limbs DV).length cn) (r := ⟨wm1.heap.size, 0, none⟩) (by dsimp only; omega) q1
  replace q2 := cell_aside (.slice an (limbs DV).length cn) (r := ⟨wm1.heap.size, 0, none⟩) (by dsimp only; omega) q2
  replace N0 := cell_aside (.slice an (limbs DV).length cn) (r := ⟨wm1.heap.size, 0, none⟩) (by dsimp only; omega) N0
  replace qf0 : (w5.setCell ⟨wm1.heap.size, 0, none⟩ (.slice an (limbs DV).length cn)).frozen? _ = false := (frozen_set _ _ _ _ _).trans qf0
  replace qf1 : (w5.setCell ⟨wm1.heap.size, 0, none⟩ (.slice an (limbs DV).length cn)).frozen? _ = false := (frozen_set _ _ _ _ _).trans qf1
  replace qf2 : (w5.setCell ⟨wm1.heap.size, 0, none⟩ (.slice an (limbs DV).length cn)).frozen? _ = false := (frozen_set _ _ _ _ _).trans qf2
  replace Nf0 : (w5.setCell ⟨wm1.heap.size, 0, none⟩ (.slice an (limbs DV).length cn)).frozen? _ = false := (frozen_set _ _ _ _ _).trans Nf0
  replace Df0 : (w5.setCell ⟨wm1.heap.size, 0, none⟩ (.slice an (limbs DV).length cn)).frozen? _ = false := (frozen_set _ _ _ _ _).trans Df0
  replace D0 : (w5.setCell ⟨wm1.heap.size, 0, none⟩ (.slice an (limbs DV).length cn)).cell? ⟨wm1.heap.size, 0, none⟩ = some (.slice an (limbs DV).length cn) := cell_on _ _ _ _ _ D0
  replace K := hide ((unhide K).setNew (p := ⟨wm1.heap.size, 0, none⟩) (by dsimp only; omega) (.slice an (limbs DV).length cn))
  have zs7 : (w5.setCell ⟨wm1.heap.size, 0, none⟩ (.slice an (limbs DV).length cn)).heap.size = w5.heap.size := by simp [World.setCell]
  clear sS0
  generalize w5.setCell ⟨wm1.heap.size, 0, none⟩ (.slice an (limbs DV).length cn) = ws7 at *
  have evN : val xs = (NV : Int) := by rw [← unhide HNV, quoX_zero _ (by omega)]; omega
  have evD : val (limbs DV) = (DV : Int) := limbs_val _
  have lmN : Lim xs := hx.1
  have nrD : Nrm (limbs DV) := limbs_nrm _
  have pDv : 0 < val (limbs DV) := by rw [limbs_val]; omega
  have mk := div_spec ws7 r1 rn lmN nrD (by omega) (by omega) pDv
  rw [evN, evD] at mk
  rw [show ((NV : Int) / (DV : Int)).toNat = QN by rw [unhide EQ, ← Int.natCast_ediv, Int.toNat_natCast], show ((NV : Int) % (DV : Int)).toNat = NV % DV by rw [← Int.natCast_emod, Int.toNat_natCast]] at mk
  go_wp2_with fail
  refine (mk).mono ?_
  rintro e w8 ⟨vq, vr, rfl, rq, rr, k8⟩
  replace r1 := r1.kp k8
  replace r2 := r2.kp k8
  replace rn := rn.kp k8
  replace qf0 := k8.loose0 (zbl q0) qf0
  replace qf1 := k8.loose0 (zbl q1) qf1
  replace qf2 := k8.loose0 (zbl q2) qf2
  replace Nf0 := k8.loose0 (zbl N0) Nf0
  replace Df0 := k8.loose0 (zbl D0) Df0
  replace p0 := k8.cell0 p0
  replace p1 := k8.cell0 p1
  replace p2 := k8.cell0 p2
  replace t0 := k8.cell0 t0
  replace t1 := k8.cell0 t1
  replace t2 := k8.cell0 t2
  replace q0 := k8.cell0 q0
  replace q1 := k8.cell0 q1
  replace q2 := k8.cell0 q2
  replace N0 := k8.cell0 N0
  replace D0 := k8.cell0 D0
  replace K := hide ((unhide K).trans k8)
  have z9 := k8.size
  clear k8
  clear mk
  obtain ⟨aq, cq, hv⟩ := Row.form' rq
  subst hv
  obtain ⟨ar, cr, hv⟩ := Row.form' rr
  subst hv
  have kn := ((Kept.refl 0 0 w8).alloc (.cells #[.slice aq (limbs QN).length cq] 37)).alloc (.cells #[.slice ar (limbs (NV % DV)).length cr] 37)
  have U0 : ((w8.alloc (.cells #[.slice aq (limbs QN).length cq] 37)).alloc (.cells #[.slice ar (limbs (NV % DV)).length cr] 37)).cell? ⟨w8.heap.size, 0, none⟩ = some (.slice aq (limbs QN).length cq) := old_cell _ (new_cell2 _ _ _ _ _ _ (by simp) rfl)
  have Uf0 : ((w8.alloc (.cells #[.slice aq (limbs QN).length cq] 37)).alloc (.cells #[.slice ar (limbs (NV % DV)).length cr] 37)).frozen? ⟨w8.heap.size, 0, none⟩ = false := loose_old (by simp <;> omega) (new_loose2 _ _ _ _ _ (by simp))
  have R0 : ((w8.alloc (.cells #[.slice aq (limbs QN).length cq] 37)).alloc (.cells #[.slice ar (limbs (NV % DV)).length cr] 37)).cell? ⟨w8.heap.size + 1, 0, none⟩ = some (.slice ar (limbs (NV % DV)).length cr) := new_cell2 _ _ _ _ _ _ (by simp) rfl
  have szU : w8.heap.size + 2 ≤ ((w8.alloc (.cells #[.slice aq (limbs QN).length cq] 37)).alloc (.cells #[.slice ar (limbs (NV % DV)).length cr] 37)).heap.size := by simp
  replace r1 := r1.kp kn
  replace r2 := r2.kp kn
  replace rn := rn.kp kn
  replace rq := rq.kp kn
  replace rr := rr.kp kn
  replace qf0 := kn.loose0 (zbl q0) qf0
  replace qf1 := kn.loose0 (zbl q1) qf1
  replace qf2 := kn.loose0 (zbl q2) qf2
  replace Nf0 := kn.loose0 (zbl N0) Nf0
  replace Df0 := kn.loose0 (zbl D0) Df0
  replace p0 := kn.cell0 p0
  replace p1 := kn.cell0 p1
  replace p2 := kn.cell0 p2
  replace t0 := kn.cell0 t0
  replace t1 := kn.cell0 t1
  replace t2 := kn.cell0 t2
  replace q0 := kn.cell0 q0
  replace q1 := kn.cell0 q1
  replace q2 := kn.cell0 q2
  replace N0 := kn.cell0 N0
  replace D0 := kn.cell0 D0
  replace K := hide ((unhide K).trans kn)
  have z11 := kn.size
  clear kn
  go_upto_region 10 with fail
  generalize ((w8.alloc (.cells #[.slice aq (limbs QN).length cq] 37)).alloc (.cells #[.slice ar (limbs (NV % DV)).length cr] 37)) = wu at *
  have mk := shl_spec wu rq (limbs_lim _) (by omega) 1 (.inr (by omega)) (by omega)
  rw [limbs_val, Int.toNat_natCast, Nat.pow_one] at mk
  go_wp2_with fail
  refine (mk).mono ?_
  rintro e w12 ⟨vs, rfl, rs, k12⟩
  replace r1 := r1.kp k12
  replace r2 := r2.kp k12
  replace rn := rn.kp k12
  replace rq := rq.kp k12
  replace rr := rr.kp k12
  replace qf0 := k12.loose0 (zbl q0) qf0
  replace qf1 := k12.loose0 (zbl q1) qf1
  replace qf2 := k12.loose0 (zbl q2) qf2
  replace Nf0 := k12.loose0 (zbl N0) Nf0
  replace Df0 := k12.loose0 (zbl D0) Df0
  replace Uf0 := k12.loose0 (zbl U0) Uf0
  replace p0 := k12.cell0 p0
  replace p1 := k12.cell0 p1
  replace p2 := k12.cell0 p2
  replace t0 := k12.cell0 t0
  replace t1 := k12.cell0 t1
  replace t2 := k12.cell0 t2
  replace q0 := k12.cell0 q0
  replace q1 := k12.cell0 q1
  replace q2 := k12.cell0 q2
  replace N0 := k12.cell0 N0
  replace D0 := k12.cell0 D0
  replace U0 := k12.cell0 U0
  replace R0 := k12.cell0 R0
  replace K := hide ((unhide K).trans k12)
  have z13 := k12.size
  clear k12
  clear mk
  obtain ⟨ah, ch, hv⟩ := Row.form' rs
  subst hv
  go_upto_region 11 with fail
  have sS0 := unhide S0
  replace r1 := r1.set_other (p := ⟨w8.heap.size, 0, none⟩) (by dsimp only; omega) (.slice ah (limbs (QN * 2)).length ch)
  replace r2 := r2.set_other (p := ⟨w8.heap.size, 0, none⟩) (by dsimp only; omega) (.slice ah (limbs (QN * 2)).length ch)
  replace rn := rn.set_other (p := ⟨w8.heap.size, 0, none⟩) (by dsimp only; omega) (.slice ah (limbs (QN * 2)).length ch)
  replace rq := rq.set_other (p := ⟨w8.heap.size, 0, none⟩) (by dsimp only; omega) (.slice ah (limbs (QN * 2)).length ch)
  replace rr := rr.set_other (p := ⟨w8.heap.size, 0, none⟩) (by dsimp only; omega) (.slice ah (limbs (QN * 2)).length ch)
  replace rs := rs.set_other (p := ⟨w8.heap.size, 0, none⟩) (by dsimp only; omega) (.slice ah (limbs (QN * 2)).length ch)
  replace p0 := cell_aside (.slice ah (limbs (QN * 2)).length ch) (r := ⟨w8.heap.size, 0, none⟩) (by dsimp only; omega) p0
  replace p1 := cell_aside (.slice ah (limbs (QN * 2)).length ch) (r := ⟨w8.heap.size, 0, none⟩) (by dsimp only; omega) p1
  replace p2 := cell_aside (.slice ah (limbs (QN * 2)).length ch) (r := ⟨w8.heap.size, 0, none⟩) (by dsimp only; omega) p2
  replace t0 := cell_aside (.slice ah (limbs (QN * 2)).length ch) (r := ⟨w8.heap.size, 0, none⟩) (by dsimp only; omega) t0
  replace t1 := cell_aside (.slice ah (limbs (QN * 2)).length ch) (r := ⟨w8.heap.size, 0, none⟩) (by dsimp only; omega) t1
  replace t2 := cell_aside (.slice ah (limbs (QN * 2)).length ch) (r := ⟨w8.heap.size, 0, none⟩) (by dsimp only; omega) t2
  replace q0 := cell_aside (.slice ah (limbs (QN * 2)).length ch) (r := ⟨w8.heap.size, 0, none⟩) (by dsimp only; omega) q0
  replace q1 := cell_aside (.slice ah (limbs (QN * 2)).length ch) (r := ⟨w8.heap.size, 0, none⟩) (by dsimp only; omega) q1
  replace q2 := cell_aside (.slice ah (limbs (QN * 2)).length ch) (r := ⟨w8.heap.size, 0, none⟩) (by dsimp only; omega) q2
  replace N0 := cell_aside (.slice ah (limbs (QN * 2)).length ch) (r := ⟨w8.heap.size, 0, none⟩) (by dsimp only; omega) N0
  replace D0 := cell_aside (.slice ah (limbs (QN * 2)).length ch) (r := ⟨w8.heap.size, 0, none⟩) (by dsimp only; omega) D0
  replace R0 := cell_aside (.slice ah (limbs (QN * 2)).length ch) (r := ⟨w8.heap.size, 0, none⟩) (by dsimp only; omega) R0
  replace qf0 : (w12.setCell ⟨w8.heap.size, 0, none⟩ (.slice ah (limbs (QN * 2)).length ch)).frozen? _ = false := (frozen_set _ _ _ _ _).trans qf0
  replace qf1 : (w12.setCell ⟨w8.heap.size, 0, none⟩ (.slice ah (limbs (QN * 2)).length ch)).frozen? _ = false := (frozen_set _ _ _ _ _).trans qf1
  replace qf2 : (w12.setCell ⟨w8.heap.size, 0, none⟩ (.slice ah (limbs (QN * 2)).length ch)).frozen? _ = false := (frozen_set _ _ _ _ _).trans qf2
  replace Nf0 : (w12.setCell ⟨w8.heap.size, 0, none⟩ (.slice ah (limbs (QN * 2)).length ch)).frozen? _ = false := (frozen_set _ _ _ _ _).trans Nf0
  replace Df0 : (w12.setCell ⟨w8.heap.size, 0, none⟩ (.slice ah (limbs (QN * 2)).length ch)).frozen? _ = false := (frozen_set _ _ _ _ _).trans Df0
  replace Uf0 : (w12.setCell ⟨w8.heap.size, 0, none⟩ (.slice ah (limbs (QN * 2)).length ch)).frozen? _ = false := (frozen_set _ _ _ _ _).trans Uf0
  replace U0 : (w12.setCell ⟨w8.heap.size, 0, none⟩ (.slice ah (limbs (QN * 2)).length ch)).cell? ⟨w8.heap.size, 0, none⟩ = some (.slice ah (limbs (QN * 2)).length ch) := cell_on _ _ _ _ _ U0
  replace K := hide ((unhide K).setNew (p := ⟨w8.heap.size, 0, none⟩) (by dsimp only; omega) (.slice ah (limbs (QN * 2)).length ch))
  have zs14 : (w12.setCell ⟨w8.heap.size, 0, none⟩ (.slice ah (limbs (QN * 2)).length ch)).heap.size = w12.heap.size := by simp [World.setCell]
  clear sS0
  generalize w12.setCell ⟨w8.heap.size, 0, none⟩ (.slice ah (limbs (QN * 2)).length ch) = ws14 at *
  by_cases hr : NV % DV = 0
  ·have hq2 : QQ = QN * 2 := by rw [unhide EQQ, unhide EL, decide_eq_false (by simp [hr]), if_neg (by decide)]; omega
   have HQ9 : Hid (limbs (QN * 2) = limbs QQ) := by show _ = _; rw [hq2]
   have hnl : limbs (val (limbs (QN * 2))).toNat = limbs QQ := by rw [limbs_val, Int.toNat_natCast, hq2]
   have lml : Lim (limbs (QN * 2)) := limbs_lim _
   have hrl : (limbs (NV % DV)).length = 0 := by rw [hr, limbs_zero]; rfl
   have hrd : ¬ (0 : Int) < ((limbs (NV % DV)).length : Int) := by omega
   clear hr hq2 hrl
   go_upto_region 13 with fail
   have hsg : (SG && decide (0 < (limbs (QN * 2)).length)) = SG := by rw [unhide HQ9, decide_eq_true (len_pos_limbs pQ), Bool.and_true]
   have mk := make_spec SG ws14 rs lml (by omega)
   rw [hsg, hnl] at mk
   clear hsg hnl HQ9
   go_wp2_with fail
   refine (mk).mono ?_
   rintro e w15 ⟨v3, rfl, r3, k15⟩
   replace r1 := r1.kp k15
   replace r2 := r2.kp k15
   replace rn := rn.kp k15
   replace rq := rq.kp k15
   replace rr := rr.kp k15
   replace rs := rs.kp k15
   replace qf0 := k15.loose0 (zbl q0) qf0
   replace qf1 := k15.loose0 (zbl q1) qf1
   replace qf2 := k15.loose0 (zbl q2) qf2
   replace Nf0 := k15.loose0 (zbl N0) Nf0
   replace Df0 := k15.loose0 (zbl D0) Df0
   replace Uf0 := k15.loose0 (zbl U0) Uf0
   replace p0 := k15.cell0 p0
   replace p1 := k15.cell0 p1
   replace p2 := k15.cell0 p2
   replace t0 := k15.cell0 t0
   replace t1 := k15.cell0 t1
   replace t2 := k15.cell0 t2
   replace q0 := k15.cell0 q0
   replace q1 := k15.cell0 q1
   replace q2 := k15.cell0 q2
   replace N0 := k15.cell0 N0
   replace D0 := k15.cell0 D0
   replace U0 := k15.cell0 U0
   replace R0 := k15.cell0 R0
   replace K := hide ((unhide K).trans k15)
   have z16 := k15.size
   clear k15
   clear mk
   have mk := make4_spec SG (low - 3) MQ (unhide HMQ) (by omega) (by omega) w15 r3 ⟨limbs_nrm _, fun _ => len_pos_limbs pQ⟩ (by omega)
   rw [unhide HGS, unhide HGL, unhide HGE] at mk
   go_wp2_with fail
   refine (mk).mono ?_
   rintro e w17 ⟨v8, rfl, r8, k17⟩
   replace r1 := r1.kp k17
   replace r2 := r2.kp k17
   replace rn := rn.kp k17
   replace rq := rq.kp k17
   replace rr := rr.kp k17
   replace rs := rs.kp k17
   replace r3 := r3.kp k17
   replace qf0 := k17.loose0 (zbl q0) qf0
   replace qf1 := k17.loose0 (zbl q1) qf1
   replace qf2 := k17.loose0 (zbl q2) qf2
   replace Nf0 := k17.loose0 (zbl N0) Nf0
   replace Df0 := k17.loose0 (zbl D0) Df0
   replace Uf0 := k17.loose0 (zbl U0) Uf0
   replace p0 := k17.cell0 p0
   replace p1 := k17.cell0 p1
   replace p2 := k17.cell0 p2
   replace t0 := k17.cell0 t0
   replace t1 := k17.cell0 t1
   replace t2 := k17.cell0 t2
   replace q0 := k17.cell0 q0
   replace q1 := k17.cell0 q1
   replace q2 := k17.cell0 q2
   replace N0 := k17.cell0 N0
   replace D0 := k17.cell0 D0
   replace U0 := k17.cell0 U0
   replace R0 := k17.cell0 R0
   replace K := hide ((unhide K).trans k17)
   have z18 := k17.size
   clear k17
   clear mk
   obtain ⟨a8, c8, hv⟩ := Row.form' r8
   subst hv
   have R := hide ((((r8.set_other (p := ⟨w.heap.size + 2, 0, none⟩) (.inl (by have := unhide S0; dsimp only; omega)) (.bool GS)).set_other (p := ⟨w.heap.size + 2, 1, none⟩) (.inl (by have := unhide S0; dsimp only; omega)) (.slice a8 GL.length c8)).set_other (p := ⟨w.heap.size + 2, 2, none⟩) (.inl (by have := unhide S0; dsimp only; omega)) (.int .i64 GE)).tight.wider (lo' := w.heap.size) (by have := unhide S0; omega) (Nat.le_refl _))
   have K7 := hide ((((unhide K).setNew (p := ⟨w.heap.size + 2, 0, none⟩) (by simp) (.bool GS)).setNew (p := ⟨w.heap.size + 2, 1, none⟩) (by simp) (.slice a8 GL.length c8)).setNew (p := ⟨w.heap.size + 2, 2, none⟩) (by simp) (.int .i64 GE))
   clear r1 r2 rn rq rr rs r3 r8 K 
   go_wp2_with fail
   exact bodyPost_ret (v := .agg #[.bool GS, .slice a8 GL.length c8, .int .i64 GE]) (by simp [results, Tryd.results17, go_sem, q0, q1, q2]) rfl ⟨_, rfl, unhide R, unhide K7⟩
  ·have hq2 : QQ = QN * 2 + 1 := by rw [unhide EQQ, unhide EL, decide_eq_true hr, if_pos rfl]; omega
   have hrl := len_pos_limbs hr
   have hrd : (0 : Int) < ((limbs (NV % DV)).length : Int) := by omega
   have eS : (val (limbs (QN * 2)) + val (limbs (1 : Int).toNat)).toNat = QQ := by rw [limbs_val, limbs_val, hq2]; omega
   have HQ9 : Hid (limbs QQ = limbs QQ) := rfl
   have hnl : limbs (val (limbs QQ)).toNat = limbs QQ := by rw [limbs_val, Int.toNat_natCast]
   have lml : Lim (limbs QQ) := limbs_lim _
   clear hr hq2 hrl
   go_upto_region 12 with fail
   have kd := (Kept.refl 0 0 ws14).drew
   replace r1 := r1.kp kd
   replace r2 := r2.kp kd
   replace rn := rn.kp kd
   replace rq := rq.kp kd
   replace rr := rr.kp kd
   replace rs := rs.kp kd
   replace qf0 := kd.loose0 (zbl q0) qf0
   replace qf1 := kd.loose0 (zbl q1) qf1
   replace qf2 := kd.loose0 (zbl q2) qf2
   replace Nf0 := kd.loose0 (zbl N0) Nf0
   replace Df0 := kd.loose0 (zbl D0) Df0
   replace Uf0 := kd.loose0 (zbl U0) Uf0
   replace p0 := kd.cell0 p0
   replace p1 := kd.cell0 p1
   replace p2 := kd.cell0 p2
   replace t0 := kd.cell0 t0
   replace t1 := kd.cell0 t1
   replace t2 := kd.cell0 t2
   replace q0 := kd.cell0 q0
   replace q1 := kd.cell0 q1
   replace q2 := kd.cell0 q2
   replace N0 := kd.cell0 N0
   replace D0 := kd.cell0 D0
   replace U0 := kd.cell0 U0
   replace R0 := kd.cell0 R0
   replace K := hide ((unhide K).trans kd)
   have z15 := kd.size
   clear kd
   refine wp_region_held_drew (S := (fun w' => True)) (by kernel_rfl) ?_ (fun hH => ?_)
   ·exact trivial
   generalize ws14.drew = wd16 at *
   refine wpAnyH_ready (rs := [0, 1]) (by kernel_rfl) (by simp) ?_
   refine AllReadyH.cons rfl (fun KK hK => ?_) (AllReadyH.cons rfl (fun KK hK => ?_) AllReadyH.nil)
   ·simp only [zq1, zq2, zq3]
    rw [if_pos (by rfl)]
    go_simp
    clear hH
    refine hK.out _ _ ?_ (fun hH => ?_)
    ·exact trivial
    clear hK KK
    try simp only [Act.put, zq1, zq2, zq3, zq4, zq5, zq6]
    refine wpAnyH_ready (rs := [1]) (by kernel_rfl) (by simp) ?_
    refine AllReadyH.cons rfl (fun KK hK => ?_) AllReadyH.nil
    simp only [zq1, zq2, zq3]
    rw [if_pos (by rfl)]
    refine wps1 29 (.const (.int .i64 1)) _ rfl in_l2of_r (.int .i64 1) rfl (of_spec _ 1 (by omega)) ?_
    rintro e w17 ⟨v4, rfl, r4, k17⟩
    refine ⟨_, rfl, ?_⟩
    replace r1 := r1.kp k17
    replace r2 := r2.kp k17
    replace rn := rn.kp k17
    replace rq := rq.kp k17
    replace rr := rr.kp k17
    replace rs := rs.kp k17
    replace qf0 := k17.loose0 (zbl q0) qf0
    replace qf1 := k17.loose0 (zbl q1) qf1
    replace qf2 := k17.loose0 (zbl q2) qf2
    replace Nf0 := k17.loose0 (zbl N0) Nf0
    replace Df0 := k17.loose0 (zbl D0) Df0
    replace Uf0 := k17.loose0 (zbl U0) Uf0
    replace p0 := k17.cell0 p0
    replace p1 := k17.cell0 p1
    replace p2 := k17.cell0 p2
    replace t0 := k17.cell0 t0
    replace t1 := k17.cell0 t1
    replace t2 := k17.cell0 t2
    replace q0 := k17.cell0 q0
    replace q1 := k17.cell0 q1
    replace q2 := k17.cell0 q2
    replace N0 := k17.cell0 N0
    replace D0 := k17.cell0 D0
    replace U0 := k17.cell0 U0
    replace R0 := k17.cell0 R0
    replace K := hide ((unhide K).trans k17)
    have z18 := k17.size
    clear k17
    obtain ⟨a4, c4, hv⟩ := Row.form' r4
    subst hv
    clear hH
    refine hK.out _ _ ?_ (fun hH => ?_)
    ·exact trivial
    clear hK KK
    try simp only [Act.put, zq1, zq2, zq3, zq4, zq5, zq6]
    refine wpAnyH_ready (rs := [2]) (by kernel_rfl) (by simp) ?_
    refine AllReadyH.cons rfl (fun KK hK => ?_) AllReadyH.nil
    simp only [zq1, zq2, zq3]
    rw [if_pos (by rfl)]
    refine wps2 36 (.tmp 54) (.tmp 55) _ rfl in_l2add_r (.agg #[.slice ah (limbs (QN * 2)).length ch]) (.agg #[.slice a4 (limbs (1 : Int).toNat).length c4]) rfl rfl (add_spec _ rs r4 (limbs_lim _) (limbs_lim _) (by omega) (by decide)) ?_
    rintro e w19 ⟨v5, rfl, r5, k19⟩
    refine ⟨_, rfl, ?_⟩
    replace r1 := r1.kp k19
    replace r2 := r2.kp k19
    replace rn := rn.kp k19
    replace rq := rq.kp k19
    replace rr := rr.kp k19
    replace rs := rs.kp k19
    replace r4 := r4.kp k19
    replace qf0 := k19.loose0 (zbl q0) qf0
    replace qf1 := k19.loose0 (zbl q1) qf1
    replace qf2 := k19.loose0 (zbl q2) qf2
    replace Nf0 := k19.loose0 (zbl N0) Nf0
    replace Df0 := k19.loose0 (zbl D0) Df0
    replace Uf0 := k19.loose0 (zbl U0) Uf0
    replace p0 := k19.cell0 p0
    replace p1 := k19.cell0 p1
    replace p2 := k19.cell0 p2
    replace t0 := k19.cell0 t0
    replace t1 := k19.cell0 t1
    replace t2 := k19.cell0 t2
    replace q0 := k19.cell0 q0
    replace q1 := k19.cell0 q1
    replace q2 := k19.cell0 q2
    replace N0 := k19.cell0 N0
    replace D0 := k19.cell0 D0
    replace U0 := k19.cell0 U0
    replace R0 := k19.cell0 R0
    replace K := hide ((unhide K).trans k19)
    have z20 := k19.size
    clear k19
    rw [eS] at r5
    clear hH
    refine hK.out _ _ ?_ (fun hH => ?_)
    ·exact trivial
    clear hK KK
    try simp only [Act.put, zq1, zq2, zq3, zq4, zq5, zq6]
    obtain ⟨a5, c5, hv⟩ := Row.form' r5
    subst hv
    refine wpAnyH_ready (rs := [3]) (by kernel_rfl) (by simp) ?_
    refine AllReadyH.cons rfl (fun KK hK => ?_) AllReadyH.nil
    simp only [zq1, zq2, zq3]
    rw [if_pos (by rfl)]
    go_simp
    clear hH
    refine hK.out _ _ ?_ (fun hH => ?_)
    ·trivial
    clear hK KK
    try simp only [Act.put, zq1, zq2, zq3, zq4, zq5, zq6]
    refine wpAnyH_done (by kernel_rfl) ?_ _
    clear hH
    try go_simp
    have sS0 := unhide S0
    replace r1 := r1.set_other (p := ⟨w8.heap.size, 0, none⟩) (by dsimp only; omega) (.slice a5 (limbs QQ).length c5)
    replace r2 := r2.set_other (p := ⟨w8.heap.size, 0, none⟩) (by dsimp only; omega) (.slice a5 (limbs QQ).length c5)
    replace rn := rn.set_other (p := ⟨w8.heap.size, 0, none⟩) (by dsimp only; omega) (.slice a5 (limbs QQ).length c5)
    replace rq := rq.set_other (p := ⟨w8.heap.size, 0, none⟩) (by dsimp only; omega) (.slice a5 (limbs QQ).length c5)
    replace rr := rr.set_other (p := ⟨w8.heap.size, 0, none⟩) (by dsimp only; omega) (.slice a5 (limbs QQ).length c5)
    replace rs := rs.set_other (p := ⟨w8.heap.size, 0, none⟩) (by dsimp only; omega) (.slice a5 (limbs QQ).length c5)
    replace r4 := r4.set_other (p := ⟨w8.heap.size, 0, none⟩) (by dsimp only; omega) (.slice a5 (limbs QQ).length c5)
    replace r5 := r5.set_other (p := ⟨w8.heap.size, 0, none⟩) (by dsimp only; omega) (.slice a5 (limbs QQ).length c5)
    replace p0 := cell_aside (.slice a5 (limbs QQ).length c5) (r := ⟨w8.heap.size, 0, none⟩) (by dsimp only; omega) p0
    replace p1 := cell_aside (.slice a5 (limbs QQ).length c5) (r := ⟨w8.heap.size, 0, none⟩) (by dsimp only; omega) p1
    replace p2 := cell_aside (.slice a5 (limbs QQ).length c5) (r := ⟨w8.heap.size, 0, none⟩) (by dsimp only; omega) p2
    replace t0 := cell_aside (.slice a5 (limbs QQ).length c5) (r := ⟨w8.heap.size, 0, none⟩) (by dsimp only; omega) t0
    replace t1 := cell_aside (.slice a5 (limbs QQ).length c5) (r := ⟨w8.heap.size, 0, none⟩) (by dsimp only; omega) t1
    replace t2 := cell_aside (.slice a5 (limbs QQ).length c5) (r := ⟨w8.heap.size, 0, none⟩) (by dsimp only; omega) t2
    replace q0 := cell_aside (.slice a5 (limbs QQ).length c5) (r := ⟨w8.heap.size, 0, none⟩) (by dsimp only; omega) q0
    replace q1 := cell_aside (.slice a5 (limbs QQ).length c5) (r := ⟨w8.heap.size, 0, none⟩) (by dsimp only; omega) q1
    replace q2 := cell_aside (.slice a5 (limbs QQ).length c5) (r := ⟨w8.heap.size, 0, none⟩) (by dsimp only; omega) q2
    replace N0 := cell_aside (.slice a5 (limbs QQ).length c5) (r := ⟨w8.heap.size, 0, none⟩) (by dsimp only; omega) N0
    replace D0 := cell_aside (.slice a5 (limbs QQ).length c5) (r := ⟨w8.heap.size, 0, none⟩) (by dsimp only; omega) D0
    replace R0 := cell_aside (.slice a5 (limbs QQ).length c5) (r := ⟨w8.heap.size, 0, none⟩) (by dsimp only; omega) R0
    replace qf0 : (w19.setCell ⟨w8.heap.size, 0, none⟩ (.slice a5 (limbs QQ).length c5)).frozen? _ = false := (frozen_set _ _ _ _ _).trans qf0
    replace qf1 : (w19.setCell ⟨w8.heap.size, 0, none⟩ (.slice a5 (limbs QQ).length c5)).frozen? _ = false := (frozen_set _ _ _ _ _).trans qf1
    replace qf2 : (w19.setCell ⟨w8.heap.size, 0, none⟩ (.slice a5 (limbs QQ).length c5)).frozen? _ = false := (frozen_set _ _ _ _ _).trans qf2
    replace Nf0 : (w19.setCell ⟨w8.heap.size, 0, none⟩ (.slice a5 (limbs QQ).length c5)).frozen? _ = false := (frozen_set _ _ _ _ _).trans Nf0
    replace Df0 : (w19.setCell ⟨w8.heap.size, 0, none⟩ (.slice a5 (limbs QQ).length c5)).frozen? _ = false := (frozen_set _ _ _ _ _).trans Df0
    replace Uf0 : (w19.setCell ⟨w8.heap.size, 0, none⟩ (.slice a5 (limbs QQ).length c5)).frozen? _ = false := (frozen_set _ _ _ _ _).trans Uf0
    replace U0 : (w19.setCell ⟨w8.heap.size, 0, none⟩ (.slice a5 (limbs QQ).length c5)).cell? ⟨w8.heap.size, 0, none⟩ = some (.slice a5 (limbs QQ).length c5) := cell_on _ _ _ _ _ U0
    replace K := hide ((unhide K).setNew (p := ⟨w8.heap.size, 0, none⟩) (by dsimp only; omega) (.slice a5 (limbs QQ).length c5))
    have zs21 : (w19.setCell ⟨w8.heap.size, 0, none⟩ (.slice a5 (limbs QQ).length c5)).heap.size = w19.heap.size := by simp [World.setCell]
    clear sS0
    generalize w19.setCell ⟨w8.heap.size, 0, none⟩ (.slice a5 (limbs QQ).length c5) = ws21 at *
    go_upto_region 13 with fail
    have hsg : (SG && decide (0 < (limbs QQ).length)) = SG := by rw [unhide HQ9, decide_eq_true (len_pos_limbs pQ), Bool.and_true]
    have mk := make_spec SG ws21 r5 lml (by omega)
    rw [hsg, hnl] at mk
    clear hsg hnl HQ9
    go_wp2_with fail
    refine (mk).mono ?_
    rintro e w22 ⟨v3, rfl, r3, k22⟩
    replace r1 := r1.kp k22
    replace r2 := r2.kp k22
    replace rn := rn.kp k22
    replace rq := rq.kp k22
    replace rr := rr.kp k22
    replace rs := rs.kp k22
    replace r4 := r4.kp k22
    replace r5 := r5.kp k22
    replace qf0 := k22.loose0 (zbl q0) qf0
    replace qf1 := k22.loose0 (zbl q1) qf1
    replace qf2 := k22.loose0 (zbl q2) qf2
    replace Nf0 := k22.loose0 (zbl N0) Nf0
    replace Df0 := k22.loose0 (zbl D0) Df0
    replace Uf0 := k22.loose0 (zbl U0) Uf0
    replace p0 := k22.cell0 p0
    replace p1 := k22.cell0 p1
    replace p2 := k22.cell0 p2
    replace t0 := k22.cell0 t0
    replace t1 := k22.cell0 t1
    replace t2 := k22.cell0 t2
    replace q0 := k22.cell0 q0
    replace q1 := k22.cell0 q1
    replace q2 := k22.cell0 q2
    replace N0 := k22.cell0 N0
    replace D0 := k22.cell0 D0
    replace U0 := k22.cell0 U0
    replace R0 := k22.cell0 R0
    replace K := hide ((unhide K).trans k22)
    have z23 := k22.size
    clear k22
    clear mk
    have mk := make4_spec SG (low - 3) MQ (unhide HMQ) (by omega) (by omega) w22 r3 ⟨limbs_nrm _, fun _ => len_pos_limbs pQ⟩ (by omega)
    rw [unhide HGS, unhide HGL, unhide HGE] at mk
    go_wp2_with fail
    refine (mk).mono ?_
    rintro e w24 ⟨v8, rfl, r8, k24⟩
    replace r1 := r1.kp k24
    replace r2 := r2.kp k24
    replace rn := rn.kp k24
    replace rq := rq.kp k24
    replace rr := rr.kp k24
    replace rs := rs.kp k24
    replace r4 := r4.kp k24
    replace r5 := r5.kp k24
    replace r3 := r3.kp k24
    replace qf0 := k24.loose0 (zbl q0) qf0
    replace qf1 := k24.loose0 (zbl q1) qf1
    replace qf2 := k24.loose0 (zbl q2) qf2
    replace Nf0 := k24.loose0 (zbl N0) Nf0
    replace Df0 := k24.loose0 (zbl D0) Df0
    replace Uf0 := k24.loose0 (zbl U0) Uf0
    replace p0 := k24.cell0 p0
    replace p1 := k24.cell0 p1
    replace p2 := k24.cell0 p2
    replace t0 := k24.cell0 t0
    replace t1 := k24.cell0 t1
    replace t2 := k24.cell0 t2
    replace q0 := k24.cell0 q0
    replace q1 := k24.cell0 q1
    replace q2 := k24.cell0 q2
    replace N0 := k24.cell0 N0
    replace D0 := k24.cell0 D0
    replace U0 := k24.cell0 U0
    replace R0 := k24.cell0 R0
    replace K := hide ((unhide K).trans k24)
    have z25 := k24.size
    clear k24
    clear mk
    obtain ⟨a8, c8, hv⟩ := Row.form' r8
    subst hv
    have R := hide ((((r8.set_other (p := ⟨w.heap.size + 2, 0, none⟩) (.inl (by have := unhide S0; dsimp only; omega)) (.bool GS)).set_other (p := ⟨w.heap.size + 2, 1, none⟩) (.inl (by have := unhide S0; dsimp only; omega)) (.slice a8 GL.length c8)).set_other (p := ⟨w.heap.size + 2, 2, none⟩) (.inl (by have := unhide S0; dsimp only; omega)) (.int .i64 GE)).tight.wider (lo' := w.heap.size) (by have := unhide S0; omega) (Nat.le_refl _))
    have K7 := hide ((((unhide K).setNew (p := ⟨w.heap.size + 2, 0, none⟩) (by simp) (.bool GS)).setNew (p := ⟨w.heap.size + 2, 1, none⟩) (by simp) (.slice a8 GL.length c8)).setNew (p := ⟨w.heap.size + 2, 2, none⟩) (by simp) (.int .i64 GE))
    clear r1 r2 rn rq rr rs r4 r5 r3 r8 K 
    go_wp2_with fail
    exact bodyPost_ret (v := .agg #[.bool GS, .slice a8 GL.length c8, .int .i64 GE]) (by simp [results, Tryd.results17, go_sem, q0, q1, q2]) rfl ⟨_, rfl, unhide R, unhide K7⟩
   ·simp only [zq1, zq2, zq3]
    rw [if_pos (by rfl)]
    refine wps1 29 (.const (.int .i64 1)) _ rfl in_l2of_r (.int .i64 1) rfl (of_spec _ 1 (by omega)) ?_
    rintro e w17 ⟨v4, rfl, r4, k17⟩
    refine ⟨_, rfl, ?_⟩
    replace r1 := r1.kp k17
    replace r2 := r2.kp k17
    replace rn := rn.kp k17
    replace rq := rq.kp k17
    replace rr := rr.kp k17
    replace rs := rs.kp k17
    replace qf0 := k17.loose0 (zbl q0) qf0
    replace qf1 := k17.loose0 (zbl q1) qf1
    replace qf2 := k17.loose0 (zbl q2) qf2
    replace Nf0 := k17.loose0 (zbl N0) Nf0
    replace Df0 := k17.loose0 (zbl D0) Df0
    replace Uf0 := k17.loose0 (zbl U0) Uf0
    replace p0 := k17.cell0 p0
    replace p1 := k17.cell0 p1
    replace p2 := k17.cell0 p2
    replace t0 := k17.cell0 t0
    replace t1 := k17.cell0 t1
    replace t2 := k17.cell0 t2
    replace q0 := k17.cell0 q0
    replace q1 := k17.cell0 q1
    replace q2 := k17.cell0 q2
    replace N0 := k17.cell0 N0
    replace D0 := k17.cell0 D0
    replace U0 := k17.cell0 U0
    replace R0 := k17.cell0 R0
    replace K := hide ((unhide K).trans k17)
    have z18 := k17.size
    clear k17
    obtain ⟨a4, c4, hv⟩ := Row.form' r4
    subst hv
    clear hH
    refine hK.out _ _ ?_ (fun hH => ?_)
    ·exact trivial
    clear hK KK
    try simp only [Act.put, zq1, zq2, zq3, zq4, zq5, zq6]
    refine wpAnyH_ready (rs := [0]) (by kernel_rfl) (by simp) ?_
    refine AllReadyH.cons rfl (fun KK hK => ?_) AllReadyH.nil
    simp only [zq1, zq2, zq3]
    rw [if_pos (by rfl)]
    go_simp
    clear hH
    refine hK.out _ _ ?_ (fun hH => ?_)
    ·exact trivial
    clear hK KK
    try simp only [Act.put, zq1, zq2, zq3, zq4, zq5, zq6]
    refine wpAnyH_ready (rs := [2]) (by kernel_rfl) (by simp) ?_
    refine AllReadyH.cons rfl (fun KK hK => ?_) AllReadyH.nil
    simp only [zq1, zq2, zq3]
    rw [if_pos (by rfl)]
    refine wps2 36 (.tmp 54) (.tmp 55) _ rfl in_l2add_r (.agg #[.slice ah (limbs (QN * 2)).length ch]) (.agg #[.slice a4 (limbs (1 : Int).toNat).length c4]) rfl rfl (add_spec _ rs r4 (limbs_lim _) (limbs_lim _) (by omega) (by decide)) ?_
    rintro e w19 ⟨v5, rfl, r5, k19⟩
    refine ⟨_, rfl, ?_⟩
    replace r1 := r1.kp k19
    replace r2 := r2.kp k19
    replace rn := rn.kp k19
    replace rq := rq.kp k19
    replace rr := rr.kp k19
    replace rs := rs.kp k19
    replace r4 := r4.kp k19
    replace qf0 := k19.loose0 (zbl q0) qf0
    replace qf1 := k19.loose0 (zbl q1) qf1
    replace qf2 := k19.loose0 (zbl q2) qf2
    replace Nf0 := k19.loose0 (zbl N0) Nf0
    replace Df0 := k19.loose0 (zbl D0) Df0
    replace Uf0 := k19.loose0 (zbl U0) Uf0
    replace p0 := k19.cell0 p0
    replace p1 := k19.cell0 p1
    replace p2 := k19.cell0 p2
    replace t0 := k19.cell0 t0
    replace t1 := k19.cell0 t1
    replace t2 := k19.cell0 t2
    replace q0 := k19.cell0 q0
    replace q1 := k19.cell0 q1
    replace q2 := k19.cell0 q2
    replace N0 := k19.cell0 N0
    replace D0 := k19.cell0 D0
    replace U0 := k19.cell0 U0
    replace R0 := k19.cell0 R0
    replace K := hide ((unhide K).trans k19)
    have z20 := k19.size
    clear k19
    rw [eS] at r5
    clear hH
    refine hK.out _ _ ?_ (fun hH => ?_)
    ·exact trivial
    clear hK KK
    try simp only [Act.put, zq1, zq2, zq3, zq4, zq5, zq6]
    obtain ⟨a5, c5, hv⟩ := Row.form' r5
    subst hv
    refine wpAnyH_ready (rs := [3]) (by kernel_rfl) (by simp) ?_
    refine AllReadyH.cons rfl (fun KK hK => ?_) AllReadyH.nil
    simp only [zq1, zq2, zq3]
    rw [if_pos (by rfl)]
    go_simp
    clear hH
    refine hK.out _ _ ?_ (fun hH => ?_)
    ·trivial
    clear hK KK
    try simp only [Act.put, zq1, zq2, zq3, zq4, zq5, zq6]
    refine wpAnyH_done (by kernel_rfl) ?_ _
    clear hH
    try go_simp
    have sS0 := unhide S0
    replace r1 := r1.set_other (p := ⟨w8.heap.size, 0, none⟩) (by dsimp only; omega) (.slice a5 (limbs QQ).length c5)
    replace r2 := r2.set_other (p := ⟨w8.heap.size, 0, none⟩) (by dsimp only; omega) (.slice a5 (limbs QQ).length c5)
    replace rn := rn.set_other (p := ⟨w8.heap.size, 0, none⟩) (by dsimp only; omega) (.slice a5 (limbs QQ).length c5)
    replace rq := rq.set_other (p := ⟨w8.heap.size, 0, none⟩) (by dsimp only; omega) (.slice a5 (limbs QQ).length c5)
    replace rr := rr.set_other (p := ⟨w8.heap.size, 0, none⟩) (by dsimp only; omega) (.slice a5 (limbs QQ).length c5)
    replace rs := rs.set_other (p := ⟨w8.heap.size, 0, none⟩) (by dsimp only; omega) (.slice a5 (limbs QQ).length c5)
    replace r4 := r4.set_other (p := ⟨w8.heap.size, 0, none⟩) (by dsimp only; omega) (.slice a5 (limbs QQ).length c5)
    replace r5 := r5.set_other (p := ⟨w8.heap.size, 0, none⟩) (by dsimp only; omega) (.slice a5 (limbs QQ).length c5)
    replace p0 := cell_aside (.slice a5 (limbs QQ).length c5) (r := ⟨w8.heap.size, 0, none⟩) (by dsimp only; omega) p0
    replace p1 := cell_aside (.slice a5 (limbs QQ).length c5) (r := ⟨w8.heap.size, 0, none⟩) (by dsimp only; omega) p1
    replace p2 := cell_aside (.slice a5 (limbs QQ).length c5) (r := ⟨w8.heap.size, 0, none⟩) (by dsimp only; omega) p2
    replace t0 := cell_aside (.slice a5 (limbs QQ).length c5) (r := ⟨w8.heap.size, 0, none⟩) (by dsimp only; omega) t0
    replace t1 := cell_aside (.slice a5 (limbs QQ).length c5) (r := ⟨w8.heap.size, 0, none⟩) (by dsimp only; omega) t1
    replace t2 := cell_aside (.slice a5 (limbs QQ).length c5) (r := ⟨w8.heap.size, 0, none⟩) (by dsimp only; omega) t2
    replace q0 := cell_aside (.slice a5 (limbs QQ).length c5) (r := ⟨w8.heap.size, 0, none⟩) (by dsimp only; omega) q0
    replace q1 := cell_aside (.slice a5 (limbs QQ).length c5) (r := ⟨w8.heap.size, 0, none⟩) (by dsimp only; omega) q1
    replace q2 := cell_aside (.slice a5 (limbs QQ).length c5) (r := ⟨w8.heap.size, 0, none⟩) (by dsimp only; omega) q2
    replace N0 := cell_aside (.slice a5 (limbs QQ).length c5) (r := ⟨w8.heap.size, 0, none⟩) (by dsimp only; omega) N0
    replace D0 := cell_aside (.slice a5 (limbs QQ).length c5) (r := ⟨w8.heap.size, 0, none⟩) (by dsimp only; omega) D0
    replace R0 := cell_aside (.slice a5 (limbs QQ).length c5) (r := ⟨w8.heap.size, 0, none⟩) (by dsimp only; omega) R0
    replace qf0 : (w19.setCell ⟨w8.heap.size, 0, none⟩ (.slice a5 (limbs QQ).length c5)).frozen? _ = false := (frozen_set _ _ _ _ _).trans qf0
    replace qf1 : (w19.setCell ⟨w8.heap.size, 0, none⟩ (.slice a5 (limbs QQ).length c5)).frozen? _ = false := (frozen_set _ _ _ _ _).trans qf1
    replace qf2 : (w19.setCell ⟨w8.heap.size, 0, none⟩ (.slice a5 (limbs QQ).length c5)).frozen? _ = false := (frozen_set _ _ _ _ _).trans qf2
    replace Nf0 : (w19.setCell ⟨w8.heap.size, 0, none⟩ (.slice a5 (limbs QQ).length c5)).frozen? _ = false := (frozen_set _ _ _ _ _).trans Nf0
    replace Df0 : (w19.setCell ⟨w8.heap.size, 0, none⟩ (.slice a5 (limbs QQ).length c5)).frozen? _ = false := (frozen_set _ _ _ _ _).trans Df0
    replace Uf0 : (w19.setCell ⟨w8.heap.size, 0, none⟩ (.slice a5 (limbs QQ).length c5)).frozen? _ = false := (frozen_set _ _ _ _ _).trans Uf0
    replace U0 : (w19.setCell ⟨w8.heap.size, 0, none⟩ (.slice a5 (limbs QQ).length c5)).cell? ⟨w8.heap.size, 0, none⟩ = some (.slice a5 (limbs QQ).length c5) := cell_on _ _ _ _ _ U0
    replace K := hide ((unhide K).setNew (p := ⟨w8.heap.size, 0, none⟩) (by dsimp only; omega) (.slice a5 (limbs QQ).length c5))
    have zs21 : (w19.setCell ⟨w8.heap.size, 0, none⟩ (.slice a5 (limbs QQ).length c5)).heap.size = w19.heap.size := by simp [World.setCell]
    clear sS0
    generalize w19.setCell ⟨w8.heap.size, 0, none⟩ (.slice a5 (limbs QQ).length c5) = ws21 at *
    go_upto_region 13 with fail
    have hsg : (SG && decide (0 < (limbs QQ).length)) = SG := by rw [unhide HQ9, decide_eq_true (len_pos_limbs pQ), Bool.and_true]
    have mk := make_spec SG ws21 r5 lml (by omega)
    rw [hsg, hnl] at mk
    clear hsg hnl HQ9
    go_wp2_with fail
    refine (mk).mono ?_
    rintro e w22 ⟨v3, rfl, r3, k22⟩
    replace r1 := r1.kp k22
    replace r2 := r2.kp k22
    replace rn := rn.kp k22
    replace rq := rq.kp k22
    replace rr := rr.kp k22
    replace rs := rs.kp k22
    replace r4 := r4.kp k22
    replace r5 := r5.kp k22
    replace qf0 := k22.loose0 (zbl q0) qf0
    replace qf1 := k22.loose0 (zbl q1) qf1
    replace qf2 := k22.loose0 (zbl q2) qf2
    replace Nf0 := k22.loose0 (zbl N0) Nf0
    replace Df0 := k22.loose0 (zbl D0) Df0
    replace Uf0 := k22.loose0 (zbl U0) Uf0
    replace p0 := k22.cell0 p0
    replace p1 := k22.cell0 p1
    replace p2 := k22.cell0 p2
    replace t0 := k22.cell0 t0
    replace t1 := k22.cell0 t1
    replace t2 := k22.cell0 t2
    replace q0 := k22.cell0 q0
    replace q1 := k22.cell0 q1
    replace q2 := k22.cell0 q2
    replace N0 := k22.cell0 N0
    replace D0 := k22.cell0 D0
    replace U0 := k22.cell0 U0
    replace R0 := k22.cell0 R0
    replace K := hide ((unhide K).trans k22)
    have z23 := k22.size
    clear k22
    clear mk
    have mk := make4_spec SG (low - 3) MQ (unhide HMQ) (by omega) (by omega) w22 r3 ⟨limbs_nrm _, fun _ => len_pos_limbs pQ⟩ (by omega)
    rw [unhide HGS, unhide HGL, unhide HGE] at mk
    go_wp2_with fail
    refine (mk).mono ?_
    rintro e w24 ⟨v8, rfl, r8, k24⟩
    replace r1 := r1.kp k24
    replace r2 := r2.kp k24
    replace rn := rn.kp k24
    replace rq := rq.kp k24
    replace rr := rr.kp k24
    replace rs := rs.kp k24
    replace r4 := r4.kp k24
    replace r5 := r5.kp k24
    replace r3 := r3.kp k24
    replace qf0 := k24.loose0 (zbl q0) qf0
    replace qf1 := k24.loose0 (zbl q1) qf1
    replace qf2 := k24.loose0 (zbl q2) qf2
    replace Nf0 := k24.loose0 (zbl N0) Nf0
    replace Df0 := k24.loose0 (zbl D0) Df0
    replace Uf0 := k24.loose0 (zbl U0) Uf0
    replace p0 := k24.cell0 p0
    replace p1 := k24.cell0 p1
    replace p2 := k24.cell0 p2
    replace t0 := k24.cell0 t0
    replace t1 := k24.cell0 t1
    replace t2 := k24.cell0 t2
    replace q0 := k24.cell0 q0
    replace q1 := k24.cell0 q1
    replace q2 := k24.cell0 q2
    replace N0 := k24.cell0 N0
    replace D0 := k24.cell0 D0
    replace U0 := k24.cell0 U0
    replace R0 := k24.cell0 R0
    replace K := hide ((unhide K).trans k24)
    have z25 := k24.size
    clear k24
    clear mk
    obtain ⟨a8, c8, hv⟩ := Row.form' r8
    subst hv
    have R := hide ((((r8.set_other (p := ⟨w.heap.size + 2, 0, none⟩) (.inl (by have := unhide S0; dsimp only; omega)) (.bool GS)).set_other (p := ⟨w.heap.size + 2, 1, none⟩) (.inl (by have := unhide S0; dsimp only; omega)) (.slice a8 GL.length c8)).set_other (p := ⟨w.heap.size + 2, 2, none⟩) (.inl (by have := unhide S0; dsimp only; omega)) (.int .i64 GE)).tight.wider (lo' := w.heap.size) (by have := unhide S0; omega) (Nat.le_refl _))
    have K7 := hide ((((unhide K).setNew (p := ⟨w.heap.size + 2, 0, none⟩) (by simp) (.bool GS)).setNew (p := ⟨w.heap.size + 2, 1, none⟩) (by simp) (.slice a8 GL.length c8)).setNew (p := ⟨w.heap.size + 2, 2, none⟩) (by simp) (.int .i64 GE))
    clear r1 r2 rn rq rr rs r4 r5 r3 r8 K 
    go_wp2_with fail
    exact bodyPost_ret (v := .agg #[.bool GS, .slice a8 GL.length c8, .int .i64 GE]) (by simp [results, Tryd.results17, go_sem, q0, q1, q2]) rfl ⟨_, rfl, unhide R, unhide K7⟩

end Go.Proofs.YtflpkblmcnkghaaDoor

