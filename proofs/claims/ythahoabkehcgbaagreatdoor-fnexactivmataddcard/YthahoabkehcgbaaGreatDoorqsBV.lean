/-
  Contracts that the proofs of this seat share: Val, Pl1.
-/
import Derived.Test.YthahoabkehcgbaaGreatDoorqsDy7
import Derived.Deep.DeepCutAuto
import Derived.Test.YthahoabkehcgbaaGreatDoorqsBM
import Derived.Test.YthahoabkehcgbaaGreatDoorqsBQ
namespace Go.Proofs.YthahoabkehcgbaaGreatDoor
open Go.RowKit
set_option linter.unusedVariables false
set_option maxRecDepth 8000
set_option linter.unusedSimpArgs false

end Go.Proofs.YthahoabkehcgbaaGreatDoor

namespace Go.Proofs.YthahoabkehcgbaaGreatDoor
open Go.RowKit
set_option linter.unusedVariables false
set_option maxRecDepth 8000
set_option linter.unusedSimpArgs false

theorem dex_range (m x : Int) (h1 : x ≤ 1000000) (h0 : -1000000 ≤ x) {K : Nat} (hm : m.natAbs < 2 ^ K) (hK : K ≤ 800000) : dex m x ≤ 9223372036854775807 ∧ -9223372036854775808 ≤ dex m x := by
  unfold dex
  split
  · omega
  · rename_i h
    have := tz_lt (n := m.natAbs) (by omega) hm
    omega
theorem wval_lt {s : Bool} {zs : List Int} (h : Lim zs) : (wval s zs).natAbs < 2 ^ (16 * zs.length) := by
  rw [wval_abs h]
  have h1 := val_lt h
  have h2 := val_nonneg h
  rw [pow_limb] at h1
  omega
end Go.Proofs.YthahoabkehcgbaaGreatDoor

namespace Go.Proofs.YthahoabkehcgbaaGreatDoor
open Go.RowKit
set_option linter.unusedVariables false
set_option maxRecDepth 8000
set_option linter.unusedSimpArgs false

theorem wn_int (m : Int) : WN (wsg m) (wlm m) := by
  refine ⟨limbs_nrm _, fun h => ?_⟩
  have h1 : m < 0 := of_decide_eq_true h
  have := limbs_pos m.natAbs
  rw [decide_eq_true (show 0 < m.natAbs by omega)] at this
  exact of_decide_eq_true this
theorem wlm_len {m : Int} {A n : Nat} (h : m.natAbs < 2 ^ A) (hn : A ≤ 16 * n) : (wlm m).length ≤ n := by
  refine (limbs_length_le _ _).2 ?_
  rw [pow_limb]
  have := Nat.lt_of_lt_of_le h (Nat.pow_le_pow_right (n := 2) (by decide) hn)
  omega
theorem add_lt {a b : Int} {A : Nat} (ha : a.natAbs < 2 ^ A) (hb : b.natAbs < 2 ^ A) : (a + b).natAbs < 2 ^ (A + 1) := by
  have := Int.natAbs_add_le a b
  rw [Nat.pow_succ]
  omega
theorem shl_lt {a : Int} {A : Nat} (k : Nat) (ha : a.natAbs < 2 ^ A) : (a * 2 ^ k).natAbs < 2 ^ (A + k) := by
  rw [Int.natAbs_mul, Int.natAbs_pow, Nat.pow_add]
  exact Nat.mul_lt_mul_of_pos_right ha (Nat.pow_pos (by decide))
theorem lt_up {n A E : Nat} (h : n < 2 ^ A) (hl : A ≤ E) : n < 2 ^ E := Nat.lt_of_lt_of_le h (Nat.pow_le_pow_right (by decide) hl)
theorem al_ltW {s : Bool} {zs : List Int} (h : Lim zs) (hl : zs.length ≤ 3000) (k : Nat) (hk : k ≤ 80000) {A : Nat} (hA : A = 128000) : (wval s zs * 2 ^ k).natAbs < 2 ^ A :=
  lt_up (shl_lt k (wval_lt h)) (by omega)
theorem alg_leW {m1 x1 m2 x2 E : Int} (h : Alg m1 x1 m2 x2 E) (h1 : -40000 ≤ x1) (h2 : x1 ≤ 40000) (h3 : -40000 ≤ x2) (h4 : x2 ≤ 40000) : (x1 - E).toNat ≤ 80000 ∧ (x2 - E).toNat ≤ 80000 ∧ -40000 ≤ E ∧ E ≤ 40000 := by
  have := h.lo
  have := h.hi
  omega
theorem sum_alg {m1 x1 m2 x2 E : Int} (h : Alg m1 x1 m2 x2 E) : (m1 * 2 ^ (x1 - E).toNat + m2 * 2 ^ (x2 - E).toNat) * 2 ^ (E - min x1 x2).toNat = m1 * 2 ^ (x1 - min x1 x2).toNat + m2 * 2 ^ (x2 - min x1 x2).toNat := by
  rw [Int.add_mul, ← pow_split m1 h.a1 h.lo, ← pow_split m2 h.a2 h.lo]
/-- A sum in its one form does not hang on the power of two that both are written with. -/
theorem sum_form {m1 x1 m2 x2 E : Int} (h : Alg m1 x1 m2 x2 E) : dlm (m1 * 2 ^ (x1 - E).toNat + m2 * 2 ^ (x2 - E).toNat) = dlm (m1 * 2 ^ (x1 - min x1 x2).toNat + m2 * 2 ^ (x2 - min x1 x2).toNat) ∧ dex (m1 * 2 ^ (x1 - E).toNat + m2 * 2 ^ (x2 - E).toNat) E = dex (m1 * 2 ^ (x1 - min x1 x2).toNat + m2 * 2 ^ (x2 - min x1 x2).toNat) (min x1 x2) ∧ wsg (m1 * 2 ^ (x1 - E).toNat + m2 * 2 ^ (x2 - E).toNat) = wsg (m1 * 2 ^ (x1 - min x1 x2).toNat + m2 * 2 ^ (x2 - min x1 x2).toNat) := by
  obtain ⟨e1, e2, e3⟩ := d_shift (m1 * 2 ^ (x1 - E).toNat + m2 * 2 ^ (x2 - E).toNat) E (E - min x1 x2).toNat
  rw [sum_alg h] at e1 e2 e3
  have hl := h.lo
  rw [show E - ((E - min x1 x2).toNat : Int) = min x1 x2 by omega] at e2
  exact ⟨e1.symm, e2.symm, e3.symm⟩
theorem in_l4add : ∀ (w : World) (args : Array Value), (callFunc 124 args).run Tryz.prog w = .ok (.enter 124 args) w := enters Tryz.func124 (by decide) (fun h => by cases h)

set_option maxHeartbeats 4000000 in
theorem add4_wide {b1 b2 : Bool} {l1 h1 l2 h2 : Nat} {v1 v2 : Value} {xs ys : List Int} (s1 s2 : Bool) (x1 x2 : Int) (w : World) (r1 : Row .i64 b1 l1 h1 w v1 xs) (r2 : Row .i64 b2 l2 h2 w v2 ys) (o1 : WB s1 xs x1) (o2 : WB s2 ys x2) :
    Calls Tryz.prog 124 #[.agg #[.bool s1, v1, .int .i64 x1], .agg #[.bool s2, v2, .int .i64 x2]] w fun e w' => ∃ v', e = .returned (.agg #[.bool (wsg (wval s1 xs * 2 ^ (x1 - min x1 x2).toNat + wval s2 ys * 2 ^ (x2 - min x1 x2).toNat)), v', .int .i64 (dex (wval s1 xs * 2 ^ (x1 - min x1 x2).toNat + wval s2 ys * 2 ^ (x2 - min x1 x2).toNat) (min x1 x2))]) ∧ Row .i64 true w.heap.size w'.heap.size w' v' (dlm (wval s1 xs * 2 ^ (x1 - min x1 x2).toNat + wval s2 ys * 2 ^ (x2 - min x1 x2).toNat)) ∧ Kept 0 0 w w' := by
  have f1 := o1.2.2.1
  have f2 := o1.2.2.2
  have f3 := o2.2.2.1
  have f4 := o2.2.2.2
  have lx := o1.2.1
  have ly := o2.2.1
  have hx := o1.1.1
  have hy := o2.1.1
  obtain ⟨SG, hSG⟩ : ∃ y, wsg (wval s1 xs * 2 ^ (x1 - min x1 x2).toNat + wval s2 ys * 2 ^ (x2 - min x1 x2).toNat) = y := ⟨_, rfl⟩
  obtain ⟨ZM, hZM⟩ : ∃ y, dlm (wval s1 xs * 2 ^ (x1 - min x1 x2).toNat + wval s2 ys * 2 ^ (x2 - min x1 x2).toNat) = y := ⟨_, rfl⟩
  obtain ⟨EX, hEX⟩ : ∃ y, dex (wval s1 xs * 2 ^ (x1 - min x1 x2).toNat + wval s2 ys * 2 ^ (x2 - min x1 x2).toNat) (min x1 x2) = y := ⟨_, rfl⟩
  rw [hSG, hZM, hEX]
  have HSG := hide hSG
  have HZM := hide hZM
  have HEX := hide hEX
  clear hSG hZM hEX
  have k0 : Kept 0 0 w (((w.alloc (.cells #[.bool s1, v1, .int .i64 x1] 52)).alloc (.cells #[.bool s2, v2, .int .i64 x2] 52)).alloc (.cells #[.bool false, .slice none 0 0, .int .i64 0] 52)) := ((((Kept.refl 0 0 w).alloc (.cells #[.bool s1, v1, .int .i64 x1] 52)).alloc (.cells #[.bool s2, v2, .int .i64 x2] 52)).alloc (.cells #[.bool false, .slice none 0 0, .int .i64 0] 52))
  have p0 : (((w.alloc (.cells #[.bool s1, v1, .int .i64 x1] 52)).alloc (.cells #[.bool s2, v2, .int .i64 x2] 52)).alloc (.cells #[.bool false, .slice none 0 0, .int .i64 0] 52)).cell? ⟨w.heap.size, 0, none⟩ = some (.bool s1) := old_cell _ (old_cell _ (new_cell2 _ _ _ _ _ _ (by simp) rfl))
  have p1 : (((w.alloc (.cells #[.bool s1, v1, .int .i64 x1] 52)).alloc (.cells #[.bool s2, v2, .int .i64 x2] 52)).alloc (.cells #[.bool false, .slice none 0 0, .int .i64 0] 52)).cell? ⟨w.heap.size, 1, none⟩ = some (v1) := old_cell _ (old_cell _ (new_cell2 _ _ _ _ _ _ (by simp) rfl))
  have p2 : (((w.alloc (.cells #[.bool s1, v1, .int .i64 x1] 52)).alloc (.cells #[.bool s2, v2, .int .i64 x2] 52)).alloc (.cells #[.bool false, .slice none 0 0, .int .i64 0] 52)).cell? ⟨w.heap.size, 2, none⟩ = some (.int .i64 x1) := old_cell _ (old_cell _ (new_cell2 _ _ _ _ _ _ (by simp) rfl))
  have t0 : (((w.alloc (.cells #[.bool s1, v1, .int .i64 x1] 52)).alloc (.cells #[.bool s2, v2, .int .i64 x2] 52)).alloc (.cells #[.bool false, .slice none 0 0, .int .i64 0] 52)).cell? ⟨w.heap.size + 1, 0, none⟩ = some (.bool s2) := old_cell _ (new_cell2 _ _ _ _ _ _ (by simp) rfl)
  have t1 : (((w.alloc (.cells #[.bool s1, v1, .int .i64 x1] 52)).alloc (.cells #[.bool s2, v2, .int .i64 x2] 52)).alloc (.cells #[.bool false, .slice none 0 0, .int .i64 0] 52)).cell? ⟨w.heap.size + 1, 1, none⟩ = some (v2) := old_cell _ (new_cell2 _ _ _ _ _ _ (by simp) rfl)
  have t2 : (((w.alloc (.cells #[.bool s1, v1, .int .i64 x1] 52)).alloc (.cells #[.bool s2, v2, .int .i64 x2] 52)).alloc (.cells #[.bool false, .slice none 0 0, .int .i64 0] 52)).cell? ⟨w.heap.size + 1, 2, none⟩ = some (.int .i64 x2) := old_cell _ (new_cell2 _ _ _ _ _ _ (by simp) rfl)
  have q0 : (((w.alloc (.cells #[.bool s1, v1, .int .i64 x1] 52)).alloc (.cells #[.bool s2, v2, .int .i64 x2] 52)).alloc (.cells #[.bool false, .slice none 0 0, .int .i64 0] 52)).cell? ⟨w.heap.size + 2, 0, none⟩ = some (.bool false) := new_cell2 _ _ _ _ _ _ (by simp) rfl
  have qf0 : (((w.alloc (.cells #[.bool s1, v1, .int .i64 x1] 52)).alloc (.cells #[.bool s2, v2, .int .i64 x2] 52)).alloc (.cells #[.bool false, .slice none 0 0, .int .i64 0] 52)).frozen? ⟨w.heap.size + 2, 0, none⟩ = false := new_loose2 _ _ _ _ _ (by simp)
  have q1 : (((w.alloc (.cells #[.bool s1, v1, .int .i64 x1] 52)).alloc (.cells #[.bool s2, v2, .int .i64 x2] 52)).alloc (.cells #[.bool false, .slice none 0 0, .int .i64 0] 52)).cell? ⟨w.heap.size + 2, 1, none⟩ = some (.slice none 0 0) := new_cell2 _ _ _ _ _ _ (by simp) rfl
  have qf1 : (((w.alloc (.cells #[.bool s1, v1, .int .i64 x1] 52)).alloc (.cells #[.bool s2, v2, .int .i64 x2] 52)).alloc (.cells #[.bool false, .slice none 0 0, .int .i64 0] 52)).frozen? ⟨w.heap.size + 2, 1, none⟩ = false := new_loose2 _ _ _ _ _ (by simp)
  have q2 : (((w.alloc (.cells #[.bool s1, v1, .int .i64 x1] 52)).alloc (.cells #[.bool s2, v2, .int .i64 x2] 52)).alloc (.cells #[.bool false, .slice none 0 0, .int .i64 0] 52)).cell? ⟨w.heap.size + 2, 2, none⟩ = some (.int .i64 0) := new_cell2 _ _ _ _ _ _ (by simp) rfl
  have qf2 : (((w.alloc (.cells #[.bool s1, v1, .int .i64 x1] 52)).alloc (.cells #[.bool s2, v2, .int .i64 x2] 52)).alloc (.cells #[.bool false, .slice none 0 0, .int .i64 0] 52)).frozen? ⟨w.heap.size + 2, 2, none⟩ = false := new_loose2 _ _ _ _ _ (by simp)
  replace r1 := r1.kept k0 (by omega)
  replace r2 := r2.kept k0 (by omega)
  have s0 : (((w.alloc (.cells #[.bool s1, v1, .int .i64 x1] 52)).alloc (.cells #[.bool s2, v2, .int .i64 x2] 52)).alloc (.cells #[.bool false, .slice none 0 0, .int .i64 0] 52)).heap.size = w.heap.size + 3 := by simp
  obtain ⟨a1, c1, hv⟩ := Row.form' r1
  subst hv
  obtain ⟨a2, c2, hv⟩ := Row.form' r2
  subst hv
  have K := hide (k0)
  clear k0
  have S0 := hide s0
  clear s0
  go_enter Tryz.func124, Tryz.ntmps124
  go_wp2_with fail
  generalize (((w.alloc (.cells #[.bool s1, .slice a1 xs.length c1, .int .i64 x1] 52)).alloc (.cells #[.bool s2, .slice a2 ys.length c2, .int .i64 x2] 52)).alloc (.cells #[.bool false, .slice none 0 0, .int .i64 0] 52)) = W at *
  refine (align4_wide s1 s2 x1 x2 _ r1 r2 o1 o2).mono ?_
  rintro e w1 ⟨u1, u2, sA, sB, zA, zB, E, rfl, ra, rb, ⟨m1, m2, la, lb, al, g1, g2⟩, k1⟩
  replace r1 := r1.kept k1 (by omega)
  replace r2 := r2.kept k1 (by omega)
  replace qf0 := k1.loose0 (World.block_lt_of_cell? _ _ q0) qf0
  replace qf1 := k1.loose0 (World.block_lt_of_cell? _ _ q1) qf1
  replace qf2 := k1.loose0 (World.block_lt_of_cell? _ _ q2) qf2
  replace p0 := k1.cell0 p0
  replace p1 := k1.cell0 p1
  replace p2 := k1.cell0 p2
  replace t0 := k1.cell0 t0
  replace t1 := k1.cell0 t1
  replace t2 := k1.cell0 t2
  replace q0 := k1.cell0 q0
  replace q1 := k1.cell0 q1
  replace q2 := k1.cell0 q2
  replace K := hide ((unhide K).trans k1)
  have z2 := k1.size
  clear k1
  obtain ⟨j1, j2, j3, j4⟩ := alg_leW al f1 f2 f3 f4
  obtain ⟨e1, e2, e3⟩ := sum_form al
  rw [unhide HZM] at e1
  rw [unhide HEX] at e2
  rw [unhide HSG] at e3
  rw [← g1, ← g2] at e1 e2 e3
  obtain ⟨M, hM⟩ : ∃ M, wval sA zA + wval sB zB = M := ⟨_, rfl⟩
  obtain ⟨A, hA⟩ : ∃ A : Nat, A = 128000 := ⟨_, rfl⟩
  have hMl : M.natAbs < 2 ^ (A + 1) := by rw [← hM, g1, g2]; exact add_lt (al_ltW hx.1 lx _ j1 hA) (al_ltW hy.1 ly _ j2 hA)
  rw [hM] at e1 e2 e3
  have wn := wn_int M
  have ln : (wlm M).length ≤ 8100 := wlm_len hMl (by omega)
  clear al g1 g2 j1 j2 hMl hA A
  obtain ⟨a5, c5, hv⟩ := Row.form' ra
  subst hv
  obtain ⟨a6, c6, hv⟩ := Row.form' rb
  subst hv
  have kn := (Kept.refl 0 0 w1).alloc (.cells #[.bool sA, .slice a5 zA.length c5] 50)
  have dA0 : (w1.alloc (.cells #[.bool sA, .slice a5 zA.length c5] 50)).cell? ⟨w1.heap.size, 0, none⟩ = some (.bool sA) := new_cell2 _ _ _ _ _ _ (by simp) rfl
  have dA1 : (w1.alloc (.cells #[.bool sA, .slice a5 zA.length c5] 50)).cell? ⟨w1.heap.size, 1, none⟩ = some (.slice a5 zA.length c5) := new_cell2 _ _ _ _ _ _ (by simp) rfl
  have sz3 : w1.heap.size + 1 ≤ (w1.alloc (.cells #[.bool sA, .slice a5 zA.length c5] 50)).heap.size := by simp
  replace r1 := r1.kept kn (by omega)
  replace r2 := r2.kept kn (by omega)
  replace ra := ra.kept kn (by omega)
  replace rb := rb.kept kn (by omega)
  replace qf0 := kn.loose0 (World.block_lt_of_cell? _ _ q0) qf0
  replace qf1 := kn.loose0 (World.block_lt_of_cell? _ _ q1) qf1
  replace qf2 := kn.loose0 (World.block_lt_of_cell? _ _ q2) qf2
  replace p0 := kn.cell0 p0
  replace p1 := kn.cell0 p1
  replace p2 := kn.cell0 p2
  replace t0 := kn.cell0 t0
  replace t1 := kn.cell0 t1
  replace t2 := kn.cell0 t2
  replace q0 := kn.cell0 q0
  replace q1 := kn.cell0 q1
  replace q2 := kn.cell0 q2
  replace K := hide ((unhide K).trans kn)
  have z4 := kn.size
  clear kn
  have kn := (Kept.refl 0 0 (w1.alloc (.cells #[.bool sA, .slice a5 zA.length c5] 50))).alloc (.cells #[.bool sB, .slice a6 zB.length c6] 50)
  have dB0 : ((w1.alloc (.cells #[.bool sA, .slice a5 zA.length c5] 50)).alloc (.cells #[.bool sB, .slice a6 zB.length c6] 50)).cell? ⟨w1.heap.size + 1, 0, none⟩ = some (.bool sB) := new_cell2 _ _ _ _ _ _ (by simp) rfl
  have dB1 : ((w1.alloc (.cells #[.bool sA, .slice a5 zA.length c5] 50)).alloc (.cells #[.bool sB, .slice a6 zB.length c6] 50)).cell? ⟨w1.heap.size + 1, 1, none⟩ = some (.slice a6 zB.length c6) := new_cell2 _ _ _ _ _ _ (by simp) rfl
  have sz5 : (w1.alloc (.cells #[.bool sA, .slice a5 zA.length c5] 50)).heap.size + 1 ≤ ((w1.alloc (.cells #[.bool sA, .slice a5 zA.length c5] 50)).alloc (.cells #[.bool sB, .slice a6 zB.length c6] 50)).heap.size := by simp
  replace r1 := r1.kept kn (by omega)
  replace r2 := r2.kept kn (by omega)
  replace ra := ra.kept kn (by omega)
  replace rb := rb.kept kn (by omega)
  replace qf0 := kn.loose0 (World.block_lt_of_cell? _ _ q0) qf0
  replace qf1 := kn.loose0 (World.block_lt_of_cell? _ _ q1) qf1
  replace qf2 := kn.loose0 (World.block_lt_of_cell? _ _ q2) qf2
  replace p0 := kn.cell0 p0
  replace p1 := kn.cell0 p1
  replace p2 := kn.cell0 p2
  replace t0 := kn.cell0 t0
  replace t1 := kn.cell0 t1
  replace t2 := kn.cell0 t2
  replace q0 := kn.cell0 q0
  replace q1 := kn.cell0 q1
  replace q2 := kn.cell0 q2
  replace dA0 := kn.cell0 dA0
  replace dA1 := kn.cell0 dA1
  replace K := hide ((unhide K).trans kn)
  have z6 := kn.size
  clear kn
  go_wp2_with fail
  generalize ((w1.alloc (.cells #[.bool sA, .slice a5 zA.length c5] 50)).alloc (.cells #[.bool sB, .slice a6 zB.length c6] 50)) = wn7 at *
  have mk := add3_spec sA sB wn7 ra rb m1.1 m2.1 (by omega) (by omega)
  rw [hM] at mk
  refine (mk).mono ?_
  rintro e w8 ⟨v7, rfl, r7, k8⟩
  replace r1 := r1.kept k8 (by omega)
  replace r2 := r2.kept k8 (by omega)
  replace ra := ra.kept k8 (by omega)
  replace rb := rb.kept k8 (by omega)
  replace qf0 := k8.loose0 (World.block_lt_of_cell? _ _ q0) qf0
  replace qf1 := k8.loose0 (World.block_lt_of_cell? _ _ q1) qf1
  replace qf2 := k8.loose0 (World.block_lt_of_cell? _ _ q2) qf2
  replace p0 := k8.cell0 p0
  replace p1 := k8.cell0 p1
  replace p2 := k8.cell0 p2
  replace t0 := k8.cell0 t0
  replace t1 := k8.cell0 t1
  replace t2 := k8.cell0 t2
  replace q0 := k8.cell0 q0
  replace q1 := k8.cell0 q1
  replace q2 := k8.cell0 q2
  replace dA0 := k8.cell0 dA0
  replace dA1 := k8.cell0 dA1
  replace dB0 := k8.cell0 dB0
  replace dB1 := k8.cell0 dB1
  replace K := hide ((unhide K).trans k8)
  have z9 := k8.size
  clear k8
  clear mk
  go_wp2_with fail
  have mk := make4_spec (wsg M) E M (wval_int M) (by omega) (by omega) w8 r7 wn (by omega)
  rw [e1, e2, e3] at mk
  refine (mk).mono ?_
  rintro e w10 ⟨v8, rfl, r8, k10⟩
  replace r1 := r1.kept k10 (by omega)
  replace r2 := r2.kept k10 (by omega)
  replace ra := ra.kept k10 (by omega)
  replace rb := rb.kept k10 (by omega)
  replace r7 := r7.kept k10 (by omega)
  replace qf0 := k10.loose0 (World.block_lt_of_cell? _ _ q0) qf0
  replace qf1 := k10.loose0 (World.block_lt_of_cell? _ _ q1) qf1
  replace qf2 := k10.loose0 (World.block_lt_of_cell? _ _ q2) qf2
  replace p0 := k10.cell0 p0
  replace p1 := k10.cell0 p1
  replace p2 := k10.cell0 p2
  replace t0 := k10.cell0 t0
  replace t1 := k10.cell0 t1
  replace t2 := k10.cell0 t2
  replace q0 := k10.cell0 q0
  replace q1 := k10.cell0 q1
  replace q2 := k10.cell0 q2
  replace dA0 := k10.cell0 dA0
  replace dA1 := k10.cell0 dA1
  replace dB0 := k10.cell0 dB0
  replace dB1 := k10.cell0 dB1
  replace K := hide ((unhide K).trans k10)
  have z11 := k10.size
  clear k10
  clear mk e1 e2 e3 wn ln m1 m2
  obtain ⟨a8, c8, hv⟩ := Row.form' r8
  subst hv
  have R := hide ((((r8.set_other (p := ⟨w.heap.size + 2, 0, none⟩) (.inl (by have := unhide S0; dsimp only; omega)) (.bool SG)).set_other (p := ⟨w.heap.size + 2, 1, none⟩) (.inl (by have := unhide S0; dsimp only; omega)) (.slice a8 ZM.length c8)).set_other (p := ⟨w.heap.size + 2, 2, none⟩) (.inl (by have := unhide S0; dsimp only; omega)) (.int .i64 EX)).tight.wider (lo' := w.heap.size) (by have := unhide S0; omega) (Nat.le_refl _))
  have K7 := hide ((((unhide K).setNew (p := ⟨w.heap.size + 2, 0, none⟩) (by simp) (.bool SG)).setNew (p := ⟨w.heap.size + 2, 1, none⟩) (by simp) (.slice a8 ZM.length c8)).setNew (p := ⟨w.heap.size + 2, 2, none⟩) (by simp) (.int .i64 EX))
  clear r1 r2 ra rb r7 r8 K 
  go_wp2_with fail
  exact bodyPost_ret (v := .agg #[.bool SG, .slice a8 ZM.length c8, .int .i64 EX]) (by simp [results, Tryz.results124, go_sem, q0, q1, q2]) rfl ⟨_, rfl, unhide R, unhide K7⟩

end Go.Proofs.YthahoabkehcgbaaGreatDoor

namespace Go.Proofs.YthahoabkehcgbaaGreatDoor
open Go.RowKit
set_option linter.unusedVariables false
set_option maxRecDepth 8000
set_option linter.unusedSimpArgs false

theorem in_addSigned : ∀ (w : World) (args : Array Value), (callFunc 193 args).run Tryz.prog w = .ok (.enter 193 args) w := enters Tryz.func193 (by decide) (fun h => by cases h)

theorem shl_val (s : Bool) {zs : List Int} (h : Nrm zs) (k : Nat) : wval s (limbs ((val zs).toNat * 2 ^ k)) = wval s zs * 2 ^ k := by
  rw [wval_limbs]
  have h0 := val_nonneg h.1
  have hc : (((val zs).toNat * 2 ^ k : Nat) : Int) = val zs * 2 ^ k := by rw [Int.natCast_mul, Int.toNat_of_nonneg h0]; simp
  rw [hc]
  unfold wval
  cases s
  · rfl
  · simp [Int.neg_mul]
set_option maxHeartbeats 4000000 in
theorem addDyadic_wide {w0 w : World} {g1 g2 : Nat} {s1 s2 : Bool} {xs ys : List Int} {x1 x2 : Int} (S : Dya2 w0 w g1 g2 s1 xs x1 s2 ys x2) (hx : Nrm xs) (hy : Nrm ys) (nx : xs.length ≤ 3000) (ny : ys.length ≤ 3000) (f1 : -40000 ≤ x1) (f2 : x1 ≤ 40000) (f3 : -40000 ≤ x2) (f4 : x2 ≤ 40000) :
    Calls Tryz.prog 143 #[.pointer (some ⟨g1, 0, none⟩), .pointer (some ⟨g2, 0, none⟩)] w fun e w' => (∃ r, e = .returned r) ∧ ∃ u s zs, Num w0.heap.size w' g1 u zs ∧ Sd w' g1 s ∧ Ex w' g1 (min x1 x2) ∧ Nrm zs ∧ wval s zs = wval s1 xs * 2 ^ (x1 - min x1 x2).toNat + wval s2 ys * 2 ^ (x2 - min x1 x2).toNat ∧ Kept 0 0 w0 w' := by
  go_enter Tryz.func143, Tryz.ntmps143
  go_wp2_with fail
  refine (align_wide S hx hy (by omega) (by omega) f1 f2 f3 f4).mono ?_
  rintro e w2 ⟨⟨r2, rfl⟩, S2⟩
  have h1 := limbs_nrm ((val xs).toNat * 2 ^ (x1 - min x1 x2).toNat)
  have h2 := limbs_nrm ((val ys).toNat * 2 ^ (x2 - min x1 x2).toNat)
  have q1 := limbs_shl_lenW hx nx (x1 - min x1 x2).toNat (by omega)
  have q2 := limbs_shl_lenW hy ny (x2 - min x1 x2).toNat (by omega)
  have z1 := shl_val s1 hx (x1 - min x1 x2).toNat
  have z2 := shl_val s2 hy (x2 - min x1 x2).toNat
  generalize limbs ((val xs).toNat * 2 ^ (x1 - min x1 x2).toNat) = L1 at *
  generalize limbs ((val ys).toNat * 2 ^ (x2 - min x1 x2).toNat) = L2 at *
  have HAS := hide (addSigned_tail (S2.sg.kept (Kept.refl 0 0 w2).drew) h1 h2 (by omega) (by omega))
  have E2 := hide S2.e1
  clear S S2
  go_wp2_with fail
  refine wp_region_held_drew (S := (fun _ => True)) (by kernel_rfl) ?_ (fun hHeld => ?_)
  · trivial
  refine wpAnyH_take (i := 0) (oi := _) (v := .pointer (some ⟨g1, 0, none⟩)) rfl (by kernel_rfl) (by kernel_rfl) (by kernel_rfl) (fun _ _ _ h => h) (Or.inl ⟨by rfl, ?_⟩) hHeld ?_
  · intro wq hSw
    try dsimp only at hSw
    go_simp
  try simp only [Act.put, List.getElem_toArray, List.getElem_cons_succ, List.getElem_cons_zero, List.setIfInBounds_toArray, List.set_cons_zero, List.set_cons_succ]
  refine wpAnyH_take (i := 1) (oi := _) (v := .pointer (some ⟨g1, 0, none⟩)) rfl (by kernel_rfl) (by kernel_rfl) (by kernel_rfl) (fun _ _ _ h => h) (Or.inl ⟨by rfl, ?_⟩) hHeld ?_
  · intro wq hSw
    try dsimp only at hSw
    go_simp
  try simp only [Act.put, List.getElem_toArray, List.getElem_cons_succ, List.getElem_cons_zero, List.setIfInBounds_toArray, List.set_cons_zero, List.set_cons_succ]
  refine wpAnyH_take (i := 2) (oi := _) (v := .pointer (some ⟨g1, 0, none⟩)) rfl (by kernel_rfl) (by kernel_rfl) (by kernel_rfl) (fun _ _ _ h => h) (Or.inl ⟨by rfl, ?_⟩) hHeld ?_
  · intro wq hSw
    try dsimp only at hSw
    go_simp
  try simp only [Act.put, List.getElem_toArray, List.getElem_cons_succ, List.getElem_cons_zero, List.setIfInBounds_toArray, List.set_cons_zero, List.set_cons_succ]
  refine wpAnyH_take (i := 3) (oi := _) (v := .pointer (some ⟨g2, 0, none⟩)) rfl (by kernel_rfl) (by kernel_rfl) (by kernel_rfl) (fun _ _ _ h => h) (Or.inl ⟨by rfl, ?_⟩) hHeld ?_
  · intro wq hSw
    try dsimp only at hSw
    go_simp
  try simp only [Act.put, List.getElem_toArray, List.getElem_cons_succ, List.getElem_cons_zero, List.setIfInBounds_toArray, List.set_cons_zero, List.set_cons_succ]
  refine wpAnyH_take (i := 4) (oi := _) (v := .pointer (some ⟨g2, 0, none⟩)) rfl (by kernel_rfl) (by kernel_rfl) (by kernel_rfl) (fun _ _ _ h => h) (Or.inl ⟨by rfl, ?_⟩) hHeld ?_
  · intro wq hSw
    try dsimp only at hSw
    go_simp
  try simp only [Act.put, List.getElem_toArray, List.getElem_cons_succ, List.getElem_cons_zero, List.setIfInBounds_toArray, List.set_cons_zero, List.set_cons_succ]
  refine wpAnyH_take (i := 5) (oi := _) (v := .pointer (some ⟨g2, 0, none⟩)) rfl (by kernel_rfl) (by kernel_rfl) (by kernel_rfl) (fun _ _ _ h => h) (Or.inl ⟨by rfl, ?_⟩) hHeld ?_
  · intro wq hSw
    try dsimp only at hSw
    go_simp
  try simp only [Act.put, List.getElem_toArray, List.getElem_cons_succ, List.getElem_cons_zero, List.setIfInBounds_toArray, List.set_cons_zero, List.set_cons_succ]
  refine wpAnyH_ready (rs := [6]) (by kernel_rfl) (by simp) ?_
  refine AllReadyH.cons rfl (fun KK hK => ?_) AllReadyH.nil
  simp only [List.getElem_toArray, List.getElem_cons_succ, List.getElem_cons_zero]
  rw [if_pos (by rfl)]
  refine wps2 193 (.tmp 9) (.tmp 12) _ rfl in_addSigned (.pointer (some ⟨g1, 0, none⟩)) (.pointer (some ⟨g2, 0, none⟩)) rfl rfl (unhide HAS) ?_
  rintro e w3 ⟨⟨r3, rfl⟩, v3, s3, zs, n3, d3, hz3, hv3, hl3, k3, t3⟩
  refine ⟨_, rfl, ?_⟩
  clear hHeld
  refine hK.out _ _ ?_ (fun hHeld => ?_)
  · trivial
  clear hK KK
  try simp only [Act.put, List.getElem_toArray, List.getElem_cons_succ, List.getElem_cons_zero, List.setIfInBounds_toArray, List.set_cons_zero, List.set_cons_succ]
  refine wpAnyH_done (by kernel_rfl) ?_ _
  clear hHeld
  rw [z1, z2] at hv3
  have FF : Hid (Num w0.heap.size w3 g1 v3 zs ∧ Sd w3 g1 s3 ∧ Ex w3 g1 (min x1 x2) ∧ Nrm zs ∧ wval s3 zs = wval s1 xs * 2 ^ (x1 - min x1 x2).toNat + wval s2 ys * 2 ^ (x2 - min x1 x2).toNat ∧ Kept 0 0 w0 w3) := ⟨n3, d3, Ex.tail (unhide E2) t3, hz3, hv3, k3⟩
  clear n3 d3 hz3 hv3 k3 t3 HAS E2 z1 z2 h1 h2
  go_wp2_with fail
  exact bodyPost_end (v := .tuple #[]) (by simp [results, Tryz.results143, go_sem]) rfl ⟨⟨_, rfl⟩, _, _, _, unhide FF⟩

end Go.Proofs.YthahoabkehcgbaaGreatDoor


namespace Go.Proofs.YthahoabkehcgbaaGreatDoor
open Go.RowKit
set_option linter.unusedVariables false

/-- The one form of V times 2 to the power L. -/
def nE (V L : Int) : DE := (wsg V, dlm V, dex V L)
/-- d is worth V units of 2 to the power L. -/
def IsV (L V : Int) (d : DE) : Prop := L ≤ d.2.2 ∧ Nrm d.2.1 ∧ wval d.1 d.2.1 * 2 ^ (d.2.2 - L).toNat = V
theorem nE_shift (m x : Int) (k : Nat) : nE (m * 2 ^ k) (x - k) = nE m x := by
  obtain ⟨h1, h2, h3⟩ := d_shift m x k
  unfold nE
  rw [h1, h2, h3]
theorem IsV.form {L V : Int} {d : DE} (h : IsV L V d) : nE (wval d.1 d.2.1) d.2.2 = nE V L := by
  obtain ⟨h1, h2, h3⟩ := h
  rw [← h3, ← nE_shift (wval d.1 d.2.1) d.2.2 (d.2.2 - L).toNat, show d.2.2 - ((d.2.2 - L).toNat : Int) = L by omega]
theorem tz_back (n : Nat) : n / 2 ^ tz n * 2 ^ tz n = n := by
  by_cases h : n = 0
  · subst h; simp
  · obtain ⟨q, hq⟩ := tz_form h
    exact Nat.div_mul_cancel ⟨2 * q + 1, hq⟩
theorem dlm_back (m : Int) : wval (wsg m) (dlm m) * 2 ^ tz m.natAbs = m := by
  have h1 : wval (wsg m) (dlm m) = if wsg m = true then -((m.natAbs / 2 ^ tz m.natAbs : Nat) : Int) else ((m.natAbs / 2 ^ tz m.natAbs : Nat) : Int) := wval_limbs _ _
  have h2 : (((m.natAbs / 2 ^ tz m.natAbs : Nat) : Int)) * 2 ^ tz m.natAbs = (m.natAbs : Int) := by
    have := congrArg (fun n : Nat => (n : Int)) (tz_back m.natAbs)
    simp only [Int.natCast_mul, Int.natCast_pow] at this
    exact this
  rw [h1]
  unfold wsg
  by_cases hm : m < 0
  · rw [if_pos (decide_eq_true hm), Int.neg_mul, h2]; omega
  · rw [if_neg (by simp; omega), h2]; omega
theorem nE_wn (V : Int) : WN (wsg V) (dlm V) := ⟨limbs_nrm _, fun h => by
  by_cases h0 : V = 0
  · subst h0; cases h
  · exact (dlm_pos h0).1⟩
theorem nE_isV {V L : Int} (hL : L ≤ 0) : IsV L V (nE V L) := by
  by_cases h : V = 0
  · subst h
    refine ⟨hL, (nE_wn 0).1, ?_⟩
    show wval _ (dlm 0) * _ = 0
    rw [dlm_zero, wval_nil, Int.zero_mul]
  · have e : dex V L = L + (tz V.natAbs : Int) := by unfold dex; rw [if_neg h]
    refine ⟨by show L ≤ dex V L; omega, (nE_wn V).1, ?_⟩
    show wval (wsg V) (dlm V) * 2 ^ (dex V L - L).toNat = V
    rw [e, show (L + (tz V.natAbs : Int) - L).toNat = tz V.natAbs by omega]
    exact dlm_back V
theorem dlm_lenV {m : Int} {A n : Nat} (h : m.natAbs < 2 ^ A) (hn : A ≤ 16 * n) : (dlm m).length ≤ n := by
  have h1 := wlm_len h hn
  have h2 : m.natAbs / 2 ^ tz m.natAbs ≤ m.natAbs := Nat.div_le_self _ _
  refine (limbs_length_le _ _).2 ?_
  have h3 := (limbs_length_le m.natAbs n).1 h1
  omega
/-- What a sum is. -/
def sumM (a b : DE) : Int := wval a.1 a.2.1 * 2 ^ (a.2.2 - min a.2.2 b.2.2).toNat + wval b.1 b.2.1 * 2 ^ (b.2.2 - min a.2.2 b.2.2).toNat
theorem pow_step (m : Int) {x y L : Int} (h1 : y ≤ x) (h2 : L ≤ y) : m * 2 ^ (x - y).toNat * 2 ^ (y - L).toNat = m * 2 ^ (x - L).toNat := by
  rw [Int.mul_assoc, ← Int.pow_add, show (x - y).toNat + (y - L).toNat = (x - L).toNat by omega]
theorem sum_V {L V1 V2 : Int} {a b : DE} (h1 : IsV L V1 a) (h2 : IsV L V2 b) : sumM a b * 2 ^ (min a.2.2 b.2.2 - L).toNat = V1 + V2 := by
  have g1 := h1.1
  have g2 := h2.1
  unfold sumM
  rw [Int.add_mul, pow_step _ (by omega) (by omega), pow_step _ (by omega) (by omega), h1.2.2, h2.2.2]
theorem sum_isV {L V1 V2 : Int} {a b d : DE} (h1 : IsV L V1 a) (h2 : IsV L V2 b) (hn : Nrm d.2.1) (hm : wval d.1 d.2.1 = sumM a b) (hx : d.2.2 = min a.2.2 b.2.2) : IsV L (V1 + V2) d := by
  have g1 := h1.1
  have g2 := h2.1
  exact ⟨by rw [hx]; omega, hn, by rw [hm, hx]; exact sum_V h1 h2⟩
theorem sum_nE {L V1 V2 : Int} {a b : DE} (h1 : IsV L V1 a) (h2 : IsV L V2 b) : nE (sumM a b) (min a.2.2 b.2.2) = nE (V1 + V2) L := by
  have g1 := h1.1
  have g2 := h2.1
  rw [← sum_V h1 h2, ← nE_shift (sumM a b) (min a.2.2 b.2.2) (min a.2.2 b.2.2 - L).toNat, show min a.2.2 b.2.2 - ((min a.2.2 b.2.2 - L).toNat : Int) = L by omega]
/-- The number's size from its worth. -/
theorem IsV.len {L V : Int} {d : DE} {A n : Nat} (h : IsV L V d) (hV : V.natAbs < 2 ^ A) (hn : A ≤ 16 * n) : d.2.1.length ≤ n := by
  have h1 : (wval d.1 d.2.1).natAbs ≤ V.natAbs := by
    rw [← h.2.2, Int.natAbs_mul]
    exact Nat.le_mul_of_pos_right _ (by rw [Int.natAbs_pow]; exact Nat.pow_pos (by decide))
  rw [nrm_limbs h.2.1]
  rw [wval_abs h.2.1.1] at h1
  refine (limbs_length_le _ _).2 ?_
  have h5 := Nat.lt_of_lt_of_le hV (Nat.pow_le_pow_right (n := 2) (by decide) hn)
  rw [pow_limb]
  omega

end Go.Proofs.YthahoabkehcgbaaGreatDoor

namespace Go.Proofs.YthahoabkehcgbaaGreatDoor
open Go.RowKit
set_option linter.unusedVariables false
set_option maxRecDepth 8000
set_option linter.unusedSimpArgs false

theorem new2_dya {w0 w1 w2 : World} {u1 u2 : Value} {xs ys : List Int} (s1 s2 : Bool) (x1 x2 : Int) (t : TypeId) (o1 : w1.ownsRow w0.heap.size 3 1 u1 xs.length (xs.map (Value.int .i64))) (o2 : w2.ownsRow w1.heap.size 3 1 u2 ys.length (ys.map (Value.int .i64))) (k1 : Kept 0 0 w0 w1) (k2 : Kept 0 0 w1 w2) :
    Dya2 w0 ((w2.alloc (.cells #[u1, .bool s1, .int .i64 x1] t)).alloc (.cells #[u2, .bool s2, .int .i64 x2] t)) w2.heap.size (w2.heap.size + 1) s1 xs x1 s2 ys x2 := by
  have p1 := own_kept o1 k2
  have kA := (Kept.refl 0 0 w2).alloc (.cells #[u1, .bool s1, .int .i64 x1] t)
  obtain ⟨n1, d1, e1⟩ := new_dya s1 x1 t p1
  have kB := (Kept.refl 0 0 (w2.alloc (.cells #[u1, .bool s1, .int .i64 x1] t))).alloc (.cells #[u2, .bool s2, .int .i64 x2] t)
  obtain ⟨n2, d2, e2⟩ := new_dya s2 x2 t (own_kept o2 kA)
  have hz : (w2.alloc (.cells #[u1, .bool s1, .int .i64 x1] t)).heap.size = w2.heap.size + 1 := by simp
  rw [hz] at n2 d2 e2
  have g1 := k1.size
  have g2 := k2.size
  have l1 := n1.lt
  refine ⟨⟨⟨u1, u2, n1.kept kB, n2.less (by omega), by omega, fun e => by have := (o1.lt _ e).2; omega, fun e => by have := (o2.lt _ e).2; omega, fun k e e' => by have := (o1.lt _ e).2; have := (o2.lt _ e').1; omega, ((k1.trans k2).trans kA).trans kB, by omega, by omega⟩, ⟨kB.cell0 d1.1, kB.loose0 (a := ⟨w2.heap.size, 1, none⟩) l1 d1.2⟩, d2⟩, ⟨kB.cell0 e1.1, kB.loose0 (a := ⟨w2.heap.size, 2, none⟩) l1 e1.2⟩, e2⟩

/-- So many bits are enough. -/
def AA : Nat := 40000
/-- A number that is worked on, worth V, not too great. -/
def NV (L V : Int) (d : DE) : Prop := IsV L V d ∧ d.2.1.length ≤ 3000 ∧ d.2.2 ≤ 40000

set_option maxHeartbeats 4000000 in
theorem plusD_impl {L V1 V2 : Int} {g1 g2 : Nat} {u1 u2 : Value} {a b : DE} (w : World) (hL : -40000 ≤ L) (n1 : Num 0 w g1 u1 a.2.1) (d1 : Sd w g1 a.1) (e1 : Ex w g1 a.2.2) (n2 : Num 0 w g2 u2 b.2.1) (d2 : Sd w g2 b.1) (e2 : Ex w g2 b.2.2) (i1 : NV L V1 a) (i2 : NV L V2 b) (hs : (V1 + V2).natAbs < 2 ^ AA) :
    Calls Tryz.prog 82 #[.pointer (some ⟨g1, 0, none⟩), .pointer (some ⟨g2, 0, none⟩)] w fun e w' => ∃ g d, e = .returned (.pointer (some ⟨g, 0, none⟩)) ∧ DyP (fun y => y < w.heap.size) w' g d ∧ NV L (V1 + V2) d ∧ Kept 0 0 w w' := by
  have sv := fun (d : DE) h1 h2 h3 => sum_isV (d := d) i1.1 i2.1 h1 h2 h3
  have ha := i1.1.2.1
  have hb := i2.1.2.1
  have la := i1.2.1
  have lb := i2.2.1
  have f1 : -40000 ≤ a.2.2 := by have := i1.1.1; omega
  have f2 := i1.2.2
  have f3 : -40000 ≤ b.2.2 := by have := i2.1.1; omega
  have f4 := i2.2.2
  have HS := hide hs
  clear i1 i2 hs
  obtain ⟨s1, xs, x1⟩ := a
  obtain ⟨s2, ys, x2⟩ := b
  dsimp only at *
  have SV := hide sv
  clear sv
  have h1 := again_impl w n1 d1 e1 (by omega)
  have h2 := fun w1 (k : Kept 0 0 w w1) => again_impl w1 (n2.kept k) (⟨k.cell0 d2.1, k.loose0 (a := ⟨g2, 1, none⟩) n2.lt d2.2⟩ : Sd w1 g2 s2) (⟨k.cell0 e2.1, k.loose0 (a := ⟨g2, 2, none⟩) n2.lt e2.2⟩ : Ex w1 g2 x2) (by omega)
  have H2 := hide h2
  clear n1 d1 e1 n2 d2 e2 h2
  go_enter Tryz.func82, Tryz.ntmps82
  go_wp2_with fail
  refine h1.mono ?_
  rintro e w1 ⟨v1, rfl, o1, k1⟩
  have h2 := unhide H2 w1 k1
  obtain ⟨a1, c1, hv1⟩ := own_slice o1
  subst hv1
  clear h1 H2
  go_wp2_with fail
  refine h2.mono ?_
  rintro e w2 ⟨v2, rfl, o2, k2⟩
  obtain ⟨a2, c2, hv2⟩ := own_slice o2
  subst hv2
  have D := new2_dya s1 s2 x1 x2 150 o1 o2 k1 k2
  have hadd := addDyadic_wide D ha hb la lb f1 f2 f3 f4
  have B0 : Hid (w.heap.size ≤ w2.heap.size) := by show _ ≤ _; have := k1.size; have := k2.size; omega
  clear h2 o1 o2 k1 k2 D
  go_wp2_with fail
  refine hadd.mono ?_
  rintro e w3 ⟨⟨r3, rfl⟩, u, s, zs, n3, d3, e3, hz, hv, k3⟩
  have DP : Hid (DyP (fun y => y < w.heap.size) w3 w2.heap.size (s, zs, min x1 x2)) := ⟨u, n3.less (Nat.zero_le _), d3, e3, by have := unhide B0; omega, fun i hi => by have := (n3.own.lt i hi).1; omega⟩
  have IS : Hid (NV L (V1 + V2) (s, zs, min x1 x2)) := by
    have hh := unhide SV (s, zs, min x1 x2) hz hv rfl
    have hl := hh.len (unhide HS) (show AA ≤ 16 * 2500 by decide)
    exact ⟨hh, Nat.le_trans hl (by decide), by show min x1 x2 ≤ 40000; omega⟩
  have K3 := hide k3
  clear hadd n3 d3 e3 hz hv k3
  go_wp2
  go_ret
  exact ⟨_, _, rfl, unhide DP, unhide IS, unhide K3⟩

end Go.Proofs.YthahoabkehcgbaaGreatDoor

