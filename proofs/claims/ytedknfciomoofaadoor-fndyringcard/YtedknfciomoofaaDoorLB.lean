/-
  Contracts that the proofs of this seat share: Dy10, DrawD3, Dy4, LawN, LawT, LawS.
-/
import Derived.Test.YtedknfciomoofaaDoorLA
import Derived.Test.YtedknfciomoofaaDoorBC
import Derived.Deep.RegionHeld3
import Derived.Test.YtedknfciomoofaaDoorDy3
import Derived.Test.YtedknfciomoofaaDoorBL
import Derived.Deep.QuietTactic
import Derived.BigQuiet
namespace Go.Proofs.YtedknfciomoofaaDoor
open Go.RowKit
set_option linter.unusedVariables false
set_option maxRecDepth 8000
set_option linter.unusedSimpArgs false

theorem wn_int (m : Int) : WN (wsg m) (wlm m) := by
  refine ⟨limbs_nrm _, fun h => ?_⟩
  have h1 : m < 0 := of_decide_eq_true h
  have := limbs_pos m.natAbs
  rw [decide_eq_true (show 0 < m.natAbs by omega)] at this
  exact of_decide_eq_true this
theorem wlm_len {m : Int} {A n : Nat} (h : m.natAbs < 2 ^ A) (hn : A ≤ 16 * n) : (wlm m).length ≤ n := by
  refine (limbs_length_le _ _).2 ?_
  rw [pow_limb]
  have := Nat.lt_of_lt_of_le h (Nat.pow_le_pow_right (n := 2) (by decide) hn)
  omega
theorem mul_lt {a b : Int} {A E : Nat} (ha : a.natAbs < 2 ^ A) (hb : b.natAbs < 2 ^ E) : (a * b).natAbs < 2 ^ (A + E) := by
  rw [Int.natAbs_mul, Nat.pow_add]
  exact Nat.mul_lt_mul'' ha hb
theorem add_lt {a b : Int} {A : Nat} (ha : a.natAbs < 2 ^ A) (hb : b.natAbs < 2 ^ A) : (a + b).natAbs < 2 ^ (A + 1) := by
  have := Int.natAbs_add_le a b
  rw [Nat.pow_succ]
  omega
theorem neg_lt {a : Int} {A : Nat} (ha : a.natAbs < 2 ^ A) : (-a).natAbs < 2 ^ A := by rw [Int.natAbs_neg]; exact ha
theorem shl_lt {a : Int} {A : Nat} (k : Nat) (ha : a.natAbs < 2 ^ A) : (a * 2 ^ k).natAbs < 2 ^ (A + k) := by
  rw [Int.natAbs_mul, Int.natAbs_pow, Nat.pow_add]
  exact Nat.mul_lt_mul_of_pos_right ha (Nat.pow_pos (by decide))
theorem lt_up {n A E : Nat} (h : n < 2 ^ A) (hl : A ≤ E) : n < 2 ^ E := Nat.lt_of_lt_of_le h (Nat.pow_le_pow_right (by decide) hl)
/-- Two numbers at one power of two are small enough. -/
theorem al_lt {s : Bool} {zs : List Int} (h : Lim zs) (hl : zs.length ≤ 100) (k : Nat) (hk : k ≤ 6000) {A : Nat} (hA : A = 7600) : (wval s zs * 2 ^ k).natAbs < 2 ^ A :=
  lt_up (shl_lt k (wval_lt h)) (by omega)
theorem al_ltW {s : Bool} {zs : List Int} (h : Lim zs) (hl : zs.length ≤ 3000) (k : Nat) (hk : k ≤ 80000) {A : Nat} (hA : A = 128000) : (wval s zs * 2 ^ k).natAbs < 2 ^ A :=
  lt_up (shl_lt k (wval_lt h)) (by omega)
theorem alg_leW {m1 x1 m2 x2 E : Int} (h : Alg m1 x1 m2 x2 E) (h1 : -40000 ≤ x1) (h2 : x1 ≤ 40000) (h3 : -40000 ≤ x2) (h4 : x2 ≤ 40000) : (x1 - E).toNat ≤ 80000 ∧ (x2 - E).toNat ≤ 80000 ∧ -40000 ≤ E ∧ E ≤ 40000 := by
  have := h.lo
  have := h.hi
  omega
theorem sum_alg {m1 x1 m2 x2 E : Int} (h : Alg m1 x1 m2 x2 E) : (m1 * 2 ^ (x1 - E).toNat + m2 * 2 ^ (x2 - E).toNat) * 2 ^ (E - min x1 x2).toNat = m1 * 2 ^ (x1 - min x1 x2).toNat + m2 * 2 ^ (x2 - min x1 x2).toNat := by
  rw [Int.add_mul, ← pow_split m1 h.a1 h.lo, ← pow_split m2 h.a2 h.lo]
/-- A sum in its one form does not hang on the power of two that both are written with. -/
theorem sum_form {m1 x1 m2 x2 E : Int} (h : Alg m1 x1 m2 x2 E) : dlm (m1 * 2 ^ (x1 - E).toNat + m2 * 2 ^ (x2 - E).toNat) = dlm (m1 * 2 ^ (x1 - min x1 x2).toNat + m2 * 2 ^ (x2 - min x1 x2).toNat) ∧ dex (m1 * 2 ^ (x1 - E).toNat + m2 * 2 ^ (x2 - E).toNat) E = dex (m1 * 2 ^ (x1 - min x1 x2).toNat + m2 * 2 ^ (x2 - min x1 x2).toNat) (min x1 x2) ∧ wsg (m1 * 2 ^ (x1 - E).toNat + m2 * 2 ^ (x2 - E).toNat) = wsg (m1 * 2 ^ (x1 - min x1 x2).toNat + m2 * 2 ^ (x2 - min x1 x2).toNat) := by
  obtain ⟨e1, e2, e3⟩ := d_shift (m1 * 2 ^ (x1 - E).toNat + m2 * 2 ^ (x2 - E).toNat) E (E - min x1 x2).toNat
  rw [sum_alg h] at e1 e2 e3
  have hl := h.lo
  rw [show E - ((E - min x1 x2).toNat : Int) = min x1 x2 by omega] at e2
  exact ⟨e1.symm, e2.symm, e3.symm⟩
set_option maxHeartbeats 4000000 in
theorem add4_wide {b1 b2 : Bool} {l1 h1 l2 h2 : Nat} {v1 v2 : Value} {xs ys : List Int} (s1 s2 : Bool) (x1 x2 : Int) (w : World) (r1 : Row .i64 b1 l1 h1 w v1 xs) (r2 : Row .i64 b2 l2 h2 w v2 ys) (o1 : WB s1 xs x1) (o2 : WB s2 ys x2) :
    Calls Tryd.prog 33 #[.agg #[.bool s1, v1, .int .i64 x1], .agg #[.bool s2, v2, .int .i64 x2]] w fun e w' => ∃ v', e = .returned (.agg #[.bool (wsg (wval s1 xs * 2 ^ (x1 - min x1 x2).toNat + wval s2 ys * 2 ^ (x2 - min x1 x2).toNat)), v', .int .i64 (dex (wval s1 xs * 2 ^ (x1 - min x1 x2).toNat + wval s2 ys * 2 ^ (x2 - min x1 x2).toNat) (min x1 x2))]) ∧ Row .i64 true w.heap.size w'.heap.size w' v' (dlm (wval s1 xs * 2 ^ (x1 - min x1 x2).toNat + wval s2 ys * 2 ^ (x2 - min x1 x2).toNat)) ∧ Kept 0 0 w w' := by
  have f1 := o1.2.2.1
  have f2 := o1.2.2.2
  have f3 := o2.2.2.1
  have f4 := o2.2.2.2
  have lx := o1.2.1
  have ly := o2.2.1
  have hx := o1.1.1
  have hy := o2.1.1
  obtain ⟨SG, hSG⟩ : ∃ y, wsg (wval s1 xs * 2 ^ (x1 - min x1 x2).toNat + wval s2 ys * 2 ^ (x2 - min x1 x2).toNat) = y := ⟨_, rfl⟩
  obtain ⟨ZM, hZM⟩ : ∃ y, dlm (wval s1 xs * 2 ^ (x1 - min x1 x2).toNat + wval s2 ys * 2 ^ (x2 - min x1 x2).toNat) = y := ⟨_, rfl⟩
  obtain ⟨EX, hEX⟩ : ∃ y, dex (wval s1 xs * 2 ^ (x1 - min x1 x2).toNat + wval s2 ys * 2 ^ (x2 - min x1 x2).toNat) (min x1 x2) = y := ⟨_, rfl⟩
  rw [hSG, hZM, hEX]
  have HSG := hide hSG
  have HZM := hide hZM
  have HEX := hide hEX
  clear hSG hZM hEX
  have k0 : Kept 0 0 w (((w.alloc (.cells #[.bool s1, v1, .int .i64 x1] 30)).alloc (.cells #[.bool s2, v2, .int .i64 x2] 30)).alloc (.cells #[.bool false, .slice none 0 0, .int .i64 0] 30)) := ((((Kept.refl 0 0 w).alloc (.cells #[.bool s1, v1, .int .i64 x1] 30)).alloc (.cells #[.bool s2, v2, .int .i64 x2] 30)).alloc (.cells #[.bool false, .slice none 0 0, .int .i64 0] 30))
  have p0 : (((w.alloc (.cells #[.bool s1, v1, .int .i64 x1] 30)).alloc (.cells #[.bool s2, v2, .int .i64 x2] 30)).alloc (.cells #[.bool false, .slice none 0 0, .int .i64 0] 30)).cell? ⟨w.heap.size, 0, none⟩ = some (.bool s1) := old_cell _ (old_cell _ (new_cell2 _ _ _ _ _ _ (by simp) rfl))
  have p1 : (((w.alloc (.cells #[.bool s1, v1, .int .i64 x1] 30)).alloc (.cells #[.bool s2, v2, .int .i64 x2] 30)).alloc (.cells #[.bool false, .slice none 0 0, .int .i64 0] 30)).cell? ⟨w.heap.size, 1, none⟩ = some (v1) := old_cell _ (old_cell _ (new_cell2 _ _ _ _ _ _ (by simp) rfl))
  have p2 : (((w.alloc (.cells #[.bool s1, v1, .int .i64 x1] 30)).alloc (.cells #[.bool s2, v2, .int .i64 x2] 30)).alloc (.cells #[.bool false, .slice none 0 0, .int .i64 0] 30)).cell? ⟨w.heap.size, 2, none⟩ = some (.int .i64 x1) := old_cell _ (old_cell _ (new_cell2 _ _ _ _ _ _ (by simp) rfl))
  have t0 : (((w.alloc (.cells #[.bool s1, v1, .int .i64 x1] 30)).alloc (.cells #[.bool s2, v2, .int .i64 x2] 30)).alloc (.cells #[.bool false, .slice none 0 0, .int .i64 0] 30)).cell? ⟨w.heap.size + 1, 0, none⟩ = some (.bool s2) := old_cell _ (new_cell2 _ _ _ _ _ _ (by simp) rfl)
  have t1 : (((w.alloc (.cells #[.bool s1, v1, .int .i64 x1] 30)).alloc (.cells #[.bool s2, v2, .int .i64 x2] 30)).alloc (.cells #[.bool false, .slice none 0 0, .int .i64 0] 30)).cell? ⟨w.heap.size + 1, 1, none⟩ = some (v2) := old_cell _ (new_cell2 _ _ _ _ _ _ (by simp) rfl)
  have t2 : (((w.alloc (.cells #[.bool s1, v1, .int .i64 x1] 30)).alloc (.cells #[.bool s2, v2, .int .i64 x2] 30)).alloc (.cells #[.bool false, .slice none 0 0, .int .i64 0] 30)).cell? ⟨w.heap.size + 1, 2, none⟩ = some (.int .i64 x2) := old_cell _ (new_cell2 _ _ _ _ _ _ (by simp) rfl)
  have q0 : (((w.alloc (.cells #[.bool s1, v1, .int .i64 x1] 30)).alloc (.cells #[.bool s2, v2, .int .i64 x2] 30)).alloc (.cells #[.bool false, .slice none 0 0, .int .i64 0] 30)).cell? ⟨w.heap.size + 2, 0, none⟩ = some (.bool false) := new_cell2 _ _ _ _ _ _ (by simp) rfl
  have qf0 : (((w.alloc (.cells #[.bool s1, v1, .int .i64 x1] 30)).alloc (.cells #[.bool s2, v2, .int .i64 x2] 30)).alloc (.cells #[.bool false, .slice none 0 0, .int .i64 0] 30)).frozen? ⟨w.heap.size + 2, 0, none⟩ = false := new_loose2 _ _ _ _ _ (by simp)
  have q1 : (((w.alloc (.cells #[.bool s1, v1, .int .i64 x1] 30)).alloc (.cells #[.bool s2, v2, .int .i64 x2] 30)).alloc (.cells #[.bool false, .slice none 0 0, .int .i64 0] 30)).cell? ⟨w.heap.size + 2, 1, none⟩ = some (.slice none 0 0) := new_cell2 _ _ _ _ _ _ (by simp) rfl
  have qf1 : (((w.alloc (.cells #[.bool s1, v1, .int .i64 x1] 30)).alloc (.cells #[.bool s2, v2, .int .i64 x2] 30)).alloc (.cells #[.bool false, .slice none 0 0, .int .i64 0] 30)).frozen? ⟨w.heap.size + 2, 1, none⟩ = false := new_loose2 _ _ _ _ _ (by simp)
  have q2 : (((w.alloc (.cells #[.bool s1, v1, .int .i64 x1] 30)).alloc (.cells #[.bool s2, v2, .int .i64 x2] 30)).alloc (.cells #[.bool false, .slice none 0 0, .int .i64 0] 30)).cell? ⟨w.heap.size + 2, 2, none⟩ = some (.int .i64 0) := new_cell2 _ _ _ _ _ _ (by simp) rfl
  have qf2 : (((w.alloc (.cells #[.bool s1, v1, .int .i64 x1] 30)).alloc (.cells #[.bool s2, v2, .int .i64 x2] 30)).alloc (.cells #[.bool false, .slice none 0 0, .int .i64 0] 30)).frozen? ⟨w.heap.size + 2, 2, none⟩ = false := new_loose2 _ _ _ _ _ (by simp)
  replace r1 := r1.kept k0 (by omega)
  replace r2 := r2.kept k0 (by omega)
  have s0 : (((w.alloc (.cells #[.bool s1, v1, .int .i64 x1] 30)).alloc (.cells #[.bool s2, v2, .int .i64 x2] 30)).alloc (.cells #[.bool false, .slice none 0 0, .int .i64 0] 30)).heap.size = w.heap.size + 3 := by simp
  obtain ⟨a1, c1, hv⟩ := Row.form' r1
  subst hv
  obtain ⟨a2, c2, hv⟩ := Row.form' r2
  subst hv
  have K := hide (k0)
  clear k0
  have S0 := hide s0
  clear s0
  go_enter Tryd.func33, Tryd.ntmps33
  go_wp2_with fail
  generalize (((w.alloc (.cells #[.bool s1, .slice a1 xs.length c1, .int .i64 x1] 30)).alloc (.cells #[.bool s2, .slice a2 ys.length c2, .int .i64 x2] 30)).alloc (.cells #[.bool false, .slice none 0 0, .int .i64 0] 30)) = W at *
  refine (align4_wide s1 s2 x1 x2 _ r1 r2 o1 o2).mono ?_
  rintro e w1 ⟨u1, u2, sA, sB, zA, zB, E, rfl, ra, rb, ⟨m1, m2, la, lb, al, g1, g2⟩, k1⟩
  replace r1 := r1.kept k1 (by omega)
  replace r2 := r2.kept k1 (by omega)
  replace qf0 := k1.loose0 (World.block_lt_of_cell? _ _ q0) qf0
  replace qf1 := k1.loose0 (World.block_lt_of_cell? _ _ q1) qf1
  replace qf2 := k1.loose0 (World.block_lt_of_cell? _ _ q2) qf2
  replace p0 := k1.cell0 p0
  replace p1 := k1.cell0 p1
  replace p2 := k1.cell0 p2
  replace t0 := k1.cell0 t0
  replace t1 := k1.cell0 t1
  replace t2 := k1.cell0 t2
  replace q0 := k1.cell0 q0
  replace q1 := k1.cell0 q1
  replace q2 := k1.cell0 q2
  replace K := hide ((unhide K).trans k1)
  have z2 := k1.size
  clear k1
  obtain ⟨j1, j2, j3, j4⟩ := alg_leW al f1 f2 f3 f4
  obtain ⟨e1, e2, e3⟩ := sum_form al
  rw [unhide HZM] at e1
  rw [unhide HEX] at e2
  rw [unhide HSG] at e3
  rw [← g1, ← g2] at e1 e2 e3
  obtain ⟨M, hM⟩ : ∃ M, wval sA zA + wval sB zB = M := ⟨_, rfl⟩
  obtain ⟨A, hA⟩ : ∃ A : Nat, A = 128000 := ⟨_, rfl⟩
  have hMl : M.natAbs < 2 ^ (A + 1) := by rw [← hM, g1, g2]; exact add_lt (al_ltW hx.1 lx _ j1 hA) (al_ltW hy.1 ly _ j2 hA)
  rw [hM] at e1 e2 e3
  have wn := wn_int M
  have ln : (wlm M).length ≤ 8100 := wlm_len hMl (by omega)
  clear al g1 g2 j1 j2 hMl hA A
  obtain ⟨a5, c5, hv⟩ := Row.form' ra
  subst hv
  obtain ⟨a6, c6, hv⟩ := Row.form' rb
  subst hv
  have kn := (Kept.refl 0 0 w1).alloc (.cells #[.bool sA, .slice a5 zA.length c5] 28)
  have dA0 : (w1.alloc (.cells #[.bool sA, .slice a5 zA.length c5] 28)).cell? ⟨w1.heap.size, 0, none⟩ = some (.bool sA) := new_cell2 _ _ _ _ _ _ (by simp) rfl
  have dA1 : (w1.alloc (.cells #[.bool sA, .slice a5 zA.length c5] 28)).cell? ⟨w1.heap.size, 1, none⟩ = some (.slice a5 zA.length c5) := new_cell2 _ _ _ _ _ _ (by simp) rfl
  have sz3 : w1.heap.size + 1 ≤ (w1.alloc (.cells #[.bool sA, .slice a5 zA.length c5] 28)).heap.size := by simp
  replace r1 := r1.kept kn (by omega)
  replace r2 := r2.kept kn (by omega)
  replace ra := ra.kept kn (by omega)
  replace rb := rb.kept kn (by omega)
  replace qf0 := kn.loose0 (World.block_lt_of_cell? _ _ q0) qf0
  replace qf1 := kn.loose0 (World.block_lt_of_cell? _ _ q1) qf1
  replace qf2 := kn.loose0 (World.block_lt_of_cell? _ _ q2) qf2
  replace p0 := kn.cell0 p0
  replace p1 := kn.cell0 p1
  replace p2 := kn.cell0 p2
  replace t0 := kn.cell0 t0
  replace t1 := kn.cell0 t1
  replace t2 := kn.cell0 t2
  replace q0 := kn.cell0 q0
  replace q1 := kn.cell0 q1
  replace q2 := kn.cell0 q2
  replace K := hide ((unhide K).trans kn)
  have z4 := kn.size
  clear kn
  have kn := (Kept.refl 0 0 (w1.alloc (.cells #[.bool sA, .slice a5 zA.length c5] 28))).alloc (.cells #[.bool sB, .slice a6 zB.length c6] 28)
  have dB0 : ((w1.alloc (.cells #[.bool sA, .slice a5 zA.length c5] 28)).alloc (.cells #[.bool sB, .slice a6 zB.length c6] 28)).cell? ⟨w1.heap.size + 1, 0, none⟩ = some (.bool sB) := new_cell2 _ _ _ _ _ _ (by simp) rfl
  have dB1 : ((w1.alloc (.cells #[.bool sA, .slice a5 zA.length c5] 28)).alloc (.cells #[.bool sB, .slice a6 zB.length c6] 28)).cell? ⟨w1.heap.size + 1, 1, none⟩ = some (.slice a6 zB.length c6) := new_cell2 _ _ _ _ _ _ (by simp) rfl
  have sz5 : (w1.alloc (.cells #[.bool sA, .slice a5 zA.length c5] 28)).heap.size + 1 ≤ ((w1.alloc (.cells #[.bool sA, .slice a5 zA.length c5] 28)).alloc (.cells #[.bool sB, .slice a6 zB.length c6] 28)).heap.size := by simp
  replace r1 := r1.kept kn (by omega)
  replace r2 := r2.kept kn (by omega)
  replace ra := ra.kept kn (by omega)
  replace rb := rb.kept kn (by omega)
  replace qf0 := kn.loose0 (World.block_lt_of_cell? _ _ q0) qf0
  replace qf1 := kn.loose0 (World.block_lt_of_cell? _ _ q1) qf1
  replace qf2 := kn.loose0 (World.block_lt_of_cell? _ _ q2) qf2
  replace p0 := kn.cell0 p0
  replace p1 := kn.cell0 p1
  replace p2 := kn.cell0 p2
  replace t0 := kn.cell0 t0
  replace t1 := kn.cell0 t1
  replace t2 := kn.cell0 t2
  replace q0 := kn.cell0 q0
  replace q1 := kn.cell0 q1
  replace q2 := kn.cell0 q2
  replace dA0 := kn.cell0 dA0
  replace dA1 := kn.cell0 dA1
  replace K := hide ((unhide K).trans kn)
  have z6 := kn.size
  clear kn
  go_wp2_with fail
  generalize ((w1.alloc (.cells #[.bool sA, .slice a5 zA.length c5] 28)).alloc (.cells #[.bool sB, .slice a6 zB.length c6] 28)) = wn7 at *
  have mk := add3_spec sA sB wn7 ra rb m1.1 m2.1 (by omega) (by omega)
  rw [hM] at mk
  refine (mk).mono ?_
  rintro e w8 ⟨v7, rfl, r7, k8⟩
  replace r1 := r1.kept k8 (by omega)
  replace r2 := r2.kept k8 (by omega)
  replace ra := ra.kept k8 (by omega)
  replace rb := rb.kept k8 (by omega)
  replace qf0 := k8.loose0 (World.block_lt_of_cell? _ _ q0) qf0
  replace qf1 := k8.loose0 (World.block_lt_of_cell? _ _ q1) qf1
  replace qf2 := k8.loose0 (World.block_lt_of_cell? _ _ q2) qf2
  replace p0 := k8.cell0 p0
  replace p1 := k8.cell0 p1
  replace p2 := k8.cell0 p2
  replace t0 := k8.cell0 t0
  replace t1 := k8.cell0 t1
  replace t2 := k8.cell0 t2
  replace q0 := k8.cell0 q0
  replace q1 := k8.cell0 q1
  replace q2 := k8.cell0 q2
  replace dA0 := k8.cell0 dA0
  replace dA1 := k8.cell0 dA1
  replace dB0 := k8.cell0 dB0
  replace dB1 := k8.cell0 dB1
  replace K := hide ((unhide K).trans k8)
  have z9 := k8.size
  clear k8
  clear mk
  go_wp2_with fail
  have mk := make4_spec (wsg M) E M (wval_int M) (by omega) (by omega) w8 r7 wn (by omega)
  rw [e1, e2, e3] at mk
  refine (mk).mono ?_
  rintro e w10 ⟨v8, rfl, r8, k10⟩
  replace r1 := r1.kept k10 (by omega)
  replace r2 := r2.kept k10 (by omega)
  replace ra := ra.kept k10 (by omega)
  replace rb := rb.kept k10 (by omega)
  replace r7 := r7.kept k10 (by omega)
  replace qf0 := k10.loose0 (World.block_lt_of_cell? _ _ q0) qf0
  replace qf1 := k10.loose0 (World.block_lt_of_cell? _ _ q1) qf1
  replace qf2 := k10.loose0 (World.block_lt_of_cell? _ _ q2) qf2
  replace p0 := k10.cell0 p0
  replace p1 := k10.cell0 p1
  replace p2 := k10.cell0 p2
  replace t0 := k10.cell0 t0
  replace t1 := k10.cell0 t1
  replace t2 := k10.cell0 t2
  replace q0 := k10.cell0 q0
  replace q1 := k10.cell0 q1
  replace q2 := k10.cell0 q2
  replace dA0 := k10.cell0 dA0
  replace dA1 := k10.cell0 dA1
  replace dB0 := k10.cell0 dB0
  replace dB1 := k10.cell0 dB1
  replace K := hide ((unhide K).trans k10)
  have z11 := k10.size
  clear k10
  clear mk e1 e2 e3 wn ln m1 m2
  obtain ⟨a8, c8, hv⟩ := Row.form' r8
  subst hv
  have R := hide ((((r8.set_other (p := ⟨w.heap.size + 2, 0, none⟩) (.inl (by have := unhide S0; dsimp only; omega)) (.bool SG)).set_other (p := ⟨w.heap.size + 2, 1, none⟩) (.inl (by have := unhide S0; dsimp only; omega)) (.slice a8 ZM.length c8)).set_other (p := ⟨w.heap.size + 2, 2, none⟩) (.inl (by have := unhide S0; dsimp only; omega)) (.int .i64 EX)).tight.wider (lo' := w.heap.size) (by have := unhide S0; omega) (Nat.le_refl _))
  have K7 := hide ((((unhide K).setNew (p := ⟨w.heap.size + 2, 0, none⟩) (by simp) (.bool SG)).setNew (p := ⟨w.heap.size + 2, 1, none⟩) (by simp) (.slice a8 ZM.length c8)).setNew (p := ⟨w.heap.size + 2, 2, none⟩) (by simp) (.int .i64 EX))
  clear r1 r2 ra rb r7 r8 K 
  go_wp2_with fail
  exact bodyPost_ret (v := .agg #[.bool SG, .slice a8 ZM.length c8, .int .i64 EX]) (by simp [results, Tryd.results33, go_sem, q0, q1, q2]) rfl ⟨_, rfl, unhide R, unhide K7⟩

theorem add4_spec {b1 b2 : Bool} {l1 h1 l2 h2 : Nat} {v1 v2 : Value} {xs ys : List Int} (s1 s2 : Bool) (x1 x2 : Int) (w : World) (r1 : Row .i64 b1 l1 h1 w v1 xs) (r2 : Row .i64 b2 l2 h2 w v2 ys) (o1 : dokB s1 xs x1 = true) (o2 : dokB s2 ys x2 = true) :
    Calls Tryd.prog 33 #[.agg #[.bool s1, v1, .int .i64 x1], .agg #[.bool s2, v2, .int .i64 x2]] w fun e w' => ∃ v', e = .returned (.agg #[.bool (wsg (wval s1 xs * 2 ^ (x1 - min x1 x2).toNat + wval s2 ys * 2 ^ (x2 - min x1 x2).toNat)), v', .int .i64 (dex (wval s1 xs * 2 ^ (x1 - min x1 x2).toNat + wval s2 ys * 2 ^ (x2 - min x1 x2).toNat) (min x1 x2))]) ∧ Row .i64 true w.heap.size w'.heap.size w' v' (dlm (wval s1 xs * 2 ^ (x1 - min x1 x2).toNat + wval s2 ys * 2 ^ (x2 - min x1 x2).toNat)) ∧ Kept 0 0 w w' := add4_wide s1 s2 x1 x2 w r1 r2 (dok_wb o1) (dok_wb o2)

end Go.Proofs.YtedknfciomoofaaDoor

namespace Go.Proofs.YtedknfciomoofaaDoor
open Go.RowKit
set_option linter.unusedVariables false
set_option maxRecDepth 8000
set_option linter.unusedSimpArgs false

theorem small_dok {n : Int} (h0 : 0 ≤ n) (h1 : n < 3) : dokB (wsg (n - 1)) (wlm (n - 1)) 0 = true := by
  obtain rfl | rfl | rfl : n = 0 ∨ n = 1 ∨ n = 2 := by omega
  · first | rfl | decide
  · first | rfl | decide
  · first | rfl | decide

theorem sum_range {s1 s2 : Bool} {xs ys : List Int} {x1 x2 : Int} (o1 : dokB s1 xs x1 = true) (o2 : dokB s2 ys x2 = true) :
    -9223372036854775808 ≤ dex (wval s1 xs * 2 ^ (x1 - min x1 x2).toNat + wval s2 ys * 2 ^ (x2 - min x1 x2).toNat) (min x1 x2) ∧ dex (wval s1 xs * 2 ^ (x1 - min x1 x2).toNat + wval s2 ys * 2 ^ (x2 - min x1 x2).toNat) (min x1 x2) ≤ 9223372036854775807 := by
  obtain ⟨w1', f1, f2, -, -⟩ := dok_parts o1
  obtain ⟨w2', f3, f4, -, -⟩ := dok_parts o2
  obtain ⟨-, -, lx, hx⟩ := wok_int w1'
  obtain ⟨-, -, ly, hy⟩ := wok_int w2'
  obtain ⟨AA, hA⟩ : ∃ A : Nat, A = 7600 := ⟨_, rfl⟩
  have rg := dex_range (wval s1 xs * 2 ^ (x1 - min x1 x2).toNat + wval s2 ys * 2 ^ (x2 - min x1 x2).toNat) (min x1 x2) (by omega) (by omega) (add_lt (al_lt hx.1 lx _ (by omega) hA) (al_lt hy.1 ly _ (by omega) hA)) (by omega)
  exact ⟨rg.2, rg.1⟩

theorem in_l4bent_c : ∀ (w : World) (args : Array Value), (callFunc 31 args).run Tryd.prog w = .ok (.enter 31 args) w := enters Tryd.func31 (by decide) (fun h => by cases h)

theorem in_l1Below_c : ∀ (w : World) (args : Array Value), (callFunc 34 args).run Tryd.prog w = .ok (.enter 34 args) w := enters Tryd.func34 (by decide) (fun h => by cases h)

theorem in_l3of_c : ∀ (w : World) (args : Array Value), (callFunc 27 args).run Tryd.prog w = .ok (.enter 27 args) w := enters Tryd.func27 (by decide) (fun h => by cases h)

theorem in_l4add_c : ∀ (w : World) (args : Array Value), (callFunc 33 args).run Tryd.prog w = .ok (.enter 33 args) w := enters Tryd.func33 (by decide) (fun h => by cases h)

set_option maxHeartbeats 8000000 in
theorem drawDyCmp_any {bw : Bool} {lo hi : Nat} {v : Value} {bs : List Int} (w : World) (r : Row .u8 bw lo hi w v bs) (b : Bytes bs) :
    Calls Tryd.prog 16 #[v] w fun e w' => ∃ v1 s1 x1 zs v2 s2 x2 ys, e = .returned (.tuple #[.agg #[.bool s1, v1, .int .i64 x1], .agg #[.bool s2, v2, .int .i64 x2]]) ∧ Row .i64 true w.heap.size w'.heap.size w' v1 zs ∧ Row .i64 true w.heap.size w'.heap.size w' v2 ys ∧ -9223372036854775808 ≤ x1 ∧ x1 ≤ 9223372036854775807 ∧ -9223372036854775808 ≤ x2 ∧ x2 ≤ 9223372036854775807 ∧ Kept 0 0 w w' := by
  have k0 : Kept 0 0 w ((w.alloc (.cells #[.bool false, .slice none 0 0, .int .i64 0] 30)).alloc (.cells #[.bool false, .slice none 0 0, .int .i64 0] 30)) := (((Kept.refl 0 0 w).alloc (.cells #[.bool false, .slice none 0 0, .int .i64 0] 30)).alloc (.cells #[.bool false, .slice none 0 0, .int .i64 0] 30))
  have q0 : ((w.alloc (.cells #[.bool false, .slice none 0 0, .int .i64 0] 30)).alloc (.cells #[.bool false, .slice none 0 0, .int .i64 0] 30)).cell? ⟨w.heap.size, 0, none⟩ = some (.bool false) := old_cell _ (new_cell2 _ _ _ _ _ _ (by simp) rfl)
  have qf0 : ((w.alloc (.cells #[.bool false, .slice none 0 0, .int .i64 0] 30)).alloc (.cells #[.bool false, .slice none 0 0, .int .i64 0] 30)).frozen? ⟨w.heap.size, 0, none⟩ = false := loose_old (by simp <;> omega) (new_loose2 _ _ _ _ _ (by simp))
  have q1 : ((w.alloc (.cells #[.bool false, .slice none 0 0, .int .i64 0] 30)).alloc (.cells #[.bool false, .slice none 0 0, .int .i64 0] 30)).cell? ⟨w.heap.size, 1, none⟩ = some (.slice none 0 0) := old_cell _ (new_cell2 _ _ _ _ _ _ (by simp) rfl)
  have qf1 : ((w.alloc (.cells #[.bool false, .slice none 0 0, .int .i64 0] 30)).alloc (.cells #[.bool false, .slice none 0 0, .int .i64 0] 30)).frozen? ⟨w.heap.size, 1, none⟩ = false := loose_old (by simp <;> omega) (new_loose2 _ _ _ _ _ (by simp))
  have q2 : ((w.alloc (.cells #[.bool false, .slice none 0 0, .int .i64 0] 30)).alloc (.cells #[.bool false, .slice none 0 0, .int .i64 0] 30)).cell? ⟨w.heap.size, 2, none⟩ = some (.int .i64 0) := old_cell _ (new_cell2 _ _ _ _ _ _ (by simp) rfl)
  have qf2 : ((w.alloc (.cells #[.bool false, .slice none 0 0, .int .i64 0] 30)).alloc (.cells #[.bool false, .slice none 0 0, .int .i64 0] 30)).frozen? ⟨w.heap.size, 2, none⟩ = false := loose_old (by simp <;> omega) (new_loose2 _ _ _ _ _ (by simp))
  have p0 : ((w.alloc (.cells #[.bool false, .slice none 0 0, .int .i64 0] 30)).alloc (.cells #[.bool false, .slice none 0 0, .int .i64 0] 30)).cell? ⟨w.heap.size + 1, 0, none⟩ = some (.bool false) := new_cell2 _ _ _ _ _ _ (by simp) rfl
  have pf0 : ((w.alloc (.cells #[.bool false, .slice none 0 0, .int .i64 0] 30)).alloc (.cells #[.bool false, .slice none 0 0, .int .i64 0] 30)).frozen? ⟨w.heap.size + 1, 0, none⟩ = false := new_loose2 _ _ _ _ _ (by simp)
  have p1 : ((w.alloc (.cells #[.bool false, .slice none 0 0, .int .i64 0] 30)).alloc (.cells #[.bool false, .slice none 0 0, .int .i64 0] 30)).cell? ⟨w.heap.size + 1, 1, none⟩ = some (.slice none 0 0) := new_cell2 _ _ _ _ _ _ (by simp) rfl
  have pf1 : ((w.alloc (.cells #[.bool false, .slice none 0 0, .int .i64 0] 30)).alloc (.cells #[.bool false, .slice none 0 0, .int .i64 0] 30)).frozen? ⟨w.heap.size + 1, 1, none⟩ = false := new_loose2 _ _ _ _ _ (by simp)
  have p2 : ((w.alloc (.cells #[.bool false, .slice none 0 0, .int .i64 0] 30)).alloc (.cells #[.bool false, .slice none 0 0, .int .i64 0] 30)).cell? ⟨w.heap.size + 1, 2, none⟩ = some (.int .i64 0) := new_cell2 _ _ _ _ _ _ (by simp) rfl
  have pf2 : ((w.alloc (.cells #[.bool false, .slice none 0 0, .int .i64 0] 30)).alloc (.cells #[.bool false, .slice none 0 0, .int .i64 0] 30)).frozen? ⟨w.heap.size + 1, 2, none⟩ = false := new_loose2 _ _ _ _ _ (by simp)
  have s0 : ((w.alloc (.cells #[.bool false, .slice none 0 0, .int .i64 0] 30)).alloc (.cells #[.bool false, .slice none 0 0, .int .i64 0] 30)).heap.size = w.heap.size + 2 := by simp
  have K := hide (k0)
  clear k0
  have S0 := hide s0
  clear s0
  replace r := r.kept (unhide K) (by omega)
  obtain ⟨a0, c0, hv⟩ := Row.form' r
  subst hv
  go_enter Tryd.func16, Tryd.ntmps16
  go_wp2_with fail
  generalize ((w.alloc (.cells #[.bool false, .slice none 0 0, .int .i64 0] 30)).alloc (.cells #[.bool false, .slice none 0 0, .int .i64 0] 30)) = W at *
  refine (l1New_any _ r b).mono ?_
  rintro e w1 ⟨g, rfl, hg, cu, k1⟩
  replace qf0 := k1.loose0 (World.block_lt_of_cell? _ _ q0) qf0
  replace qf1 := k1.loose0 (World.block_lt_of_cell? _ _ q1) qf1
  replace qf2 := k1.loose0 (World.block_lt_of_cell? _ _ q2) qf2
  replace pf0 := k1.loose0 (World.block_lt_of_cell? _ _ p0) pf0
  replace pf1 := k1.loose0 (World.block_lt_of_cell? _ _ p1) pf1
  replace pf2 := k1.loose0 (World.block_lt_of_cell? _ _ p2) pf2
  replace q0 := k1.cell0 q0
  replace q1 := k1.cell0 q1
  replace q2 := k1.cell0 q2
  replace p0 := k1.cell0 p0
  replace p1 := k1.cell0 p1
  replace p2 := k1.cell0 p2
  replace K := hide ((unhide K).trans k1)
  have z2 := k1.size
  clear k1
  have hg2 : w.heap.size + 2 ≤ g := by have := unhide S0; omega
  have hg1 := cu.1
  generalize W.heap.size = LO at *
  clear r hg
  go_wp2_with fail
  refine (bent4_any g LO _ cu).mono ?_
  rintro e w3 ⟨v5, s5, x5, zs, rfl, r5, f5, f6, k3⟩
  first | have kk := k3.kept | have kk := k3.any (lo := g) (hi := g + 1) | have kk := k3.2
  first | replace cu := k3.drawn.1 | replace cu := cu.kept k3 (by omega) | replace cu := k3.1
  replace qf0 := Kept.looseOut' kk (by dsimp only; omega) (World.block_lt_of_cell? _ _ q0) qf0
  replace qf1 := Kept.looseOut' kk (by dsimp only; omega) (World.block_lt_of_cell? _ _ q1) qf1
  replace qf2 := Kept.looseOut' kk (by dsimp only; omega) (World.block_lt_of_cell? _ _ q2) qf2
  replace pf0 := Kept.looseOut' kk (by dsimp only; omega) (World.block_lt_of_cell? _ _ p0) pf0
  replace pf1 := Kept.looseOut' kk (by dsimp only; omega) (World.block_lt_of_cell? _ _ p1) pf1
  replace pf2 := Kept.looseOut' kk (by dsimp only; omega) (World.block_lt_of_cell? _ _ p2) pf2
  replace q0 := Kept.cellOut kk (by dsimp only; omega) q0
  replace q1 := Kept.cellOut kk (by dsimp only; omega) q1
  replace q2 := Kept.cellOut kk (by dsimp only; omega) q2
  replace p0 := Kept.cellOut kk (by dsimp only; omega) p0
  replace p1 := Kept.cellOut kk (by dsimp only; omega) p1
  replace p2 := Kept.cellOut kk (by dsimp only; omega) p2
  replace K := hide (Kept.newer' (unhide K) kk (by omega))
  have z4 := kk.size
  clear kk
  clear k3
  obtain ⟨a5, c5, hv⟩ := Row.form' r5
  subst hv
  have hgy := cu.1
  have kn := (Kept.refl 0 0 w3).alloc (.cells #[.bool s5, .slice a5 zs.length c5, .int .i64 x5] 30)
  first | have kk := kn.kept | have kk := kn.any (lo := g) (hi := g + 1) | have kk := kn.2
  first | replace cu := kn.drawn.1 | replace cu := cu.kept kn (by omega) | replace cu := kn.1
  replace r5 := r5.kept kk (by omega)
  replace qf0 := Kept.looseOut' kk (by dsimp only; omega) (World.block_lt_of_cell? _ _ q0) qf0
  replace qf1 := Kept.looseOut' kk (by dsimp only; omega) (World.block_lt_of_cell? _ _ q1) qf1
  replace qf2 := Kept.looseOut' kk (by dsimp only; omega) (World.block_lt_of_cell? _ _ q2) qf2
  replace pf0 := Kept.looseOut' kk (by dsimp only; omega) (World.block_lt_of_cell? _ _ p0) pf0
  replace pf1 := Kept.looseOut' kk (by dsimp only; omega) (World.block_lt_of_cell? _ _ p1) pf1
  replace pf2 := Kept.looseOut' kk (by dsimp only; omega) (World.block_lt_of_cell? _ _ p2) pf2
  replace q0 := Kept.cellOut kk (by dsimp only; omega) q0
  replace q1 := Kept.cellOut kk (by dsimp only; omega) q1
  replace q2 := Kept.cellOut kk (by dsimp only; omega) q2
  replace p0 := Kept.cellOut kk (by dsimp only; omega) p0
  replace p1 := Kept.cellOut kk (by dsimp only; omega) p1
  replace p2 := Kept.cellOut kk (by dsimp only; omega) p2
  replace K := hide (Kept.newer' (unhide K) kk (by omega))
  have z5 := kk.size
  clear kk
  clear kn
  have y0 : (w3.alloc (.cells #[.bool s5, .slice a5 zs.length c5, .int .i64 x5] 30)).cell? ⟨w3.heap.size, 0, none⟩ = some (.bool s5) := new_cell2 _ _ _ _ _ _ rfl rfl
  have y1 : (w3.alloc (.cells #[.bool s5, .slice a5 zs.length c5, .int .i64 x5] 30)).cell? ⟨w3.heap.size, 1, none⟩ = some (.slice a5 zs.length c5) := new_cell2 _ _ _ _ _ _ rfl rfl
  have y2 : (w3.alloc (.cells #[.bool s5, .slice a5 zs.length c5, .int .i64 x5] 30)).cell? ⟨w3.heap.size, 2, none⟩ = some (.int .i64 x5) := new_cell2 _ _ _ _ _ _ rfl rfl
  go_wp2_with fail
  obtain ⟨Y, hY⟩ : ∃ Y, w3.heap.size = Y := ⟨_, rfl⟩
  rw [hY] at y0 y1 y2 ⊢
  have hY1 := Nat.le_of_eq hY
  have hY2 := Nat.le_of_eq hY.symm
  clear hY
  generalize w3.alloc (.cells #[.bool s5, .slice a5 zs.length c5, .int .i64 x5] 30) = wy at *
  refine (l1Once_any g LO _ cu 4).mono ?_
  rintro e w6 ⟨b1, rfl, k6⟩
  first | have kk := k6.kept | have kk := k6.any (lo := g) (hi := g + 1) | have kk := k6.2
  first | replace cu := k6.drawn.1 | replace cu := cu.kept k6 (by omega) | replace cu := k6.1
  replace r5 := r5.kept kk (by omega)
  replace qf0 := Kept.looseOut' kk (by dsimp only; omega) (World.block_lt_of_cell? _ _ q0) qf0
  replace qf1 := Kept.looseOut' kk (by dsimp only; omega) (World.block_lt_of_cell? _ _ q1) qf1
  replace qf2 := Kept.looseOut' kk (by dsimp only; omega) (World.block_lt_of_cell? _ _ q2) qf2
  replace pf0 := Kept.looseOut' kk (by dsimp only; omega) (World.block_lt_of_cell? _ _ p0) pf0
  replace pf1 := Kept.looseOut' kk (by dsimp only; omega) (World.block_lt_of_cell? _ _ p1) pf1
  replace pf2 := Kept.looseOut' kk (by dsimp only; omega) (World.block_lt_of_cell? _ _ p2) pf2
  replace q0 := Kept.cellOut kk (by dsimp only; omega) q0
  replace q1 := Kept.cellOut kk (by dsimp only; omega) q1
  replace q2 := Kept.cellOut kk (by dsimp only; omega) q2
  replace p0 := Kept.cellOut kk (by dsimp only; omega) p0
  replace p1 := Kept.cellOut kk (by dsimp only; omega) p1
  replace p2 := Kept.cellOut kk (by dsimp only; omega) p2
  replace y0 := Kept.cellOut kk (by dsimp only; omega) y0
  replace y1 := Kept.cellOut kk (by dsimp only; omega) y1
  replace y2 := Kept.cellOut kk (by dsimp only; omega) y2
  replace K := hide (Kept.newer' (unhide K) kk (by omega))
  have z7 := kk.size
  clear kk
  clear k6
  cases b1
  · go_wp2_with fail
    have kd := (Kept.refl 0 0 w6).drew
    first | have kk := kd.kept | have kk := kd.any (lo := g) (hi := g + 1) | have kk := kd.2
    first | replace cu := kd.drawn.1 | replace cu := cu.kept kd (by omega) | replace cu := kd.1
    replace r5 := r5.kept kk (by omega)
    replace qf0 := Kept.looseOut' kk (by dsimp only; omega) (World.block_lt_of_cell? _ _ q0) qf0
    replace qf1 := Kept.looseOut' kk (by dsimp only; omega) (World.block_lt_of_cell? _ _ q1) qf1
    replace qf2 := Kept.looseOut' kk (by dsimp only; omega) (World.block_lt_of_cell? _ _ q2) qf2
    replace pf0 := Kept.looseOut' kk (by dsimp only; omega) (World.block_lt_of_cell? _ _ p0) pf0
    replace pf1 := Kept.looseOut' kk (by dsimp only; omega) (World.block_lt_of_cell? _ _ p1) pf1
    replace pf2 := Kept.looseOut' kk (by dsimp only; omega) (World.block_lt_of_cell? _ _ p2) pf2
    replace q0 := Kept.cellOut kk (by dsimp only; omega) q0
    replace q1 := Kept.cellOut kk (by dsimp only; omega) q1
    replace q2 := Kept.cellOut kk (by dsimp only; omega) q2
    replace p0 := Kept.cellOut kk (by dsimp only; omega) p0
    replace p1 := Kept.cellOut kk (by dsimp only; omega) p1
    replace p2 := Kept.cellOut kk (by dsimp only; omega) p2
    replace y0 := Kept.cellOut kk (by dsimp only; omega) y0
    replace y1 := Kept.cellOut kk (by dsimp only; omega) y1
    replace y2 := Kept.cellOut kk (by dsimp only; omega) y2
    replace K := hide (Kept.newer' (unhide K) kk (by omega))
    have z8 := kk.size
    clear kk
    clear kd
    refine wp_region_held_drew (S := (fun w' => w'.cell? ⟨Y, 0, none⟩ = some (.bool s5) ∧ w'.cell? ⟨Y, 1, none⟩ = some (.slice a5 zs.length c5) ∧ w'.cell? ⟨Y, 2, none⟩ = some (.int .i64 x5))) (by kernel_rfl) ?_ (fun hHeld => ?_)
    · exact ⟨y0, y1, y2⟩
    generalize w6.drew = wd9 at *
    refine wpAnyH_take (i := 0) (oi := _) (v := .agg #[.bool s5, .slice a5 zs.length c5, .int .i64 x5]) rfl (by kernel_rfl) (by kernel_rfl) (by kernel_rfl) (fun _ _ _ h => h) (Or.inl ⟨by rfl, ?_⟩) hHeld ?_
    · intro wq hSw
      try dsimp only at hSw
      go_simp
    try simp only [Act.put, List.getElem_toArray, List.getElem_cons_succ, List.getElem_cons_zero, List.setIfInBounds_toArray, List.set_cons_zero, List.set_cons_succ]
    refine wpAnyH_take (i := 1) (oi := _) (v := .pointer (some ⟨g, 0, none⟩)) rfl (by kernel_rfl) (by kernel_rfl) (by kernel_rfl) (fun _ _ _ h => h) (Or.inl ⟨by rfl, ?_⟩) hHeld ?_
    · intro wq hSw
      try dsimp only at hSw
      go_simp
    try simp only [Act.put, List.getElem_toArray, List.getElem_cons_succ, List.getElem_cons_zero, List.setIfInBounds_toArray, List.set_cons_zero, List.set_cons_succ]
    refine wpAnyH_ready (rs := [2]) (by kernel_rfl) (by simp) ?_
    refine AllReadyH.cons rfl (fun KK hK => ?_) AllReadyH.nil
    simp only [List.getElem_toArray, List.getElem_cons_succ, List.getElem_cons_zero]
    rw [if_pos (by rfl)]
    refine wps1 31 (.tmp 25) _ rfl in_l4bent_c (.pointer (some ⟨g, 0, none⟩)) rfl (bent4_any g LO _ cu) ?_
    rintro e w10 ⟨v6, s6, x6, ys, rfl, r6, f7, f8, k10⟩
    refine ⟨_, rfl, ?_⟩
    first | have kk := k10.kept | have kk := k10.any (lo := g) (hi := g + 1) | have kk := k10.2
    first | replace cu := k10.drawn.1 | replace cu := cu.kept k10 (by omega) | replace cu := k10.1
    replace r5 := r5.kept kk (by omega)
    replace qf0 := Kept.looseOut' kk (by dsimp only; omega) (World.block_lt_of_cell? _ _ q0) qf0
    replace qf1 := Kept.looseOut' kk (by dsimp only; omega) (World.block_lt_of_cell? _ _ q1) qf1
    replace qf2 := Kept.looseOut' kk (by dsimp only; omega) (World.block_lt_of_cell? _ _ q2) qf2
    replace pf0 := Kept.looseOut' kk (by dsimp only; omega) (World.block_lt_of_cell? _ _ p0) pf0
    replace pf1 := Kept.looseOut' kk (by dsimp only; omega) (World.block_lt_of_cell? _ _ p1) pf1
    replace pf2 := Kept.looseOut' kk (by dsimp only; omega) (World.block_lt_of_cell? _ _ p2) pf2
    replace q0 := Kept.cellOut kk (by dsimp only; omega) q0
    replace q1 := Kept.cellOut kk (by dsimp only; omega) q1
    replace q2 := Kept.cellOut kk (by dsimp only; omega) q2
    replace p0 := Kept.cellOut kk (by dsimp only; omega) p0
    replace p1 := Kept.cellOut kk (by dsimp only; omega) p1
    replace p2 := Kept.cellOut kk (by dsimp only; omega) p2
    replace y0 := Kept.cellOut kk (by dsimp only; omega) y0
    replace y1 := Kept.cellOut kk (by dsimp only; omega) y1
    replace y2 := Kept.cellOut kk (by dsimp only; omega) y2
    replace K := hide (Kept.newer' (unhide K) kk (by omega))
    have z11 := kk.size
    clear kk
    clear k10
    obtain ⟨a6, c6, hv⟩ := Row.form' r6
    subst hv
    clear hHeld
    refine hK.out _ _ ?_ (fun hHeld => ?_)
    · exact ⟨y0, y1, y2⟩
    clear hK KK
    try simp only [Act.put, List.getElem_toArray, List.getElem_cons_succ, List.getElem_cons_zero, List.setIfInBounds_toArray, List.set_cons_zero, List.set_cons_succ]
    refine wpAnyH_ready (rs := [3]) (by kernel_rfl) (by simp) ?_
    refine AllReadyH.cons rfl (fun KK hK => ?_) AllReadyH.nil
    simp only [List.getElem_toArray, List.getElem_cons_succ, List.getElem_cons_zero]
    rw [if_pos (by rfl)]
    go_simp
    clear hHeld
    refine hK.out _ _ ?_ (fun hHeld => ?_)
    · exact ⟨(cell_aside _ (by dsimp only; omega) (cell_aside _ (by dsimp only; omega) (cell_aside _ (by dsimp only; omega) y0))), (cell_aside _ (by dsimp only; omega) (cell_aside _ (by dsimp only; omega) (cell_aside _ (by dsimp only; omega) y1))), (cell_aside _ (by dsimp only; omega) (cell_aside _ (by dsimp only; omega) (cell_aside _ (by dsimp only; omega) y2)))⟩
    clear hK KK
    try simp only [Act.put, List.getElem_toArray, List.getElem_cons_succ, List.getElem_cons_zero, List.setIfInBounds_toArray, List.set_cons_zero, List.set_cons_succ]
    refine wpAnyH_ready (rs := [4]) (by kernel_rfl) (by simp) ?_
    refine AllReadyH.cons rfl (fun KK hK => ?_) AllReadyH.nil
    simp only [List.getElem_toArray, List.getElem_cons_succ, List.getElem_cons_zero]
    rw [if_pos (by rfl)]
    go_simp
    clear hHeld
    refine hK.out _ _ ?_ (fun hHeld => ?_)
    · exact ⟨(cell_aside _ (by dsimp only; omega) (cell_aside _ (by dsimp only; omega) (cell_aside _ (by dsimp only; omega) (cell_aside _ (by dsimp only; omega) (cell_aside _ (by dsimp only; omega) (cell_aside _ (by dsimp only; omega) y0)))))), (cell_aside _ (by dsimp only; omega) (cell_aside _ (by dsimp only; omega) (cell_aside _ (by dsimp only; omega) (cell_aside _ (by dsimp only; omega) (cell_aside _ (by dsimp only; omega) (cell_aside _ (by dsimp only; omega) y1)))))), (cell_aside _ (by dsimp only; omega) (cell_aside _ (by dsimp only; omega) (cell_aside _ (by dsimp only; omega) (cell_aside _ (by dsimp only; omega) (cell_aside _ (by dsimp only; omega) (cell_aside _ (by dsimp only; omega) y2))))))⟩
    clear hK KK
    try simp only [Act.put, List.getElem_toArray, List.getElem_cons_succ, List.getElem_cons_zero, List.setIfInBounds_toArray, List.set_cons_zero, List.set_cons_succ]
    refine wpAnyH_done (by kernel_rfl) ?_ _
    clear hHeld
    have R1 := hide (((((((r5.set_other (p := ⟨w.heap.size, 0, none⟩) (.inl (by dsimp only; omega)) (.bool s5)).set_other (p := ⟨w.heap.size, 1, none⟩) (.inl (by dsimp only; omega)) (.slice a5 zs.length c5)).set_other (p := ⟨w.heap.size, 2, none⟩) (.inl (by dsimp only; omega)) (.int .i64 x5)).set_other (p := ⟨w.heap.size + 1, 0, none⟩) (.inl (by dsimp only; omega)) (.bool s6)).set_other (p := ⟨w.heap.size + 1, 1, none⟩) (.inl (by dsimp only; omega)) (.slice a6 ys.length c6)).set_other (p := ⟨w.heap.size + 1, 2, none⟩) (.inl (by dsimp only; omega)) (.int .i64 x6)).tight.wider (lo' := w.heap.size) (by omega) (Nat.le_refl _))
    have R2 := hide (((((((r6.set_other (p := ⟨w.heap.size, 0, none⟩) (.inl (by dsimp only; omega)) (.bool s5)).set_other (p := ⟨w.heap.size, 1, none⟩) (.inl (by dsimp only; omega)) (.slice a5 zs.length c5)).set_other (p := ⟨w.heap.size, 2, none⟩) (.inl (by dsimp only; omega)) (.int .i64 x5)).set_other (p := ⟨w.heap.size + 1, 0, none⟩) (.inl (by dsimp only; omega)) (.bool s6)).set_other (p := ⟨w.heap.size + 1, 1, none⟩) (.inl (by dsimp only; omega)) (.slice a6 ys.length c6)).set_other (p := ⟨w.heap.size + 1, 2, none⟩) (.inl (by dsimp only; omega)) (.int .i64 x6)).tight.wider (lo' := w.heap.size) (by omega) (Nat.le_refl _))
    have K7 := hide (((((((unhide K).setNew (p := ⟨w.heap.size, 0, none⟩) (by simp) (.bool s5)).setNew (p := ⟨w.heap.size, 1, none⟩) (by simp) (.slice a5 zs.length c5)).setNew (p := ⟨w.heap.size, 2, none⟩) (by simp) (.int .i64 x5)).setNew (p := ⟨w.heap.size + 1, 0, none⟩) (by simp) (.bool s6)).setNew (p := ⟨w.heap.size + 1, 1, none⟩) (by simp) (.slice a6 ys.length c6)).setNew (p := ⟨w.heap.size + 1, 2, none⟩) (by simp) (.int .i64 x6))
    have Gq0 := hide (cell_aside (r := ⟨w.heap.size + 1, 2, none⟩) (.int .i64 x6) (by dsimp only; omega) (cell_aside (r := ⟨w.heap.size + 1, 1, none⟩) (.slice a6 ys.length c6) (by dsimp only; omega) (cell_aside (r := ⟨w.heap.size + 1, 0, none⟩) (.bool s6) (by dsimp only; omega) (cell_off _ _ _ 2 (.int .i64 x5) _ (cell_off _ _ _ 1 (.slice a5 zs.length c5) _ (cell_on _ _ _ (.bool s5) _ q0) (by decide)) (by decide)))))
    have Gq1 := hide (cell_aside (r := ⟨w.heap.size + 1, 2, none⟩) (.int .i64 x6) (by dsimp only; omega) (cell_aside (r := ⟨w.heap.size + 1, 1, none⟩) (.slice a6 ys.length c6) (by dsimp only; omega) (cell_aside (r := ⟨w.heap.size + 1, 0, none⟩) (.bool s6) (by dsimp only; omega) (cell_off _ _ _ 2 (.int .i64 x5) _ (cell_on _ _ _ (.slice a5 zs.length c5) _ (cell_off _ _ _ 0 (.bool s5) _ q1 (by decide))) (by decide)))))
    have Gq2 := hide (cell_aside (r := ⟨w.heap.size + 1, 2, none⟩) (.int .i64 x6) (by dsimp only; omega) (cell_aside (r := ⟨w.heap.size + 1, 1, none⟩) (.slice a6 ys.length c6) (by dsimp only; omega) (cell_aside (r := ⟨w.heap.size + 1, 0, none⟩) (.bool s6) (by dsimp only; omega) (cell_on _ _ _ (.int .i64 x5) _ (cell_off _ _ _ 1 (.slice a5 zs.length c5) _ (cell_off _ _ _ 0 (.bool s5) _ q2 (by decide)) (by decide))))))
    have Gp0 := hide (cell_off _ _ _ 2 (.int .i64 x6) _ (cell_off _ _ _ 1 (.slice a6 ys.length c6) _ (cell_on _ _ _ (.bool s6) _ (cell_aside (r := ⟨w.heap.size, 2, none⟩) (.int .i64 x5) (by dsimp only; omega) (cell_aside (r := ⟨w.heap.size, 1, none⟩) (.slice a5 zs.length c5) (by dsimp only; omega) (cell_aside (r := ⟨w.heap.size, 0, none⟩) (.bool s5) (by dsimp only; omega) p0)))) (by decide)) (by decide))
    have Gp1 := hide (cell_off _ _ _ 2 (.int .i64 x6) _ (cell_on _ _ _ (.slice a6 ys.length c6) _ (cell_off _ _ _ 0 (.bool s6) _ (cell_aside (r := ⟨w.heap.size, 2, none⟩) (.int .i64 x5) (by dsimp only; omega) (cell_aside (r := ⟨w.heap.size, 1, none⟩) (.slice a5 zs.length c5) (by dsimp only; omega) (cell_aside (r := ⟨w.heap.size, 0, none⟩) (.bool s5) (by dsimp only; omega) p1))) (by decide))) (by decide))
    have Gp2 := hide (cell_on _ _ _ (.int .i64 x6) _ (cell_off _ _ _ 1 (.slice a6 ys.length c6) _ (cell_off _ _ _ 0 (.bool s6) _ (cell_aside (r := ⟨w.heap.size, 2, none⟩) (.int .i64 x5) (by dsimp only; omega) (cell_aside (r := ⟨w.heap.size, 1, none⟩) (.slice a5 zs.length c5) (by dsimp only; omega) (cell_aside (r := ⟨w.heap.size, 0, none⟩) (.bool s5) (by dsimp only; omega) p2))) (by decide)) (by decide)))
    clear r5 r6 K q0 q1 q2 p0 p1 p2 qf0 qf1 qf2 pf0 pf1 pf2 cu
    have q0 := unhide Gq0
    have q1 := unhide Gq1
    have q2 := unhide Gq2
    have p0 := unhide Gp0
    have p1 := unhide Gp1
    have p2 := unhide Gp2
    go_wp2_with fail
    exact bodyPost_ret (v := .tuple #[.agg #[.bool s5, .slice a5 zs.length c5, .int .i64 x5], .agg #[.bool s6, .slice a6 ys.length c6, .int .i64 x6]]) (by simp [results, Tryd.results16, go_sem, q0, q1, q2, p0, p1, p2]) rfl ⟨_, _, _, _, _, _, _, _, rfl, unhide R1, unhide R2, f5, f6, f7, f8, unhide K7⟩
  go_wp2_with fail
  refine (dok_spec s5 x5 f6 f5 _ r5).mono ?_
  rintro e w8 ⟨rfl, k8⟩
  first | have kk := k8.kept | have kk := k8.any (lo := g) (hi := g + 1) | have kk := k8.2
  first | replace cu := k8.drawn.1 | replace cu := cu.kept k8 (by omega) | replace cu := k8.1
  replace r5 := r5.kept kk (by omega)
  replace qf0 := Kept.looseOut' kk (by dsimp only; omega) (World.block_lt_of_cell? _ _ q0) qf0
  replace qf1 := Kept.looseOut' kk (by dsimp only; omega) (World.block_lt_of_cell? _ _ q1) qf1
  replace qf2 := Kept.looseOut' kk (by dsimp only; omega) (World.block_lt_of_cell? _ _ q2) qf2
  replace pf0 := Kept.looseOut' kk (by dsimp only; omega) (World.block_lt_of_cell? _ _ p0) pf0
  replace pf1 := Kept.looseOut' kk (by dsimp only; omega) (World.block_lt_of_cell? _ _ p1) pf1
  replace pf2 := Kept.looseOut' kk (by dsimp only; omega) (World.block_lt_of_cell? _ _ p2) pf2
  replace q0 := Kept.cellOut kk (by dsimp only; omega) q0
  replace q1 := Kept.cellOut kk (by dsimp only; omega) q1
  replace q2 := Kept.cellOut kk (by dsimp only; omega) q2
  replace p0 := Kept.cellOut kk (by dsimp only; omega) p0
  replace p1 := Kept.cellOut kk (by dsimp only; omega) p1
  replace p2 := Kept.cellOut kk (by dsimp only; omega) p2
  replace y0 := Kept.cellOut kk (by dsimp only; omega) y0
  replace y1 := Kept.cellOut kk (by dsimp only; omega) y1
  replace y2 := Kept.cellOut kk (by dsimp only; omega) y2
  replace K := hide (Kept.newer' (unhide K) kk (by omega))
  have z9 := kk.size
  clear kk
  clear k8
  cases hok : dokB s5 zs x5
  · go_wp2_with fail
    have kd := (Kept.refl 0 0 w8).drew
    first | have kk := kd.kept | have kk := kd.any (lo := g) (hi := g + 1) | have kk := kd.2
    first | replace cu := kd.drawn.1 | replace cu := cu.kept kd (by omega) | replace cu := kd.1
    replace r5 := r5.kept kk (by omega)
    replace qf0 := Kept.looseOut' kk (by dsimp only; omega) (World.block_lt_of_cell? _ _ q0) qf0
    replace qf1 := Kept.looseOut' kk (by dsimp only; omega) (World.block_lt_of_cell? _ _ q1) qf1
    replace qf2 := Kept.looseOut' kk (by dsimp only; omega) (World.block_lt_of_cell? _ _ q2) qf2
    replace pf0 := Kept.looseOut' kk (by dsimp only; omega) (World.block_lt_of_cell? _ _ p0) pf0
    replace pf1 := Kept.looseOut' kk (by dsimp only; omega) (World.block_lt_of_cell? _ _ p1) pf1
    replace pf2 := Kept.looseOut' kk (by dsimp only; omega) (World.block_lt_of_cell? _ _ p2) pf2
    replace q0 := Kept.cellOut kk (by dsimp only; omega) q0
    replace q1 := Kept.cellOut kk (by dsimp only; omega) q1
    replace q2 := Kept.cellOut kk (by dsimp only; omega) q2
    replace p0 := Kept.cellOut kk (by dsimp only; omega) p0
    replace p1 := Kept.cellOut kk (by dsimp only; omega) p1
    replace p2 := Kept.cellOut kk (by dsimp only; omega) p2
    replace y0 := Kept.cellOut kk (by dsimp only; omega) y0
    replace y1 := Kept.cellOut kk (by dsimp only; omega) y1
    replace y2 := Kept.cellOut kk (by dsimp only; omega) y2
    replace K := hide (Kept.newer' (unhide K) kk (by omega))
    have z10 := kk.size
    clear kk
    clear kd
    refine wp_region_held_drew (S := (fun w' => w'.cell? ⟨Y, 0, none⟩ = some (.bool s5) ∧ w'.cell? ⟨Y, 1, none⟩ = some (.slice a5 zs.length c5) ∧ w'.cell? ⟨Y, 2, none⟩ = some (.int .i64 x5))) (by kernel_rfl) ?_ (fun hHeld => ?_)
    · exact ⟨y0, y1, y2⟩
    generalize w8.drew = wd11 at *
    refine wpAnyH_take (i := 0) (oi := _) (v := .agg #[.bool s5, .slice a5 zs.length c5, .int .i64 x5]) rfl (by kernel_rfl) (by kernel_rfl) (by kernel_rfl) (fun _ _ _ h => h) (Or.inl ⟨by rfl, ?_⟩) hHeld ?_
    · intro wq hSw
      try dsimp only at hSw
      go_simp
    try simp only [Act.put, List.getElem_toArray, List.getElem_cons_succ, List.getElem_cons_zero, List.setIfInBounds_toArray, List.set_cons_zero, List.set_cons_succ]
    refine wpAnyH_take (i := 1) (oi := _) (v := .pointer (some ⟨g, 0, none⟩)) rfl (by kernel_rfl) (by kernel_rfl) (by kernel_rfl) (fun _ _ _ h => h) (Or.inl ⟨by rfl, ?_⟩) hHeld ?_
    · intro wq hSw
      try dsimp only at hSw
      go_simp
    try simp only [Act.put, List.getElem_toArray, List.getElem_cons_succ, List.getElem_cons_zero, List.setIfInBounds_toArray, List.set_cons_zero, List.set_cons_succ]
    refine wpAnyH_ready (rs := [2]) (by kernel_rfl) (by simp) ?_
    refine AllReadyH.cons rfl (fun KK hK => ?_) AllReadyH.nil
    simp only [List.getElem_toArray, List.getElem_cons_succ, List.getElem_cons_zero]
    rw [if_pos (by rfl)]
    refine wps1 31 (.tmp 25) _ rfl in_l4bent_c (.pointer (some ⟨g, 0, none⟩)) rfl (bent4_any g LO _ cu) ?_
    rintro e w12 ⟨v6, s6, x6, ys, rfl, r6, f7, f8, k12⟩
    refine ⟨_, rfl, ?_⟩
    first | have kk := k12.kept | have kk := k12.any (lo := g) (hi := g + 1) | have kk := k12.2
    first | replace cu := k12.drawn.1 | replace cu := cu.kept k12 (by omega) | replace cu := k12.1
    replace r5 := r5.kept kk (by omega)
    replace qf0 := Kept.looseOut' kk (by dsimp only; omega) (World.block_lt_of_cell? _ _ q0) qf0
    replace qf1 := Kept.looseOut' kk (by dsimp only; omega) (World.block_lt_of_cell? _ _ q1) qf1
    replace qf2 := Kept.looseOut' kk (by dsimp only; omega) (World.block_lt_of_cell? _ _ q2) qf2
    replace pf0 := Kept.looseOut' kk (by dsimp only; omega) (World.block_lt_of_cell? _ _ p0) pf0
    replace pf1 := Kept.looseOut' kk (by dsimp only; omega) (World.block_lt_of_cell? _ _ p1) pf1
    replace pf2 := Kept.looseOut' kk (by dsimp only; omega) (World.block_lt_of_cell? _ _ p2) pf2
    replace q0 := Kept.cellOut kk (by dsimp only; omega) q0
    replace q1 := Kept.cellOut kk (by dsimp only; omega) q1
    replace q2 := Kept.cellOut kk (by dsimp only; omega) q2
    replace p0 := Kept.cellOut kk (by dsimp only; omega) p0
    replace p1 := Kept.cellOut kk (by dsimp only; omega) p1
    replace p2 := Kept.cellOut kk (by dsimp only; omega) p2
    replace y0 := Kept.cellOut kk (by dsimp only; omega) y0
    replace y1 := Kept.cellOut kk (by dsimp only; omega) y1
    replace y2 := Kept.cellOut kk (by dsimp only; omega) y2
    replace K := hide (Kept.newer' (unhide K) kk (by omega))
    have z13 := kk.size
    clear kk
    clear k12
    obtain ⟨a6, c6, hv⟩ := Row.form' r6
    subst hv
    clear hHeld
    refine hK.out _ _ ?_ (fun hHeld => ?_)
    · exact ⟨y0, y1, y2⟩
    clear hK KK
    try simp only [Act.put, List.getElem_toArray, List.getElem_cons_succ, List.getElem_cons_zero, List.setIfInBounds_toArray, List.set_cons_zero, List.set_cons_succ]
    refine wpAnyH_ready (rs := [3]) (by kernel_rfl) (by simp) ?_
    refine AllReadyH.cons rfl (fun KK hK => ?_) AllReadyH.nil
    simp only [List.getElem_toArray, List.getElem_cons_succ, List.getElem_cons_zero]
    rw [if_pos (by rfl)]
    go_simp
    clear hHeld
    refine hK.out _ _ ?_ (fun hHeld => ?_)
    · exact ⟨(cell_aside _ (by dsimp only; omega) (cell_aside _ (by dsimp only; omega) (cell_aside _ (by dsimp only; omega) y0))), (cell_aside _ (by dsimp only; omega) (cell_aside _ (by dsimp only; omega) (cell_aside _ (by dsimp only; omega) y1))), (cell_aside _ (by dsimp only; omega) (cell_aside _ (by dsimp only; omega) (cell_aside _ (by dsimp only; omega) y2)))⟩
    clear hK KK
    try simp only [Act.put, List.getElem_toArray, List.getElem_cons_succ, List.getElem_cons_zero, List.setIfInBounds_toArray, List.set_cons_zero, List.set_cons_succ]
    refine wpAnyH_ready (rs := [4]) (by kernel_rfl) (by simp) ?_
    refine AllReadyH.cons rfl (fun KK hK => ?_) AllReadyH.nil
    simp only [List.getElem_toArray, List.getElem_cons_succ, List.getElem_cons_zero]
    rw [if_pos (by rfl)]
    go_simp
    clear hHeld
    refine hK.out _ _ ?_ (fun hHeld => ?_)
    · exact ⟨(cell_aside _ (by dsimp only; omega) (cell_aside _ (by dsimp only; omega) (cell_aside _ (by dsimp only; omega) (cell_aside _ (by dsimp only; omega) (cell_aside _ (by dsimp only; omega) (cell_aside _ (by dsimp only; omega) y0)))))), (cell_aside _ (by dsimp only; omega) (cell_aside _ (by dsimp only; omega) (cell_aside _ (by dsimp only; omega) (cell_aside _ (by dsimp only; omega) (cell_aside _ (by dsimp only; omega) (cell_aside _ (by dsimp only; omega) y1)))))), (cell_aside _ (by dsimp only; omega) (cell_aside _ (by dsimp only; omega) (cell_aside _ (by dsimp only; omega) (cell_aside _ (by dsimp only; omega) (cell_aside _ (by dsimp only; omega) (cell_aside _ (by dsimp only; omega) y2))))))⟩
    clear hK KK
    try simp only [Act.put, List.getElem_toArray, List.getElem_cons_succ, List.getElem_cons_zero, List.setIfInBounds_toArray, List.set_cons_zero, List.set_cons_succ]
    refine wpAnyH_done (by kernel_rfl) ?_ _
    clear hHeld
    have R1 := hide (((((((r5.set_other (p := ⟨w.heap.size, 0, none⟩) (.inl (by dsimp only; omega)) (.bool s5)).set_other (p := ⟨w.heap.size, 1, none⟩) (.inl (by dsimp only; omega)) (.slice a5 zs.length c5)).set_other (p := ⟨w.heap.size, 2, none⟩) (.inl (by dsimp only; omega)) (.int .i64 x5)).set_other (p := ⟨w.heap.size + 1, 0, none⟩) (.inl (by dsimp only; omega)) (.bool s6)).set_other (p := ⟨w.heap.size + 1, 1, none⟩) (.inl (by dsimp only; omega)) (.slice a6 ys.length c6)).set_other (p := ⟨w.heap.size + 1, 2, none⟩) (.inl (by dsimp only; omega)) (.int .i64 x6)).tight.wider (lo' := w.heap.size) (by omega) (Nat.le_refl _))
    have R2 := hide (((((((r6.set_other (p := ⟨w.heap.size, 0, none⟩) (.inl (by dsimp only; omega)) (.bool s5)).set_other (p := ⟨w.heap.size, 1, none⟩) (.inl (by dsimp only; omega)) (.slice a5 zs.length c5)).set_other (p := ⟨w.heap.size, 2, none⟩) (.inl (by dsimp only; omega)) (.int .i64 x5)).set_other (p := ⟨w.heap.size + 1, 0, none⟩) (.inl (by dsimp only; omega)) (.bool s6)).set_other (p := ⟨w.heap.size + 1, 1, none⟩) (.inl (by dsimp only; omega)) (.slice a6 ys.length c6)).set_other (p := ⟨w.heap.size + 1, 2, none⟩) (.inl (by dsimp only; omega)) (.int .i64 x6)).tight.wider (lo' := w.heap.size) (by omega) (Nat.le_refl _))
    have K7 := hide (((((((unhide K).setNew (p := ⟨w.heap.size, 0, none⟩) (by simp) (.bool s5)).setNew (p := ⟨w.heap.size, 1, none⟩) (by simp) (.slice a5 zs.length c5)).setNew (p := ⟨w.heap.size, 2, none⟩) (by simp) (.int .i64 x5)).setNew (p := ⟨w.heap.size + 1, 0, none⟩) (by simp) (.bool s6)).setNew (p := ⟨w.heap.size + 1, 1, none⟩) (by simp) (.slice a6 ys.length c6)).setNew (p := ⟨w.heap.size + 1, 2, none⟩) (by simp) (.int .i64 x6))
    have Gq0 := hide (cell_aside (r := ⟨w.heap.size + 1, 2, none⟩) (.int .i64 x6) (by dsimp only; omega) (cell_aside (r := ⟨w.heap.size + 1, 1, none⟩) (.slice a6 ys.length c6) (by dsimp only; omega) (cell_aside (r := ⟨w.heap.size + 1, 0, none⟩) (.bool s6) (by dsimp only; omega) (cell_off _ _ _ 2 (.int .i64 x5) _ (cell_off _ _ _ 1 (.slice a5 zs.length c5) _ (cell_on _ _ _ (.bool s5) _ q0) (by decide)) (by decide)))))
    have Gq1 := hide (cell_aside (r := ⟨w.heap.size + 1, 2, none⟩) (.int .i64 x6) (by dsimp only; omega) (cell_aside (r := ⟨w.heap.size + 1, 1, none⟩) (.slice a6 ys.length c6) (by dsimp only; omega) (cell_aside (r := ⟨w.heap.size + 1, 0, none⟩) (.bool s6) (by dsimp only; omega) (cell_off _ _ _ 2 (.int .i64 x5) _ (cell_on _ _ _ (.slice a5 zs.length c5) _ (cell_off _ _ _ 0 (.bool s5) _ q1 (by decide))) (by decide)))))
    have Gq2 := hide (cell_aside (r := ⟨w.heap.size + 1, 2, none⟩) (.int .i64 x6) (by dsimp only; omega) (cell_aside (r := ⟨w.heap.size + 1, 1, none⟩) (.slice a6 ys.length c6) (by dsimp only; omega) (cell_aside (r := ⟨w.heap.size + 1, 0, none⟩) (.bool s6) (by dsimp only; omega) (cell_on _ _ _ (.int .i64 x5) _ (cell_off _ _ _ 1 (.slice a5 zs.length c5) _ (cell_off _ _ _ 0 (.bool s5) _ q2 (by decide)) (by decide))))))
    have Gp0 := hide (cell_off _ _ _ 2 (.int .i64 x6) _ (cell_off _ _ _ 1 (.slice a6 ys.length c6) _ (cell_on _ _ _ (.bool s6) _ (cell_aside (r := ⟨w.heap.size, 2, none⟩) (.int .i64 x5) (by dsimp only; omega) (cell_aside (r := ⟨w.heap.size, 1, none⟩) (.slice a5 zs.length c5) (by dsimp only; omega) (cell_aside (r := ⟨w.heap.size, 0, none⟩) (.bool s5) (by dsimp only; omega) p0)))) (by decide)) (by decide))
    have Gp1 := hide (cell_off _ _ _ 2 (.int .i64 x6) _ (cell_on _ _ _ (.slice a6 ys.length c6) _ (cell_off _ _ _ 0 (.bool s6) _ (cell_aside (r := ⟨w.heap.size, 2, none⟩) (.int .i64 x5) (by dsimp only; omega) (cell_aside (r := ⟨w.heap.size, 1, none⟩) (.slice a5 zs.length c5) (by dsimp only; omega) (cell_aside (r := ⟨w.heap.size, 0, none⟩) (.bool s5) (by dsimp only; omega) p1))) (by decide))) (by decide))
    have Gp2 := hide (cell_on _ _ _ (.int .i64 x6) _ (cell_off _ _ _ 1 (.slice a6 ys.length c6) _ (cell_off _ _ _ 0 (.bool s6) _ (cell_aside (r := ⟨w.heap.size, 2, none⟩) (.int .i64 x5) (by dsimp only; omega) (cell_aside (r := ⟨w.heap.size, 1, none⟩) (.slice a5 zs.length c5) (by dsimp only; omega) (cell_aside (r := ⟨w.heap.size, 0, none⟩) (.bool s5) (by dsimp only; omega) p2))) (by decide)) (by decide)))
    clear r5 r6 K q0 q1 q2 p0 p1 p2 qf0 qf1 qf2 pf0 pf1 pf2 cu
    have q0 := unhide Gq0
    have q1 := unhide Gq1
    have q2 := unhide Gq2
    have p0 := unhide Gp0
    have p1 := unhide Gp1
    have p2 := unhide Gp2
    go_wp2_with fail
    exact bodyPost_ret (v := .tuple #[.agg #[.bool s5, .slice a5 zs.length c5, .int .i64 x5], .agg #[.bool s6, .slice a6 ys.length c6, .int .i64 x6]]) (by simp [results, Tryd.results16, go_sem, q0, q1, q2, p0, p1, p2]) rfl ⟨_, _, _, _, _, _, _, _, rfl, unhide R1, unhide R2, f5, f6, f7, f8, unhide K7⟩
  go_wp2_with fail
  have kd := (Kept.refl 0 0 w8).drew
  first | have kk := kd.kept | have kk := kd.any (lo := g) (hi := g + 1) | have kk := kd.2
  first | replace cu := kd.drawn.1 | replace cu := cu.kept kd (by omega) | replace cu := kd.1
  replace r5 := r5.kept kk (by omega)
  replace qf0 := Kept.looseOut' kk (by dsimp only; omega) (World.block_lt_of_cell? _ _ q0) qf0
  replace qf1 := Kept.looseOut' kk (by dsimp only; omega) (World.block_lt_of_cell? _ _ q1) qf1
  replace qf2 := Kept.looseOut' kk (by dsimp only; omega) (World.block_lt_of_cell? _ _ q2) qf2
  replace pf0 := Kept.looseOut' kk (by dsimp only; omega) (World.block_lt_of_cell? _ _ p0) pf0
  replace pf1 := Kept.looseOut' kk (by dsimp only; omega) (World.block_lt_of_cell? _ _ p1) pf1
  replace pf2 := Kept.looseOut' kk (by dsimp only; omega) (World.block_lt_of_cell? _ _ p2) pf2
  replace q0 := Kept.cellOut kk (by dsimp only; omega) q0
  replace q1 := Kept.cellOut kk (by dsimp only; omega) q1
  replace q2 := Kept.cellOut kk (by dsimp only; omega) q2
  replace p0 := Kept.cellOut kk (by dsimp only; omega) p0
  replace p1 := Kept.cellOut kk (by dsimp only; omega) p1
  replace p2 := Kept.cellOut kk (by dsimp only; omega) p2
  replace y0 := Kept.cellOut kk (by dsimp only; omega) y0
  replace y1 := Kept.cellOut kk (by dsimp only; omega) y1
  replace y2 := Kept.cellOut kk (by dsimp only; omega) y2
  replace K := hide (Kept.newer' (unhide K) kk (by omega))
  have z10 := kk.size
  clear kk
  clear kd
  refine wp_region_held_drew (S := (fun w' => w'.cell? ⟨Y, 0, none⟩ = some (.bool s5) ∧ w'.cell? ⟨Y, 1, none⟩ = some (.slice a5 zs.length c5) ∧ w'.cell? ⟨Y, 2, none⟩ = some (.int .i64 x5))) (by kernel_rfl) ?_ (fun hHeld => ?_)
  · exact ⟨y0, y1, y2⟩
  generalize w8.drew = wd11 at *
  refine wpAnyH_take (i := 0) (oi := _) (v := .agg #[.bool s5, .slice a5 zs.length c5, .int .i64 x5]) rfl (by kernel_rfl) (by kernel_rfl) (by kernel_rfl) (fun _ _ _ h => h) (Or.inl ⟨by rfl, ?_⟩) hHeld ?_
  · intro wq hSw
    try dsimp only at hSw
    go_simp
  try simp only [Act.put, List.getElem_toArray, List.getElem_cons_succ, List.getElem_cons_zero, List.setIfInBounds_toArray, List.set_cons_zero, List.set_cons_succ]
  refine wpAnyH_take (i := 1) (oi := _) (v := .agg #[.bool s5, .slice a5 zs.length c5, .int .i64 x5]) rfl (by kernel_rfl) (by kernel_rfl) (by kernel_rfl) (fun _ _ _ h => h) (Or.inl ⟨by rfl, ?_⟩) hHeld ?_
  · intro wq hSw
    try dsimp only at hSw
    go_simp
  try simp only [Act.put, List.getElem_toArray, List.getElem_cons_succ, List.getElem_cons_zero, List.setIfInBounds_toArray, List.set_cons_zero, List.set_cons_succ]
  refine wpAnyH_take (i := 2) (oi := _) (v := .pointer (some ⟨g, 0, none⟩)) rfl (by kernel_rfl) (by kernel_rfl) (by kernel_rfl) (fun _ _ _ h => h) (Or.inl ⟨by rfl, ?_⟩) hHeld ?_
  · intro wq hSw
    try dsimp only at hSw
    go_simp
  try simp only [Act.put, List.getElem_toArray, List.getElem_cons_succ, List.getElem_cons_zero, List.setIfInBounds_toArray, List.set_cons_zero, List.set_cons_succ]
  refine wpAnyH_ready (rs := [3]) (by kernel_rfl) (by simp) ?_
  refine AllReadyH.cons rfl (fun KK hK => ?_) AllReadyH.nil
  simp only [List.getElem_toArray, List.getElem_cons_succ, List.getElem_cons_zero]
  rw [if_pos (by rfl)]
  refine wps2 34 (.tmp 18) (.const (.int .i64 3)) _ rfl in_l1Below_c (.pointer (some ⟨g, 0, none⟩)) (.int .i64 3) rfl rfl (l1Below_any g LO _ cu 3) ?_
  rintro e w12 ⟨n, rfl, -, hbn, k12⟩
  refine ⟨_, rfl, ?_⟩
  first | have kk := k12.kept | have kk := k12.any (lo := g) (hi := g + 1) | have kk := k12.2
  first | replace cu := k12.drawn.1 | replace cu := cu.kept k12 (by omega) | replace cu := k12.1
  replace r5 := r5.kept kk (by omega)
  replace qf0 := Kept.looseOut' kk (by dsimp only; omega) (World.block_lt_of_cell? _ _ q0) qf0
  replace qf1 := Kept.looseOut' kk (by dsimp only; omega) (World.block_lt_of_cell? _ _ q1) qf1
  replace qf2 := Kept.looseOut' kk (by dsimp only; omega) (World.block_lt_of_cell? _ _ q2) qf2
  replace pf0 := Kept.looseOut' kk (by dsimp only; omega) (World.block_lt_of_cell? _ _ p0) pf0
  replace pf1 := Kept.looseOut' kk (by dsimp only; omega) (World.block_lt_of_cell? _ _ p1) pf1
  replace pf2 := Kept.looseOut' kk (by dsimp only; omega) (World.block_lt_of_cell? _ _ p2) pf2
  replace q0 := Kept.cellOut kk (by dsimp only; omega) q0
  replace q1 := Kept.cellOut kk (by dsimp only; omega) q1
  replace q2 := Kept.cellOut kk (by dsimp only; omega) q2
  replace p0 := Kept.cellOut kk (by dsimp only; omega) p0
  replace p1 := Kept.cellOut kk (by dsimp only; omega) p1
  replace p2 := Kept.cellOut kk (by dsimp only; omega) p2
  replace y0 := Kept.cellOut kk (by dsimp only; omega) y0
  replace y1 := Kept.cellOut kk (by dsimp only; omega) y1
  replace y2 := Kept.cellOut kk (by dsimp only; omega) y2
  replace K := hide (Kept.newer' (unhide K) kk (by omega))
  have z13 := kk.size
  clear kk
  clear k12
  replace hbn := hbn (by decide)
  have hwn : IntKind.i64.wrap (n - 1) = n - 1 := w64 _ (by omega) (by omega)
  have o2 := small_dok hbn.1 hbn.2
  clear hHeld
  refine hK.out _ _ ?_ (fun hHeld => ?_)
  · exact ⟨y0, y1, y2⟩
  clear hK KK
  try simp only [Act.put, List.getElem_toArray, List.getElem_cons_succ, List.getElem_cons_zero, List.setIfInBounds_toArray, List.set_cons_zero, List.set_cons_succ]
  refine wpAnyH_take (i := 4) (oi := _) (v := .int .i64 (n - 1)) rfl (by kernel_rfl) (by kernel_rfl) (by kernel_rfl) (fun _ _ _ h => h) (Or.inl ⟨by rfl, ?_⟩) hHeld ?_
  · intro wq hSw
    try dsimp only at hSw
    go_simp
  try simp only [Act.put, List.getElem_toArray, List.getElem_cons_succ, List.getElem_cons_zero, List.setIfInBounds_toArray, List.set_cons_zero, List.set_cons_succ]
  refine wpAnyH_ready (rs := [5]) (by kernel_rfl) (by simp) ?_
  refine AllReadyH.cons rfl (fun KK hK => ?_) AllReadyH.nil
  simp only [List.getElem_toArray, List.getElem_cons_succ, List.getElem_cons_zero]
  rw [if_pos (by rfl)]
  refine wps1 27 (.tmp 20) _ rfl in_l3of_c (.int .i64 (n - 1)) rfl (of3_spec (n - 1) (by omega) (by omega) _) ?_
  rintro e w14 ⟨v7, rfl, r7, k14⟩
  refine ⟨_, rfl, ?_⟩
  first | have kk := k14.kept | have kk := k14.any (lo := g) (hi := g + 1) | have kk := k14.2
  first | replace cu := k14.drawn.1 | replace cu := cu.kept k14 (by omega) | replace cu := k14.1
  replace r5 := r5.kept kk (by omega)
  replace qf0 := Kept.looseOut' kk (by dsimp only; omega) (World.block_lt_of_cell? _ _ q0) qf0
  replace qf1 := Kept.looseOut' kk (by dsimp only; omega) (World.block_lt_of_cell? _ _ q1) qf1
  replace qf2 := Kept.looseOut' kk (by dsimp only; omega) (World.block_lt_of_cell? _ _ q2) qf2
  replace pf0 := Kept.looseOut' kk (by dsimp only; omega) (World.block_lt_of_cell? _ _ p0) pf0
  replace pf1 := Kept.looseOut' kk (by dsimp only; omega) (World.block_lt_of_cell? _ _ p1) pf1
  replace pf2 := Kept.looseOut' kk (by dsimp only; omega) (World.block_lt_of_cell? _ _ p2) pf2
  replace q0 := Kept.cellOut kk (by dsimp only; omega) q0
  replace q1 := Kept.cellOut kk (by dsimp only; omega) q1
  replace q2 := Kept.cellOut kk (by dsimp only; omega) q2
  replace p0 := Kept.cellOut kk (by dsimp only; omega) p0
  replace p1 := Kept.cellOut kk (by dsimp only; omega) p1
  replace p2 := Kept.cellOut kk (by dsimp only; omega) p2
  replace y0 := Kept.cellOut kk (by dsimp only; omega) y0
  replace y1 := Kept.cellOut kk (by dsimp only; omega) y1
  replace y2 := Kept.cellOut kk (by dsimp only; omega) y2
  replace K := hide (Kept.newer' (unhide K) kk (by omega))
  have z15 := kk.size
  clear kk
  clear k14
  generalize wlm (n - 1) = zn at *
  generalize wsg (n - 1) = sn at *
  obtain ⟨a7, c7, hv⟩ := Row.form' r7
  subst hv
  clear hHeld
  refine hK.out _ _ ?_ (fun hHeld => ?_)
  · exact ⟨y0, y1, y2⟩
  clear hK KK
  try simp only [Act.put, List.getElem_toArray, List.getElem_cons_succ, List.getElem_cons_zero, List.setIfInBounds_toArray, List.set_cons_zero, List.set_cons_succ]
  refine wpAnyH_take (i := 6) (oi := _) (v := .agg #[.bool sn, .slice a7 zn.length c7, .int .i64 0]) rfl (by kernel_rfl) (by kernel_rfl) (by kernel_rfl) (fun _ _ _ h => h) (Or.inl ⟨by rfl, ?_⟩) hHeld ?_
  · intro wq hSw
    try dsimp only at hSw
    go_simp
  try simp only [Act.put, List.getElem_toArray, List.getElem_cons_succ, List.getElem_cons_zero, List.setIfInBounds_toArray, List.set_cons_zero, List.set_cons_succ]
  refine wpAnyH_ready (rs := [7]) (by kernel_rfl) (by simp) ?_
  refine AllReadyH.cons rfl (fun KK hK => ?_) AllReadyH.nil
  simp only [List.getElem_toArray, List.getElem_cons_succ, List.getElem_cons_zero]
  rw [if_pos (by rfl)]
  refine wps2 33 (.tmp 17) (.tmp 22) _ rfl in_l4add_c (.agg #[.bool s5, .slice a5 zs.length c5, .int .i64 x5]) (.agg #[.bool sn, .slice a7 zn.length c7, .int .i64 0]) rfl rfl (add4_spec s5 sn x5 0 _ r5 r7 hok o2) ?_
  rintro e w16 ⟨v6, rfl, r6, k16⟩
  refine ⟨_, rfl, ?_⟩
  first | have kk := k16.kept | have kk := k16.any (lo := g) (hi := g + 1) | have kk := k16.2
  first | replace cu := k16.drawn.1 | replace cu := cu.kept k16 (by omega) | replace cu := k16.1
  replace r5 := r5.kept kk (by omega)
  replace r7 := r7.kept kk (by omega)
  replace qf0 := Kept.looseOut' kk (by dsimp only; omega) (World.block_lt_of_cell? _ _ q0) qf0
  replace qf1 := Kept.looseOut' kk (by dsimp only; omega) (World.block_lt_of_cell? _ _ q1) qf1
  replace qf2 := Kept.looseOut' kk (by dsimp only; omega) (World.block_lt_of_cell? _ _ q2) qf2
  replace pf0 := Kept.looseOut' kk (by dsimp only; omega) (World.block_lt_of_cell? _ _ p0) pf0
  replace pf1 := Kept.looseOut' kk (by dsimp only; omega) (World.block_lt_of_cell? _ _ p1) pf1
  replace pf2 := Kept.looseOut' kk (by dsimp only; omega) (World.block_lt_of_cell? _ _ p2) pf2
  replace q0 := Kept.cellOut kk (by dsimp only; omega) q0
  replace q1 := Kept.cellOut kk (by dsimp only; omega) q1
  replace q2 := Kept.cellOut kk (by dsimp only; omega) q2
  replace p0 := Kept.cellOut kk (by dsimp only; omega) p0
  replace p1 := Kept.cellOut kk (by dsimp only; omega) p1
  replace p2 := Kept.cellOut kk (by dsimp only; omega) p2
  replace y0 := Kept.cellOut kk (by dsimp only; omega) y0
  replace y1 := Kept.cellOut kk (by dsimp only; omega) y1
  replace y2 := Kept.cellOut kk (by dsimp only; omega) y2
  replace K := hide (Kept.newer' (unhide K) kk (by omega))
  have z17 := kk.size
  clear kk
  clear k16
  have rg := sum_range hok o2
  generalize wsg (wval s5 zs * 2 ^ (x5 - min x5 0).toNat + wval sn zn * 2 ^ (0 - min x5 0).toNat) = s6 at *
  generalize dlm (wval s5 zs * 2 ^ (x5 - min x5 0).toNat + wval sn zn * 2 ^ (0 - min x5 0).toNat) = ys at *
  generalize dex (wval s5 zs * 2 ^ (x5 - min x5 0).toNat + wval sn zn * 2 ^ (0 - min x5 0).toNat) (min x5 0) = x6 at *
  obtain ⟨a6, c6, hv⟩ := Row.form' r6
  subst hv
  clear hHeld
  refine hK.out _ _ ?_ (fun hHeld => ?_)
  · exact ⟨y0, y1, y2⟩
  clear hK KK
  try simp only [Act.put, List.getElem_toArray, List.getElem_cons_succ, List.getElem_cons_zero, List.setIfInBounds_toArray, List.set_cons_zero, List.set_cons_succ]
  refine wpAnyH_ready (rs := [8]) (by kernel_rfl) (by simp) ?_
  refine AllReadyH.cons rfl (fun KK hK => ?_) AllReadyH.nil
  simp only [List.getElem_toArray, List.getElem_cons_succ, List.getElem_cons_zero]
  rw [if_pos (by rfl)]
  go_simp
  clear hHeld
  refine hK.out _ _ ?_ (fun hHeld => ?_)
  · exact ⟨(cell_aside _ (by dsimp only; omega) (cell_aside _ (by dsimp only; omega) (cell_aside _ (by dsimp only; omega) y0))), (cell_aside _ (by dsimp only; omega) (cell_aside _ (by dsimp only; omega) (cell_aside _ (by dsimp only; omega) y1))), (cell_aside _ (by dsimp only; omega) (cell_aside _ (by dsimp only; omega) (cell_aside _ (by dsimp only; omega) y2)))⟩
  clear hK KK
  try simp only [Act.put, List.getElem_toArray, List.getElem_cons_succ, List.getElem_cons_zero, List.setIfInBounds_toArray, List.set_cons_zero, List.set_cons_succ]
  refine wpAnyH_ready (rs := [9]) (by kernel_rfl) (by simp) ?_
  refine AllReadyH.cons rfl (fun KK hK => ?_) AllReadyH.nil
  simp only [List.getElem_toArray, List.getElem_cons_succ, List.getElem_cons_zero]
  rw [if_pos (by rfl)]
  go_simp
  clear hHeld
  refine hK.out _ _ ?_ (fun hHeld => ?_)
  · exact ⟨(cell_aside _ (by dsimp only; omega) (cell_aside _ (by dsimp only; omega) (cell_aside _ (by dsimp only; omega) (cell_aside _ (by dsimp only; omega) (cell_aside _ (by dsimp only; omega) (cell_aside _ (by dsimp only; omega) y0)))))), (cell_aside _ (by dsimp only; omega) (cell_aside _ (by dsimp only; omega) (cell_aside _ (by dsimp only; omega) (cell_aside _ (by dsimp only; omega) (cell_aside _ (by dsimp only; omega) (cell_aside _ (by dsimp only; omega) y1)))))), (cell_aside _ (by dsimp only; omega) (cell_aside _ (by dsimp only; omega) (cell_aside _ (by dsimp only; omega) (cell_aside _ (by dsimp only; omega) (cell_aside _ (by dsimp only; omega) (cell_aside _ (by dsimp only; omega) y2))))))⟩
  clear hK KK
  try simp only [Act.put, List.getElem_toArray, List.getElem_cons_succ, List.getElem_cons_zero, List.setIfInBounds_toArray, List.set_cons_zero, List.set_cons_succ]
  refine wpAnyH_done (by kernel_rfl) ?_ _
  clear hHeld
  have R1 := hide (((((((r5.set_other (p := ⟨w.heap.size, 0, none⟩) (.inl (by dsimp only; omega)) (.bool s5)).set_other (p := ⟨w.heap.size, 1, none⟩) (.inl (by dsimp only; omega)) (.slice a5 zs.length c5)).set_other (p := ⟨w.heap.size, 2, none⟩) (.inl (by dsimp only; omega)) (.int .i64 x5)).set_other (p := ⟨w.heap.size + 1, 0, none⟩) (.inl (by dsimp only; omega)) (.bool s6)).set_other (p := ⟨w.heap.size + 1, 1, none⟩) (.inl (by dsimp only; omega)) (.slice a6 ys.length c6)).set_other (p := ⟨w.heap.size + 1, 2, none⟩) (.inl (by dsimp only; omega)) (.int .i64 x6)).tight.wider (lo' := w.heap.size) (by omega) (Nat.le_refl _))
  have R2 := hide (((((((r6.set_other (p := ⟨w.heap.size, 0, none⟩) (.inl (by dsimp only; omega)) (.bool s5)).set_other (p := ⟨w.heap.size, 1, none⟩) (.inl (by dsimp only; omega)) (.slice a5 zs.length c5)).set_other (p := ⟨w.heap.size, 2, none⟩) (.inl (by dsimp only; omega)) (.int .i64 x5)).set_other (p := ⟨w.heap.size + 1, 0, none⟩) (.inl (by dsimp only; omega)) (.bool s6)).set_other (p := ⟨w.heap.size + 1, 1, none⟩) (.inl (by dsimp only; omega)) (.slice a6 ys.length c6)).set_other (p := ⟨w.heap.size + 1, 2, none⟩) (.inl (by dsimp only; omega)) (.int .i64 x6)).tight.wider (lo' := w.heap.size) (by omega) (Nat.le_refl _))
  have K7 := hide (((((((unhide K).setNew (p := ⟨w.heap.size, 0, none⟩) (by simp) (.bool s5)).setNew (p := ⟨w.heap.size, 1, none⟩) (by simp) (.slice a5 zs.length c5)).setNew (p := ⟨w.heap.size, 2, none⟩) (by simp) (.int .i64 x5)).setNew (p := ⟨w.heap.size + 1, 0, none⟩) (by simp) (.bool s6)).setNew (p := ⟨w.heap.size + 1, 1, none⟩) (by simp) (.slice a6 ys.length c6)).setNew (p := ⟨w.heap.size + 1, 2, none⟩) (by simp) (.int .i64 x6))
  have Gq0 := hide (cell_aside (r := ⟨w.heap.size + 1, 2, none⟩) (.int .i64 x6) (by dsimp only; omega) (cell_aside (r := ⟨w.heap.size + 1, 1, none⟩) (.slice a6 ys.length c6) (by dsimp only; omega) (cell_aside (r := ⟨w.heap.size + 1, 0, none⟩) (.bool s6) (by dsimp only; omega) (cell_off _ _ _ 2 (.int .i64 x5) _ (cell_off _ _ _ 1 (.slice a5 zs.length c5) _ (cell_on _ _ _ (.bool s5) _ q0) (by decide)) (by decide)))))
  have Gq1 := hide (cell_aside (r := ⟨w.heap.size + 1, 2, none⟩) (.int .i64 x6) (by dsimp only; omega) (cell_aside (r := ⟨w.heap.size + 1, 1, none⟩) (.slice a6 ys.length c6) (by dsimp only; omega) (cell_aside (r := ⟨w.heap.size + 1, 0, none⟩) (.bool s6) (by dsimp only; omega) (cell_off _ _ _ 2 (.int .i64 x5) _ (cell_on _ _ _ (.slice a5 zs.length c5) _ (cell_off _ _ _ 0 (.bool s5) _ q1 (by decide))) (by decide)))))
  have Gq2 := hide (cell_aside (r := ⟨w.heap.size + 1, 2, none⟩) (.int .i64 x6) (by dsimp only; omega) (cell_aside (r := ⟨w.heap.size + 1, 1, none⟩) (.slice a6 ys.length c6) (by dsimp only; omega) (cell_aside (r := ⟨w.heap.size + 1, 0, none⟩) (.bool s6) (by dsimp only; omega) (cell_on _ _ _ (.int .i64 x5) _ (cell_off _ _ _ 1 (.slice a5 zs.length c5) _ (cell_off _ _ _ 0 (.bool s5) _ q2 (by decide)) (by decide))))))
  have Gp0 := hide (cell_off _ _ _ 2 (.int .i64 x6) _ (cell_off _ _ _ 1 (.slice a6 ys.length c6) _ (cell_on _ _ _ (.bool s6) _ (cell_aside (r := ⟨w.heap.size, 2, none⟩) (.int .i64 x5) (by dsimp only; omega) (cell_aside (r := ⟨w.heap.size, 1, none⟩) (.slice a5 zs.length c5) (by dsimp only; omega) (cell_aside (r := ⟨w.heap.size, 0, none⟩) (.bool s5) (by dsimp only; omega) p0)))) (by decide)) (by decide))
  have Gp1 := hide (cell_off _ _ _ 2 (.int .i64 x6) _ (cell_on _ _ _ (.slice a6 ys.length c6) _ (cell_off _ _ _ 0 (.bool s6) _ (cell_aside (r := ⟨w.heap.size, 2, none⟩) (.int .i64 x5) (by dsimp only; omega) (cell_aside (r := ⟨w.heap.size, 1, none⟩) (.slice a5 zs.length c5) (by dsimp only; omega) (cell_aside (r := ⟨w.heap.size, 0, none⟩) (.bool s5) (by dsimp only; omega) p1))) (by decide))) (by decide))
  have Gp2 := hide (cell_on _ _ _ (.int .i64 x6) _ (cell_off _ _ _ 1 (.slice a6 ys.length c6) _ (cell_off _ _ _ 0 (.bool s6) _ (cell_aside (r := ⟨w.heap.size, 2, none⟩) (.int .i64 x5) (by dsimp only; omega) (cell_aside (r := ⟨w.heap.size, 1, none⟩) (.slice a5 zs.length c5) (by dsimp only; omega) (cell_aside (r := ⟨w.heap.size, 0, none⟩) (.bool s5) (by dsimp only; omega) p2))) (by decide)) (by decide)))
  clear r5 r7 r6 K q0 q1 q2 p0 p1 p2 qf0 qf1 qf2 pf0 pf1 pf2 cu
  have q0 := unhide Gq0
  have q1 := unhide Gq1
  have q2 := unhide Gq2
  have p0 := unhide Gp0
  have p1 := unhide Gp1
  have p2 := unhide Gp2
  go_wp2_with fail
  exact bodyPost_ret (v := .tuple #[.agg #[.bool s5, .slice a5 zs.length c5, .int .i64 x5], .agg #[.bool s6, .slice a6 ys.length c6, .int .i64 x6]]) (by simp [results, Tryd.results16, go_sem, q0, q1, q2, p0, p1, p2]) rfl ⟨_, _, _, _, _, _, _, _, rfl, unhide R1, unhide R2, f5, f6, rg.1, rg.2, unhide K7⟩

end Go.Proofs.YtedknfciomoofaaDoor

namespace Go.Proofs.YtedknfciomoofaaDoor
open Go.RowKit
set_option linter.unusedVariables false
set_option maxRecDepth 8000
set_option linter.unusedSimpArgs false

end Go.Proofs.YtedknfciomoofaaDoor

namespace Go.Proofs.YtedknfciomoofaaDoor
open Go.RowKit
set_option linter.unusedVariables false
set_option maxRecDepth 8000

/-- Are two lists the same? -/
def sameL (xs ys : List Int) : Bool := decide (xs = ys)
theorem sameL_len {xs ys : List Int} (h : xs.length ≠ ys.length) : sameL xs ys = false := decide_eq_false (fun e => h (by rw [e]))
theorem sameL_at {xs ys : List Int} (i : Nat) (h : xs.getD i 0 ≠ ys.getD i 0) : sameL xs ys = false := decide_eq_false (fun e => h (by rw [e]))
theorem sameL_all {xs ys : List Int} (hl : xs.length = ys.length) (h : ∀ i, i < xs.length → xs.getD i 0 = ys.getD i 0) : sameL xs ys = true := by
  refine decide_eq_true (List.ext_getElem hl fun i h1 h2 => ?_)
  have := h i h1
  simpa [List.getD, h1, h2] using this

set_option maxHeartbeats 4000000 in
theorem sameNat_any {b1 b2 : Bool} {l1 h1 l2 h2 : Nat} {v1 v2 : Value} {xs ys : List Int} (w : World) (r1 : Row .i64 b1 l1 h1 w v1 xs) (r2 : Row .i64 b2 l2 h2 w v2 ys) :
    Calls Tryd.prog 40 #[.agg #[v1], .agg #[v2]] w fun e w' => e = .returned (.bool (sameL xs ys)) ∧ Kept 0 0 w w' := by
  have k0 := ((Kept.refl 0 0 w).alloc (.cells #[v1] 26)).alloc (.cells #[v2] 26)
  have q1 := r1.kept k0 (by omega)
  have q2 := r2.kept k0 (by omega)
  have c1 : ((w.alloc (.cells #[v1] 26)).alloc (.cells #[v2] 26)).cell? ⟨w.heap.size, 0, none⟩ = some v1 := old_cell _ (new_cell_at _ _ _ _ rfl)
  have c2 : ((w.alloc (.cells #[v1] 26)).alloc (.cells #[v2] 26)).cell? ⟨w.heap.size + 1, 0, none⟩ = some v2 := new_cell_at _ _ _ _ (by simp)
  obtain ⟨M, hM⟩ : ∃ M, M = xs.length := ⟨_, rfl⟩
  obtain ⟨N, hN⟩ : ∃ N, N = ys.length := ⟨_, rfl⟩
  obtain ⟨a1, d1, e1⟩ := Row.form' r1
  obtain ⟨a2, d2, e2⟩ := Row.form' r2
  have m1 := r1.len
  have m2 := r2.len
  rw [← hM] at e1 m1
  rw [← hN] at e2 m2
  unfold maxLen at m1 m2
  subst e1 e2
  have hat1 := (row_cell q1).2.2.2
  have hat2 := (row_cell q2).2.2.2
  rw [← hM] at hat1
  rw [← hN] at hat2
  have HA1 := hide hat1
  have HA2 := hide hat2
  have HM := hide hM
  have HN := hide hN
  have C1 := hide c1
  have C2 := hide c2
  have K := hide k0
  clear r1 r2 q1 q2 hat1 hat2 c1 c2 k0 hM hN
  go_enter Tryd.func40, Tryd.ntmps40
  by_cases hl : M = N
  · subst hl
    go_wp2
    generalize (w.alloc (.cells #[.slice a1 M d1] 26)).alloc (.cells #[.slice a2 M d2] 26) = W at *
    go_loopw [5] (fun ii wr => ∃ (i : Nat), ii = .int .i64 (i : Int) ∧ i ≤ M ∧ Hid (∀ j, j < i → xs.getD j 0 = ys.getD j 0) ∧ Kept 0 0 W wr) (fun ii _ => M - (intOf ii).toNat)
    case atStart => exact ⟨0, rfl, Nat.zero_le _, hide (fun j h => by omega), Kept.refl _ _ _⟩
    case round =>
      obtain ⟨i, rfl, hi, hp, kw⟩ := hrel
      have c1 := kw.cell0 (unhide C1)
      have c2 := kw.cell0 (unhide C2)
      have KF := hide (fun q => ((unhide K).trans kw).drewN q)
      have KF0 := hide ((unhide K).trans kw)
      by_cases hA : i < M
      · have hi1 : (i : Int) < (M : Int) := by omega
        obtain ⟨g1, o1, rfl, x1⟩ := unhide HA1 i hA
        obtain ⟨g2, o2, rfl, x2⟩ := unhide HA2 i hA
        replace x1 := kw.cell0 x1
        replace x2 := kw.cell0 x2
        have hwn := hide (fun q => kw.drewN q)
        by_cases he : xs.getD i 0 = ys.getD i 0
        · have HP2 : Hid (∀ j, j < i + 1 → xs.getD j 0 = ys.getD j 0) := fun j h => by
            by_cases e : j = i
            · subst e; exact he
            · exact unhide hp j (by omega)
          rw [← he] at x2
          generalize xs.getD i 0 = z at x1 x2
          clear hp he kw
          go_wp2
          go_quiet (fail)
          go_wp2
          go_roundw
          case rel => exact ⟨i + 1, by go_num, by omega, HP2, unhide hwn _⟩
          case measure => simp [intOf]; omega
        · have HE := hide (sameL_at (xs := xs) (ys := ys) i he)
          have heb : (xs.getD i 0 == ys.getD i 0) = false := beq_eq_false_iff_ne.2 he
          generalize xs.getD i 0 = z1 at *
          generalize ys.getD i 0 = z2 at *
          clear hp kw
          go_wp2
          go_quiet (fail)
          go_wp2
          go_ret
          exact ⟨by rw [unhide HE]; rfl, unhide KF _⟩
      · have hi1 : ¬ (i : Int) < (M : Int) := by omega
        have HE := hide (sameL_all (xs := xs) (ys := ys) (by rw [← unhide HM, ← unhide HN]) (fun j hj => unhide hp j (by rw [← unhide HM] at hj; omega)))
        clear hp kw
        go_wp2
        go_ret
        exact ⟨by rw [unhide HE]; rfl, unhide KF0⟩
  · have hE := sameL_len (xs := xs) (ys := ys) (by rw [← unhide HM, ← unhide HN]; exact hl)
    have HE := hide hE
    have hl' : ((M : Int) == (N : Int)) = false := beq_eq_false_iff_ne.2 (by omega)
    clear hE
    go_wp2
    go_ret
    exact ⟨by rw [unhide HE]; rfl, unhide K⟩

end Go.Proofs.YtedknfciomoofaaDoor

namespace Go.Proofs.YtedknfciomoofaaDoor
open Go.RowKit
set_option linter.unusedVariables false
set_option maxRecDepth 8000
set_option linter.unusedSimpArgs false

def dyC (n e : Int) : Bool := wokB (wsg n) (wlm n) && l4eB e
theorem dy_form {n e : Int} (h : dokB (wsg n) (wlm n) e = true) : ansDS (dyC n e) n e = wsg n ∧ ansDL (dyC n e) n e = wlm n ∧ ansDE (dyC n e) n e = e := by
  obtain ⟨h1, h2, h3, -, -⟩ := dok_parts h
  have hc : dyC n e = true := by
    unfold dyC l4eB
    rw [h1, decide_eq_true (show -12000 ≤ e by omega), decide_eq_true (show e ≤ 12000 by omega)]
    rfl
  rw [hc]
  obtain ⟨-, b1, b2, b3⟩ := d_ok h n (by unfold wlm; rw [limbs_val]; simp)
  exact ⟨b1, b2, b3⟩
theorem dok_small (z e : Int) (hz : z = 1 ∨ z = 5) (h1 : -3000 ≤ e) (h2 : e ≤ 3000) : dokB false [z] e = true := by
  have hw : wokB false [z] = true := by rcases hz with rfl | rfl <;> decide
  rw [dokB_odd hw h1 h2 (by simp)]
  rcases hz with rfl | rfl <;> rfl
set_option maxHeartbeats 4000000 in
theorem dy_any (n e : Int) (hn1 : n ≤ 9223372036854775807) (hn0 : -9223372036854775808 ≤ n) (w : World) :
    Calls Tryd.prog 13 #[.int .i64 n, .int .i64 e] w fun r w' => ∃ v', r = .returned (.agg #[.bool (ansDS (dyC n e) n e), v', .int .i64 (ansDE (dyC n e) n e)]) ∧ Row .i64 true w.heap.size w'.heap.size w' v' (ansDL (dyC n e) n e) ∧ Kept 0 0 w w' := by
  obtain ⟨GS, hGS⟩ : ∃ y, ansDS (dyC n e) n e = y := ⟨_, rfl⟩
  obtain ⟨GL, hGL⟩ : ∃ y, ansDL (dyC n e) n e = y := ⟨_, rfl⟩
  obtain ⟨GE, hGE⟩ : ∃ y, ansDE (dyC n e) n e = y := ⟨_, rfl⟩
  rw [hGS, hGL, hGE]
  have HGS := hide hGS
  have HGL := hide hGL
  have HGE := hide hGE
  clear hGS hGL hGE
  have k0 : Kept 0 0 w (w.alloc (.cells #[.bool false, .slice none 0 0, .int .i64 0] 30)) := ((Kept.refl 0 0 w).alloc (.cells #[.bool false, .slice none 0 0, .int .i64 0] 30))
  have q0 : (w.alloc (.cells #[.bool false, .slice none 0 0, .int .i64 0] 30)).cell? ⟨w.heap.size, 0, none⟩ = some (.bool false) := new_cell2 _ _ _ _ _ _ (by simp) rfl
  have qf0 : (w.alloc (.cells #[.bool false, .slice none 0 0, .int .i64 0] 30)).frozen? ⟨w.heap.size, 0, none⟩ = false := new_loose2 _ _ _ _ _ (by simp)
  have q1 : (w.alloc (.cells #[.bool false, .slice none 0 0, .int .i64 0] 30)).cell? ⟨w.heap.size, 1, none⟩ = some (.slice none 0 0) := new_cell2 _ _ _ _ _ _ (by simp) rfl
  have qf1 : (w.alloc (.cells #[.bool false, .slice none 0 0, .int .i64 0] 30)).frozen? ⟨w.heap.size, 1, none⟩ = false := new_loose2 _ _ _ _ _ (by simp)
  have q2 : (w.alloc (.cells #[.bool false, .slice none 0 0, .int .i64 0] 30)).cell? ⟨w.heap.size, 2, none⟩ = some (.int .i64 0) := new_cell2 _ _ _ _ _ _ (by simp) rfl
  have qf2 : (w.alloc (.cells #[.bool false, .slice none 0 0, .int .i64 0] 30)).frozen? ⟨w.heap.size, 2, none⟩ = false := new_loose2 _ _ _ _ _ (by simp)
  have s0 : (w.alloc (.cells #[.bool false, .slice none 0 0, .int .i64 0] 30)).heap.size = w.heap.size + 1 := by simp
  have K := hide (k0)
  clear k0
  have S0 := hide s0
  clear s0
  go_enter Tryd.func13, Tryd.ntmps13
  go_wp2_with fail
  generalize (w.alloc (.cells #[.bool false, .slice none 0 0, .int .i64 0] 30)) = W at *
  refine (wOf_spec n hn1 hn0 _).mono ?_
  rintro e w1 ⟨v3, rfl, r3, k1⟩
  replace qf0 := k1.loose0 (World.block_lt_of_cell? _ _ q0) qf0
  replace qf1 := k1.loose0 (World.block_lt_of_cell? _ _ q1) qf1
  replace qf2 := k1.loose0 (World.block_lt_of_cell? _ _ q2) qf2
  replace q0 := k1.cell0 q0
  replace q1 := k1.cell0 q1
  replace q2 := k1.cell0 q2
  replace K := hide ((unhide K).trans k1)
  have z2 := k1.size
  clear k1
  go_wp2_with fail
  have mk := dof_spec (wsg n) e w1 r3
  rw [wval_int] at mk
  have j1 := unhide HGS
  have j2 := unhide HGL
  have j3 := unhide HGE
  unfold dyC at j1 j2 j3
  rw [j1, j2, j3] at mk
  clear j1 j2 j3
  generalize ansDB (wokB (wsg n) (wlm n) && l4eB e) n e = GB at *
  refine (mk).mono ?_
  rintro e w3 ⟨v5, rfl, r5, k3⟩
  replace r3 := r3.kept k3 (by omega)
  replace qf0 := k3.loose0 (World.block_lt_of_cell? _ _ q0) qf0
  replace qf1 := k3.loose0 (World.block_lt_of_cell? _ _ q1) qf1
  replace qf2 := k3.loose0 (World.block_lt_of_cell? _ _ q2) qf2
  replace q0 := k3.cell0 q0
  replace q1 := k3.cell0 q1
  replace q2 := k3.cell0 q2
  replace K := hide ((unhide K).trans k3)
  have z4 := k3.size
  clear k3
  clear mk
  obtain ⟨a5, c5, hv⟩ := Row.form' r5
  subst hv
  have kn := (Kept.refl 0 0 w3).alloc (.cells #[.bool GS, .slice a5 GL.length c5, .int .i64 GE] 30)
  have y0 : (w3.alloc (.cells #[.bool GS, .slice a5 GL.length c5, .int .i64 GE] 30)).cell? ⟨w3.heap.size, 0, none⟩ = some (.bool GS) := new_cell2 _ _ _ _ _ _ (by simp) rfl
  have y1 : (w3.alloc (.cells #[.bool GS, .slice a5 GL.length c5, .int .i64 GE] 30)).cell? ⟨w3.heap.size, 1, none⟩ = some (.slice a5 GL.length c5) := new_cell2 _ _ _ _ _ _ (by simp) rfl
  have y2 : (w3.alloc (.cells #[.bool GS, .slice a5 GL.length c5, .int .i64 GE] 30)).cell? ⟨w3.heap.size, 2, none⟩ = some (.int .i64 GE) := new_cell2 _ _ _ _ _ _ (by simp) rfl
  have sz5 : w3.heap.size + 1 ≤ (w3.alloc (.cells #[.bool GS, .slice a5 GL.length c5, .int .i64 GE] 30)).heap.size := by simp
  replace r3 := r3.kept kn (by omega)
  replace r5 := r5.kept kn (by omega)
  replace qf0 := kn.loose0 (World.block_lt_of_cell? _ _ q0) qf0
  replace qf1 := kn.loose0 (World.block_lt_of_cell? _ _ q1) qf1
  replace qf2 := kn.loose0 (World.block_lt_of_cell? _ _ q2) qf2
  replace q0 := kn.cell0 q0
  replace q1 := kn.cell0 q1
  replace q2 := kn.cell0 q2
  replace K := hide ((unhide K).trans kn)
  have z6 := kn.size
  clear kn
  go_wp2_with fail
  generalize (w3.alloc (.cells #[.bool GS, .slice a5 GL.length c5, .int .i64 GE] 30)) = wn7 at *
  have R := hide ((((r5.set_other (p := ⟨w.heap.size, 0, none⟩) (.inl (by have := unhide S0; dsimp only; omega)) (.bool GS)).set_other (p := ⟨w.heap.size, 1, none⟩) (.inl (by have := unhide S0; dsimp only; omega)) (.slice a5 GL.length c5)).set_other (p := ⟨w.heap.size, 2, none⟩) (.inl (by have := unhide S0; dsimp only; omega)) (.int .i64 GE)).tight.wider (lo' := w.heap.size) (by have := unhide S0; omega) (Nat.le_refl _))
  have K7 := hide ((((unhide K).setNew (p := ⟨w.heap.size, 0, none⟩) (by simp) (.bool GS)).setNew (p := ⟨w.heap.size, 1, none⟩) (by simp) (.slice a5 GL.length c5)).setNew (p := ⟨w.heap.size, 2, none⟩) (by simp) (.int .i64 GE))
  clear r3 r5 K 
  go_wp2_with fail
  exact bodyPost_ret (v := .agg #[.bool GS, .slice a5 GL.length c5, .int .i64 GE]) (by simp [results, Tryd.results13, go_sem, q0, q1, q2]) rfl ⟨_, rfl, unhide R, unhide K7⟩

end Go.Proofs.YtedknfciomoofaaDoor

namespace Go.Proofs.YtedknfciomoofaaDoor
open Go.RowKit
set_option linter.unusedVariables false
set_option maxRecDepth 8000
set_option linter.unusedSimpArgs false

def sameDB (s1 : Bool) (xs : List Int) (x1 : Int) (s2 : Bool) (ys : List Int) (x2 : Int) : Bool := decide (x1 = x2) && ((s1 == s2) && sameL xs ys)

set_option maxHeartbeats 4000000 in
theorem sameWhole_any {b1 b2 : Bool} {l1 h1 l2 h2 : Nat} {v1 v2 : Value} {xs ys : List Int} (s1 s2 : Bool) (w : World) (r1 : Row .i64 b1 l1 h1 w v1 xs) (r2 : Row .i64 b2 l2 h2 w v2 ys) :
    Calls Tryd.prog 21 #[.agg #[.bool s1, v1], .agg #[.bool s2, v2]] w fun e w' => e = .returned (.bool ((s1 == s2) && sameL xs ys)) ∧ Kept 0 0 w w' := by
  have k0 : Kept 0 0 w ((w.alloc (.cells #[.bool s1, v1] 28)).alloc (.cells #[.bool s2, v2] 28)) := (((Kept.refl 0 0 w).alloc (.cells #[.bool s1, v1] 28)).alloc (.cells #[.bool s2, v2] 28))
  have q0 : ((w.alloc (.cells #[.bool s1, v1] 28)).alloc (.cells #[.bool s2, v2] 28)).cell? ⟨w.heap.size, 0, none⟩ = some (.bool s1) := old_cell _ (new_cell2 _ _ _ _ _ _ (by simp) rfl)
  have q1 : ((w.alloc (.cells #[.bool s1, v1] 28)).alloc (.cells #[.bool s2, v2] 28)).cell? ⟨w.heap.size, 1, none⟩ = some (v1) := old_cell _ (new_cell2 _ _ _ _ _ _ (by simp) rfl)
  have p0 : ((w.alloc (.cells #[.bool s1, v1] 28)).alloc (.cells #[.bool s2, v2] 28)).cell? ⟨w.heap.size + 1, 0, none⟩ = some (.bool s2) := new_cell2 _ _ _ _ _ _ (by simp) rfl
  have p1 : ((w.alloc (.cells #[.bool s1, v1] 28)).alloc (.cells #[.bool s2, v2] 28)).cell? ⟨w.heap.size + 1, 1, none⟩ = some (v2) := new_cell2 _ _ _ _ _ _ (by simp) rfl
  replace r1 := r1.kept k0 (by omega)
  replace r2 := r2.kept k0 (by omega)
  have s0 : ((w.alloc (.cells #[.bool s1, v1] 28)).alloc (.cells #[.bool s2, v2] 28)).heap.size = w.heap.size + 2 := by simp
  obtain ⟨a1, c1, hv⟩ := Row.form' r1
  subst hv
  obtain ⟨a2, c2, hv⟩ := Row.form' r2
  subst hv
  have K := hide (k0)
  clear k0
  have S0 := hide s0
  clear s0
  obtain ⟨g, hg⟩ : ∃ g, sameL xs ys = g := ⟨_, rfl⟩
  rw [hg]
  have HG := hide hg
  clear hg
  go_enter Tryd.func21, Tryd.ntmps21
  cases s1 <;> cases s2
  · go_wp2_with fail
    generalize ((w.alloc (.cells #[.bool false, .slice a1 xs.length c1] 28)).alloc (.cells #[.bool false, .slice a2 ys.length c2] 28)) = W at *
    have mk := sameNat_any W r1 r2
    rw [unhide HG] at mk
    refine (mk).mono ?_
    rintro e w1 ⟨rfl, k1⟩
    replace r1 := r1.kept k1 (by omega)
    replace r2 := r2.kept k1 (by omega)
    replace q0 := k1.cell0 q0
    replace q1 := k1.cell0 q1
    replace p0 := k1.cell0 p0
    replace p1 := k1.cell0 p1
    replace K := hide ((unhide K).trans k1)
    have z2 := k1.size
    clear k1
    clear mk
    go_wp2_with fail
    try go_ret
    exact ⟨by cases g <;> rfl, unhide K⟩
  · go_wp2_with fail
    try go_ret
    exact ⟨rfl, unhide K⟩
  · go_wp2_with fail
    try go_ret
    exact ⟨rfl, unhide K⟩
  · go_wp2_with fail
    generalize ((w.alloc (.cells #[.bool true, .slice a1 xs.length c1] 28)).alloc (.cells #[.bool true, .slice a2 ys.length c2] 28)) = W at *
    have mk := sameNat_any W r1 r2
    rw [unhide HG] at mk
    refine (mk).mono ?_
    rintro e w1 ⟨rfl, k1⟩
    replace r1 := r1.kept k1 (by omega)
    replace r2 := r2.kept k1 (by omega)
    replace q0 := k1.cell0 q0
    replace q1 := k1.cell0 q1
    replace p0 := k1.cell0 p0
    replace p1 := k1.cell0 p1
    replace K := hide ((unhide K).trans k1)
    have z2 := k1.size
    clear k1
    clear mk
    go_wp2_with fail
    try go_ret
    exact ⟨by cases g <;> rfl, unhide K⟩

set_option maxHeartbeats 4000000 in
theorem sameDy_any {b1 b2 : Bool} {l1 h1 l2 h2 : Nat} {v1 v2 : Value} {xs ys : List Int} (s1 s2 : Bool) (x1 x2 : Int) (w : World) (r1 : Row .i64 b1 l1 h1 w v1 xs) (r2 : Row .i64 b2 l2 h2 w v2 ys) :
    Calls Tryd.prog 9 #[.agg #[.bool s1, v1, .int .i64 x1], .agg #[.bool s2, v2, .int .i64 x2]] w fun e w' => e = .returned (.bool (sameDB s1 xs x1 s2 ys x2)) ∧ Kept 0 0 w w' := by
  have k0 : Kept 0 0 w ((w.alloc (.cells #[.bool s1, v1, .int .i64 x1] 30)).alloc (.cells #[.bool s2, v2, .int .i64 x2] 30)) := (((Kept.refl 0 0 w).alloc (.cells #[.bool s1, v1, .int .i64 x1] 30)).alloc (.cells #[.bool s2, v2, .int .i64 x2] 30))
  have q0 : ((w.alloc (.cells #[.bool s1, v1, .int .i64 x1] 30)).alloc (.cells #[.bool s2, v2, .int .i64 x2] 30)).cell? ⟨w.heap.size, 0, none⟩ = some (.bool s1) := old_cell _ (new_cell2 _ _ _ _ _ _ (by simp) rfl)
  have q1 : ((w.alloc (.cells #[.bool s1, v1, .int .i64 x1] 30)).alloc (.cells #[.bool s2, v2, .int .i64 x2] 30)).cell? ⟨w.heap.size, 1, none⟩ = some (v1) := old_cell _ (new_cell2 _ _ _ _ _ _ (by simp) rfl)
  have q2 : ((w.alloc (.cells #[.bool s1, v1, .int .i64 x1] 30)).alloc (.cells #[.bool s2, v2, .int .i64 x2] 30)).cell? ⟨w.heap.size, 2, none⟩ = some (.int .i64 x1) := old_cell _ (new_cell2 _ _ _ _ _ _ (by simp) rfl)
  have p0 : ((w.alloc (.cells #[.bool s1, v1, .int .i64 x1] 30)).alloc (.cells #[.bool s2, v2, .int .i64 x2] 30)).cell? ⟨w.heap.size + 1, 0, none⟩ = some (.bool s2) := new_cell2 _ _ _ _ _ _ (by simp) rfl
  have p1 : ((w.alloc (.cells #[.bool s1, v1, .int .i64 x1] 30)).alloc (.cells #[.bool s2, v2, .int .i64 x2] 30)).cell? ⟨w.heap.size + 1, 1, none⟩ = some (v2) := new_cell2 _ _ _ _ _ _ (by simp) rfl
  have p2 : ((w.alloc (.cells #[.bool s1, v1, .int .i64 x1] 30)).alloc (.cells #[.bool s2, v2, .int .i64 x2] 30)).cell? ⟨w.heap.size + 1, 2, none⟩ = some (.int .i64 x2) := new_cell2 _ _ _ _ _ _ (by simp) rfl
  replace r1 := r1.kept k0 (by omega)
  replace r2 := r2.kept k0 (by omega)
  have s0 : ((w.alloc (.cells #[.bool s1, v1, .int .i64 x1] 30)).alloc (.cells #[.bool s2, v2, .int .i64 x2] 30)).heap.size = w.heap.size + 2 := by simp
  obtain ⟨a1, c1, hv⟩ := Row.form' r1
  subst hv
  obtain ⟨a2, c2, hv⟩ := Row.form' r2
  subst hv
  have K := hide (k0)
  clear k0
  have S0 := hide s0
  clear s0
  unfold sameDB
  obtain ⟨g, hg⟩ : ∃ g, ((s1 == s2) && sameL xs ys) = g := ⟨_, rfl⟩
  rw [hg]
  have HG := hide hg
  clear hg
  go_enter Tryd.func9, Tryd.ntmps9
  by_cases hx : x1 = x2
  · subst hx
    go_wp2_with fail
    generalize ((w.alloc (.cells #[.bool s1, .slice a1 xs.length c1, .int .i64 x1] 30)).alloc (.cells #[.bool s2, .slice a2 ys.length c2, .int .i64 x1] 30)) = W at *
    have mk := sameWhole_any s1 s2 W r1 r2
    rw [unhide HG] at mk
    refine (mk).mono ?_
    rintro e w1 ⟨rfl, k1⟩
    replace r1 := r1.kept k1 (by omega)
    replace r2 := r2.kept k1 (by omega)
    replace q0 := k1.cell0 q0
    replace q1 := k1.cell0 q1
    replace q2 := k1.cell0 q2
    replace p0 := k1.cell0 p0
    replace p1 := k1.cell0 p1
    replace p2 := k1.cell0 p2
    replace K := hide ((unhide K).trans k1)
    have z2 := k1.size
    clear k1
    clear mk
    go_wp2_with fail
    try go_ret
    exact ⟨by cases g <;> simp, unhide K⟩
  · have hb : (x1 == x2) = false := beq_eq_false_iff_ne.2 hx
    rw [decide_eq_false hx]
    go_wp2_with fail
    try go_ret
    exact ⟨rfl, unhide K⟩

end Go.Proofs.YtedknfciomoofaaDoor

