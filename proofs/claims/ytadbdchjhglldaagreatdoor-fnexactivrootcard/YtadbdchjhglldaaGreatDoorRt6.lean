/-
  Roots of dyadic numbers: the model's DyRoot.
-/
import Derived.Test.YtadbdchjhglldaaGreatDoorRt4
import Derived.Test.YtadbdchjhglldaaGreatDoorRt5
namespace Go.Proofs.YtadbdchjhglldaaGreatDoor
open Go.RowKit
set_option linter.unusedVariables false
set_option maxRecDepth 8000
set_option linter.unusedSimpArgs false

theorem rtM_zero (mode : Nat) (k : Int) : rtM mode 0 k = 0 := by
  unfold rtM
  rw [(rt_zero k).1, (rt_zero k).2]
  have e : rndN mode false 0 false = 0 := by
   unfold rndN
   rw [show rndX 0 false = true from rfl]
   rfl
  rw [e, limbs_zero, wval_nil]
theorem rndM_zero' (mode : Nat) (s : Bool) (k : Int) : rndM mode s 0 k = 0 := by
  unfold rndM
  rw [(rnd_zero k mode s).2, limbs_zero, wval_nil]
/-- what l4sqrt answers: a number in its one form, and what it rounds to. -/
structure RtAns (S : Bool) (zs : List Int) (E low : Int) (V : Nat) (k : Int) : Prop where
  wn : WN S zs
  odd : zs ≠ [] → val zs % 2 = 1
  nil : zs = [] → E = 0
  len : zs.length ≤ 40000
  lo : -200000 ≤ E
  hi : E ≤ 200000
  pos : zs ≠ [] → S = false
  cut : zs ≠ [] → scN (val zs).toNat (E - (low - 1)) = rtN V k ∧ scL (val zs).toNat (E - (low - 1)) = rtL V k
  rnd : ∀ mode : Nat, rndM mode S (val zs).toNat (E - (low - 1)) = rtM mode V k
theorem rtAns_pos {xs : List Int} (hx : Lim xs) (nx : xs.length ≤ 100) (hV : (val xs).toNat ≠ 0) (k low : Int) (hk : k ≤ 9500) (hl0 : -10000 ≤ low) (hl1 : low ≤ 10000) :
    RtAns (wsg (wval false (limbs (rtQ (val xs).toNat (k + 2))))) (dlm (wval false (limbs (rtQ (val xs).toNat (k + 2))))) (dex (wval false (limbs (rtQ (val xs).toNat (k + 2)))) (low - 3)) low (val xs).toNat k := by
  have q1 := rt_round (val xs).toNat hV k low false
  have q2 := rt_pos (val xs).toNat hV (k + 2)
  have b3 : (limbs (rtQ (val xs).toNat (k + 2))).length ≤ 702 := by
   have h1 : rtQ (val xs).toNat (k + 2) ≤ rtN (val xs).toNat (k + 2) * 2 + 1 := by unfold rtQ; split <;> omega
   have h0 := rt_len hx nx (k + 2) (by omega)
   have h2 := limbs_len_le h1
   have h3 := limbs_succ_len (limbs (rtN (val xs).toNat (k + 2) * 2)) (limbs_nrm _)
   rw [limbs_val, Int.toNat_natCast] at h3
   have h4 := shl_len_le' (rtN (val xs).toNat (k + 2)) 1 h0
   rw [Nat.pow_one] at h4
   omega
  generalize rtQ (val xs).toNat (k + 2) = Q at *
  have ha : (wval false (limbs Q)).natAbs = Q := by rw [wval_abs (limbs_lim Q), limbs_val, Int.toNat_natCast]
  have hne : wval false (limbs Q) ≠ 0 := by intro e; rw [e] at ha; simp at ha; omega
  have hw : WN false (limbs Q) := ⟨limbs_nrm _, fun h => by cases h⟩
  have hsg := wn_sign hw
  have hd := dlm_pos hne
  obtain ⟨NN, hNN⟩ : ∃ n : Nat, n = 702 := ⟨_, rfl⟩
  rw [← hNN] at b3
  have b4 : Q < 2 ^ (16 * NN) := (limbs_len_two _ _).1 b3
  have ht := tz_lt q2 b4
  have he : dex (wval false (limbs Q)) (low - 3) = low - 3 + (tz Q : Int) := by unfold dex; rw [if_neg hne, ha]
  refine ⟨⟨limbs_nrm _, fun _ => hd.1⟩, fun _ => hd.2, fun h => ?_, ?_, ?_, ?_, fun _ => hsg, fun _ => q1, fun mode => ?_⟩
  ·rw [h] at hd; exact absurd hd.1 (by simp)
  ·unfold dlm
   rw [ha]
   have l1 := limbs_len_le (Nat.div_le_self Q (2 ^ tz Q))
   omega
  ·omega
  ·omega
  ·unfold rndM rtM
   rw [q1.1, q1.2, hsg]
theorem rtAns_zero (low : Int) (k : Int) : RtAns false [] 0 low 0 k :=
  ⟨⟨limbs_zero ▸ limbs_nrm 0, fun h => by cases h⟩, fun h => absurd rfl h, fun _ => rfl, by simp, by omega, by omega, fun h => absurd rfl h, fun h => absurd rfl h, fun mode => by rw [show (val []).toNat = 0 from rfl, rndM_zero', rtM_zero]⟩

set_option maxHeartbeats 4000000 in
theorem l4sqrt_nil {bw : Bool} {lo hi : Nat} {v : Value} {zs : List Int} (s : Bool) (x low : Int) (hl0 : -10000 ≤ low) (hl1 : low ≤ 10000) (hk1 : x - 2 * (low - 1) ≤ 9500) (w : World) (r : Row .i64 bw lo hi w v zs) (o1 : dokB s zs x = true) (hzn : zs.length = 0) :
    Calls Tryz.prog 30 #[.agg #[.bool s, v, .int .i64 x], .int .i64 low] w fun e w' => e = .returned (.agg #[.bool false, .slice none 0 0, .int .i64 0]) ∧ Kept 0 0 w w' := by
  replace r := r.tight
  obtain ⟨Wn, hn0⟩ : ∃ wz, wz = ((w.alloc (.cells #[.bool s, v, .int .i64 x] 36)).alloc (.cells #[.bool false, .slice none 0 0, .int .i64 0] 36)) := ⟨_, rfl⟩
  have k0 : Kept 0 0 w Wn := by rw [hn0]; exact (((Kept.refl 0 0 w).alloc _).alloc _)
  have p0 : Wn.cell? ⟨w.heap.size, 0, none⟩ = some (.bool s) := by rw [hn0]; exact old_cell _ (new_cell2 _ _ _ _ _ _ (by simp) rfl)
  have p1 : Wn.cell? ⟨w.heap.size, 1, none⟩ = some (v) := by rw [hn0]; exact old_cell _ (new_cell2 _ _ _ _ _ _ (by simp) rfl)
  have p2 : Wn.cell? ⟨w.heap.size, 2, none⟩ = some (.int .i64 x) := by rw [hn0]; exact old_cell _ (new_cell2 _ _ _ _ _ _ (by simp) rfl)
  have q0 : Wn.cell? ⟨w.heap.size + 1, 0, none⟩ = some (.bool false) := by rw [hn0]; exact new_cell2 _ _ _ _ _ _ (by simp) rfl
  have qf0 : Wn.frozen? ⟨w.heap.size + 1, 0, none⟩ = false := by rw [hn0]; exact new_loose2 _ _ _ _ _ (by simp)
  have q1 : Wn.cell? ⟨w.heap.size + 1, 1, none⟩ = some (.slice none 0 0) := by rw [hn0]; exact new_cell2 _ _ _ _ _ _ (by simp) rfl
  have qf1 : Wn.frozen? ⟨w.heap.size + 1, 1, none⟩ = false := by rw [hn0]; exact new_loose2 _ _ _ _ _ (by simp)
  have q2 : Wn.cell? ⟨w.heap.size + 1, 2, none⟩ = some (.int .i64 0) := by rw [hn0]; exact new_cell2 _ _ _ _ _ _ (by simp) rfl
  have qf2 : Wn.frozen? ⟨w.heap.size + 1, 2, none⟩ = false := by rw [hn0]; exact new_loose2 _ _ _ _ _ (by simp)
  subst hn0
  replace r := r.kept k0 (by omega)
  have s0 : ((w.alloc (.cells #[.bool s, v, .int .i64 x] 36)).alloc (.cells #[.bool false, .slice none 0 0, .int .i64 0] 36)).heap.size = w.heap.size + 2 := by simp
  obtain ⟨a, c, hv⟩ := r.form'
  subst hv
  have K := hide (k0)
  clear k0
  have S0 := hide s0
  clear s0
  go_enter Tryz.func30, Tryz.ntmps30
  have hb0 : ((zs.length : Int) == 0) = true := beq_iff_eq.2 (by omega)
  clear r K
  go_wp2_with fail
  exact bodyPost_ret (v := .agg #[.bool false, .slice none 0 0, .int .i64 0]) (by simp [results, Tryz.results30, go_sem, q0, q1, q2]) rfl ⟨rfl, ((Kept.refl 0 0 w).alloc _).alloc _⟩

theorem l4sqrt_any {bw : Bool} {lo hi : Nat} {v : Value} {zs : List Int} (s : Bool) (x low : Int) (hl0 : -10000 ≤ low) (hl1 : low ≤ 10000) (hk1 : x - 2 * (low - 1) ≤ 9500) (w : World) (r : Row .i64 bw lo hi w v zs) (o1 : dokB s zs x = true) :
    Calls Tryz.prog 30 #[.agg #[.bool s, v, .int .i64 x], .int .i64 low] w fun e w' => ∃ v' S ys E, e = .returned (.agg #[.bool S, v', .int .i64 E]) ∧ Row .i64 true w.heap.size w'.heap.size w' v' ys ∧ RtAns S ys E low (val zs).toNat (x - 2 * (low - 1)) ∧ Kept 0 0 w w' := by
  obtain ⟨w1', e1, e2, -, -⟩ := dok_parts o1
  obtain ⟨-, -, lx, hx⟩ := wok_int w1'
  by_cases hzn : zs.length = 0
  ·refine (l4sqrt_nil s x low hl0 hl1 hk1 w r o1 hzn).mono ?_
   rintro e w' ⟨rfl, k⟩
   have hx0 : (val zs).toNat = 0 := by rw [List.length_eq_zero_iff.1 hzn]; rfl
   rw [hx0]
   exact ⟨_, _, _, _, rfl, Row.nil _ _ _ _ _, rtAns_zero _ _, k⟩
  ·have hv0 : (val zs).toNat ≠ 0 := fun e => hzn (by have h := nrm_limbs hx; rw [e, limbs_zero] at h; rw [h]; rfl)
   refine (l4sqrt_spec s x low hl0 hl1 hk1 w r o1 hzn).mono ?_
   rintro e w' ⟨v', rfl, r', k⟩
   exact ⟨v', _, _, _, rfl, r', rtAns_pos hx.1 lx hv0 _ low hk1 hl0 hl1, k⟩

end Go.Proofs.YtadbdchjhglldaaGreatDoor

