/-
  Dyadic numbers: a number in its one form; the model's l4make and l4fits.
-/
import Derived.Test.YthahoabkehcgbaaGreatDoorqmDy3
import Derived.Test.YthahoabkehcgbaaGreatDoorqmBK
namespace Go.Proofs.YthahoabkehcgbaaGreatDoor
open Go.RowKit
set_option linter.unusedVariables false
set_option maxRecDepth 8000
set_option linter.unusedSimpArgs false

/-- The limbs and the power of two of a dyadic number m times 2^x in its one form. -/
def dlm (m : Int) : List Int := limbs (m.natAbs / 2 ^ tz m.natAbs)
def dex (m x : Int) : Int := if m = 0 then 0 else x + (tz m.natAbs : Int)
theorem dlm_zero : dlm 0 = [] := by simp [dlm, limbs_zero]
theorem dlm_pos {m : Int} (h : m ≠ 0) : 0 < (dlm m).length ∧ val (dlm m) % 2 = 1 := by
  obtain ⟨h1, h2⟩ := odd_part (n := m.natAbs) (by omega)
  constructor
  · have := limbs_pos (m.natAbs / 2 ^ tz m.natAbs)
    rw [decide_eq_true h2] at this
    exact of_decide_eq_true this
  · unfold dlm; rw [limbs_val]; omega
theorem d_shift (m x : Int) (k : Nat) : dlm (m * 2 ^ k) = dlm m ∧ dex (m * 2 ^ k) (x - k) = dex m x ∧ wsg (m * 2 ^ k) = wsg m := by
  by_cases h : m = 0
  · subst h; simp [dlm, dex, wsg]
  · have hp : (0 : Int) < 2 ^ k := Int.pow_pos (by decide)
    have e1 : (m * 2 ^ k).natAbs = m.natAbs * 2 ^ k := by rw [Int.natAbs_mul, Int.natAbs_pow]; rfl
    obtain ⟨t1, t2⟩ := tz_shift (n := m.natAbs) (by omega) k
    have h' : m * 2 ^ k ≠ 0 := Int.mul_ne_zero h (by omega)
    refine ⟨by unfold dlm; rw [e1, t1, t2], by unfold dex; rw [if_neg h, if_neg h', e1, t1]; omega, ?_⟩
    unfold wsg
    by_cases hm : m < 0
    · rw [decide_eq_true hm]; exact decide_eq_true (Int.mul_neg_of_neg_of_pos hm hp)
    · have := Int.mul_nonneg (show 0 ≤ m by omega) (Int.le_of_lt hp)
      rw [decide_eq_false hm]; exact decide_eq_false (by omega)
/-- What is told: a dyadic number m times 2^x, if it is to be told and may be. -/
def ansDB (c : Bool) (m x : Int) : Bool := c && dokB (wsg m) (dlm m) (dex m x)
def ansDS (c : Bool) (m x : Int) : Bool := ansDB c m x && wsg m
def ansDL (c : Bool) (m x : Int) : List Int := if ansDB c m x = true then dlm m else []
def ansDE (c : Bool) (m x : Int) : Int := if ansDB c m x = true then dex m x else 0
theorem ansD_no {c : Bool} {m x : Int} (h : ansDB c m x = false) : ansDS c m x = false ∧ ansDL c m x = [] ∧ ansDE c m x = 0 := by
  unfold ansDS ansDL ansDE; rw [h]; exact ⟨rfl, rfl, rfl⟩
theorem ansD_yes {c : Bool} {m x : Int} (h : ansDB c m x = true) : ansDS c m x = wsg m ∧ ansDL c m x = dlm m ∧ ansDE c m x = dex m x := by
  unfold ansDS ansDL ansDE; rw [h]; exact ⟨rfl, rfl, rfl⟩
theorem ansD_shift (c : Bool) (m x : Int) (k : Nat) : ansDB c (m * 2 ^ k) (x - k) = ansDB c m x ∧ ansDS c (m * 2 ^ k) (x - k) = ansDS c m x ∧ ansDL c (m * 2 ^ k) (x - k) = ansDL c m x ∧ ansDE c (m * 2 ^ k) (x - k) = ansDE c m x := by
  obtain ⟨e1, e2, e3⟩ := d_shift m x k
  unfold ansDS ansDL ansDE ansDB
  rw [e1, e2, e3]
  exact ⟨rfl, rfl, rfl, rfl⟩
theorem wval_abs {s : Bool} {zs : List Int} (h : Lim zs) : (wval s zs).natAbs = (val zs).toNat := by
  have := val_nonneg h
  unfold wval; split <;> omega
theorem wn_sign {s : Bool} {zs : List Int} (h : WN s zs) : wsg (wval s zs) = s := by
  have := h.int.1
  unfold wsg; exact this.symm
/-- A number that was made odd, with its sign. -/
theorem shr_wn {s : Bool} {zs : List Int} (h : WN s zs) (hne : 0 < zs.length) :
    (s && decide (0 < (limbs ((val zs).toNat / 2 ^ tz (val zs).toNat)).length)) = wsg (wval s zs) ∧ limbs (val (limbs ((val zs).toNat / 2 ^ tz (val zs).toNat))).toNat = dlm (wval s zs) ∧ wval s zs ≠ 0 := by
  have h0 := val_nonneg h.1.1
  have hp := nrm_pow h.1 (List.length_pos_iff.1 hne)
  have hp0 : (0 : Int) < 65536 ^ (zs.length - 1) := Int.pow_pos (by decide)
  have hv : wval s zs ≠ 0 := by have := wval_abs (s := s) h.1.1; omega
  have e : dlm (wval s zs) = limbs ((val zs).toNat / 2 ^ tz (val zs).toNat) := by unfold dlm; rw [wval_abs h.1.1]
  have hl := (dlm_pos hv).1
  rw [e] at hl
  refine ⟨by rw [decide_eq_true hl, Bool.and_true, wn_sign h], by rw [limbs_val, Int.toNat_natCast, e], hv⟩

theorem in_l2shr : ∀ (w : World) (args : Array Value), (callFunc 160 args).run Tryz.prog w = .ok (.enter 160 args) w := enters Tryz.func160 (by decide) (fun h => by cases h)

set_option maxHeartbeats 4000000 in
theorem make4_spec {bw : Bool} {lo hi : Nat} {v : Value} {zs : List Int} (s : Bool) (x : Int) (m : Int) (hmm : wval s zs = m) (hx1 : x ≤ 1000000) (hx0 : -1000000 ≤ x) (w : World) (r : Row .i64 bw lo hi w v zs) (hn : WN s zs) (hl : zs.length ≤ 50000) :
    Calls Tryz.prog 101 #[.agg #[.bool s, v], .int .i64 x] w fun e w' => ∃ v', e = .returned (.agg #[.bool (wsg m), v', .int .i64 (dex m x)]) ∧ Row .i64 true w.heap.size w'.heap.size w' v' (dlm m) ∧ Kept 0 0 w w' := by
  have k0 : Kept 0 0 w ((w.alloc (.cells #[.bool s, v] 50)).alloc (.cells #[.bool false, .slice none 0 0, .int .i64 0] 52)) := (((Kept.refl 0 0 w).alloc (.cells #[.bool s, v] 50)).alloc (.cells #[.bool false, .slice none 0 0, .int .i64 0] 52))
  have p0 : ((w.alloc (.cells #[.bool s, v] 50)).alloc (.cells #[.bool false, .slice none 0 0, .int .i64 0] 52)).cell? ⟨w.heap.size, 0, none⟩ = some (.bool s) := old_cell _ (new_cell2 _ _ _ _ _ _ (by simp) rfl)
  have p1 : ((w.alloc (.cells #[.bool s, v] 50)).alloc (.cells #[.bool false, .slice none 0 0, .int .i64 0] 52)).cell? ⟨w.heap.size, 1, none⟩ = some (v) := old_cell _ (new_cell2 _ _ _ _ _ _ (by simp) rfl)
  have q0 : ((w.alloc (.cells #[.bool s, v] 50)).alloc (.cells #[.bool false, .slice none 0 0, .int .i64 0] 52)).cell? ⟨w.heap.size + 1, 0, none⟩ = some (.bool false) := new_cell2 _ _ _ _ _ _ (by simp) rfl
  have qf0 : ((w.alloc (.cells #[.bool s, v] 50)).alloc (.cells #[.bool false, .slice none 0 0, .int .i64 0] 52)).frozen? ⟨w.heap.size + 1, 0, none⟩ = false := new_loose2 _ _ _ _ _ (by simp)
  have q1 : ((w.alloc (.cells #[.bool s, v] 50)).alloc (.cells #[.bool false, .slice none 0 0, .int .i64 0] 52)).cell? ⟨w.heap.size + 1, 1, none⟩ = some (.slice none 0 0) := new_cell2 _ _ _ _ _ _ (by simp) rfl
  have qf1 : ((w.alloc (.cells #[.bool s, v] 50)).alloc (.cells #[.bool false, .slice none 0 0, .int .i64 0] 52)).frozen? ⟨w.heap.size + 1, 1, none⟩ = false := new_loose2 _ _ _ _ _ (by simp)
  have q2 : ((w.alloc (.cells #[.bool s, v] 50)).alloc (.cells #[.bool false, .slice none 0 0, .int .i64 0] 52)).cell? ⟨w.heap.size + 1, 2, none⟩ = some (.int .i64 0) := new_cell2 _ _ _ _ _ _ (by simp) rfl
  have qf2 : ((w.alloc (.cells #[.bool s, v] 50)).alloc (.cells #[.bool false, .slice none 0 0, .int .i64 0] 52)).frozen? ⟨w.heap.size + 1, 2, none⟩ = false := new_loose2 _ _ _ _ _ (by simp)
  replace r := r.kept k0 (by omega)
  have s0 : ((w.alloc (.cells #[.bool s, v] 50)).alloc (.cells #[.bool false, .slice none 0 0, .int .i64 0] 52)).heap.size = w.heap.size + 2 := by simp
  obtain ⟨a, c, hv⟩ := Row.form' r
  subst hv
  have K := hide (k0)
  clear k0
  have S0 := hide s0
  clear s0
  go_enter Tryz.func101, Tryz.ntmps101
  by_cases h0 : zs.length = 0
  · have hb0 : ((zs.length : Int) == 0) = true := beq_iff_eq.2 (by omega)
    have hm : m = 0 := by rw [← hmm, List.length_eq_zero_iff.1 h0]; cases s <;> rfl
    have HM := hide hm
    clear h0 hm hmm hn r
    go_wp2_with fail
    exact bodyPost_ret (v := .agg #[.bool false, .slice none 0 0, .int .i64 0]) (by simp [results, Tryz.results101, go_sem, q0, q1, q2]) rfl ⟨_, by rw [unhide HM]; rfl, by rw [unhide HM, dlm_zero]; exact Row.nil _ _ _ _ _, unhide K⟩
  have hb0 : ((zs.length : Int) == 0) = false := beq_eq_false_iff_ne.2 (by omega)
  obtain ⟨g1, g2, g3⟩ := shr_wn hn (by omega)
  rw [hmm] at g1 g2 g3
  have hdx : dex m x = x + (tz (val zs).toNat : Int) := by unfold dex; rw [if_neg g3, ← hmm, wval_abs hn.1.1]
  have htz : tz (val zs).toNat < 16 * zs.length := tz_lt (by have := wval_abs (s := s) hn.1.1; rw [hmm] at this; omega) (by have h1 := val_lt hn.1.1; have h2 := val_nonneg hn.1.1; rw [pow_limb] at h1; omega)
  go_wp2_with fail
  generalize ((w.alloc (.cells #[.bool s, .slice a zs.length c] 50)).alloc (.cells #[.bool false, .slice none 0 0, .int .i64 0] 52)) = W at *
  refine (trail_spec _ r hn.1.1 (by omega)).mono ?_
  rintro e w1 ⟨t, rfl, ht, k1⟩
  have hte := tz_eq ht
  rw [← hte] at g1 g2 hdx htz
  clear ht hte
  replace r := r.kept k1 (by omega)
  replace qf0 := k1.loose0 (World.block_lt_of_cell? _ _ q0) qf0
  replace qf1 := k1.loose0 (World.block_lt_of_cell? _ _ q1) qf1
  replace qf2 := k1.loose0 (World.block_lt_of_cell? _ _ q2) qf2
  replace p0 := k1.cell0 p0
  replace p1 := k1.cell0 p1
  replace q0 := k1.cell0 q0
  replace q1 := k1.cell0 q1
  replace q2 := k1.cell0 q2
  replace K := hide ((unhide K).trans k1)
  have z1 := k1.size
  clear k1
  go_wp2_with fail
  have hw : IntKind.i64.wrap (x + (t : Int)) = dex m x := by rw [w64 _ (by omega) (by omega), hdx]
  have HSH := hide (shr_spec w1.drew (r.kept (Kept.refl 0 0 _).drew (by omega)) hn.1.1 (by omega) t (by omega))
  obtain ⟨X, hX⟩ : ∃ X, dex m x = X := ⟨_, rfl⟩
  rw [hX] at hw
  have HX := hide hX
  obtain ⟨zd, hzd⟩ : ∃ zd, limbs ((val zs).toNat / 2 ^ t) = zd := ⟨_, rfl⟩
  rw [hzd] at g1 g2 HSH
  have nzd : Nrm zd := by rw [← hzd]; exact limbs_nrm _
  have lzd : zd.length ≤ 100000 := by rw [← hzd]; have := limbs_len_le (Nat.div_le_self (val zs).toNat (2 ^ t)); rw [← nrm_limbs hn.1] at this; omega
  obtain ⟨zz, hzz⟩ : ∃ zz, dlm m = zz := ⟨_, rfl⟩
  obtain ⟨ss, hss⟩ : ∃ ss, wsg m = ss := ⟨_, rfl⟩
  rw [hzz] at g2
  rw [hss] at g1
  have HZ := hide hzz
  have HS := hide hss
  clear hX hdx hzd hzz hss hmm g3 htz hn
  have n_qf0 := qf0
  have n_q0 := q0
  have n_qf1 := qf1
  have n_q1 := q1
  have n_qf2 := qf2
  have n_q2 := q2
  have kd := (Kept.refl 0 0 w1).drew
  replace r := r.kept kd (by omega)
  replace qf0 := kd.loose0 (World.block_lt_of_cell? _ _ q0) qf0
  replace qf1 := kd.loose0 (World.block_lt_of_cell? _ _ q1) qf1
  replace qf2 := kd.loose0 (World.block_lt_of_cell? _ _ q2) qf2
  replace p0 := kd.cell0 p0
  replace p1 := kd.cell0 p1
  replace q0 := kd.cell0 q0
  replace q1 := kd.cell0 q1
  replace q2 := kd.cell0 q2
  replace K := hide ((unhide K).trans kd)
  have z2 := kd.size
  clear kd
  refine wp_region_held_drew (S := (fun w' => w'.cell? ⟨w.heap.size, 0, none⟩ = some (.bool s) ∧ w'.cell? ⟨w.heap.size, 1, none⟩ = some (.slice a zs.length c))) (by kernel_rfl) ?_ (fun hHeld => ?_)
  · exact ⟨p0, p1⟩
  refine wpAnyH_take (i := 0) (oi := _) (v := .pointer (some ⟨w.heap.size, 0, none⟩)) rfl (by kernel_rfl) (by kernel_rfl) (by kernel_rfl) (fun _ _ _ h => h) (Or.inl ⟨by rfl, ?_⟩) hHeld ?_
  · intro wq hSw
    try dsimp only at hSw
    go_simp
  try simp only [Act.put, List.getElem_toArray, List.getElem_cons_succ, List.getElem_cons_zero, List.setIfInBounds_toArray, List.set_cons_zero, List.set_cons_succ]
  refine wpAnyH_take (i := 1) (oi := _) (v := .bool s) rfl (by kernel_rfl) (by kernel_rfl) (by kernel_rfl) (fun _ _ _ h => h) (Or.inl ⟨by rfl, ?_⟩) hHeld ?_
  · intro wq hSw
    try dsimp only at hSw
    go_simp
  try simp only [Act.put, List.getElem_toArray, List.getElem_cons_succ, List.getElem_cons_zero, List.setIfInBounds_toArray, List.set_cons_zero, List.set_cons_succ]
  refine wpAnyH_take (i := 2) (oi := _) (v := .pointer (some ⟨w.heap.size, 1, none⟩)) rfl (by kernel_rfl) (by kernel_rfl) (by kernel_rfl) (fun _ _ _ h => h) (Or.inl ⟨by rfl, ?_⟩) hHeld ?_
  · intro wq hSw
    try dsimp only at hSw
    go_simp
  try simp only [Act.put, List.getElem_toArray, List.getElem_cons_succ, List.getElem_cons_zero, List.setIfInBounds_toArray, List.set_cons_zero, List.set_cons_succ]
  refine wpAnyH_take (i := 3) (oi := _) (v := .agg #[.slice a zs.length c]) rfl (by kernel_rfl) (by kernel_rfl) (by kernel_rfl) (fun _ _ _ h => h) (Or.inl ⟨by rfl, ?_⟩) hHeld ?_
  · intro wq hSw
    try dsimp only at hSw
    go_simp
  try simp only [Act.put, List.getElem_toArray, List.getElem_cons_succ, List.getElem_cons_zero, List.setIfInBounds_toArray, List.set_cons_zero, List.set_cons_succ]
  refine wpAnyH_take (i := 4) (oi := _) (v := .int .i64 (t : Int)) rfl (by kernel_rfl) (by kernel_rfl) (by kernel_rfl) (fun _ _ _ h => h) (Or.inl ⟨by rfl, ?_⟩) hHeld ?_
  · intro wq hSw
    try dsimp only at hSw
    go_simp
  try simp only [Act.put, List.getElem_toArray, List.getElem_cons_succ, List.getElem_cons_zero, List.setIfInBounds_toArray, List.set_cons_zero, List.set_cons_succ]
  refine wpAnyH_take (i := 7) (oi := _) (v := .int .i64 x) rfl (by kernel_rfl) (by kernel_rfl) (by kernel_rfl) (fun _ _ _ h => h) (Or.inl ⟨by rfl, ?_⟩) hHeld ?_
  · intro wq hSw
    try dsimp only at hSw
    go_simp
  try simp only [Act.put, List.getElem_toArray, List.getElem_cons_succ, List.getElem_cons_zero, List.setIfInBounds_toArray, List.set_cons_zero, List.set_cons_succ]
  refine wpAnyH_take (i := 8) (oi := _) (v := .int .i64 (t : Int)) rfl (by kernel_rfl) (by kernel_rfl) (by kernel_rfl) (fun _ _ _ h => h) (Or.inl ⟨by rfl, ?_⟩) hHeld ?_
  · intro wq hSw
    try dsimp only at hSw
    go_simp
  try simp only [Act.put, List.getElem_toArray, List.getElem_cons_succ, List.getElem_cons_zero, List.setIfInBounds_toArray, List.set_cons_zero, List.set_cons_succ]
  refine wpAnyH_take (i := 9) (oi := _) (v := .int .i64 X) rfl (by kernel_rfl) (by kernel_rfl) (by kernel_rfl) (fun _ _ _ h => h) (Or.inl ⟨by rfl, ?_⟩) hHeld ?_
  · intro wq hSw
    try dsimp only at hSw
    go_simp
  try simp only [Act.put, List.getElem_toArray, List.getElem_cons_succ, List.getElem_cons_zero, List.setIfInBounds_toArray, List.set_cons_zero, List.set_cons_succ]
  refine wpAnyH_ready (rs := [5]) (by kernel_rfl) (by simp) ?_
  refine AllReadyH.cons rfl (fun KK hK => ?_) AllReadyH.nil
  simp only [List.getElem_toArray, List.getElem_cons_succ, List.getElem_cons_zero]
  rw [if_pos (by rfl)]
  refine wps2 160 (.tmp 18) (.tmp 19) _ rfl in_l2shr (.agg #[.slice a zs.length c]) (.int .i64 (t : Int)) rfl rfl (unhide HSH) ?_
  rintro e w3 ⟨v5, rfl, r5, k3⟩
  refine ⟨_, rfl, ?_⟩
  replace r := r.kept k3 (by omega)
  replace qf0 := k3.loose0 (World.block_lt_of_cell? _ _ q0) qf0
  replace qf1 := k3.loose0 (World.block_lt_of_cell? _ _ q1) qf1
  replace qf2 := k3.loose0 (World.block_lt_of_cell? _ _ q2) qf2
  replace p0 := k3.cell0 p0
  replace p1 := k3.cell0 p1
  replace q0 := k3.cell0 q0
  replace q1 := k3.cell0 q1
  replace q2 := k3.cell0 q2
  replace K := hide ((unhide K).trans k3)
  have z4 := k3.size
  clear k3
  clear hHeld
  refine hK.out _ _ ?_ (fun hHeld => ?_)
  · exact ⟨p0, p1⟩
  clear hK KK
  try simp only [Act.put, List.getElem_toArray, List.getElem_cons_succ, List.getElem_cons_zero, List.setIfInBounds_toArray, List.set_cons_zero, List.set_cons_succ]
  refine wpAnyH_ready (rs := [6]) (by kernel_rfl) (by simp) ?_
  refine AllReadyH.cons rfl (fun KK hK => ?_) AllReadyH.nil
  simp only [List.getElem_toArray, List.getElem_cons_succ, List.getElem_cons_zero]
  rw [if_pos (by rfl)]
  refine wps2 152 (.tmp 16) (.tmp 20) _ rfl in_l3make (.bool s) (.agg #[v5]) rfl rfl (make_spec s _ r5 nzd.1 (by omega)) ?_
  rintro e w5 ⟨v6, rfl, r6, k5⟩
  refine ⟨_, rfl, ?_⟩
  replace r := r.kept k5 (by omega)
  replace r5 := r5.kept k5 (by omega)
  replace qf0 := k5.loose0 (World.block_lt_of_cell? _ _ q0) qf0
  replace qf1 := k5.loose0 (World.block_lt_of_cell? _ _ q1) qf1
  replace qf2 := k5.loose0 (World.block_lt_of_cell? _ _ q2) qf2
  replace p0 := k5.cell0 p0
  replace p1 := k5.cell0 p1
  replace q0 := k5.cell0 q0
  replace q1 := k5.cell0 q1
  replace q2 := k5.cell0 q2
  replace K := hide ((unhide K).trans k5)
  have z6 := k5.size
  clear k5
  clear hHeld
  refine hK.out _ _ ?_ (fun hHeld => ?_)
  · exact ⟨p0, p1⟩
  clear hK KK
  try simp only [Act.put, List.getElem_toArray, List.getElem_cons_succ, List.getElem_cons_zero, List.setIfInBounds_toArray, List.set_cons_zero, List.set_cons_succ]
  rw [g2] at r6
  obtain ⟨a6, c6, hv⟩ := Row.form' r6
  subst hv
  refine wpAnyH_take (i := 10) (oi := _) (v := .agg #[.bool ss, .slice a6 zz.length c6, .int .i64 X]) rfl (by kernel_rfl) (by kernel_rfl) (by kernel_rfl) (fun _ _ _ h => h) (Or.inl ⟨by rfl, ?_⟩) hHeld ?_
  · intro wq hSw
    try dsimp only at hSw
    go_simp
  try simp only [Act.put, List.getElem_toArray, List.getElem_cons_succ, List.getElem_cons_zero, List.setIfInBounds_toArray, List.set_cons_zero, List.set_cons_succ]
  refine wpAnyH_ready (rs := [11]) (by kernel_rfl) (by simp) ?_
  refine AllReadyH.cons rfl (fun KK hK => ?_) AllReadyH.nil
  simp only [List.getElem_toArray, List.getElem_cons_succ, List.getElem_cons_zero]
  rw [if_pos (by rfl)]
  go_simp
  clear hHeld
  refine hK.out _ _ ?_ (fun hHeld => ?_)
  · exact ⟨(cell_aside _ (by have := unhide S0; dsimp only; omega) (cell_aside _ (by have := unhide S0; dsimp only; omega) (cell_aside _ (by have := unhide S0; dsimp only; omega) p0))), (cell_aside _ (by have := unhide S0; dsimp only; omega) (cell_aside _ (by have := unhide S0; dsimp only; omega) (cell_aside _ (by have := unhide S0; dsimp only; omega) p1)))⟩
  clear hK KK
  try simp only [Act.put, List.getElem_toArray, List.getElem_cons_succ, List.getElem_cons_zero, List.setIfInBounds_toArray, List.set_cons_zero, List.set_cons_succ]
  refine wpAnyH_done (by kernel_rfl) ?_ _
  clear hHeld
  clear r5
  have R := hide ((((r6.set_other (p := ⟨w.heap.size + 1, 0, none⟩) (.inl (by have := unhide S0; dsimp only; omega)) (.bool ss)).set_other (p := ⟨w.heap.size + 1, 1, none⟩) (.inl (by have := unhide S0; dsimp only; omega)) (.slice a6 zz.length c6)).set_other (p := ⟨w.heap.size + 1, 2, none⟩) (.inl (by have := unhide S0; dsimp only; omega)) (.int .i64 X)).tight.wider (lo' := w.heap.size) (by have := unhide S0; omega) (Nat.le_refl _))
  have K7 := hide ((((unhide K).setNew (p := ⟨w.heap.size + 1, 0, none⟩) (by simp) (.bool ss)).setNew (p := ⟨w.heap.size + 1, 1, none⟩) (by simp) (.slice a6 zz.length c6)).setNew (p := ⟨w.heap.size + 1, 2, none⟩) (by simp) (.int .i64 X))
  clear r r6 K
  go_wp2_with fail
  exact bodyPost_ret (v := .agg #[.bool ss, .slice a6 zz.length c6, .int .i64 X]) (by simp [results, Tryz.results101, go_sem, q0, q1, q2]) rfl ⟨_, by rw [unhide HS, unhide HX], by rw [unhide HZ]; exact unhide R, unhide K7⟩

end Go.Proofs.YthahoabkehcgbaaGreatDoor

