/-
  Dyadic numbers: the program's makeOdd and toldDyadic.
-/
import Derived.Test.YthahoabkehcgbaaGreatDoorqoDy3
import Derived.Test.YthahoabkehcgbaaGreatDoorqoBK
import Derived.Deep.DeepCutAuto
namespace Go.Proofs.YthahoabkehcgbaaGreatDoor
open Go.RowKit
set_option linter.unusedVariables false
set_option maxRecDepth 8000
set_option linter.unusedSimpArgs false

/-- The limbs and the power of two of a dyadic number m times 2^x in its one form. -/
def dlm (m : Int) : List Int := limbs (m.natAbs / 2 ^ tz m.natAbs)
def dex (m x : Int) : Int := if m = 0 then 0 else x + (tz m.natAbs : Int)
theorem dlm_zero : dlm 0 = [] := by simp [dlm, limbs_zero]
theorem dlm_pos {m : Int} (h : m ≠ 0) : 0 < (dlm m).length ∧ val (dlm m) % 2 = 1 := by
  obtain ⟨h1, h2⟩ := odd_part (n := m.natAbs) (by omega)
  constructor
  · have := limbs_pos (m.natAbs / 2 ^ tz m.natAbs)
    rw [decide_eq_true h2] at this
    exact of_decide_eq_true this
  · unfold dlm; rw [limbs_val]; omega
theorem d_shift (m x : Int) (k : Nat) : dlm (m * 2 ^ k) = dlm m ∧ dex (m * 2 ^ k) (x - k) = dex m x ∧ wsg (m * 2 ^ k) = wsg m := by
  by_cases h : m = 0
  · subst h; simp [dlm, dex, wsg]
  · have hp : (0 : Int) < 2 ^ k := Int.pow_pos (by decide)
    have e1 : (m * 2 ^ k).natAbs = m.natAbs * 2 ^ k := by rw [Int.natAbs_mul, Int.natAbs_pow]; rfl
    obtain ⟨t1, t2⟩ := tz_shift (n := m.natAbs) (by omega) k
    have h' : m * 2 ^ k ≠ 0 := Int.mul_ne_zero h (by omega)
    refine ⟨by unfold dlm; rw [e1, t1, t2], by unfold dex; rw [if_neg h, if_neg h', e1, t1]; omega, ?_⟩
    unfold wsg
    by_cases hm : m < 0
    · rw [decide_eq_true hm]; exact decide_eq_true (Int.mul_neg_of_neg_of_pos hm hp)
    · have := Int.mul_nonneg (show 0 ≤ m by omega) (Int.le_of_lt hp)
      rw [decide_eq_false hm]; exact decide_eq_false (by omega)
/-- What is told: a dyadic number m times 2^x, if it is to be told and may be. -/
def ansDB (c : Bool) (m x : Int) : Bool := c && dokB (wsg m) (dlm m) (dex m x)
def ansDS (c : Bool) (m x : Int) : Bool := ansDB c m x && wsg m
def ansDL (c : Bool) (m x : Int) : List Int := if ansDB c m x = true then dlm m else []
def ansDE (c : Bool) (m x : Int) : Int := if ansDB c m x = true then dex m x else 0
theorem ansD_no {c : Bool} {m x : Int} (h : ansDB c m x = false) : ansDS c m x = false ∧ ansDL c m x = [] ∧ ansDE c m x = 0 := by
  unfold ansDS ansDL ansDE; rw [h]; exact ⟨rfl, rfl, rfl⟩
theorem ansD_yes {c : Bool} {m x : Int} (h : ansDB c m x = true) : ansDS c m x = wsg m ∧ ansDL c m x = dlm m ∧ ansDE c m x = dex m x := by
  unfold ansDS ansDL ansDE; rw [h]; exact ⟨rfl, rfl, rfl⟩
theorem wval_abs {s : Bool} {zs : List Int} (h : Lim zs) : (wval s zs).natAbs = (val zs).toNat := by
  have := val_nonneg h
  unfold wval; split <;> omega
theorem wn_sign {s : Bool} {zs : List Int} (h : WN s zs) : wsg (wval s zs) = s := by
  have := h.int.1
  unfold wsg; exact this.symm
/-- A number that was made odd, with its sign. -/
theorem shr_wn {s : Bool} {zs : List Int} (h : WN s zs) (hne : 0 < zs.length) :
    (s && decide (0 < (limbs ((val zs).toNat / 2 ^ tz (val zs).toNat)).length)) = wsg (wval s zs) ∧ limbs (val (limbs ((val zs).toNat / 2 ^ tz (val zs).toNat))).toNat = dlm (wval s zs) ∧ wval s zs ≠ 0 := by
  have h0 := val_nonneg h.1.1
  have hp := nrm_pow h.1 (List.length_pos_iff.1 hne)
  have hp0 : (0 : Int) < 65536 ^ (zs.length - 1) := Int.pow_pos (by decide)
  have hv : wval s zs ≠ 0 := by have := wval_abs (s := s) h.1.1; omega
  have e : dlm (wval s zs) = limbs ((val zs).toNat / 2 ^ tz (val zs).toNat) := by unfold dlm; rw [wval_abs h.1.1]
  have hl := (dlm_pos hv).1
  rw [e] at hl
  refine ⟨by rw [decide_eq_true hl, Bool.and_true, wn_sign h], by rw [limbs_val, Int.toNat_natCast, e], hv⟩

theorem in_l2shr : ∀ (w : World) (args : Array Value), (callFunc 160 args).run Tryz.prog w = .ok (.enter 160 args) w := enters Tryz.func160 (by decide) (fun h => by cases h)

set_option maxHeartbeats 4000000 in
theorem make4_spec {bw : Bool} {lo hi : Nat} {v : Value} {zs : List Int} (s : Bool) (x : Int) (m : Int) (hmm : wval s zs = m) (hx1 : x ≤ 1000000) (hx0 : -1000000 ≤ x) (w : World) (r : Row .i64 bw lo hi w v zs) (hn : WN s zs) (hl : zs.length ≤ 50000) :
    Calls Tryz.prog 101 #[.agg #[.bool s, v], .int .i64 x] w fun e w' => ∃ v', e = .returned (.agg #[.bool (wsg m), v', .int .i64 (dex m x)]) ∧ Row .i64 true w.heap.size w'.heap.size w' v' (dlm m) ∧ Kept 0 0 w w' := by
  have k0 : Kept 0 0 w ((w.alloc (.cells #[.bool s, v] 50)).alloc (.cells #[.bool false, .slice none 0 0, .int .i64 0] 52)) := (((Kept.refl 0 0 w).alloc (.cells #[.bool s, v] 50)).alloc (.cells #[.bool false, .slice none 0 0, .int .i64 0] 52))
  have p0 : ((w.alloc (.cells #[.bool s, v] 50)).alloc (.cells #[.bool false, .slice none 0 0, .int .i64 0] 52)).cell? ⟨w.heap.size, 0, none⟩ = some (.bool s) := old_cell _ (new_cell2 _ _ _ _ _ _ (by simp) rfl)
  have p1 : ((w.alloc (.cells #[.bool s, v] 50)).alloc (.cells #[.bool false, .slice none 0 0, .int .i64 0] 52)).cell? ⟨w.heap.size, 1, none⟩ = some (v) := old_cell _ (new_cell2 _ _ _ _ _ _ (by simp) rfl)
  have q0 : ((w.alloc (.cells #[.bool s, v] 50)).alloc (.cells #[.bool false, .slice none 0 0, .int .i64 0] 52)).cell? ⟨w.heap.size + 1, 0, none⟩ = some (.bool false) := new_cell2 _ _ _ _ _ _ (by simp) rfl
  have qf0 : ((w.alloc (.cells #[.bool s, v] 50)).alloc (.cells #[.bool false, .slice none 0 0, .int .i64 0] 52)).frozen? ⟨w.heap.size + 1, 0, none⟩ = false := new_loose2 _ _ _ _ _ (by simp)
  have q1 : ((w.alloc (.cells #[.bool s, v] 50)).alloc (.cells #[.bool false, .slice none 0 0, .int .i64 0] 52)).cell? ⟨w.heap.size + 1, 1, none⟩ = some (.slice none 0 0) := new_cell2 _ _ _ _ _ _ (by simp) rfl
  have qf1 : ((w.alloc (.cells #[.bool s, v] 50)).alloc (.cells #[.bool false, .slice none 0 0, .int .i64 0] 52)).frozen? ⟨w.heap.size + 1, 1, none⟩ = false := new_loose2 _ _ _ _ _ (by simp)
  have q2 : ((w.alloc (.cells #[.bool s, v] 50)).alloc (.cells #[.bool false, .slice none 0 0, .int .i64 0] 52)).cell? ⟨w.heap.size + 1, 2, none⟩ = some (.int .i64 0) := new_cell2 _ _ _ _ _ _ (by simp) rfl
  have qf2 : ((w.alloc (.cells #[.bool s, v] 50)).alloc (.cells #[.bool false, .slice none 0 0, .int .i64 0] 52)).frozen? ⟨w.heap.size + 1, 2, none⟩ = false := new_loose2 _ _ _ _ _ (by simp)
  replace r := r.kept k0 (by omega)
  have s0 : ((w.alloc (.cells #[.bool s, v] 50)).alloc (.cells #[.bool false, .slice none 0 0, .int .i64 0] 52)).heap.size = w.heap.size + 2 := by simp
  obtain ⟨a, c, hv⟩ := Row.form' r
  subst hv
  have K := hide (k0)
  clear k0
  have S0 := hide s0
  clear s0
  go_enter Tryz.func101, Tryz.ntmps101
  by_cases h0 : zs.length = 0
  · have hb0 : ((zs.length : Int) == 0) = true := beq_iff_eq.2 (by omega)
    have hm : m = 0 := by rw [← hmm, List.length_eq_zero_iff.1 h0]; cases s <;> rfl
    have HM := hide hm
    clear h0 hm hmm hn r
    go_wp2_with fail
    exact bodyPost_ret (v := .agg #[.bool false, .slice none 0 0, .int .i64 0]) (by simp [results, Tryz.results101, go_sem, q0, q1, q2]) rfl ⟨_, by rw [unhide HM]; rfl, by rw [unhide HM, dlm_zero]; exact Row.nil _ _ _ _ _, unhide K⟩
  have hb0 : ((zs.length : Int) == 0) = false := beq_eq_false_iff_ne.2 (by omega)
  obtain ⟨g1, g2, g3⟩ := shr_wn hn (by omega)
  rw [hmm] at g1 g2 g3
  have hdx : dex m x = x + (tz (val zs).toNat : Int) := by unfold dex; rw [if_neg g3, ← hmm, wval_abs hn.1.1]
  have htz : tz (val zs).toNat < 16 * zs.length := tz_lt (by have := wval_abs (s := s) hn.1.1; rw [hmm] at this; omega) (by have h1 := val_lt hn.1.1; have h2 := val_nonneg hn.1.1; rw [pow_limb] at h1; omega)
  go_wp2_with fail
  generalize ((w.alloc (.cells #[.bool s, .slice a zs.length c] 50)).alloc (.cells #[.bool false, .slice none 0 0, .int .i64 0] 52)) = W at *
  refine (trail_spec _ r hn.1.1 (by omega)).mono ?_
  rintro e w1 ⟨t, rfl, ht, k1⟩
  have hte := tz_eq ht
  rw [← hte] at g1 g2 hdx htz
  clear ht hte
  replace r := r.kept k1 (by omega)
  replace qf0 := k1.loose0 (World.block_lt_of_cell? _ _ q0) qf0
  replace qf1 := k1.loose0 (World.block_lt_of_cell? _ _ q1) qf1
  replace qf2 := k1.loose0 (World.block_lt_of_cell? _ _ q2) qf2
  replace p0 := k1.cell0 p0
  replace p1 := k1.cell0 p1
  replace q0 := k1.cell0 q0
  replace q1 := k1.cell0 q1
  replace q2 := k1.cell0 q2
  replace K := hide ((unhide K).trans k1)
  have z1 := k1.size
  clear k1
  go_wp2_with fail
  have hw : IntKind.i64.wrap (x + (t : Int)) = dex m x := by rw [w64 _ (by omega) (by omega), hdx]
  have HSH := hide (shr_spec w1.drew (r.kept (Kept.refl 0 0 _).drew (by omega)) hn.1.1 (by omega) t (by omega))
  obtain ⟨X, hX⟩ : ∃ X, dex m x = X := ⟨_, rfl⟩
  rw [hX] at hw
  have HX := hide hX
  obtain ⟨zd, hzd⟩ : ∃ zd, limbs ((val zs).toNat / 2 ^ t) = zd := ⟨_, rfl⟩
  rw [hzd] at g1 g2 HSH
  have nzd : Nrm zd := by rw [← hzd]; exact limbs_nrm _
  have lzd : zd.length ≤ 100000 := by rw [← hzd]; have := limbs_len_le (Nat.div_le_self (val zs).toNat (2 ^ t)); rw [← nrm_limbs hn.1] at this; omega
  obtain ⟨zz, hzz⟩ : ∃ zz, dlm m = zz := ⟨_, rfl⟩
  obtain ⟨ss, hss⟩ : ∃ ss, wsg m = ss := ⟨_, rfl⟩
  rw [hzz] at g2
  rw [hss] at g1
  have HZ := hide hzz
  have HS := hide hss
  clear hX hdx hzd hzz hss hmm g3 htz hn
  have n_qf0 := qf0
  have n_q0 := q0
  have n_qf1 := qf1
  have n_q1 := q1
  have n_qf2 := qf2
  have n_q2 := q2
  have kd := (Kept.refl 0 0 w1).drew
  replace r := r.kept kd (by omega)
  replace qf0 := kd.loose0 (World.block_lt_of_cell? _ _ q0) qf0
  replace qf1 := kd.loose0 (World.block_lt_of_cell? _ _ q1) qf1
  replace qf2 := kd.loose0 (World.block_lt_of_cell? _ _ q2) qf2
  replace p0 := kd.cell0 p0
  replace p1 := kd.cell0 p1
  replace q0 := kd.cell0 q0
  replace q1 := kd.cell0 q1
  replace q2 := kd.cell0 q2
  replace K := hide ((unhide K).trans kd)
  have z2 := kd.size
  clear kd
  refine wp_region_held_drew (S := (fun w' => w'.cell? ⟨w.heap.size, 0, none⟩ = some (.bool s) ∧ w'.cell? ⟨w.heap.size, 1, none⟩ = some (.slice a zs.length c))) (by kernel_rfl) ?_ (fun hHeld => ?_)
  · exact ⟨p0, p1⟩
  refine wpAnyH_take (i := 0) (oi := _) (v := .pointer (some ⟨w.heap.size, 0, none⟩)) rfl (by kernel_rfl) (by kernel_rfl) (by kernel_rfl) (fun _ _ _ h => h) (Or.inl ⟨by rfl, ?_⟩) hHeld ?_
  · intro wq hSw
    try dsimp only at hSw
    go_simp
  try simp only [Act.put, List.getElem_toArray, List.getElem_cons_succ, List.getElem_cons_zero, List.setIfInBounds_toArray, List.set_cons_zero, List.set_cons_succ]
  refine wpAnyH_take (i := 1) (oi := _) (v := .bool s) rfl (by kernel_rfl) (by kernel_rfl) (by kernel_rfl) (fun _ _ _ h => h) (Or.inl ⟨by rfl, ?_⟩) hHeld ?_
  · intro wq hSw
    try dsimp only at hSw
    go_simp
  try simp only [Act.put, List.getElem_toArray, List.getElem_cons_succ, List.getElem_cons_zero, List.setIfInBounds_toArray, List.set_cons_zero, List.set_cons_succ]
  refine wpAnyH_take (i := 2) (oi := _) (v := .pointer (some ⟨w.heap.size, 1, none⟩)) rfl (by kernel_rfl) (by kernel_rfl) (by kernel_rfl) (fun _ _ _ h => h) (Or.inl ⟨by rfl, ?_⟩) hHeld ?_
  · intro wq hSw
    try dsimp only at hSw
    go_simp
  try simp only [Act.put, List.getElem_toArray, List.getElem_cons_succ, List.getElem_cons_zero, List.setIfInBounds_toArray, List.set_cons_zero, List.set_cons_succ]
  refine wpAnyH_take (i := 3) (oi := _) (v := .agg #[.slice a zs.length c]) rfl (by kernel_rfl) (by kernel_rfl) (by kernel_rfl) (fun _ _ _ h => h) (Or.inl ⟨by rfl, ?_⟩) hHeld ?_
  · intro wq hSw
    try dsimp only at hSw
    go_simp
  try simp only [Act.put, List.getElem_toArray, List.getElem_cons_succ, List.getElem_cons_zero, List.setIfInBounds_toArray, List.set_cons_zero, List.set_cons_succ]
  refine wpAnyH_take (i := 4) (oi := _) (v := .int .i64 (t : Int)) rfl (by kernel_rfl) (by kernel_rfl) (by kernel_rfl) (fun _ _ _ h => h) (Or.inl ⟨by rfl, ?_⟩) hHeld ?_
  · intro wq hSw
    try dsimp only at hSw
    go_simp
  try simp only [Act.put, List.getElem_toArray, List.getElem_cons_succ, List.getElem_cons_zero, List.setIfInBounds_toArray, List.set_cons_zero, List.set_cons_succ]
  refine wpAnyH_take (i := 7) (oi := _) (v := .int .i64 x) rfl (by kernel_rfl) (by kernel_rfl) (by kernel_rfl) (fun _ _ _ h => h) (Or.inl ⟨by rfl, ?_⟩) hHeld ?_
  · intro wq hSw
    try dsimp only at hSw
    go_simp
  try simp only [Act.put, List.getElem_toArray, List.getElem_cons_succ, List.getElem_cons_zero, List.setIfInBounds_toArray, List.set_cons_zero, List.set_cons_succ]
  refine wpAnyH_take (i := 8) (oi := _) (v := .int .i64 (t : Int)) rfl (by kernel_rfl) (by kernel_rfl) (by kernel_rfl) (fun _ _ _ h => h) (Or.inl ⟨by rfl, ?_⟩) hHeld ?_
  · intro wq hSw
    try dsimp only at hSw
    go_simp
  try simp only [Act.put, List.getElem_toArray, List.getElem_cons_succ, List.getElem_cons_zero, List.setIfInBounds_toArray, List.set_cons_zero, List.set_cons_succ]
  refine wpAnyH_take (i := 9) (oi := _) (v := .int .i64 X) rfl (by kernel_rfl) (by kernel_rfl) (by kernel_rfl) (fun _ _ _ h => h) (Or.inl ⟨by rfl, ?_⟩) hHeld ?_
  · intro wq hSw
    try dsimp only at hSw
    go_simp
  try simp only [Act.put, List.getElem_toArray, List.getElem_cons_succ, List.getElem_cons_zero, List.setIfInBounds_toArray, List.set_cons_zero, List.set_cons_succ]
  refine wpAnyH_ready (rs := [5]) (by kernel_rfl) (by simp) ?_
  refine AllReadyH.cons rfl (fun KK hK => ?_) AllReadyH.nil
  simp only [List.getElem_toArray, List.getElem_cons_succ, List.getElem_cons_zero]
  rw [if_pos (by rfl)]
  refine wps2 160 (.tmp 18) (.tmp 19) _ rfl in_l2shr (.agg #[.slice a zs.length c]) (.int .i64 (t : Int)) rfl rfl (unhide HSH) ?_
  rintro e w3 ⟨v5, rfl, r5, k3⟩
  refine ⟨_, rfl, ?_⟩
  replace r := r.kept k3 (by omega)
  replace qf0 := k3.loose0 (World.block_lt_of_cell? _ _ q0) qf0
  replace qf1 := k3.loose0 (World.block_lt_of_cell? _ _ q1) qf1
  replace qf2 := k3.loose0 (World.block_lt_of_cell? _ _ q2) qf2
  replace p0 := k3.cell0 p0
  replace p1 := k3.cell0 p1
  replace q0 := k3.cell0 q0
  replace q1 := k3.cell0 q1
  replace q2 := k3.cell0 q2
  replace K := hide ((unhide K).trans k3)
  have z4 := k3.size
  clear k3
  clear hHeld
  refine hK.out _ _ ?_ (fun hHeld => ?_)
  · exact ⟨p0, p1⟩
  clear hK KK
  try simp only [Act.put, List.getElem_toArray, List.getElem_cons_succ, List.getElem_cons_zero, List.setIfInBounds_toArray, List.set_cons_zero, List.set_cons_succ]
  refine wpAnyH_ready (rs := [6]) (by kernel_rfl) (by simp) ?_
  refine AllReadyH.cons rfl (fun KK hK => ?_) AllReadyH.nil
  simp only [List.getElem_toArray, List.getElem_cons_succ, List.getElem_cons_zero]
  rw [if_pos (by rfl)]
  refine wps2 152 (.tmp 16) (.tmp 20) _ rfl in_l3make (.bool s) (.agg #[v5]) rfl rfl (make_spec s _ r5 nzd.1 (by omega)) ?_
  rintro e w5 ⟨v6, rfl, r6, k5⟩
  refine ⟨_, rfl, ?_⟩
  replace r := r.kept k5 (by omega)
  replace r5 := r5.kept k5 (by omega)
  replace qf0 := k5.loose0 (World.block_lt_of_cell? _ _ q0) qf0
  replace qf1 := k5.loose0 (World.block_lt_of_cell? _ _ q1) qf1
  replace qf2 := k5.loose0 (World.block_lt_of_cell? _ _ q2) qf2
  replace p0 := k5.cell0 p0
  replace p1 := k5.cell0 p1
  replace q0 := k5.cell0 q0
  replace q1 := k5.cell0 q1
  replace q2 := k5.cell0 q2
  replace K := hide ((unhide K).trans k5)
  have z6 := k5.size
  clear k5
  clear hHeld
  refine hK.out _ _ ?_ (fun hHeld => ?_)
  · exact ⟨p0, p1⟩
  clear hK KK
  try simp only [Act.put, List.getElem_toArray, List.getElem_cons_succ, List.getElem_cons_zero, List.setIfInBounds_toArray, List.set_cons_zero, List.set_cons_succ]
  rw [g2] at r6
  obtain ⟨a6, c6, hv⟩ := Row.form' r6
  subst hv
  refine wpAnyH_take (i := 10) (oi := _) (v := .agg #[.bool ss, .slice a6 zz.length c6, .int .i64 X]) rfl (by kernel_rfl) (by kernel_rfl) (by kernel_rfl) (fun _ _ _ h => h) (Or.inl ⟨by rfl, ?_⟩) hHeld ?_
  · intro wq hSw
    try dsimp only at hSw
    go_simp
  try simp only [Act.put, List.getElem_toArray, List.getElem_cons_succ, List.getElem_cons_zero, List.setIfInBounds_toArray, List.set_cons_zero, List.set_cons_succ]
  refine wpAnyH_ready (rs := [11]) (by kernel_rfl) (by simp) ?_
  refine AllReadyH.cons rfl (fun KK hK => ?_) AllReadyH.nil
  simp only [List.getElem_toArray, List.getElem_cons_succ, List.getElem_cons_zero]
  rw [if_pos (by rfl)]
  go_simp
  clear hHeld
  refine hK.out _ _ ?_ (fun hHeld => ?_)
  · exact ⟨(cell_aside _ (by have := unhide S0; dsimp only; omega) (cell_aside _ (by have := unhide S0; dsimp only; omega) (cell_aside _ (by have := unhide S0; dsimp only; omega) p0))), (cell_aside _ (by have := unhide S0; dsimp only; omega) (cell_aside _ (by have := unhide S0; dsimp only; omega) (cell_aside _ (by have := unhide S0; dsimp only; omega) p1)))⟩
  clear hK KK
  try simp only [Act.put, List.getElem_toArray, List.getElem_cons_succ, List.getElem_cons_zero, List.setIfInBounds_toArray, List.set_cons_zero, List.set_cons_succ]
  refine wpAnyH_done (by kernel_rfl) ?_ _
  clear hHeld
  clear r5
  have R := hide ((((r6.set_other (p := ⟨w.heap.size + 1, 0, none⟩) (.inl (by have := unhide S0; dsimp only; omega)) (.bool ss)).set_other (p := ⟨w.heap.size + 1, 1, none⟩) (.inl (by have := unhide S0; dsimp only; omega)) (.slice a6 zz.length c6)).set_other (p := ⟨w.heap.size + 1, 2, none⟩) (.inl (by have := unhide S0; dsimp only; omega)) (.int .i64 X)).tight.wider (lo' := w.heap.size) (by have := unhide S0; omega) (Nat.le_refl _))
  have K7 := hide ((((unhide K).setNew (p := ⟨w.heap.size + 1, 0, none⟩) (by simp) (.bool ss)).setNew (p := ⟨w.heap.size + 1, 1, none⟩) (by simp) (.slice a6 zz.length c6)).setNew (p := ⟨w.heap.size + 1, 2, none⟩) (by simp) (.int .i64 X))
  clear r r6 K
  go_wp2_with fail
  exact bodyPost_ret (v := .agg #[.bool ss, .slice a6 zz.length c6, .int .i64 X]) (by simp [results, Tryz.results101, go_sem, q0, q1, q2]) rfl ⟨_, by rw [unhide HS, unhide HX], by rw [unhide HZ]; exact unhide R, unhide K7⟩

end Go.Proofs.YthahoabkehcgbaaGreatDoor


namespace Go.Proofs.YthahoabkehcgbaaGreatDoor
open Go.RowKit
set_option linter.unusedVariables false
set_option maxRecDepth 8000
set_option linter.unusedSimpArgs false

theorem Two.put1 {w0 w w' : World} {g1 g2 b : Nat} {u1 u1' u2 : Value} {xs ys zs : List Int} (t : Two w0 w g1 g2 u1 u2 xs ys) (n : Num b w' g1 u1' zs) (hb : w0.heap.size ≤ b) (m : Mod (fun i => i = g1) w w') (ho : ∀ i, u1'.ownBlock = some i → u1.ownBlock = some i ∨ w.heap.size ≤ i) : Two w0 w' g1 g2 u1' u2 zs ys :=
  ⟨n.less hb, t.n2.mod m (fun e => t.ne e.symm) (fun i e e' => t.o21 (by rw [e, e'])), t.ne, fun e => (ho _ e).elim t.o12 (fun h => by have := t.n2.lt; omega), t.o21, fun k h1 h2 => (ho _ h1).elim (fun h => t.oo k h h2) (fun h => by have := (t.n2.own.lt _ h2).2; omega), t.k.mod m (fun i e => by rw [e]; exact t.b1), t.b1, t.b2⟩
/-- Two dyadic numbers that are worked on, apart, newer than w0. -/
structure Dya2 (w0 w : World) (g1 g2 : Nat) (s1 : Bool) (xs : List Int) (x1 : Int) (s2 : Bool) (ys : List Int) (x2 : Int) : Prop where
  sg : Sig2 w0 w g1 g2 s1 xs s2 ys
  e1 : Ex w g1 x1
  e2 : Ex w g2 x2
theorem Sig2.swap {w0 w : World} {g1 g2 : Nat} {s1 s2 : Bool} {xs ys : List Int} (h : Sig2 w0 w g1 g2 s1 xs s2 ys) : Sig2 w0 w g2 g1 s2 ys s1 xs := by
  obtain ⟨⟨u1, u2, t⟩, d1, d2⟩ := h
  exact ⟨⟨u2, u1, t.swap⟩, d2, d1⟩
theorem Dya2.swap {w0 w : World} {g1 g2 : Nat} {s1 s2 : Bool} {xs ys : List Int} {x1 x2 : Int} (h : Dya2 w0 w g1 g2 s1 xs x1 s2 ys x2) : Dya2 w0 w g2 g1 s2 ys x2 s1 xs x1 := ⟨h.sg.swap, h.e2, h.e1⟩
theorem Sig2.kept {w0 w w' : World} {g1 g2 : Nat} {s1 s2 : Bool} {xs ys : List Int} (h : Sig2 w0 w g1 g2 s1 xs s2 ys) (k : Kept 0 0 w w') : Sig2 w0 w' g1 g2 s1 xs s2 ys := by
  obtain ⟨⟨u1, u2, t⟩, d1, d2⟩ := h
  exact ⟨⟨u1, u2, t.kept k⟩, d1.kept k, d2.kept k⟩
theorem Dya2.kept {w0 w w' : World} {g1 g2 : Nat} {s1 s2 : Bool} {xs ys : List Int} {x1 x2 : Int} (h : Dya2 w0 w g1 g2 s1 xs x1 s2 ys x2) (k : Kept 0 0 w w') : Dya2 w0 w' g1 g2 s1 xs x1 s2 ys x2 := ⟨h.sg.kept k, h.e1.kept k, h.e2.kept k⟩
theorem Ex.set {w : World} {g : Nat} {x : Int} (h : Ex w g x) (y : Int) : Ex (w.setCell ⟨g, 2, none⟩ (.int .i64 y)) g y :=
  ⟨cell_on _ _ _ _ _ h.1, by rw [frozen_set]; exact h.2⟩
theorem Num.set2 {b g : Nat} {w : World} {v : Value} {zs : List Int} (h : Num b w g v zs) (u : Value) : Num b (w.setCell ⟨g, 2, none⟩ u) g v zs :=
  ⟨(side_setAt w g 2 0 u (by decide)).trans h.cell, by rw [frozen_set]; exact h.loose, own_apart h.own (p := ⟨g, 2, none⟩) h.apart u, h.apart⟩
theorem Sd.set2 {w : World} {g : Nat} {s : Bool} (h : Sd w g s) (u : Value) : Sd (w.setCell ⟨g, 2, none⟩ u) g s :=
  ⟨(side_setAt w g 2 1 u (by decide)).trans h.1, by rw [frozen_set]; exact h.2⟩
theorem put_dya {w : World} {X b : Nat} {u z p y : Value} {xs : List Int} (s : Bool) (x : Int) (O : w.ownsRow b 3 1 u xs.length (xs.map (Value.int .i64)))
    (cX : w.cell? ⟨X, 0, none⟩ = some z) (dX : w.cell? ⟨X, 1, none⟩ = some p) (eX : w.cell? ⟨X, 2, none⟩ = some y) (fX : w.frozen? ⟨X, 0, none⟩ = false) (gX : w.frozen? ⟨X, 1, none⟩ = false) (hX : w.frozen? ⟨X, 2, none⟩ = false) (hu : u.ownBlock ≠ some X) :
    Num b (((w.setCell ⟨X, 0, none⟩ u).setCell ⟨X, 1, none⟩ (.bool s)).setCell ⟨X, 2, none⟩ (.int .i64 x)) X u xs ∧ Sd (((w.setCell ⟨X, 0, none⟩ u).setCell ⟨X, 1, none⟩ (.bool s)).setCell ⟨X, 2, none⟩ (.int .i64 x)) X s ∧ Ex (((w.setCell ⟨X, 0, none⟩ u).setCell ⟨X, 1, none⟩ (.bool s)).setCell ⟨X, 2, none⟩ (.int .i64 x)) X x ∧ Mod (fun i => i = X) w (((w.setCell ⟨X, 0, none⟩ u).setCell ⟨X, 1, none⟩ (.bool s)).setCell ⟨X, 2, none⟩ (.int .i64 x)) := by
  obtain ⟨n, d, m⟩ := put_sig s O cX dX fX gX hu
  have a3 : ((w.setCell ⟨X, 0, none⟩ u).setCell ⟨X, 1, none⟩ (.bool s)).cell? ⟨X, 2, none⟩ = some y := (side_setAt _ X 1 2 _ (by decide)).trans ((side_setAt _ X 0 2 _ (by decide)).trans eX)
  refine ⟨n.set2 _, d.set2 _, ⟨cell_on _ _ _ _ _ a3, by rw [frozen_set, frozen_set, frozen_set]; exact hX⟩, Mod.set (S := fun i => i = X) m (p := ⟨X, 2, none⟩) (.inl rfl) _⟩
theorem dya_pair {w0 w4 : World} {X Y b1 b2 : Nat} {u1 u2 z1 z2 p1 p2 y1 y2 : Value} {xs ys : List Int} (s1 s2 : Bool) (x1 x2 : Int) (hk : Kept 0 0 w0 w4) (O1 : w4.ownsRow b1 3 1 u1 xs.length (xs.map (Value.int .i64))) (O2 : w4.ownsRow b2 3 1 u2 ys.length (ys.map (Value.int .i64)))
    (cX : w4.cell? ⟨X, 0, none⟩ = some z1) (dX : w4.cell? ⟨X, 1, none⟩ = some p1) (eX : w4.cell? ⟨X, 2, none⟩ = some y1) (fX : w4.frozen? ⟨X, 0, none⟩ = false) (gX : w4.frozen? ⟨X, 1, none⟩ = false) (iX : w4.frozen? ⟨X, 2, none⟩ = false)
    (cY : w4.cell? ⟨Y, 0, none⟩ = some z2) (dY : w4.cell? ⟨Y, 1, none⟩ = some p2) (eY : w4.cell? ⟨Y, 2, none⟩ = some y2) (fY : w4.frozen? ⟨Y, 0, none⟩ = false) (gY : w4.frozen? ⟨Y, 1, none⟩ = false) (iY : w4.frozen? ⟨Y, 2, none⟩ = false)
    (hXY : X ≠ Y) (hX : w0.heap.size ≤ X) (hY : w0.heap.size ≤ Y) (hb1 : w0.heap.size ≤ b1) (hb2 : w0.heap.size ≤ b2)
    (h1X : u1.ownBlock ≠ some X) (h1Y : u1.ownBlock ≠ some Y) (h2X : u2.ownBlock ≠ some X) (h2Y : u2.ownBlock ≠ some Y) (h12 : ∀ k, u1.ownBlock = some k → u2.ownBlock ≠ some k) :
    Dya2 w0 ((((((w4.setCell ⟨X, 0, none⟩ u1).setCell ⟨X, 1, none⟩ (.bool s1)).setCell ⟨X, 2, none⟩ (.int .i64 x1)).setCell ⟨Y, 0, none⟩ u2).setCell ⟨Y, 1, none⟩ (.bool s2)).setCell ⟨Y, 2, none⟩ (.int .i64 x2)) X Y s1 xs x1 s2 ys x2 := by
  obtain ⟨n1, d1, e1, m1⟩ := put_dya s1 x1 O1 cX dX eX fX gX iX h1X
  have lY : Y < w4.heap.size := World.block_lt_of_cell? _ ⟨Y, 0, none⟩ cY
  obtain ⟨n2, d2, e2, m2⟩ := put_dya s2 x2 (m1.own O2 (fun i e e' => h2X (by rw [e, e']))) (m1.cellAt (fun e => hXY e.symm) cY) (m1.cellAt (fun e => hXY e.symm) dY) (m1.cellAt (fun e => hXY e.symm) eY) (m1.looseAt (fun e => hXY e.symm) lY fY) (m1.looseAt (fun e => hXY e.symm) lY gY) (m1.looseAt (fun e => hXY e.symm) lY iY) h2Y
  have n1' := n1.mod m2 hXY (fun i e e' => h1Y (by rw [e, e']))
  exact ⟨⟨⟨u1, u2, n1'.less hb1, n2.less hb2, hXY, h1Y, h2X, h12, (hk.mod m1 (fun i e => by rw [e]; exact hX)).mod m2 (fun i e => by rw [e]; exact hY), hX, hY⟩, d1.same (m2.side d1.lt hXY), d2⟩, e1.tail (m2.side e1.lt hXY).tail, e2⟩

theorem shl_any {s : Bool} {zs : List Int} (h : WN s zs) (k : Nat) : WN s (limbs ((val zs).toNat * 2 ^ k)) ∧ wval s (limbs ((val zs).toNat * 2 ^ k)) = wval s zs * 2 ^ k := by
  by_cases h0 : zs.length = 0
  · have hz : zs = [] := List.length_eq_zero_iff.1 h0
    subst hz
    have e : limbs ((val ([] : List Int)).toNat * 2 ^ k) = [] := by simp [val, limbs_zero]
    rw [e]
    exact ⟨h, by rw [wval_nil]; simp⟩
  · exact ⟨(shl_wn h (by omega) k).2.2.1, (shl_wn h (by omega) k).2.2.2⟩

theorem in_shiftUp : ∀ (w : World) (args : Array Value), (callFunc 205 args).run Tryz.prog w = .ok (.enter 205 args) w := enters Tryz.func205 (by decide) (fun h => by cases h)

theorem shiftUp_any {b g : Nat} {v : Value} {xs : List Int} (w : World) (h : Num b w g v xs) (hn : Nrm xs) (nx : xs.length ≤ 50000) (k : Nat) (hk : k ≤ 800000) :
    Calls Tryz.prog 205 #[.pointer (some ⟨g, 0, none⟩), .int .i64 (k : Int)] w fun e w' => (∃ r, e = .returned r) ∧ ∃ u, Num (min b w.heap.size) w' g u (limbs ((val xs).toNat * 2 ^ k)) ∧ Mod (fun i => i = g) w w' ∧ SameSide g w w' ∧ (∀ i, u.ownBlock = some i → v.ownBlock = some i ∨ w.heap.size ≤ i) := by
  by_cases h0 : xs = []
  · subst h0
    refine (shiftUp_zero w h k).mono ?_
    rintro e w' ⟨hr, rfl⟩
    refine ⟨hr, v, ?_, Mod.refl _ _, SameSide.refl _ _, fun i e => .inl e⟩
    rw [show limbs ((val ([] : List Int)).toNat * 2 ^ k) = [] by simp [val, limbs_zero]]
    exact h.less (Nat.min_le_left _ _)
  · refine (shiftUp_S w h hn.1 h0 nx k hk).mono ?_
    rintro e w' ⟨hr, u, n, m, sd⟩
    exact ⟨hr, u, n.less (Nat.min_le_right _ _), m, sd, fun i e => .inr (n.own.lt i e).1⟩

set_option maxHeartbeats 2000000 in
theorem lowerTo_impl {b g : Nat} {v : Value} {xs : List Int} {s : Bool} {x y : Int} (w : World) (h : Num b w g v xs) (d : Sd w g s) (ex : Ex w g x) (hn : Nrm xs) (nx : xs.length ≤ 50000) (hb : b ≤ w.heap.size) (k : Nat) (hk : x - y = (k : Int)) (hk2 : k ≤ 800000) :
    Calls Tryz.prog 217 #[.pointer (some ⟨g, 0, none⟩), .int .i64 y] w fun e w' => (∃ r, e = .returned r) ∧ ∃ u, Num b w' g u (limbs ((val xs).toNat * 2 ^ k)) ∧ Sd w' g s ∧ Ex w' g y ∧ Mod (fun i => i = g) w w' ∧ (∀ i, u.ownBlock = some i → v.ownBlock = some i ∨ w.heap.size ≤ i) := by
  have hc2 := ex.1
  have hf2 := ex.2
  have hw : IntKind.i64.wrap (k : Int) = (k : Int) := w64 _ (by omega) (by omega)
  have HSU := hide (shiftUp_any w.drew (h.kept (Kept.refl 0 0 w).drew) hn (by omega) k hk2)
  have D := hide d
  have EX := hide ex
  have H := hide h
  clear d ex h
  go_enter Tryz.func217, Tryz.ntmps217
  go_wp2_with fail
  refine wp_region_held_drew (S := (fun w' => w'.cell? ⟨g, 2, none⟩ = some (.int .i64 x))) (by kernel_rfl) ?_ (fun hHeld => ?_)
  · exact hc2
  refine wpAnyH_take (i := 0) (oi := _) (v := .pointer (some ⟨g, 0, none⟩)) rfl (by kernel_rfl) (by kernel_rfl) (by kernel_rfl) (fun _ _ _ h => h) (Or.inl ⟨by rfl, ?_⟩) hHeld ?_
  · intro wq hSw
    try dsimp only at hSw
    go_simp
  try simp only [Act.put, List.getElem_toArray, List.getElem_cons_succ, List.getElem_cons_zero, List.setIfInBounds_toArray, List.set_cons_zero, List.set_cons_succ]
  refine wpAnyH_take (i := 1) (oi := _) (v := .pointer (some ⟨g, 0, none⟩)) rfl (by kernel_rfl) (by kernel_rfl) (by kernel_rfl) (fun _ _ _ h => h) (Or.inl ⟨by rfl, ?_⟩) hHeld ?_
  · intro wq hSw
    try dsimp only at hSw
    go_simp
  try simp only [Act.put, List.getElem_toArray, List.getElem_cons_succ, List.getElem_cons_zero, List.setIfInBounds_toArray, List.set_cons_zero, List.set_cons_succ]
  refine wpAnyH_take (i := 2) (oi := _) (v := .pointer (some ⟨g, 0, none⟩)) rfl (by kernel_rfl) (by kernel_rfl) (by kernel_rfl) (fun _ _ _ h => h) (Or.inl ⟨by rfl, ?_⟩) hHeld ?_
  · intro wq hSw
    try dsimp only at hSw
    go_simp
  try simp only [Act.put, List.getElem_toArray, List.getElem_cons_succ, List.getElem_cons_zero, List.setIfInBounds_toArray, List.set_cons_zero, List.set_cons_succ]
  refine wpAnyH_take (i := 3) (oi := _) (v := .pointer (some ⟨g, 0, none⟩)) rfl (by kernel_rfl) (by kernel_rfl) (by kernel_rfl) (fun _ _ _ h => h) (Or.inl ⟨by rfl, ?_⟩) hHeld ?_
  · intro wq hSw
    try dsimp only at hSw
    go_simp
  try simp only [Act.put, List.getElem_toArray, List.getElem_cons_succ, List.getElem_cons_zero, List.setIfInBounds_toArray, List.set_cons_zero, List.set_cons_succ]
  refine wpAnyH_take (i := 4) (oi := _) (v := .pointer (some ⟨g, 0, none⟩)) rfl (by kernel_rfl) (by kernel_rfl) (by kernel_rfl) (fun _ _ _ h => h) (Or.inl ⟨by rfl, ?_⟩) hHeld ?_
  · intro wq hSw
    try dsimp only at hSw
    go_simp
  try simp only [Act.put, List.getElem_toArray, List.getElem_cons_succ, List.getElem_cons_zero, List.setIfInBounds_toArray, List.set_cons_zero, List.set_cons_succ]
  refine wpAnyH_take (i := 5) (oi := _) (v := .pointer (some ⟨g, 0, none⟩)) rfl (by kernel_rfl) (by kernel_rfl) (by kernel_rfl) (fun _ _ _ h => h) (Or.inl ⟨by rfl, ?_⟩) hHeld ?_
  · intro wq hSw
    try dsimp only at hSw
    go_simp
  try simp only [Act.put, List.getElem_toArray, List.getElem_cons_succ, List.getElem_cons_zero, List.setIfInBounds_toArray, List.set_cons_zero, List.set_cons_succ]
  refine wpAnyH_take (i := 6) (oi := _) (v := .pointer (some ⟨g, 2, none⟩)) rfl (by kernel_rfl) (by kernel_rfl) (by kernel_rfl) (fun _ _ _ h => h) (Or.inl ⟨by rfl, ?_⟩) hHeld ?_
  · intro wq hSw
    try dsimp only at hSw
    go_simp
  try simp only [Act.put, List.getElem_toArray, List.getElem_cons_succ, List.getElem_cons_zero, List.setIfInBounds_toArray, List.set_cons_zero, List.set_cons_succ]
  refine wpAnyH_take (i := 7) (oi := _) (v := .int .i64 x) rfl (by kernel_rfl) (by kernel_rfl) (by kernel_rfl) (fun _ _ _ h => h) (Or.inl ⟨by rfl, ?_⟩) hHeld ?_
  · intro wq hSw
    try dsimp only at hSw
    go_simp
  try simp only [Act.put, List.getElem_toArray, List.getElem_cons_succ, List.getElem_cons_zero, List.setIfInBounds_toArray, List.set_cons_zero, List.set_cons_succ]
  refine wpAnyH_take (i := 8) (oi := _) (v := .int .i64 y) rfl (by kernel_rfl) (by kernel_rfl) (by kernel_rfl) (fun _ _ _ h => h) (Or.inl ⟨by rfl, ?_⟩) hHeld ?_
  · intro wq hSw
    try dsimp only at hSw
    go_simp
  try simp only [Act.put, List.getElem_toArray, List.getElem_cons_succ, List.getElem_cons_zero, List.setIfInBounds_toArray, List.set_cons_zero, List.set_cons_succ]
  refine wpAnyH_take (i := 9) (oi := _) (v := .int .i64 (k : Int)) rfl (by kernel_rfl) (by kernel_rfl) (by kernel_rfl) (fun _ _ _ h => h) (Or.inl ⟨by rfl, ?_⟩) hHeld ?_
  · intro wq hSw
    try dsimp only at hSw
    go_simp
  try simp only [Act.put, List.getElem_toArray, List.getElem_cons_succ, List.getElem_cons_zero, List.setIfInBounds_toArray, List.set_cons_zero, List.set_cons_succ]
  refine wpAnyH_ready (rs := [10]) (by kernel_rfl) (by simp) ?_
  refine AllReadyH.cons rfl (fun KK hK => ?_) AllReadyH.nil
  simp only [List.getElem_toArray, List.getElem_cons_succ, List.getElem_cons_zero]
  rw [if_pos (by rfl)]
  refine wps2 205 (.tmp 7) (.tmp 13) _ rfl in_shiftUp (.pointer (some ⟨g, 0, none⟩)) (.int .i64 (k : Int)) rfl rfl (unhide HSU) ?_
  rintro e w2 ⟨⟨r2, rfl⟩, u2, n2, m2, sd2, ho2⟩
  refine ⟨_, rfl, ?_⟩
  have ex2 : Ex w2 g x := Ex.tail (unhide EX) (SameSide.tail sd2)
  have d2 : Sd w2 g s := Sd.same (unhide D) sd2
  have hc3 := ex2.1
  have hf3 := ex2.2
  clear hHeld
  refine hK.out _ _ ?_ (fun hHeld => ?_)
  · exact hc3
  clear hK KK
  try simp only [Act.put, List.getElem_toArray, List.getElem_cons_succ, List.getElem_cons_zero, List.setIfInBounds_toArray, List.set_cons_zero, List.set_cons_succ]
  refine wpAnyH_done (by kernel_rfl) ?_ _
  clear hHeld hc2 hf2
  have N2 := hide ((n2.less (b' := b) (Nat.le_min.2 ⟨Nat.le_refl _, hb⟩)).set2 (.int .i64 y))
  have D2 := hide (d2.set2 (.int .i64 y))
  have E2 := hide (ex2.set y)
  have M2 : Hid (Mod (fun i => i = g) w (w2.setCell ⟨g, 2, none⟩ (.int .i64 y))) := Mod.set (S := fun i => i = g) (((Kept.refl 0 0 w).drew.toMod).trans m2) (p := ⟨g, 2, none⟩) (.inl rfl) _
  have HO := hide ho2
  clear n2 m2 sd2 ho2 d2 ex2 HSU
  go_wp2_with fail
  exact bodyPost_end (v := .tuple #[]) (by simp [results, Tryz.results217, go_sem]) rfl ⟨⟨_, rfl⟩, _, unhide N2, unhide D2, unhide E2, unhide M2, unhide HO⟩

set_option maxHeartbeats 4000000 in
theorem align_wide {w0 w : World} {g1 g2 : Nat} {s1 s2 : Bool} {xs ys : List Int} {x1 x2 : Int} (S : Dya2 w0 w g1 g2 s1 xs x1 s2 ys x2) (hx : Nrm xs) (hy : Nrm ys) (nx : xs.length ≤ 50000) (ny : ys.length ≤ 50000) (f1 : -40000 ≤ x1) (f2 : x1 ≤ 40000) (f3 : -40000 ≤ x2) (f4 : x2 ≤ 40000) :
    Calls Tryz.prog 192 #[.pointer (some ⟨g1, 0, none⟩), .pointer (some ⟨g2, 0, none⟩)] w fun e w' => (∃ r, e = .returned r) ∧ Dya2 w0 w' g1 g2 s1 (limbs ((val xs).toNat * 2 ^ (x1 - min x1 x2).toNat)) (min x1 x2) s2 (limbs ((val ys).toNat * 2 ^ (x2 - min x1 x2).toNat)) (min x1 x2) := by
  have hc1 := S.e1.1
  have hc2 := S.e2.1
  have SS := hide S
  clear S
  obtain ⟨lo, hlo⟩ : ∃ lo : Int, min x1 x2 = lo := ⟨_, rfl⟩
  obtain ⟨k1, hk1⟩ : ∃ k : Nat, x1 - lo = (k : Int) := ⟨(x1 - lo).toNat, by omega⟩
  obtain ⟨k2, hk2⟩ : ∃ k : Nat, x2 - lo = (k : Int) := ⟨(x2 - lo).toNat, by omega⟩
  have q1 : k1 ≤ 80000 := by omega
  have q2 : k2 ≤ 80000 := by omega
  rw [show (x1 - min x1 x2).toNat = k1 by omega, show (x2 - min x1 x2).toNat = k2 by omega, hlo]
  go_enter Tryz.func192, Tryz.ntmps192
  go_wp2
  go_region
  go_wp2_with fail
  clear hc1 hc2
  have S1 := (unhide SS).kept (Kept.refl 0 0 w).drew
  obtain ⟨⟨⟨u1, u2, t⟩, d1, d2⟩, e1, e2⟩ := S1
  refine (lowerTo_impl _ t.n1 d1 e1 hx (by omega) t.k.size k1 hk1 (by omega)).mono ?_
  rintro e w2 ⟨⟨r2, rfl⟩, v2, n2, d3, e3, m2, ho⟩
  have t2 := t.put1 n2 (Nat.le_refl _) m2 ho
  have d4 : Sd w2 g2 s2 := d2.same (m2.side d2.lt (fun e => t.ne e.symm))
  have e4 : Ex w2 g2 x2 := e2.tail (m2.side e2.lt (fun e => t.ne e.symm)).tail
  clear t d1 d2 e1 e2 n2 m2 ho
  go_wp2_with fail
  refine (lowerTo_impl _ t2.n2 d4 e4 hy (by omega) t2.k.size k2 hk2 (by omega)).mono ?_
  rintro e w3 ⟨⟨r3, rfl⟩, v3, n3, d5, e5, m3, ho⟩
  have t3 := (t2.swap.put1 n3 (Nat.le_refl _) m3 ho).swap
  have d6 : Sd w3 g1 s1 := d3.same (m3.side d3.lt (fun e => t2.ne e))
  have e6 : Ex w3 g1 lo := e3.tail (m3.side e3.lt (fun e => t2.ne e)).tail
  have FF : Hid (Dya2 w0 w3 g1 g2 s1 (limbs ((val xs).toNat * 2 ^ k1)) lo s2 (limbs ((val ys).toNat * 2 ^ k2)) lo) := ⟨⟨⟨_, _, t3⟩, d6, d5⟩, e6, e5⟩
  clear t2 t3 d3 d4 d5 d6 e3 e4 e5 e6 n3 m3 ho
  go_wp2_with fail
  exact bodyPost_end (v := .tuple #[]) (by simp [results, Tryz.results192, go_sem]) rfl ⟨⟨_, rfl⟩, unhide FF⟩

theorem align_impl {w0 w : World} {g1 g2 : Nat} {s1 s2 : Bool} {xs ys : List Int} {x1 x2 : Int} (S : Dya2 w0 w g1 g2 s1 xs x1 s2 ys x2) (hx : Nrm xs) (hy : Nrm ys) (nx : xs.length ≤ 50000) (ny : ys.length ≤ 50000) (f1 : -3000 ≤ x1) (f2 : x1 ≤ 3000) (f3 : -3000 ≤ x2) (f4 : x2 ≤ 3000) :
    Calls Tryz.prog 192 #[.pointer (some ⟨g1, 0, none⟩), .pointer (some ⟨g2, 0, none⟩)] w fun e w' => (∃ r, e = .returned r) ∧ Dya2 w0 w' g1 g2 s1 (limbs ((val xs).toNat * 2 ^ (x1 - min x1 x2).toNat)) (min x1 x2) s2 (limbs ((val ys).toNat * 2 ^ (x2 - min x1 x2).toNat)) (min x1 x2) := align_wide S hx hy nx ny (by omega) (by omega) (by omega) (by omega)

end Go.Proofs.YthahoabkehcgbaaGreatDoor


namespace Go.Proofs.YthahoabkehcgbaaGreatDoor
open Go.RowKit
set_option linter.unusedVariables false
set_option maxRecDepth 8000
set_option linter.unusedSimpArgs false

theorem Work.set2 {b g : Nat} {w : World} {v : Value} {zs : List Int} (h : Work b w g v zs) (u : Value) : Work b (w.setCell ⟨g, 2, none⟩ u) g v zs :=
  ⟨(side_setAt w g 2 0 u (by decide)).trans h.cell, by rw [frozen_set]; exact h.loose, by rw [size_set]; exact h.row.aside h.apart u, h.apart⟩
theorem dok_told (m x : Int) : dokB (wsg m) (dlm m) (dex m x) = (decide ((dlm m).length ≤ 100) && (decide (-3000 ≤ dex m x) && decide (dex m x ≤ 3000))) := by
  have hw : wokB (wsg m) (dlm m) = decide ((dlm m).length ≤ 100) := by
    unfold wokB
    by_cases hl : (dlm m).length ≤ 100
    · rw [(okB_iff _).2 ⟨hl, limbs_nrm _⟩, decide_eq_true hl]
      by_cases h0 : m = 0
      · subst h0; rfl
      · rw [decide_eq_true (show 0 < ((dlm m).length : Int) by have := (dlm_pos h0).1; omega)]; simp
    · rw [decide_eq_false hl, Bool.and_eq_false_iff]
      exact .inl (Bool.eq_false_iff.2 (fun h => hl ((okB_iff _).1 h).1))
  unfold dokB
  rw [hw]
  by_cases h0 : m = 0
  · subst h0
    rw [dlm_zero]
    simp [dex]
  · rw [if_neg (show ¬ (dlm m).length = 0 by have := (dlm_pos h0).1; omega), decide_eq_true (dlm_pos h0).2, Bool.and_true]
theorem told_sign (m : Int) (s : Bool) (zs : List Int) (h : Nrm zs) (hm : wval s zs = m) : (s && decide (0 < (dlm m).length)) = wsg m := by
  by_cases h0 : zs.length = 0
  · have hz : zs = [] := List.length_eq_zero_iff.1 h0
    subst hz
    have : m = 0 := by rw [← hm, wval_nil]
    subst this
    cases s <;> simp [dlm_zero, wsg]
  · have hw : WN s zs := ⟨h, fun _ => by omega⟩
    have e := (shr_wn hw (by omega)).2.2
    rw [hm] at e
    rw [decide_eq_true (dlm_pos e).1, Bool.and_true, ← hm, wn_sign hw]

end Go.Proofs.YthahoabkehcgbaaGreatDoor

