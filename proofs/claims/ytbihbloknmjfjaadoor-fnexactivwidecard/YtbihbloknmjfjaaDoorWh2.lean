/-
  Whole numbers as integers; contracts of the model's l3make, l3neg, l3fits, l3cmp, l3mul, l3add, l3of.
-/
import Derived.Test.YtbihbloknmjfjaaDoorWh1
import Derived.Test.YtbihbloknmjfjaaDoorBB
import Derived.Test.YtbihbloknmjfjaaDoorBC
import Derived.Test.YtbihbloknmjfjaaDoorNat4
namespace Go.Proofs.YtbihbloknmjfjaaDoor
open Go.RowKit
set_option linter.unusedVariables false
set_option maxRecDepth 8000
set_option linter.unusedSimpArgs false

/-- A whole number's sign, and the limbs of its size. -/
def wsg (x : Int) : Bool := decide (x < 0)
def wlm (x : Int) : List Int := limbs x.natAbs
theorem limbs_pos (n : Nat) : decide (0 < (limbs n).length) = decide (0 < n) := by
  by_cases h : n = 0
  · subst h; rfl
  · have : limbs n ≠ [] := fun e => h (limbs_eq_nil.1 e)
    rw [decide_eq_true (List.length_pos_iff.2 this), decide_eq_true (by omega)]
theorem wlm_lim (x : Int) : Lim (wlm x) := limbs_lim _
theorem wlm_nrm (x : Int) : Nrm (wlm x) := limbs_nrm _
theorem wlm_val (x : Int) : val (wlm x) = x.natAbs := limbs_val _
theorem wval_int (x : Int) : wval (wsg x) (wlm x) = x := by
  unfold wval; rw [wlm_val]; unfold wsg
  by_cases h : x < 0 <;> simp [h] <;> omega
theorem wlm_wval (b : Bool) {zs : List Int} (hl : Lim zs) : wlm (wval b zs) = limbs (val zs).toNat := by
  have := val_nonneg hl
  unfold wlm wval
  cases b <;> simp <;> congr 1 <;> omega
theorem wsg_wval (b : Bool) (n : Nat) : wsg (wval b (limbs n)) = (b && decide (0 < (limbs n).length)) := by
  rw [limbs_pos]
  unfold wsg wval
  rw [limbs_val]
  cases b <;> simp
theorem wok_of {b : Bool} {zs : List Int} (h : wokB b zs = true) : ∃ x : Int, wval b zs = x ∧ b = wsg x ∧ zs = wlm x ∧ (wlm x).length ≤ 100 := by
  obtain ⟨h1, h2, h3, -⟩ := wok_int h
  exact ⟨_, rfl, h1, h2, by unfold wlm; rw [← h2]; exact h3⟩

theorem mul_len {xs ys : List Int} (hx : Lim xs) (hy : Lim ys) (nx : xs.length ≤ 100000) (ny : ys.length ≤ 100000) : (limbs (val xs * val ys).toNat).length ≤ 1000000 := by
  have h := (limbs_length_le (val xs * val ys).toNat (xs.length + ys.length)).2 (by
    rw [Int.toNat_of_nonneg (Int.mul_nonneg (val_nonneg hx) (val_nonneg hy))]
    exact mul_lt_pow hx hy)
  omega
theorem mul_sgn (s1 s2 : Bool) {xs ys : List Int} (hx : Lim xs) (hy : Lim ys) : wval (!(s1 == s2)) (limbs (val xs * val ys).toNat) = wval s1 xs * wval s2 ys := by
  have h3 := val_nonneg hx
  have h4 := val_nonneg hy
  unfold wval
  rw [limbs_val, Int.toNat_of_nonneg (Int.mul_nonneg h3 h4)]
  cases s1 <;> cases s2 <;> simp [Int.neg_mul, Int.mul_neg]

theorem add_len {xs ys : List Int} (hx : Lim xs) (hy : Lim ys) (nx : xs.length ≤ 100000) (ny : ys.length ≤ 100000) (n : Nat) (hn : (n : Int) ≤ val xs + val ys) : (limbs n).length ≤ 1000000 := by
  have h := (limbs_length_le n (xs.length + ys.length + 1)).2 (by
    have h1 := val_lt hx
    have h2 := val_lt hy
    have e1 := pow_mono (a := xs.length) (b := xs.length + ys.length) (by omega)
    have e2 := pow_mono (a := ys.length) (b := xs.length + ys.length) (by omega)
    rw [Int.pow_succ]
    generalize (65536 : Int) ^ (xs.length + ys.length) = P at *
    omega)
  omega
theorem len_le_of_val {xs ys : List Int} (hx : Lim xs) (hy : Nrm ys) (h : val ys ≤ val xs) : ys.length ≤ xs.length := by
  rcases Nat.lt_or_ge xs.length ys.length with h1 | h1
  · have := val_lt_of_len hx hy h1; omega
  · exact h1

/-- The model's l3make at a number that has its limbs in their one form. -/
theorem make_any {bw : Bool} {lo hi : Nat} {v : Value} {zs : List Int} (b : Bool) (w : World) (r : Row .i64 bw lo hi w v zs) (hn : Nrm zs) (hlen : zs.length ≤ 1000000) :
    Calls Tryd.prog 70 #[.bool b, .agg #[v]] w fun e w' => ∃ v', e = .returned (.agg #[.bool (wsg (wval b zs)), v']) ∧ Row .i64 true w.heap.size w'.heap.size w' v' (wlm (wval b zs)) ∧ Kept 0 0 w w' := by
  refine (make_spec b w r hn.1 hlen).mono ?_
  rintro e w' ⟨v', rfl, r', k'⟩
  refine ⟨v', ?_, by rw [wlm_wval b hn.1]; exact r', k'⟩
  have e := nrm_limbs hn
  rw [e, wsg_wval]

set_option maxHeartbeats 1000000 in
theorem neg3_spec {bw : Bool} {lo hi : Nat} {v : Value} {zs : List Int} (b : Bool) (w : World) (r : Row .i64 bw lo hi w v zs) (hn : Nrm zs) (hl : zs.length ≤ 1000000) :
    Calls Tryd.prog 64 #[.agg #[.bool b, v]] w fun e w' => ∃ v', e = .returned (.agg #[.bool (wsg (- wval b zs)), v']) ∧ Row .i64 true w.heap.size w'.heap.size w' v' (wlm (- wval b zs)) ∧ Kept 0 0 w w' := by
  obtain ⟨X, hX⟩ : ∃ X : Int, X = - wval b zs := ⟨_, rfl⟩
  rw [← hX]
  obtain ⟨zz, hzz⟩ : ∃ zz, zz = wlm X := ⟨_, rfl⟩
  obtain ⟨ss, hss⟩ : ∃ ss, ss = wsg X := ⟨_, rfl⟩
  rw [← hzz, ← hss]
  have HX := hide hX
  have HZ := hide hzz
  have HS := hide hss
  clear hX hzz hss
  have k0 : Kept 0 0 w ((w.alloc (.cells #[.bool b, v] 32)).alloc (.cells #[.bool false, .slice none 0 0] 32)) := (((Kept.refl 0 0 w).alloc (.cells #[.bool b, v] 32)).alloc (.cells #[.bool false, .slice none 0 0] 32))
  have p0 : ((w.alloc (.cells #[.bool b, v] 32)).alloc (.cells #[.bool false, .slice none 0 0] 32)).cell? ⟨w.heap.size, 0, none⟩ = some (.bool b) := old_cell _ (new_cell2 _ _ _ _ _ _ (by simp) rfl)
  have p1 : ((w.alloc (.cells #[.bool b, v] 32)).alloc (.cells #[.bool false, .slice none 0 0] 32)).cell? ⟨w.heap.size, 1, none⟩ = some (v) := old_cell _ (new_cell2 _ _ _ _ _ _ (by simp) rfl)
  have q0 : ((w.alloc (.cells #[.bool b, v] 32)).alloc (.cells #[.bool false, .slice none 0 0] 32)).cell? ⟨w.heap.size + 1, 0, none⟩ = some (.bool false) := new_cell2 _ _ _ _ _ _ (by simp) rfl
  have qf0 : ((w.alloc (.cells #[.bool b, v] 32)).alloc (.cells #[.bool false, .slice none 0 0] 32)).frozen? ⟨w.heap.size + 1, 0, none⟩ = false := new_loose2 _ _ _ _ _ (by simp)
  have q1 : ((w.alloc (.cells #[.bool b, v] 32)).alloc (.cells #[.bool false, .slice none 0 0] 32)).cell? ⟨w.heap.size + 1, 1, none⟩ = some (.slice none 0 0) := new_cell2 _ _ _ _ _ _ (by simp) rfl
  have qf1 : ((w.alloc (.cells #[.bool b, v] 32)).alloc (.cells #[.bool false, .slice none 0 0] 32)).frozen? ⟨w.heap.size + 1, 1, none⟩ = false := new_loose2 _ _ _ _ _ (by simp)
  replace r := r.kept k0 (by omega)
  have s0 : ((w.alloc (.cells #[.bool b, v] 32)).alloc (.cells #[.bool false, .slice none 0 0] 32)).heap.size = w.heap.size + 2 := by simp
  obtain ⟨a, c, hv⟩ := Row.form' r
  subst hv
  have K := hide (k0)
  clear k0
  have S0 := hide s0
  clear s0
  go_enter Tryd.func64, Tryd.ntmps64
  go_wp2_with fail
  generalize ((w.alloc (.cells #[.bool b, .slice a zs.length c] 32)).alloc (.cells #[.bool false, .slice none 0 0] 32)) = W at *
  have mk := make_any (!b) W r hn hl
  rw [show wval (!b) zs = X from by rw [unhide HX]; unfold wval; cases b <;> simp, ← unhide HZ, ← unhide HS] at mk
  refine (mk).mono ?_
  rintro e w1 ⟨v3, rfl, r3, k1⟩
  replace r := r.kept k1 (by omega)
  replace qf0 := k1.loose0 (World.block_lt_of_cell? _ _ q0) qf0
  replace qf1 := k1.loose0 (World.block_lt_of_cell? _ _ q1) qf1
  replace p0 := k1.cell0 p0
  replace p1 := k1.cell0 p1
  replace q0 := k1.cell0 q0
  replace q1 := k1.cell0 q1
  replace K := hide ((unhide K).trans k1)
  have z2 := k1.size
  clear k1
  clear mk
  obtain ⟨a3, c3, hv⟩ := Row.form' r3
  subst hv
  have bX : w.heap.size + 1 < w1.heap.size := World.block_lt_of_cell? _ _ q0
  have R := hide (((r3.set_other (p := ⟨w.heap.size + 1, 0, none⟩) (.inl (by have := unhide S0; dsimp only; omega)) (.bool ss)).set_other (p := ⟨w.heap.size + 1, 1, none⟩) (.inl (by have := unhide S0; dsimp only; omega)) (.slice a3 zz.length c3)).tight.wider (lo' := w.heap.size) (by have := unhide S0; omega) (Nat.le_refl _))
  have K7 := hide (((unhide K).setNew (p := ⟨w.heap.size + 1, 0, none⟩) (by simp) (.bool ss)).setNew (p := ⟨w.heap.size + 1, 1, none⟩) (by simp) (.slice a3 zz.length c3))
  clear r r3 K
  go_wp2_with fail
  exact bodyPost_ret (v := .agg #[.bool ss, .slice a3 zz.length c3]) (by simp [results, Tryd.results64, go_sem, q0, q1]) rfl ⟨_, rfl, unhide R, unhide K7⟩

theorem add_sgn (s : Bool) {xs ys : List Int} (hx : Lim xs) (hy : Lim ys) : wval s (limbs (val xs + val ys).toNat) = wval s xs + wval s ys := by
  have h3 := val_nonneg hx
  have h4 := val_nonneg hy
  unfold wval
  rw [limbs_val, Int.toNat_of_nonneg (by omega)]
  cases s <;> simp <;> omega
theorem sub_sgn {s1 s2 : Bool} (h : s1 ≠ s2) {xs ys : List Int} (hle : val ys ≤ val xs) : wval s1 (limbs (val xs - val ys).toNat) = wval s1 xs + wval s2 ys := by
  unfold wval
  rw [limbs_val, Int.toNat_of_nonneg (by omega)]
  cases s1 <;> cases s2 <;> simp at h ⊢ <;> omega
theorem sub_sgn' {s1 s2 : Bool} (h : s1 ≠ s2) {xs ys : List Int} (hle : val xs ≤ val ys) : wval s2 (limbs (val ys - val xs).toNat) = wval s1 xs + wval s2 ys := by
  rw [Int.add_comm]; exact sub_sgn (fun e => h e.symm) hle

set_option maxHeartbeats 4000000 in
theorem add3_spec {b1 b2 : Bool} {l1 h1 l2 h2 : Nat} {v1 v2 : Value} {xs ys : List Int} (s1 s2 : Bool) (w : World) (r1 : Row .i64 b1 l1 h1 w v1 xs) (r2 : Row .i64 b2 l2 h2 w v2 ys) (hx : Nrm xs) (hy : Nrm ys) (nx : xs.length ≤ 100000) (ny : ys.length ≤ 100000) :
    Calls Tryd.prog 63 #[.agg #[.bool s1, v1], .agg #[.bool s2, v2]] w fun e w' => ∃ v', e = .returned (.agg #[.bool (wsg (wval s1 xs + wval s2 ys)), v']) ∧ Row .i64 true w.heap.size w'.heap.size w' v' (wlm (wval s1 xs + wval s2 ys)) ∧ Kept 0 0 w w' := by
  obtain ⟨X, hX⟩ : ∃ X : Int, X = wval s1 xs + wval s2 ys := ⟨_, rfl⟩
  rw [← hX]
  obtain ⟨zz, hzz⟩ : ∃ zz, zz = wlm X := ⟨_, rfl⟩
  obtain ⟨ss, hss⟩ : ∃ ss, ss = wsg X := ⟨_, rfl⟩
  rw [← hzz, ← hss]
  have HX := hide hX
  have HZ := hide hzz
  have HS := hide hss
  clear hX hzz hss
  have k0 : Kept 0 0 w (((w.alloc (.cells #[.bool s1, v1] 32)).alloc (.cells #[.bool s2, v2] 32)).alloc (.cells #[.bool false, .slice none 0 0] 32)) := ((((Kept.refl 0 0 w).alloc (.cells #[.bool s1, v1] 32)).alloc (.cells #[.bool s2, v2] 32)).alloc (.cells #[.bool false, .slice none 0 0] 32))
  have p0 : (((w.alloc (.cells #[.bool s1, v1] 32)).alloc (.cells #[.bool s2, v2] 32)).alloc (.cells #[.bool false, .slice none 0 0] 32)).cell? ⟨w.heap.size, 0, none⟩ = some (.bool s1) := old_cell _ (old_cell _ (new_cell2 _ _ _ _ _ _ (by simp) rfl))
  have p1 : (((w.alloc (.cells #[.bool s1, v1] 32)).alloc (.cells #[.bool s2, v2] 32)).alloc (.cells #[.bool false, .slice none 0 0] 32)).cell? ⟨w.heap.size, 1, none⟩ = some (v1) := old_cell _ (old_cell _ (new_cell2 _ _ _ _ _ _ (by simp) rfl))
  have t0 : (((w.alloc (.cells #[.bool s1, v1] 32)).alloc (.cells #[.bool s2, v2] 32)).alloc (.cells #[.bool false, .slice none 0 0] 32)).cell? ⟨w.heap.size + 1, 0, none⟩ = some (.bool s2) := old_cell _ (new_cell2 _ _ _ _ _ _ (by simp) rfl)
  have t1 : (((w.alloc (.cells #[.bool s1, v1] 32)).alloc (.cells #[.bool s2, v2] 32)).alloc (.cells #[.bool false, .slice none 0 0] 32)).cell? ⟨w.heap.size + 1, 1, none⟩ = some (v2) := old_cell _ (new_cell2 _ _ _ _ _ _ (by simp) rfl)
  have q0 : (((w.alloc (.cells #[.bool s1, v1] 32)).alloc (.cells #[.bool s2, v2] 32)).alloc (.cells #[.bool false, .slice none 0 0] 32)).cell? ⟨w.heap.size + 2, 0, none⟩ = some (.bool false) := new_cell2 _ _ _ _ _ _ (by simp) rfl
  have qf0 : (((w.alloc (.cells #[.bool s1, v1] 32)).alloc (.cells #[.bool s2, v2] 32)).alloc (.cells #[.bool false, .slice none 0 0] 32)).frozen? ⟨w.heap.size + 2, 0, none⟩ = false := new_loose2 _ _ _ _ _ (by simp)
  have q1 : (((w.alloc (.cells #[.bool s1, v1] 32)).alloc (.cells #[.bool s2, v2] 32)).alloc (.cells #[.bool false, .slice none 0 0] 32)).cell? ⟨w.heap.size + 2, 1, none⟩ = some (.slice none 0 0) := new_cell2 _ _ _ _ _ _ (by simp) rfl
  have qf1 : (((w.alloc (.cells #[.bool s1, v1] 32)).alloc (.cells #[.bool s2, v2] 32)).alloc (.cells #[.bool false, .slice none 0 0] 32)).frozen? ⟨w.heap.size + 2, 1, none⟩ = false := new_loose2 _ _ _ _ _ (by simp)
  replace r1 := r1.kept k0 (by omega)
  replace r2 := r2.kept k0 (by omega)
  have s0 : (((w.alloc (.cells #[.bool s1, v1] 32)).alloc (.cells #[.bool s2, v2] 32)).alloc (.cells #[.bool false, .slice none 0 0] 32)).heap.size = w.heap.size + 3 := by simp
  obtain ⟨a1, c1, hv⟩ := Row.form' r1
  subst hv
  obtain ⟨a2, c2, hv⟩ := Row.form' r2
  subst hv
  have K := hide (k0)
  clear k0
  have S0 := hide s0
  clear s0
  by_cases hs : s1 = s2
  · subst hs
    have hs : (s1 == s1) = true := by simp
    go_enter Tryd.func63, Tryd.ntmps63
    go_wp2_with fail
    generalize (((w.alloc (.cells #[.bool s1, .slice a1 xs.length c1] 32)).alloc (.cells #[.bool s1, .slice a2 ys.length c2] 32)).alloc (.cells #[.bool false, .slice none 0 0] 32)) = W at *
    have kd := (Kept.refl 0 0 W).drew
    replace r1 := r1.kept kd (by omega)
    replace r2 := r2.kept kd (by omega)
    replace qf0 := kd.loose0 (World.block_lt_of_cell? _ _ q0) qf0
    replace qf1 := kd.loose0 (World.block_lt_of_cell? _ _ q1) qf1
    replace p0 := kd.cell0 p0
    replace p1 := kd.cell0 p1
    replace t0 := kd.cell0 t0
    replace t1 := kd.cell0 t1
    replace q0 := kd.cell0 q0
    replace q1 := kd.cell0 q1
    replace K := hide ((unhide K).trans kd)
    have z1 := kd.size
    clear kd
    refine wp_region_held_drew (S := (fun w' => w'.cell? ⟨w.heap.size, 0, none⟩ = some (.bool s1) ∧ w'.cell? ⟨w.heap.size, 1, none⟩ = some (.slice a1 xs.length c1) ∧ w'.cell? ⟨w.heap.size + 1, 0, none⟩ = some (.bool s1) ∧ w'.cell? ⟨w.heap.size + 1, 1, none⟩ = some (.slice a2 ys.length c2))) (by kernel_rfl) ?_ (fun hHeld => ?_)
    · exact ⟨p0, p1, t0, t1⟩
    refine wpAnyH_take (i := 0) (oi := _) (v := .pointer (some ⟨w.heap.size, 0, none⟩)) rfl (by kernel_rfl) (by kernel_rfl) (by kernel_rfl) (fun _ _ _ h => h) (Or.inl ⟨by rfl, ?_⟩) hHeld ?_
    · intro wq hSw
      try dsimp only at hSw
      go_simp
    try simp only [Act.put, List.getElem_toArray, List.getElem_cons_succ, List.getElem_cons_zero, List.setIfInBounds_toArray, List.set_cons_zero, List.set_cons_succ]
    refine wpAnyH_take (i := 1) (oi := _) (v := .bool s1) rfl (by kernel_rfl) (by kernel_rfl) (by kernel_rfl) (fun _ _ _ h => h) (Or.inl ⟨by rfl, ?_⟩) hHeld ?_
    · intro wq hSw
      try dsimp only at hSw
      go_simp
    try simp only [Act.put, List.getElem_toArray, List.getElem_cons_succ, List.getElem_cons_zero, List.setIfInBounds_toArray, List.set_cons_zero, List.set_cons_succ]
    refine wpAnyH_take (i := 2) (oi := _) (v := .pointer (some ⟨w.heap.size, 1, none⟩)) rfl (by kernel_rfl) (by kernel_rfl) (by kernel_rfl) (fun _ _ _ h => h) (Or.inl ⟨by rfl, ?_⟩) hHeld ?_
    · intro wq hSw
      try dsimp only at hSw
      go_simp
    try simp only [Act.put, List.getElem_toArray, List.getElem_cons_succ, List.getElem_cons_zero, List.setIfInBounds_toArray, List.set_cons_zero, List.set_cons_succ]
    refine wpAnyH_take (i := 3) (oi := _) (v := .agg #[.slice a1 xs.length c1]) rfl (by kernel_rfl) (by kernel_rfl) (by kernel_rfl) (fun _ _ _ h => h) (Or.inl ⟨by rfl, ?_⟩) hHeld ?_
    · intro wq hSw
      try dsimp only at hSw
      go_simp
    try simp only [Act.put, List.getElem_toArray, List.getElem_cons_succ, List.getElem_cons_zero, List.setIfInBounds_toArray, List.set_cons_zero, List.set_cons_succ]
    refine wpAnyH_take (i := 4) (oi := _) (v := .pointer (some ⟨w.heap.size + 1, 1, none⟩)) rfl (by kernel_rfl) (by kernel_rfl) (by kernel_rfl) (fun _ _ _ h => h) (Or.inl ⟨by rfl, ?_⟩) hHeld ?_
    · intro wq hSw
      try dsimp only at hSw
      go_simp
    try simp only [Act.put, List.getElem_toArray, List.getElem_cons_succ, List.getElem_cons_zero, List.setIfInBounds_toArray, List.set_cons_zero, List.set_cons_succ]
    refine wpAnyH_take (i := 5) (oi := _) (v := .agg #[.slice a2 ys.length c2]) rfl (by kernel_rfl) (by kernel_rfl) (by kernel_rfl) (fun _ _ _ h => h) (Or.inl ⟨by rfl, ?_⟩) hHeld ?_
    · intro wq hSw
      try dsimp only at hSw
      go_simp
    try simp only [Act.put, List.getElem_toArray, List.getElem_cons_succ, List.getElem_cons_zero, List.setIfInBounds_toArray, List.set_cons_zero, List.set_cons_succ]
    refine wpAnyH_ready (rs := [6]) (by kernel_rfl) (by simp) ?_
    refine AllReadyH.cons rfl (fun KK hK => ?_) AllReadyH.nil
    simp only [List.getElem_toArray, List.getElem_cons_succ, List.getElem_cons_zero]
    rw [if_pos (by rfl)]
    refine wps2 87 (.tmp 13) (.tmp 15) _ rfl in_l2add (.agg #[.slice a1 xs.length c1]) (.agg #[.slice a2 ys.length c2]) rfl rfl (add_spec _ r1 r2 hx.1 hy.1 nx ny) ?_
    rintro e w2 ⟨v3, rfl, r3, k2⟩
    refine ⟨_, rfl, ?_⟩
    replace r1 := r1.kept k2 (by omega)
    replace r2 := r2.kept k2 (by omega)
    replace qf0 := k2.loose0 (World.block_lt_of_cell? _ _ q0) qf0
    replace qf1 := k2.loose0 (World.block_lt_of_cell? _ _ q1) qf1
    replace p0 := k2.cell0 p0
    replace p1 := k2.cell0 p1
    replace t0 := k2.cell0 t0
    replace t1 := k2.cell0 t1
    replace q0 := k2.cell0 q0
    replace q1 := k2.cell0 q1
    replace K := hide ((unhide K).trans k2)
    have z3 := k2.size
    clear k2
    clear hHeld
    refine hK.out _ _ ?_ (fun hHeld => ?_)
    · exact ⟨p0, p1, t0, t1⟩
    clear hK KK
    try simp only [Act.put, List.getElem_toArray, List.getElem_cons_succ, List.getElem_cons_zero, List.setIfInBounds_toArray, List.set_cons_zero, List.set_cons_succ]
    have hp : (limbs (val xs + val ys).toNat).length ≤ 1000000 := add_len hx.1 hy.1 nx ny _ (by have := val_nonneg hx.1; have := val_nonneg hy.1; omega)
    have mk := fun w r => make_any (bw := true) (lo := W.drew.heap.size) (hi := w.heap.size) (v := v3) s1 w r (limbs_nrm (val xs + val ys).toNat) hp
    simp only [add_sgn s1 hx.1 hy.1, ← unhide HX, ← unhide HZ, ← unhide HS] at mk
    refine wpAnyH_ready (rs := [7]) (by kernel_rfl) (by simp) ?_
    refine AllReadyH.cons rfl (fun KK hK => ?_) AllReadyH.nil
    simp only [List.getElem_toArray, List.getElem_cons_succ, List.getElem_cons_zero]
    rw [if_pos (by rfl)]
    refine wps2 70 (.tmp 11) (.tmp 16) _ rfl in_l3make (.bool s1) (.agg #[v3]) rfl rfl (mk _ r3.tight) ?_
    rintro e w4 ⟨v4, rfl, r4, k4⟩
    refine ⟨_, rfl, ?_⟩
    replace r1 := r1.kept k4 (by omega)
    replace r2 := r2.kept k4 (by omega)
    replace r3 := r3.kept k4 (by omega)
    replace qf0 := k4.loose0 (World.block_lt_of_cell? _ _ q0) qf0
    replace qf1 := k4.loose0 (World.block_lt_of_cell? _ _ q1) qf1
    replace p0 := k4.cell0 p0
    replace p1 := k4.cell0 p1
    replace t0 := k4.cell0 t0
    replace t1 := k4.cell0 t1
    replace q0 := k4.cell0 q0
    replace q1 := k4.cell0 q1
    replace K := hide ((unhide K).trans k4)
    have z5 := k4.size
    clear k4
    clear hHeld
    refine hK.out _ _ ?_ (fun hHeld => ?_)
    · exact ⟨p0, p1, t0, t1⟩
    clear hK KK
    try simp only [Act.put, List.getElem_toArray, List.getElem_cons_succ, List.getElem_cons_zero, List.setIfInBounds_toArray, List.set_cons_zero, List.set_cons_succ]
    obtain ⟨a4, c4, hv⟩ := Row.form' r4
    subst hv
    refine wpAnyH_ready (rs := [8]) (by kernel_rfl) (by simp) ?_
    refine AllReadyH.cons rfl (fun KK hK => ?_) AllReadyH.nil
    simp only [List.getElem_toArray, List.getElem_cons_succ, List.getElem_cons_zero]
    rw [if_pos (by rfl)]
    go_simp
    clear hHeld
    refine hK.out _ _ ?_ (fun hHeld => ?_)
    · exact ⟨(cell_aside _ (by dsimp only; omega) (cell_aside _ (by dsimp only; omega) p0)), (cell_aside _ (by dsimp only; omega) (cell_aside _ (by dsimp only; omega) p1)), (cell_aside _ (by dsimp only; omega) (cell_aside _ (by dsimp only; omega) t0)), (cell_aside _ (by dsimp only; omega) (cell_aside _ (by dsimp only; omega) t1))⟩
    clear hK KK
    try simp only [Act.put, List.getElem_toArray, List.getElem_cons_succ, List.getElem_cons_zero, List.setIfInBounds_toArray, List.set_cons_zero, List.set_cons_succ]
    refine wpAnyH_done (by kernel_rfl) ?_ _
    clear hHeld
    clear mk
    have bX : w.heap.size + 2 < w4.heap.size := World.block_lt_of_cell? _ _ q0
    have R := hide (((r4.set_other (p := ⟨w.heap.size + 2, 0, none⟩) (.inl (by have := unhide S0; dsimp only; omega)) (.bool ss)).set_other (p := ⟨w.heap.size + 2, 1, none⟩) (.inl (by have := unhide S0; dsimp only; omega)) (.slice a4 zz.length c4)).tight.wider (lo' := w.heap.size) (by have := unhide S0; omega) (Nat.le_refl _))
    have K7 := hide (((unhide K).setNew (p := ⟨w.heap.size + 2, 0, none⟩) (by simp) (.bool ss)).setNew (p := ⟨w.heap.size + 2, 1, none⟩) (by simp) (.slice a4 zz.length c4))
    clear r1 r2 r3 r4 K
    go_wp2_with fail
    exact bodyPost_ret (v := .agg #[.bool ss, .slice a4 zz.length c4]) (by simp [results, Tryd.results63, go_sem, q0, q1]) rfl ⟨_, rfl, unhide R, unhide K7⟩
  · have hsb : (s1 == s2) = false := beq_eq_false_iff_ne.2 hs
    have HNE := hide hs
    clear hs
    go_enter Tryd.func63, Tryd.ntmps63
    go_wp2_with fail
    generalize (((w.alloc (.cells #[.bool s1, .slice a1 xs.length c1] 32)).alloc (.cells #[.bool s2, .slice a2 ys.length c2] 32)).alloc (.cells #[.bool false, .slice none 0 0] 32)) = W at *
    refine (cmp_spec _ r1 r2 hx hy).mono ?_
    rintro e w1 ⟨rfl, k1⟩
    replace r1 := r1.kept k1 (by omega)
    replace r2 := r2.kept k1 (by omega)
    replace qf0 := k1.loose0 (World.block_lt_of_cell? _ _ q0) qf0
    replace qf1 := k1.loose0 (World.block_lt_of_cell? _ _ q1) qf1
    replace p0 := k1.cell0 p0
    replace p1 := k1.cell0 p1
    replace t0 := k1.cell0 t0
    replace t1 := k1.cell0 t1
    replace q0 := k1.cell0 q0
    replace q1 := k1.cell0 q1
    replace K := hide ((unhide K).trans k1)
    have z2 := k1.size
    clear k1
    by_cases hle : val ys ≤ val xs
    · have hd : (0 : Int) ≤ cmpI (val xs) (val ys) := by unfold cmpI; split <;> (try split) <;> omega
      generalize cmpI (val xs) (val ys) = d at *
      go_wp2_with fail
      have kd := (Kept.refl 0 0 w1).drew
      replace r1 := r1.kept kd (by omega)
      replace r2 := r2.kept kd (by omega)
      replace qf0 := kd.loose0 (World.block_lt_of_cell? _ _ q0) qf0
      replace qf1 := kd.loose0 (World.block_lt_of_cell? _ _ q1) qf1
      replace p0 := kd.cell0 p0
      replace p1 := kd.cell0 p1
      replace t0 := kd.cell0 t0
      replace t1 := kd.cell0 t1
      replace q0 := kd.cell0 q0
      replace q1 := kd.cell0 q1
      replace K := hide ((unhide K).trans kd)
      have z3 := kd.size
      clear kd
      refine wp_region_held_drew (S := (fun w' => w'.cell? ⟨w.heap.size, 0, none⟩ = some (.bool s1) ∧ w'.cell? ⟨w.heap.size, 1, none⟩ = some (.slice a1 xs.length c1) ∧ w'.cell? ⟨w.heap.size + 1, 0, none⟩ = some (.bool s2) ∧ w'.cell? ⟨w.heap.size + 1, 1, none⟩ = some (.slice a2 ys.length c2))) (by kernel_rfl) ?_ (fun hHeld => ?_)
      · exact ⟨p0, p1, t0, t1⟩
      refine wpAnyH_take (i := 0) (oi := _) (v := .pointer (some ⟨w.heap.size, 0, none⟩)) rfl (by kernel_rfl) (by kernel_rfl) (by kernel_rfl) (fun _ _ _ h => h) (Or.inl ⟨by rfl, ?_⟩) hHeld ?_
      · intro wq hSw
        try dsimp only at hSw
        go_simp
      try simp only [Act.put, List.getElem_toArray, List.getElem_cons_succ, List.getElem_cons_zero, List.setIfInBounds_toArray, List.set_cons_zero, List.set_cons_succ]
      refine wpAnyH_take (i := 1) (oi := _) (v := .bool s1) rfl (by kernel_rfl) (by kernel_rfl) (by kernel_rfl) (fun _ _ _ h => h) (Or.inl ⟨by rfl, ?_⟩) hHeld ?_
      · intro wq hSw
        try dsimp only at hSw
        go_simp
      try simp only [Act.put, List.getElem_toArray, List.getElem_cons_succ, List.getElem_cons_zero, List.setIfInBounds_toArray, List.set_cons_zero, List.set_cons_succ]
      refine wpAnyH_take (i := 2) (oi := _) (v := .pointer (some ⟨w.heap.size, 1, none⟩)) rfl (by kernel_rfl) (by kernel_rfl) (by kernel_rfl) (fun _ _ _ h => h) (Or.inl ⟨by rfl, ?_⟩) hHeld ?_
      · intro wq hSw
        try dsimp only at hSw
        go_simp
      try simp only [Act.put, List.getElem_toArray, List.getElem_cons_succ, List.getElem_cons_zero, List.setIfInBounds_toArray, List.set_cons_zero, List.set_cons_succ]
      refine wpAnyH_take (i := 3) (oi := _) (v := .agg #[.slice a1 xs.length c1]) rfl (by kernel_rfl) (by kernel_rfl) (by kernel_rfl) (fun _ _ _ h => h) (Or.inl ⟨by rfl, ?_⟩) hHeld ?_
      · intro wq hSw
        try dsimp only at hSw
        go_simp
      try simp only [Act.put, List.getElem_toArray, List.getElem_cons_succ, List.getElem_cons_zero, List.setIfInBounds_toArray, List.set_cons_zero, List.set_cons_succ]
      refine wpAnyH_take (i := 4) (oi := _) (v := .pointer (some ⟨w.heap.size + 1, 1, none⟩)) rfl (by kernel_rfl) (by kernel_rfl) (by kernel_rfl) (fun _ _ _ h => h) (Or.inl ⟨by rfl, ?_⟩) hHeld ?_
      · intro wq hSw
        try dsimp only at hSw
        go_simp
      try simp only [Act.put, List.getElem_toArray, List.getElem_cons_succ, List.getElem_cons_zero, List.setIfInBounds_toArray, List.set_cons_zero, List.set_cons_succ]
      refine wpAnyH_take (i := 5) (oi := _) (v := .agg #[.slice a2 ys.length c2]) rfl (by kernel_rfl) (by kernel_rfl) (by kernel_rfl) (fun _ _ _ h => h) (Or.inl ⟨by rfl, ?_⟩) hHeld ?_
      · intro wq hSw
        try dsimp only at hSw
        go_simp
      try simp only [Act.put, List.getElem_toArray, List.getElem_cons_succ, List.getElem_cons_zero, List.setIfInBounds_toArray, List.set_cons_zero, List.set_cons_succ]
      refine wpAnyH_ready (rs := [6]) (by kernel_rfl) (by simp) ?_
      refine AllReadyH.cons rfl (fun KK hK => ?_) AllReadyH.nil
      simp only [List.getElem_toArray, List.getElem_cons_succ, List.getElem_cons_zero]
      rw [if_pos (by rfl)]
      refine wps2 89 (.tmp 27) (.tmp 29) _ rfl in_l2sub (.agg #[.slice a1 xs.length c1]) (.agg #[.slice a2 ys.length c2]) rfl rfl (sub_spec _ r1 r2 hx.1 hy.1 nx (len_le_of_val hx.1 hy hle) hle) ?_
      rintro e w4 ⟨v3, rfl, r3, k4⟩
      refine ⟨_, rfl, ?_⟩
      replace r1 := r1.kept k4 (by omega)
      replace r2 := r2.kept k4 (by omega)
      replace qf0 := k4.loose0 (World.block_lt_of_cell? _ _ q0) qf0
      replace qf1 := k4.loose0 (World.block_lt_of_cell? _ _ q1) qf1
      replace p0 := k4.cell0 p0
      replace p1 := k4.cell0 p1
      replace t0 := k4.cell0 t0
      replace t1 := k4.cell0 t1
      replace q0 := k4.cell0 q0
      replace q1 := k4.cell0 q1
      replace K := hide ((unhide K).trans k4)
      have z5 := k4.size
      clear k4
      clear hHeld
      refine hK.out _ _ ?_ (fun hHeld => ?_)
      · exact ⟨p0, p1, t0, t1⟩
      clear hK KK
      try simp only [Act.put, List.getElem_toArray, List.getElem_cons_succ, List.getElem_cons_zero, List.setIfInBounds_toArray, List.set_cons_zero, List.set_cons_succ]
      have hp : (limbs (val xs - val ys).toNat).length ≤ 1000000 := add_len hx.1 hy.1 nx ny _ (by have := val_nonneg hx.1; have := val_nonneg hy.1; omega)
      have mk := fun w r => make_any (bw := true) (lo := w1.drew.heap.size) (hi := w.heap.size) (v := v3) s1 w r (limbs_nrm (val xs - val ys).toNat) hp
      simp only [sub_sgn (unhide HNE) hle, ← unhide HX, ← unhide HZ, ← unhide HS] at mk
      refine wpAnyH_ready (rs := [7]) (by kernel_rfl) (by simp) ?_
      refine AllReadyH.cons rfl (fun KK hK => ?_) AllReadyH.nil
      simp only [List.getElem_toArray, List.getElem_cons_succ, List.getElem_cons_zero]
      rw [if_pos (by rfl)]
      refine wps2 70 (.tmp 25) (.tmp 30) _ rfl in_l3make (.bool s1) (.agg #[v3]) rfl rfl (mk _ r3.tight) ?_
      rintro e w6 ⟨v4, rfl, r4, k6⟩
      refine ⟨_, rfl, ?_⟩
      replace r1 := r1.kept k6 (by omega)
      replace r2 := r2.kept k6 (by omega)
      replace r3 := r3.kept k6 (by omega)
      replace qf0 := k6.loose0 (World.block_lt_of_cell? _ _ q0) qf0
      replace qf1 := k6.loose0 (World.block_lt_of_cell? _ _ q1) qf1
      replace p0 := k6.cell0 p0
      replace p1 := k6.cell0 p1
      replace t0 := k6.cell0 t0
      replace t1 := k6.cell0 t1
      replace q0 := k6.cell0 q0
      replace q1 := k6.cell0 q1
      replace K := hide ((unhide K).trans k6)
      have z7 := k6.size
      clear k6
      clear hHeld
      refine hK.out _ _ ?_ (fun hHeld => ?_)
      · exact ⟨p0, p1, t0, t1⟩
      clear hK KK
      try simp only [Act.put, List.getElem_toArray, List.getElem_cons_succ, List.getElem_cons_zero, List.setIfInBounds_toArray, List.set_cons_zero, List.set_cons_succ]
      obtain ⟨a4, c4, hv⟩ := Row.form' r4
      subst hv
      refine wpAnyH_ready (rs := [8]) (by kernel_rfl) (by simp) ?_
      refine AllReadyH.cons rfl (fun KK hK => ?_) AllReadyH.nil
      simp only [List.getElem_toArray, List.getElem_cons_succ, List.getElem_cons_zero]
      rw [if_pos (by rfl)]
      go_simp
      clear hHeld
      refine hK.out _ _ ?_ (fun hHeld => ?_)
      · exact ⟨(cell_aside _ (by dsimp only; omega) (cell_aside _ (by dsimp only; omega) p0)), (cell_aside _ (by dsimp only; omega) (cell_aside _ (by dsimp only; omega) p1)), (cell_aside _ (by dsimp only; omega) (cell_aside _ (by dsimp only; omega) t0)), (cell_aside _ (by dsimp only; omega) (cell_aside _ (by dsimp only; omega) t1))⟩
      clear hK KK
      try simp only [Act.put, List.getElem_toArray, List.getElem_cons_succ, List.getElem_cons_zero, List.setIfInBounds_toArray, List.set_cons_zero, List.set_cons_succ]
      refine wpAnyH_done (by kernel_rfl) ?_ _
      clear hHeld
      clear mk
      have bX : w.heap.size + 2 < w6.heap.size := World.block_lt_of_cell? _ _ q0
      have R := hide (((r4.set_other (p := ⟨w.heap.size + 2, 0, none⟩) (.inl (by have := unhide S0; dsimp only; omega)) (.bool ss)).set_other (p := ⟨w.heap.size + 2, 1, none⟩) (.inl (by have := unhide S0; dsimp only; omega)) (.slice a4 zz.length c4)).tight.wider (lo' := w.heap.size) (by have := unhide S0; omega) (Nat.le_refl _))
      have K7 := hide (((unhide K).setNew (p := ⟨w.heap.size + 2, 0, none⟩) (by simp) (.bool ss)).setNew (p := ⟨w.heap.size + 2, 1, none⟩) (by simp) (.slice a4 zz.length c4))
      clear r1 r2 r3 r4 K
      go_wp2_with fail
      exact bodyPost_ret (v := .agg #[.bool ss, .slice a4 zz.length c4]) (by simp [results, Tryd.results63, go_sem, q0, q1]) rfl ⟨_, rfl, unhide R, unhide K7⟩
    · have hd : ¬ (0 : Int) ≤ cmpI (val xs) (val ys) := by unfold cmpI; rw [if_pos (by omega)]; omega
      have hle' : val xs ≤ val ys := by omega
      generalize cmpI (val xs) (val ys) = d at *
      go_wp2_with fail
      have kd := (Kept.refl 0 0 w1).drew
      replace r1 := r1.kept kd (by omega)
      replace r2 := r2.kept kd (by omega)
      replace qf0 := kd.loose0 (World.block_lt_of_cell? _ _ q0) qf0
      replace qf1 := kd.loose0 (World.block_lt_of_cell? _ _ q1) qf1
      replace p0 := kd.cell0 p0
      replace p1 := kd.cell0 p1
      replace t0 := kd.cell0 t0
      replace t1 := kd.cell0 t1
      replace q0 := kd.cell0 q0
      replace q1 := kd.cell0 q1
      replace K := hide ((unhide K).trans kd)
      have z3 := kd.size
      clear kd
      refine wp_region_held_drew (S := (fun w' => w'.cell? ⟨w.heap.size, 0, none⟩ = some (.bool s1) ∧ w'.cell? ⟨w.heap.size, 1, none⟩ = some (.slice a1 xs.length c1) ∧ w'.cell? ⟨w.heap.size + 1, 0, none⟩ = some (.bool s2) ∧ w'.cell? ⟨w.heap.size + 1, 1, none⟩ = some (.slice a2 ys.length c2))) (by kernel_rfl) ?_ (fun hHeld => ?_)
      · exact ⟨p0, p1, t0, t1⟩
      refine wpAnyH_take (i := 0) (oi := _) (v := .pointer (some ⟨w.heap.size + 1, 0, none⟩)) rfl (by kernel_rfl) (by kernel_rfl) (by kernel_rfl) (fun _ _ _ h => h) (Or.inl ⟨by rfl, ?_⟩) hHeld ?_
      · intro wq hSw
        try dsimp only at hSw
        go_simp
      try simp only [Act.put, List.getElem_toArray, List.getElem_cons_succ, List.getElem_cons_zero, List.setIfInBounds_toArray, List.set_cons_zero, List.set_cons_succ]
      refine wpAnyH_take (i := 1) (oi := _) (v := .bool s2) rfl (by kernel_rfl) (by kernel_rfl) (by kernel_rfl) (fun _ _ _ h => h) (Or.inl ⟨by rfl, ?_⟩) hHeld ?_
      · intro wq hSw
        try dsimp only at hSw
        go_simp
      try simp only [Act.put, List.getElem_toArray, List.getElem_cons_succ, List.getElem_cons_zero, List.setIfInBounds_toArray, List.set_cons_zero, List.set_cons_succ]
      refine wpAnyH_take (i := 2) (oi := _) (v := .pointer (some ⟨w.heap.size + 1, 1, none⟩)) rfl (by kernel_rfl) (by kernel_rfl) (by kernel_rfl) (fun _ _ _ h => h) (Or.inl ⟨by rfl, ?_⟩) hHeld ?_
      · intro wq hSw
        try dsimp only at hSw
        go_simp
      try simp only [Act.put, List.getElem_toArray, List.getElem_cons_succ, List.getElem_cons_zero, List.setIfInBounds_toArray, List.set_cons_zero, List.set_cons_succ]
      refine wpAnyH_take (i := 3) (oi := _) (v := .agg #[.slice a2 ys.length c2]) rfl (by kernel_rfl) (by kernel_rfl) (by kernel_rfl) (fun _ _ _ h => h) (Or.inl ⟨by rfl, ?_⟩) hHeld ?_
      · intro wq hSw
        try dsimp only at hSw
        go_simp
      try simp only [Act.put, List.getElem_toArray, List.getElem_cons_succ, List.getElem_cons_zero, List.setIfInBounds_toArray, List.set_cons_zero, List.set_cons_succ]
      refine wpAnyH_take (i := 4) (oi := _) (v := .pointer (some ⟨w.heap.size, 1, none⟩)) rfl (by kernel_rfl) (by kernel_rfl) (by kernel_rfl) (fun _ _ _ h => h) (Or.inl ⟨by rfl, ?_⟩) hHeld ?_
      · intro wq hSw
        try dsimp only at hSw
        go_simp
      try simp only [Act.put, List.getElem_toArray, List.getElem_cons_succ, List.getElem_cons_zero, List.setIfInBounds_toArray, List.set_cons_zero, List.set_cons_succ]
      refine wpAnyH_take (i := 5) (oi := _) (v := .agg #[.slice a1 xs.length c1]) rfl (by kernel_rfl) (by kernel_rfl) (by kernel_rfl) (fun _ _ _ h => h) (Or.inl ⟨by rfl, ?_⟩) hHeld ?_
      · intro wq hSw
        try dsimp only at hSw
        go_simp
      try simp only [Act.put, List.getElem_toArray, List.getElem_cons_succ, List.getElem_cons_zero, List.setIfInBounds_toArray, List.set_cons_zero, List.set_cons_succ]
      refine wpAnyH_ready (rs := [6]) (by kernel_rfl) (by simp) ?_
      refine AllReadyH.cons rfl (fun KK hK => ?_) AllReadyH.nil
      simp only [List.getElem_toArray, List.getElem_cons_succ, List.getElem_cons_zero]
      rw [if_pos (by rfl)]
      refine wps2 89 (.tmp 35) (.tmp 37) _ rfl in_l2sub (.agg #[.slice a2 ys.length c2]) (.agg #[.slice a1 xs.length c1]) rfl rfl (sub_spec _ r2 r1 hy.1 hx.1 ny (len_le_of_val hy.1 hx hle') hle') ?_
      rintro e w4 ⟨v3, rfl, r3, k4⟩
      refine ⟨_, rfl, ?_⟩
      replace r1 := r1.kept k4 (by omega)
      replace r2 := r2.kept k4 (by omega)
      replace qf0 := k4.loose0 (World.block_lt_of_cell? _ _ q0) qf0
      replace qf1 := k4.loose0 (World.block_lt_of_cell? _ _ q1) qf1
      replace p0 := k4.cell0 p0
      replace p1 := k4.cell0 p1
      replace t0 := k4.cell0 t0
      replace t1 := k4.cell0 t1
      replace q0 := k4.cell0 q0
      replace q1 := k4.cell0 q1
      replace K := hide ((unhide K).trans k4)
      have z5 := k4.size
      clear k4
      clear hHeld
      refine hK.out _ _ ?_ (fun hHeld => ?_)
      · exact ⟨p0, p1, t0, t1⟩
      clear hK KK
      try simp only [Act.put, List.getElem_toArray, List.getElem_cons_succ, List.getElem_cons_zero, List.setIfInBounds_toArray, List.set_cons_zero, List.set_cons_succ]
      have hp : (limbs (val ys - val xs).toNat).length ≤ 1000000 := add_len hx.1 hy.1 nx ny _ (by have := val_nonneg hx.1; have := val_nonneg hy.1; omega)
      have mk := fun w r => make_any (bw := true) (lo := w1.drew.heap.size) (hi := w.heap.size) (v := v3) s2 w r (limbs_nrm (val ys - val xs).toNat) hp
      simp only [sub_sgn' (unhide HNE) hle', ← unhide HX, ← unhide HZ, ← unhide HS] at mk
      refine wpAnyH_ready (rs := [7]) (by kernel_rfl) (by simp) ?_
      refine AllReadyH.cons rfl (fun KK hK => ?_) AllReadyH.nil
      simp only [List.getElem_toArray, List.getElem_cons_succ, List.getElem_cons_zero]
      rw [if_pos (by rfl)]
      refine wps2 70 (.tmp 33) (.tmp 38) _ rfl in_l3make (.bool s2) (.agg #[v3]) rfl rfl (mk _ r3.tight) ?_
      rintro e w6 ⟨v4, rfl, r4, k6⟩
      refine ⟨_, rfl, ?_⟩
      replace r1 := r1.kept k6 (by omega)
      replace r2 := r2.kept k6 (by omega)
      replace r3 := r3.kept k6 (by omega)
      replace qf0 := k6.loose0 (World.block_lt_of_cell? _ _ q0) qf0
      replace qf1 := k6.loose0 (World.block_lt_of_cell? _ _ q1) qf1
      replace p0 := k6.cell0 p0
      replace p1 := k6.cell0 p1
      replace t0 := k6.cell0 t0
      replace t1 := k6.cell0 t1
      replace q0 := k6.cell0 q0
      replace q1 := k6.cell0 q1
      replace K := hide ((unhide K).trans k6)
      have z7 := k6.size
      clear k6
      clear hHeld
      refine hK.out _ _ ?_ (fun hHeld => ?_)
      · exact ⟨p0, p1, t0, t1⟩
      clear hK KK
      try simp only [Act.put, List.getElem_toArray, List.getElem_cons_succ, List.getElem_cons_zero, List.setIfInBounds_toArray, List.set_cons_zero, List.set_cons_succ]
      obtain ⟨a4, c4, hv⟩ := Row.form' r4
      subst hv
      refine wpAnyH_ready (rs := [8]) (by kernel_rfl) (by simp) ?_
      refine AllReadyH.cons rfl (fun KK hK => ?_) AllReadyH.nil
      simp only [List.getElem_toArray, List.getElem_cons_succ, List.getElem_cons_zero]
      rw [if_pos (by rfl)]
      go_simp
      clear hHeld
      refine hK.out _ _ ?_ (fun hHeld => ?_)
      · exact ⟨(cell_aside _ (by dsimp only; omega) (cell_aside _ (by dsimp only; omega) p0)), (cell_aside _ (by dsimp only; omega) (cell_aside _ (by dsimp only; omega) p1)), (cell_aside _ (by dsimp only; omega) (cell_aside _ (by dsimp only; omega) t0)), (cell_aside _ (by dsimp only; omega) (cell_aside _ (by dsimp only; omega) t1))⟩
      clear hK KK
      try simp only [Act.put, List.getElem_toArray, List.getElem_cons_succ, List.getElem_cons_zero, List.setIfInBounds_toArray, List.set_cons_zero, List.set_cons_succ]
      refine wpAnyH_done (by kernel_rfl) ?_ _
      clear hHeld
      clear mk
      have bX : w.heap.size + 2 < w6.heap.size := World.block_lt_of_cell? _ _ q0
      have R := hide (((r4.set_other (p := ⟨w.heap.size + 2, 0, none⟩) (.inl (by have := unhide S0; dsimp only; omega)) (.bool ss)).set_other (p := ⟨w.heap.size + 2, 1, none⟩) (.inl (by have := unhide S0; dsimp only; omega)) (.slice a4 zz.length c4)).tight.wider (lo' := w.heap.size) (by have := unhide S0; omega) (Nat.le_refl _))
      have K7 := hide (((unhide K).setNew (p := ⟨w.heap.size + 2, 0, none⟩) (by simp) (.bool ss)).setNew (p := ⟨w.heap.size + 2, 1, none⟩) (by simp) (.slice a4 zz.length c4))
      clear r1 r2 r3 r4 K
      go_wp2_with fail
      exact bodyPost_ret (v := .agg #[.bool ss, .slice a4 zz.length c4]) (by simp [results, Tryd.results63, go_sem, q0, q1]) rfl ⟨_, rfl, unhide R, unhide K7⟩

/-- A sign and limbs, of any length, that are told in their one way. -/
def WN (b : Bool) (zs : List Int) : Prop := Nrm zs ∧ (b = true → 0 < zs.length)
theorem wok_wn {b : Bool} {zs : List Int} (h : wokB b zs = true) : WN b zs := by
  refine ⟨(wok_int h).2.2.2, fun e => ?_⟩
  unfold wokB at h
  subst e
  simp at h
  exact List.length_pos_iff.2 (fun e => by subst e; simp at h)
theorem WN.int {b : Bool} {zs : List Int} (h : WN b zs) : b = decide (wval b zs < 0) ∧ zs = limbs (wval b zs).natAbs ∧ Nrm zs := by
  obtain ⟨h4, h2⟩ := h
  have h0 := val_nonneg h4.1
  have hl := nrm_limbs h4
  unfold wval
  cases b
  · refine ⟨?_, ?_, h4⟩
    · simp; omega
    · simp
      rw [show (val zs).natAbs = (val zs).toNat by omega]; exact hl
  · have hne : zs ≠ [] := List.length_pos_iff.1 (h2 rfl)
    have hp := nrm_pow h4 hne
    have hp0 : (0 : Int) < 65536 ^ (zs.length - 1) := Int.pow_pos (by decide)
    refine ⟨?_, ?_, h4⟩
    · simp; omega
    · simp
      rw [show (val zs).natAbs = (val zs).toNat by omega]; exact hl

set_option maxHeartbeats 1000000 in
theorem cmp3_wn {b1 b2 : Bool} {l1 h1 l2 h2 : Nat} {v1 v2 : Value} {xs ys : List Int} (s1 s2 : Bool) (w : World) (r1 : Row .i64 b1 l1 h1 w v1 xs) (r2 : Row .i64 b2 l2 h2 w v2 ys) (o1 : WN s1 xs) (o2 : WN s2 ys) :
    Calls Tryd.prog 69 #[.agg #[.bool s1, v1], .agg #[.bool s2, v2]] w fun e w' => e = .returned (.int .i64 (cmpI (wval s1 xs) (wval s2 ys))) ∧ Kept 0 0 w w' := by
  have k0 := ((Kept.refl 0 0 w).alloc (.cells #[.bool s1, v1] 32)).alloc (.cells #[.bool s2, v2] 32)
  have q1 := r1.kept k0 (by omega)
  have q2 := r2.kept k0 (by omega)
  obtain ⟨a1, c1, rfl⟩ := Row.form' r1
  obtain ⟨a2, c2, rfl⟩ := Row.form' r2
  obtain ⟨x1, x2, hx⟩ := o1.int
  obtain ⟨y1, y2, hy⟩ := o2.int
  have nx := val_nonneg hx.1
  have ny := val_nonneg hy.1
  have HK := hide k0
  clear r1 r2 k0 o1 o2 x2 y2
  cases s1 <;> cases s2
  · have e : cmpI (wval false xs) (wval false ys) = cmpI (val xs) (val ys) := by simp [wval]
    rw [e]
    clear x1 y1 e
    go_enter Tryd.func69, Tryd.ntmps69
    go_wp2_with fail
    refine (cmp_spec _ q1 q2 hx hy).mono ?_
    rintro e w6 ⟨rfl, k6⟩
    have K := hide ((unhide HK).trans k6)
    clear q1 q2 k6
    go_wp2
    go_ret
    exact ⟨rfl, unhide K⟩
  · have e : cmpI (wval false xs) (wval true ys) = 1 := by simp [wval] at y1 ⊢; unfold cmpI; rw [if_neg (by omega), if_pos (by omega)]
    rw [e]
    clear x1 y1 e q1 q2
    go_enter Tryd.func69, Tryd.ntmps69
    go_wp2
    go_ret
    exact ⟨rfl, unhide HK⟩
  · have e : cmpI (wval true xs) (wval false ys) = -1 := by simp [wval] at x1 ⊢; unfold cmpI; rw [if_pos (by omega)]
    rw [e]
    clear x1 y1 e q1 q2
    go_enter Tryd.func69, Tryd.ntmps69
    go_wp2
    go_ret
    exact ⟨rfl, unhide HK⟩
  · have e : cmpI (wval true xs) (wval true ys) = cmpI (val ys) (val xs) := by simp [wval]; unfold cmpI; split <;> split <;> (try split) <;> (try split) <;> omega
    rw [e]
    clear x1 y1 e
    go_enter Tryd.func69, Tryd.ntmps69
    go_wp2_with fail
    refine (cmp_spec _ q2 q1 hy hx).mono ?_
    rintro e w6 ⟨rfl, k6⟩
    have K := hide ((unhide HK).trans k6)
    clear q1 q2 k6
    go_wp2
    go_ret
    exact ⟨rfl, unhide K⟩

theorem cmp3_spec {b1 b2 : Bool} {l1 h1 l2 h2 : Nat} {v1 v2 : Value} {xs ys : List Int} (s1 s2 : Bool) (w : World) (r1 : Row .i64 b1 l1 h1 w v1 xs) (r2 : Row .i64 b2 l2 h2 w v2 ys) (o1 : wokB s1 xs = true) (o2 : wokB s2 ys = true) :
    Calls Tryd.prog 69 #[.agg #[.bool s1, v1], .agg #[.bool s2, v2]] w fun e w' => e = .returned (.int .i64 (cmpI (wval s1 xs) (wval s2 ys))) ∧ Kept 0 0 w w' := cmp3_wn s1 s2 w r1 r2 (wok_wn o1) (wok_wn o2)

theorem of_wlm (n : Int) (h : n < 0) : wval true (limbs (val (limbs (-(n + 1)).toNat) + val (limbs (1 : Int).toNat)).toNat) = n := by
  unfold wval; rw [limbs_val, limbs_val, limbs_val]; simp; omega
theorem of_wlm' (n : Int) (h : ¬ n < 0) : wval false (limbs n.toNat) = n := by
  unfold wval; rw [limbs_val]; simp; omega

end Go.Proofs.YtbihbloknmjfjaaDoor
