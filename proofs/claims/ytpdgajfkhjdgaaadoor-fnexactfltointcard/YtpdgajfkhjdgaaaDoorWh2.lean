/-
  Whole numbers as integers; contracts of the model's l3make, l3neg, l3fits, l3cmp, l3mul, l3add, l3of.
-/
import Derived.Test.YtpdgajfkhjdgaaaDoorWh1
import Derived.Test.YtpdgajfkhjdgaaaDoorBB
import Derived.Test.YtpdgajfkhjdgaaaDoorBC
import Derived.Test.YtpdgajfkhjdgaaaDoorNat4
namespace Go.Proofs.YtpdgajfkhjdgaaaDoor
open Go.RowKit
set_option linter.unusedVariables false
set_option maxRecDepth 8000
set_option linter.unusedSimpArgs false

/-- A whole number's sign, and the limbs of its size. -/
def wsg (x : Int) : Bool := decide (x < 0)
def wlm (x : Int) : List Int := limbs x.natAbs
theorem limbs_pos (n : Nat) : decide (0 < (limbs n).length) = decide (0 < n) := by
  by_cases h : n = 0
  · subst h; rfl
  · have : limbs n ≠ [] := fun e => h (limbs_eq_nil.1 e)
    rw [decide_eq_true (List.length_pos_iff.2 this), decide_eq_true (by omega)]
theorem wlm_lim (x : Int) : Lim (wlm x) := limbs_lim _
theorem wlm_nrm (x : Int) : Nrm (wlm x) := limbs_nrm _
theorem wlm_val (x : Int) : val (wlm x) = x.natAbs := limbs_val _
theorem wval_int (x : Int) : wval (wsg x) (wlm x) = x := by
  unfold wval; rw [wlm_val]; unfold wsg
  by_cases h : x < 0 <;> simp [h] <;> omega
theorem wlm_wval (b : Bool) {zs : List Int} (hl : Lim zs) : wlm (wval b zs) = limbs (val zs).toNat := by
  have := val_nonneg hl
  unfold wlm wval
  cases b <;> simp <;> congr 1 <;> omega
theorem wsg_wval (b : Bool) (n : Nat) : wsg (wval b (limbs n)) = (b && decide (0 < (limbs n).length)) := by
  rw [limbs_pos]
  unfold wsg wval
  rw [limbs_val]
  cases b <;> simp
theorem wok_of {b : Bool} {zs : List Int} (h : wokB b zs = true) : ∃ x : Int, wval b zs = x ∧ b = wsg x ∧ zs = wlm x ∧ (wlm x).length ≤ 100 := by
  obtain ⟨h1, h2, h3, -⟩ := wok_int h
  exact ⟨_, rfl, h1, h2, by unfold wlm; rw [← h2]; exact h3⟩

theorem mul_len {xs ys : List Int} (hx : Lim xs) (hy : Lim ys) (nx : xs.length ≤ 100000) (ny : ys.length ≤ 100000) : (limbs (val xs * val ys).toNat).length ≤ 1000000 := by
  have h := (limbs_length_le (val xs * val ys).toNat (xs.length + ys.length)).2 (by
    rw [Int.toNat_of_nonneg (Int.mul_nonneg (val_nonneg hx) (val_nonneg hy))]
    exact mul_lt_pow hx hy)
  omega
theorem mul_sgn (s1 s2 : Bool) {xs ys : List Int} (hx : Lim xs) (hy : Lim ys) : wval (!(s1 == s2)) (limbs (val xs * val ys).toNat) = wval s1 xs * wval s2 ys := by
  have h3 := val_nonneg hx
  have h4 := val_nonneg hy
  unfold wval
  rw [limbs_val, Int.toNat_of_nonneg (Int.mul_nonneg h3 h4)]
  cases s1 <;> cases s2 <;> simp [Int.neg_mul, Int.mul_neg]

theorem add_len {xs ys : List Int} (hx : Lim xs) (hy : Lim ys) (nx : xs.length ≤ 100000) (ny : ys.length ≤ 100000) (n : Nat) (hn : (n : Int) ≤ val xs + val ys) : (limbs n).length ≤ 1000000 := by
  have h := (limbs_length_le n (xs.length + ys.length + 1)).2 (by
    have h1 := val_lt hx
    have h2 := val_lt hy
    have e1 := pow_mono (a := xs.length) (b := xs.length + ys.length) (by omega)
    have e2 := pow_mono (a := ys.length) (b := xs.length + ys.length) (by omega)
    rw [Int.pow_succ]
    generalize (65536 : Int) ^ (xs.length + ys.length) = P at *
    omega)
  omega
theorem len_le_of_val {xs ys : List Int} (hx : Lim xs) (hy : Nrm ys) (h : val ys ≤ val xs) : ys.length ≤ xs.length := by
  rcases Nat.lt_or_ge xs.length ys.length with h1 | h1
  · have := val_lt_of_len hx hy h1; omega
  · exact h1

/-- The model's l3make at a number that has its limbs in their one form. -/
theorem make_any {bw : Bool} {lo hi : Nat} {v : Value} {zs : List Int} (b : Bool) (w : World) (r : Row .i64 bw lo hi w v zs) (hn : Nrm zs) (hlen : zs.length ≤ 1000000) :
    Calls Tryd.prog 30 #[.bool b, .agg #[v]] w fun e w' => ∃ v', e = .returned (.agg #[.bool (wsg (wval b zs)), v']) ∧ Row .i64 true w.heap.size w'.heap.size w' v' (wlm (wval b zs)) ∧ Kept 0 0 w w' := by
  refine (make_spec b w r hn.1 hlen).mono ?_
  rintro e w' ⟨v', rfl, r', k'⟩
  refine ⟨v', ?_, by rw [wlm_wval b hn.1]; exact r', k'⟩
  have e := nrm_limbs hn
  rw [e, wsg_wval]

theorem add_sgn (s : Bool) {xs ys : List Int} (hx : Lim xs) (hy : Lim ys) : wval s (limbs (val xs + val ys).toNat) = wval s xs + wval s ys := by
  have h3 := val_nonneg hx
  have h4 := val_nonneg hy
  unfold wval
  rw [limbs_val, Int.toNat_of_nonneg (by omega)]
  cases s <;> simp <;> omega
theorem sub_sgn {s1 s2 : Bool} (h : s1 ≠ s2) {xs ys : List Int} (hle : val ys ≤ val xs) : wval s1 (limbs (val xs - val ys).toNat) = wval s1 xs + wval s2 ys := by
  unfold wval
  rw [limbs_val, Int.toNat_of_nonneg (by omega)]
  cases s1 <;> cases s2 <;> simp at h ⊢ <;> omega
theorem sub_sgn' {s1 s2 : Bool} (h : s1 ≠ s2) {xs ys : List Int} (hle : val xs ≤ val ys) : wval s2 (limbs (val ys - val xs).toNat) = wval s1 xs + wval s2 ys := by
  rw [Int.add_comm]; exact sub_sgn (fun e => h e.symm) hle

/-- A sign and limbs, of any length, that are told in their one way. -/
def WN (b : Bool) (zs : List Int) : Prop := Nrm zs ∧ (b = true → 0 < zs.length)
theorem wok_wn {b : Bool} {zs : List Int} (h : wokB b zs = true) : WN b zs := by
  refine ⟨(wok_int h).2.2.2, fun e => ?_⟩
  unfold wokB at h
  subst e
  simp at h
  exact List.length_pos_iff.2 (fun e => by subst e; simp at h)
theorem WN.int {b : Bool} {zs : List Int} (h : WN b zs) : b = decide (wval b zs < 0) ∧ zs = limbs (wval b zs).natAbs ∧ Nrm zs := by
  obtain ⟨h4, h2⟩ := h
  have h0 := val_nonneg h4.1
  have hl := nrm_limbs h4
  unfold wval
  cases b
  · refine ⟨?_, ?_, h4⟩
    · simp; omega
    · simp
      rw [show (val zs).natAbs = (val zs).toNat by omega]; exact hl
  · have hne : zs ≠ [] := List.length_pos_iff.1 (h2 rfl)
    have hp := nrm_pow h4 hne
    have hp0 : (0 : Int) < 65536 ^ (zs.length - 1) := Int.pow_pos (by decide)
    refine ⟨?_, ?_, h4⟩
    · simp; omega
    · simp
      rw [show (val zs).natAbs = (val zs).toNat by omega]; exact hl

theorem of_wlm (n : Int) (h : n < 0) : wval true (limbs (val (limbs (-(n + 1)).toNat) + val (limbs (1 : Int).toNat)).toNat) = n := by
  unfold wval; rw [limbs_val, limbs_val, limbs_val]; simp; omega
theorem of_wlm' (n : Int) (h : ¬ n < 0) : wval false (limbs n.toNat) = n := by
  unfold wval; rw [limbs_val]; simp; omega

set_option maxHeartbeats 4000000 in
theorem of3_spec (n : Int) (hn1 : n ≤ 9223372036854775807) (hn0 : -9223372036854775808 ≤ n) (w : World) :
    Calls Tryd.prog 44 #[.int .i64 n] w fun e w' => ∃ v', e = .returned (.agg #[.bool (wsg (n)), v']) ∧ Row .i64 true w.heap.size w'.heap.size w' v' (wlm (n)) ∧ Kept 0 0 w w' := by
  obtain ⟨zz, hzz⟩ : ∃ zz, zz = wlm n := ⟨_, rfl⟩
  obtain ⟨ss, hss⟩ : ∃ ss, ss = wsg n := ⟨_, rfl⟩
  rw [← hzz, ← hss]
  have HZ := hide hzz
  have HS := hide hss
  clear hzz hss
  have k0 : Kept 0 0 w (w.alloc (.cells #[.bool false, .slice none 0 0] 32)) := ((Kept.refl 0 0 w).alloc (.cells #[.bool false, .slice none 0 0] 32))
  have q0 : (w.alloc (.cells #[.bool false, .slice none 0 0] 32)).cell? ⟨w.heap.size, 0, none⟩ = some (.bool false) := new_cell2 _ _ _ _ _ _ (by simp) rfl
  have qf0 : (w.alloc (.cells #[.bool false, .slice none 0 0] 32)).frozen? ⟨w.heap.size, 0, none⟩ = false := new_loose2 _ _ _ _ _ (by simp)
  have q1 : (w.alloc (.cells #[.bool false, .slice none 0 0] 32)).cell? ⟨w.heap.size, 1, none⟩ = some (.slice none 0 0) := new_cell2 _ _ _ _ _ _ (by simp) rfl
  have qf1 : (w.alloc (.cells #[.bool false, .slice none 0 0] 32)).frozen? ⟨w.heap.size, 1, none⟩ = false := new_loose2 _ _ _ _ _ (by simp)
  have s0 : (w.alloc (.cells #[.bool false, .slice none 0 0] 32)).heap.size = w.heap.size + 1 := by simp
  have K := hide (k0)
  clear k0
  have S0 := hide s0
  clear s0
  by_cases h : n < 0
  · have h0 := limbs_int_length (-(n + 1)) (by omega)
    have hm : -(n + 1) ≤ 9223372036854775807 := by omega
    have h1 := limbs_int_length 1 (by omega)
    go_enter Tryd.func44, Tryd.ntmps44
    go_wp2_with fail
    generalize (w.alloc (.cells #[.bool false, .slice none 0 0] 32)) = W at *
    refine (of_spec _ (-(n + 1)) hm).mono ?_
    rintro e w1 ⟨v3, rfl, r3, k1⟩
    replace qf0 := k1.loose0 (World.block_lt_of_cell? _ _ q0) qf0
    replace qf1 := k1.loose0 (World.block_lt_of_cell? _ _ q1) qf1
    replace q0 := k1.cell0 q0
    replace q1 := k1.cell0 q1
    replace K := hide ((unhide K).trans k1)
    have z2 := k1.size
    clear k1
    go_wp2_with fail
    refine (of_spec _ 1 (by omega)).mono ?_
    rintro e w3 ⟨v4, rfl, r4, k3⟩
    replace r3 := r3.kept k3 (by omega)
    replace qf0 := k3.loose0 (World.block_lt_of_cell? _ _ q0) qf0
    replace qf1 := k3.loose0 (World.block_lt_of_cell? _ _ q1) qf1
    replace q0 := k3.cell0 q0
    replace q1 := k3.cell0 q1
    replace K := hide ((unhide K).trans k3)
    have z4 := k3.size
    clear k3
    go_wp2_with fail
    refine (add_spec _ r3 r4 (limbs_lim _) (limbs_lim _) (by omega) (by omega)).mono ?_
    rintro e w5 ⟨v5, rfl, r5, k5⟩
    replace r3 := r3.kept k5 (by omega)
    replace r4 := r4.kept k5 (by omega)
    replace qf0 := k5.loose0 (World.block_lt_of_cell? _ _ q0) qf0
    replace qf1 := k5.loose0 (World.block_lt_of_cell? _ _ q1) qf1
    replace q0 := k5.cell0 q0
    replace q1 := k5.cell0 q1
    replace K := hide ((unhide K).trans k5)
    have z6 := k5.size
    clear k5
    have hp : (limbs (val (limbs (-(n + 1)).toNat) + val (limbs (1 : Int).toNat)).toNat).length ≤ 1000000 := add_len (limbs_lim (-(n + 1)).toNat) (limbs_lim (1 : Int).toNat) (by omega) (by omega) _ (by rw [limbs_val, limbs_val]; omega)
    have mk := make_any true w5 r5 (limbs_nrm _) hp
    rw [of_wlm n h, ← unhide HZ, ← unhide HS] at mk
    go_wp2_with fail
    refine (mk).mono ?_
    rintro e w7 ⟨v6, rfl, r6, k7⟩
    replace r3 := r3.kept k7 (by omega)
    replace r4 := r4.kept k7 (by omega)
    replace r5 := r5.kept k7 (by omega)
    replace qf0 := k7.loose0 (World.block_lt_of_cell? _ _ q0) qf0
    replace qf1 := k7.loose0 (World.block_lt_of_cell? _ _ q1) qf1
    replace q0 := k7.cell0 q0
    replace q1 := k7.cell0 q1
    replace K := hide ((unhide K).trans k7)
    have z8 := k7.size
    clear k7
    clear mk
    obtain ⟨a6, c6, hv⟩ := Row.form' r6
    subst hv
    have bX : w.heap.size < w7.heap.size := World.block_lt_of_cell? _ _ q0
    have R := hide (((r6.set_other (p := ⟨w.heap.size, 0, none⟩) (.inl (by have := unhide S0; dsimp only; omega)) (.bool ss)).set_other (p := ⟨w.heap.size, 1, none⟩) (.inl (by have := unhide S0; dsimp only; omega)) (.slice a6 zz.length c6)).tight.wider (lo' := w.heap.size) (by have := unhide S0; omega) (Nat.le_refl _))
    have K7 := hide (((unhide K).setNew (p := ⟨w.heap.size, 0, none⟩) (by simp) (.bool ss)).setNew (p := ⟨w.heap.size, 1, none⟩) (by simp) (.slice a6 zz.length c6))
    clear r3 r4 r5 r6 K
    go_wp2_with fail
    exact bodyPost_ret (v := .agg #[.bool ss, .slice a6 zz.length c6]) (by simp [results, Tryd.results44, go_sem, q0, q1]) rfl ⟨_, rfl, unhide R, unhide K7⟩
  · have h0 := limbs_int_length n hn1
    go_enter Tryd.func44, Tryd.ntmps44
    go_wp2_with fail
    generalize (w.alloc (.cells #[.bool false, .slice none 0 0] 32)) = W at *
    refine (of_spec _ n hn1).mono ?_
    rintro e w1 ⟨v3, rfl, r3, k1⟩
    replace qf0 := k1.loose0 (World.block_lt_of_cell? _ _ q0) qf0
    replace qf1 := k1.loose0 (World.block_lt_of_cell? _ _ q1) qf1
    replace q0 := k1.cell0 q0
    replace q1 := k1.cell0 q1
    replace K := hide ((unhide K).trans k1)
    have z2 := k1.size
    clear k1
    have mk := make_any false w1 r3 (limbs_nrm _) (by omega)
    rw [of_wlm' n (by omega), ← unhide HZ, ← unhide HS] at mk
    go_wp2_with fail
    refine (mk).mono ?_
    rintro e w3 ⟨v6, rfl, r6, k3⟩
    replace r3 := r3.kept k3 (by omega)
    replace qf0 := k3.loose0 (World.block_lt_of_cell? _ _ q0) qf0
    replace qf1 := k3.loose0 (World.block_lt_of_cell? _ _ q1) qf1
    replace q0 := k3.cell0 q0
    replace q1 := k3.cell0 q1
    replace K := hide ((unhide K).trans k3)
    have z4 := k3.size
    clear k3
    clear mk
    obtain ⟨a6, c6, hv⟩ := Row.form' r6
    subst hv
    have bX : w.heap.size < w3.heap.size := World.block_lt_of_cell? _ _ q0
    have R := hide (((r6.set_other (p := ⟨w.heap.size, 0, none⟩) (.inl (by have := unhide S0; dsimp only; omega)) (.bool ss)).set_other (p := ⟨w.heap.size, 1, none⟩) (.inl (by have := unhide S0; dsimp only; omega)) (.slice a6 zz.length c6)).tight.wider (lo' := w.heap.size) (by have := unhide S0; omega) (Nat.le_refl _))
    have K7 := hide (((unhide K).setNew (p := ⟨w.heap.size, 0, none⟩) (by simp) (.bool ss)).setNew (p := ⟨w.heap.size, 1, none⟩) (by simp) (.slice a6 zz.length c6))
    clear r3 r6 K
    go_wp2_with fail
    exact bodyPost_ret (v := .agg #[.bool ss, .slice a6 zz.length c6]) (by simp [results, Tryd.results44, go_sem, q0, q1]) rfl ⟨_, rfl, unhide R, unhide K7⟩

end Go.Proofs.YtpdgajfkhjdgaaaDoor
