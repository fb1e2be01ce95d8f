/-
  Dyadic numbers: the model's l4align, l4cmp and DyCmp.
-/
import Derived.Test.YthahoabkehcgbaaGreatDoorqoDy2
import Derived.Test.YthahoabkehcgbaaGreatDoorqoBK
namespace Go.Proofs.YthahoabkehcgbaaGreatDoor
open Go.RowKit
set_option linter.unusedVariables false
set_option maxRecDepth 8000
set_option linter.unusedSimpArgs false

theorem pow_split (m : Int) {x E l : Int} (h : m = 0 ∨ E ≤ x) (hl : l ≤ E) : m * 2 ^ (x - l).toNat = m * 2 ^ (x - E).toNat * 2 ^ (E - l).toNat := by
  rcases h with h | h
  · subst h; simp
  · rw [Int.mul_assoc, ← Int.pow_add, show (x - E).toNat + (E - l).toNat = (x - l).toNat by omega]
theorem cmpI_scale (a b : Int) (k : Nat) : cmpI (a * 2 ^ k) (b * 2 ^ k) = cmpI a b := by
  have hp : (0 : Int) < 2 ^ k := Int.pow_pos (by decide)
  have h1 : a * 2 ^ k < b * 2 ^ k ↔ a < b := ⟨fun h => Int.lt_of_mul_lt_mul_right h (Int.le_of_lt hp), fun h => Int.mul_lt_mul_of_pos_right h hp⟩
  have h2 : b * 2 ^ k < a * 2 ^ k ↔ b < a := ⟨fun h => Int.lt_of_mul_lt_mul_right h (Int.le_of_lt hp), fun h => Int.mul_lt_mul_of_pos_right h hp⟩
  unfold cmpI
  simp only [h1, h2]
/-- What two dyadic numbers are beside one another, by the lower one of their powers of two. -/
def cmpDI (m1 : Int) (x1 : Int) (m2 : Int) (x2 : Int) : Int := cmpI (m1 * 2 ^ (x1 - min x1 x2).toNat) (m2 * 2 ^ (x2 - min x1 x2).toNat)
/-- A power of two that two numbers may be written with. -/
structure Alg (m1 x1 m2 x2 E : Int) : Prop where
  a1 : m1 = 0 ∨ E ≤ x1
  a2 : m2 = 0 ∨ E ≤ x2
  lo : min x1 x2 ≤ E
  hi : E ≤ max x1 x2
theorem cmp_alg {m1 x1 m2 x2 E : Int} (h : Alg m1 x1 m2 x2 E) : cmpI (m1 * 2 ^ (x1 - E).toNat) (m2 * 2 ^ (x2 - E).toNat) = cmpDI m1 x1 m2 x2 := by
  unfold cmpDI
  rw [pow_split m1 h.a1 h.lo, pow_split m2 h.a2 h.lo, cmpI_scale]
theorem wval_nil (b : Bool) : wval b [] = 0 := by cases b <;> rfl
theorem wval_limbs (b : Bool) (n : Nat) : wval b (limbs n) = if b = true then -(n : Int) else (n : Int) := by
  unfold wval; rw [limbs_val]
theorem limbs_shl_lenW {zs : List Int} (hn : Nrm zs) (hl : zs.length ≤ 3000) (k : Nat) (hk : k ≤ 80000) : (limbs ((val zs).toNat * 2 ^ k)).length ≤ 9000 := by
  refine (limbs_length_le _ _).2 ?_
  have h1 := val_lt hn.1
  have h2 := val_nonneg hn.1
  rw [pow_limb] at h1
  have h3 : (val zs).toNat < 2 ^ (16 * zs.length) := by omega
  have h4 : (val zs).toNat * 2 ^ k < 2 ^ (16 * zs.length) * 2 ^ k := Nat.mul_lt_mul_of_pos_right h3 (Nat.pow_pos (by decide))
  rw [← Nat.pow_add] at h4
  rw [pow_limb]
  have h5 := Nat.lt_of_lt_of_le h4 (Nat.pow_le_pow_right (n := 2) (by decide) (show 16 * zs.length + k ≤ 16 * 9000 by omega))
  omega
/-- A number in its form, with limbs and a power of two that are not too great. -/
def WB (s : Bool) (zs : List Int) (x : Int) : Prop := WN s zs ∧ zs.length ≤ 3000 ∧ -40000 ≤ x ∧ x ≤ 40000
theorem dok_wb {s : Bool} {zs : List Int} {x : Int} (h : dokB s zs x = true) : WB s zs x := by
  obtain ⟨w1, e1, e2, e3, e4⟩ := dok_parts h
  obtain ⟨-, -, lx, -⟩ := wok_int w1
  exact ⟨wok_wn w1, by omega, by omega, by omega⟩
/-- A number that was shifted, made with its sign. -/
theorem shl_wn {s : Bool} {zs : List Int} (h : WN s zs) (hne : 0 < zs.length) (k : Nat) :
    (s && decide (0 < (limbs ((val zs).toNat * 2 ^ k)).length)) = s ∧ limbs (val (limbs ((val zs).toNat * 2 ^ k))).toNat = limbs ((val zs).toNat * 2 ^ k) ∧ WN s (limbs ((val zs).toNat * 2 ^ k)) ∧ wval s (limbs ((val zs).toNat * 2 ^ k)) = wval s zs * 2 ^ k := by
  have h0 := val_nonneg h.1.1
  have hp := nrm_pow h.1 (List.length_pos_iff.1 hne)
  have hp0 : (0 : Int) < 65536 ^ (zs.length - 1) := Int.pow_pos (by decide)
  have hpos : 0 < (val zs).toNat * 2 ^ k := Nat.mul_pos (by omega) (Nat.pow_pos (by decide))
  have hl : 0 < (limbs ((val zs).toNat * 2 ^ k)).length := by
    have := limbs_pos ((val zs).toNat * 2 ^ k)
    rw [decide_eq_true hpos] at this
    exact of_decide_eq_true this
  refine ⟨by rw [decide_eq_true hl, Bool.and_true], by rw [limbs_val, Int.toNat_natCast], ⟨limbs_nrm _, fun _ => hl⟩, ?_⟩
  rw [wval_limbs]
  have hc : (((val zs).toNat * 2 ^ k : Nat) : Int) = val zs * 2 ^ k := by rw [Int.natCast_mul, Int.toNat_of_nonneg h0]; simp
  rw [hc]
  unfold wval
  cases s
  · rfl
  · simp [Int.neg_mul]

theorem in_l2shl : ∀ (w : World) (args : Array Value), (callFunc 202 args).run Tryz.prog w = .ok (.enter 202 args) w := enters Tryz.func202 (by decide) (fun h => by cases h)

set_option maxHeartbeats 4000000 in
theorem align4_wide {b1 b2 : Bool} {l1 h1 l2 h2 : Nat} {v1 v2 : Value} {xs ys : List Int} (s1 s2 : Bool) (x1 x2 : Int) (w : World) (r1 : Row .i64 b1 l1 h1 w v1 xs) (r2 : Row .i64 b2 l2 h2 w v2 ys) (o1 : WB s1 xs x1) (o2 : WB s2 ys x2) :
    Calls Tryz.prog 178 #[.agg #[.bool s1, v1, .int .i64 x1], .agg #[.bool s2, v2, .int .i64 x2]] w fun e w' => ∃ u1 u2 t1 t2 z1 z2 E, e = .returned (.tuple #[.agg #[.bool t1, u1], .agg #[.bool t2, u2], .int .i64 E]) ∧ Row .i64 false 0 w'.heap.size w' u1 z1 ∧ Row .i64 false 0 w'.heap.size w' u2 z2 ∧ (WN t1 z1 ∧ WN t2 z2 ∧ z1.length ≤ 9000 ∧ z2.length ≤ 9000 ∧ Alg (wval s1 xs) x1 (wval s2 ys) x2 E ∧ wval t1 z1 = wval s1 xs * 2 ^ (x1 - E).toNat ∧ wval t2 z2 = wval s2 ys * 2 ^ (x2 - E).toNat) ∧ Kept 0 0 w w' := by
  replace r1 := r1.tight
  replace r2 := r2.tight
  obtain ⟨n1, lx, e1, e2⟩ := o1
  obtain ⟨n2, ly, f2, f3⟩ := o2
  have e3 : True := trivial
  have f4 : True := trivial
  have k0 : Kept 0 0 w ((((w.alloc (.cells #[.bool s1, v1, .int .i64 x1] 52)).alloc (.cells #[.bool s2, v2, .int .i64 x2] 52)).alloc (.cells #[.bool false, .slice none 0 0] 50)).alloc (.cells #[.bool false, .slice none 0 0] 50)) := (((((Kept.refl 0 0 w).alloc (.cells #[.bool s1, v1, .int .i64 x1] 52)).alloc (.cells #[.bool s2, v2, .int .i64 x2] 52)).alloc (.cells #[.bool false, .slice none 0 0] 50)).alloc (.cells #[.bool false, .slice none 0 0] 50))
  have p0 : ((((w.alloc (.cells #[.bool s1, v1, .int .i64 x1] 52)).alloc (.cells #[.bool s2, v2, .int .i64 x2] 52)).alloc (.cells #[.bool false, .slice none 0 0] 50)).alloc (.cells #[.bool false, .slice none 0 0] 50)).cell? ⟨w.heap.size, 0, none⟩ = some (.bool s1) := old_cell _ (old_cell _ (old_cell _ (new_cell2 _ _ _ _ _ _ (by simp) rfl)))
  have p1 : ((((w.alloc (.cells #[.bool s1, v1, .int .i64 x1] 52)).alloc (.cells #[.bool s2, v2, .int .i64 x2] 52)).alloc (.cells #[.bool false, .slice none 0 0] 50)).alloc (.cells #[.bool false, .slice none 0 0] 50)).cell? ⟨w.heap.size, 1, none⟩ = some (v1) := old_cell _ (old_cell _ (old_cell _ (new_cell2 _ _ _ _ _ _ (by simp) rfl)))
  have p2 : ((((w.alloc (.cells #[.bool s1, v1, .int .i64 x1] 52)).alloc (.cells #[.bool s2, v2, .int .i64 x2] 52)).alloc (.cells #[.bool false, .slice none 0 0] 50)).alloc (.cells #[.bool false, .slice none 0 0] 50)).cell? ⟨w.heap.size, 2, none⟩ = some (.int .i64 x1) := old_cell _ (old_cell _ (old_cell _ (new_cell2 _ _ _ _ _ _ (by simp) rfl)))
  have t0 : ((((w.alloc (.cells #[.bool s1, v1, .int .i64 x1] 52)).alloc (.cells #[.bool s2, v2, .int .i64 x2] 52)).alloc (.cells #[.bool false, .slice none 0 0] 50)).alloc (.cells #[.bool false, .slice none 0 0] 50)).cell? ⟨w.heap.size + 1, 0, none⟩ = some (.bool s2) := old_cell _ (old_cell _ (new_cell2 _ _ _ _ _ _ (by simp) rfl))
  have t1 : ((((w.alloc (.cells #[.bool s1, v1, .int .i64 x1] 52)).alloc (.cells #[.bool s2, v2, .int .i64 x2] 52)).alloc (.cells #[.bool false, .slice none 0 0] 50)).alloc (.cells #[.bool false, .slice none 0 0] 50)).cell? ⟨w.heap.size + 1, 1, none⟩ = some (v2) := old_cell _ (old_cell _ (new_cell2 _ _ _ _ _ _ (by simp) rfl))
  have t2 : ((((w.alloc (.cells #[.bool s1, v1, .int .i64 x1] 52)).alloc (.cells #[.bool s2, v2, .int .i64 x2] 52)).alloc (.cells #[.bool false, .slice none 0 0] 50)).alloc (.cells #[.bool false, .slice none 0 0] 50)).cell? ⟨w.heap.size + 1, 2, none⟩ = some (.int .i64 x2) := old_cell _ (old_cell _ (new_cell2 _ _ _ _ _ _ (by simp) rfl))
  have q0 : ((((w.alloc (.cells #[.bool s1, v1, .int .i64 x1] 52)).alloc (.cells #[.bool s2, v2, .int .i64 x2] 52)).alloc (.cells #[.bool false, .slice none 0 0] 50)).alloc (.cells #[.bool false, .slice none 0 0] 50)).cell? ⟨w.heap.size + 2, 0, none⟩ = some (.bool false) := old_cell _ (new_cell2 _ _ _ _ _ _ (by simp) rfl)
  have qf0 : ((((w.alloc (.cells #[.bool s1, v1, .int .i64 x1] 52)).alloc (.cells #[.bool s2, v2, .int .i64 x2] 52)).alloc (.cells #[.bool false, .slice none 0 0] 50)).alloc (.cells #[.bool false, .slice none 0 0] 50)).frozen? ⟨w.heap.size + 2, 0, none⟩ = false := loose_old (by simp <;> omega) (new_loose2 _ _ _ _ _ (by simp))
  have q1 : ((((w.alloc (.cells #[.bool s1, v1, .int .i64 x1] 52)).alloc (.cells #[.bool s2, v2, .int .i64 x2] 52)).alloc (.cells #[.bool false, .slice none 0 0] 50)).alloc (.cells #[.bool false, .slice none 0 0] 50)).cell? ⟨w.heap.size + 2, 1, none⟩ = some (.slice none 0 0) := old_cell _ (new_cell2 _ _ _ _ _ _ (by simp) rfl)
  have qf1 : ((((w.alloc (.cells #[.bool s1, v1, .int .i64 x1] 52)).alloc (.cells #[.bool s2, v2, .int .i64 x2] 52)).alloc (.cells #[.bool false, .slice none 0 0] 50)).alloc (.cells #[.bool false, .slice none 0 0] 50)).frozen? ⟨w.heap.size + 2, 1, none⟩ = false := loose_old (by simp <;> omega) (new_loose2 _ _ _ _ _ (by simp))
  have u0 : ((((w.alloc (.cells #[.bool s1, v1, .int .i64 x1] 52)).alloc (.cells #[.bool s2, v2, .int .i64 x2] 52)).alloc (.cells #[.bool false, .slice none 0 0] 50)).alloc (.cells #[.bool false, .slice none 0 0] 50)).cell? ⟨w.heap.size + 3, 0, none⟩ = some (.bool false) := new_cell2 _ _ _ _ _ _ (by simp) rfl
  have uf0 : ((((w.alloc (.cells #[.bool s1, v1, .int .i64 x1] 52)).alloc (.cells #[.bool s2, v2, .int .i64 x2] 52)).alloc (.cells #[.bool false, .slice none 0 0] 50)).alloc (.cells #[.bool false, .slice none 0 0] 50)).frozen? ⟨w.heap.size + 3, 0, none⟩ = false := new_loose2 _ _ _ _ _ (by simp)
  have u1 : ((((w.alloc (.cells #[.bool s1, v1, .int .i64 x1] 52)).alloc (.cells #[.bool s2, v2, .int .i64 x2] 52)).alloc (.cells #[.bool false, .slice none 0 0] 50)).alloc (.cells #[.bool false, .slice none 0 0] 50)).cell? ⟨w.heap.size + 3, 1, none⟩ = some (.slice none 0 0) := new_cell2 _ _ _ _ _ _ (by simp) rfl
  have uf1 : ((((w.alloc (.cells #[.bool s1, v1, .int .i64 x1] 52)).alloc (.cells #[.bool s2, v2, .int .i64 x2] 52)).alloc (.cells #[.bool false, .slice none 0 0] 50)).alloc (.cells #[.bool false, .slice none 0 0] 50)).frozen? ⟨w.heap.size + 3, 1, none⟩ = false := new_loose2 _ _ _ _ _ (by simp)
  replace r1 := r1.kept k0 (by omega)
  replace r2 := r2.kept k0 (by omega)
  have s0 : ((((w.alloc (.cells #[.bool s1, v1, .int .i64 x1] 52)).alloc (.cells #[.bool s2, v2, .int .i64 x2] 52)).alloc (.cells #[.bool false, .slice none 0 0] 50)).alloc (.cells #[.bool false, .slice none 0 0] 50)).heap.size = w.heap.size + 4 := by simp
  obtain ⟨a1, c1, hv⟩ := Row.form' r1
  subst hv
  obtain ⟨a2, c2, hv⟩ := Row.form' r2
  subst hv
  have K := hide (k0)
  clear k0
  have S0 := hide s0
  clear s0
  go_enter Tryz.func178, Tryz.ntmps178
  by_cases hx : xs.length = 0
  · have hbx : ((xs.length : Int) == 0) = true := beq_iff_eq.2 (by omega)
    have m0 : wval s1 xs = 0 := by rw [List.length_eq_zero_iff.1 hx]; exact wval_nil s1
    have M0 := hide m0
    clear hx m0 e3 f4
    go_wp2_with fail
    generalize ((((w.alloc (.cells #[.bool s1, .slice a1 xs.length c1, .int .i64 x1] 52)).alloc (.cells #[.bool s2, .slice a2 ys.length c2, .int .i64 x2] 52)).alloc (.cells #[.bool false, .slice none 0 0] 50)).alloc (.cells #[.bool false, .slice none 0 0] 50)) = W at *
    have n_qf0 := qf0
    have n_q0 := q0
    have n_qf1 := qf1
    have n_q1 := q1
    have n_uf0 := uf0
    have n_u0 := u0
    have n_uf1 := uf1
    have n_u1 := u1
    have kd := (Kept.refl 0 0 W).drew
    replace r1 := r1.kept kd (by omega)
    replace r2 := r2.kept kd (by omega)
    replace qf0 := kd.loose0 (World.block_lt_of_cell? _ _ q0) qf0
    replace qf1 := kd.loose0 (World.block_lt_of_cell? _ _ q1) qf1
    replace uf0 := kd.loose0 (World.block_lt_of_cell? _ _ u0) uf0
    replace uf1 := kd.loose0 (World.block_lt_of_cell? _ _ u1) uf1
    replace p0 := kd.cell0 p0
    replace p1 := kd.cell0 p1
    replace p2 := kd.cell0 p2
    replace t0 := kd.cell0 t0
    replace t1 := kd.cell0 t1
    replace t2 := kd.cell0 t2
    replace q0 := kd.cell0 q0
    replace q1 := kd.cell0 q1
    replace u0 := kd.cell0 u0
    replace u1 := kd.cell0 u1
    replace K := hide ((unhide K).trans kd)
    have z1 := kd.size
    clear kd
    refine wp_region_held_drew (S := (fun w' => w'.cell? ⟨w.heap.size, 0, none⟩ = some (.bool s1) ∧ w'.cell? ⟨w.heap.size, 1, none⟩ = some (.slice a1 xs.length c1) ∧ w'.cell? ⟨w.heap.size + 1, 0, none⟩ = some (.bool s2) ∧ w'.cell? ⟨w.heap.size + 1, 1, none⟩ = some (.slice a2 ys.length c2) ∧ w'.cell? ⟨w.heap.size + 1, 2, none⟩ = some (.int .i64 x2))) (by kernel_rfl) ?_ (fun hHeld => ?_)
    · exact ⟨p0, p1, t0, t1, t2⟩
    refine wpAnyH_take (i := 0) (oi := _) (v := .pointer (some ⟨w.heap.size, 0, none⟩)) rfl (by kernel_rfl) (by kernel_rfl) (by kernel_rfl) (fun _ _ _ h => h) (Or.inl ⟨by rfl, ?_⟩) hHeld ?_
    · intro wq hSw
      try dsimp only at hSw
      go_simp
    try simp only [Act.put, List.getElem_toArray, List.getElem_cons_succ, List.getElem_cons_zero, List.setIfInBounds_toArray, List.set_cons_zero, List.set_cons_succ]
    refine wpAnyH_take (i := 1) (oi := _) (v := .agg #[.bool s1, .slice a1 xs.length c1]) rfl (by kernel_rfl) (by kernel_rfl) (by kernel_rfl) (fun _ _ _ h => h) (Or.inl ⟨by rfl, ?_⟩) hHeld ?_
    · intro wq hSw
      try dsimp only at hSw
      go_simp
    try simp only [Act.put, List.getElem_toArray, List.getElem_cons_succ, List.getElem_cons_zero, List.setIfInBounds_toArray, List.set_cons_zero, List.set_cons_succ]
    refine wpAnyH_take (i := 2) (oi := _) (v := .pointer (some ⟨w.heap.size + 1, 0, none⟩)) rfl (by kernel_rfl) (by kernel_rfl) (by kernel_rfl) (fun _ _ _ h => h) (Or.inl ⟨by rfl, ?_⟩) hHeld ?_
    · intro wq hSw
      try dsimp only at hSw
      go_simp
    try simp only [Act.put, List.getElem_toArray, List.getElem_cons_succ, List.getElem_cons_zero, List.setIfInBounds_toArray, List.set_cons_zero, List.set_cons_succ]
    refine wpAnyH_take (i := 3) (oi := _) (v := .agg #[.bool s2, .slice a2 ys.length c2]) rfl (by kernel_rfl) (by kernel_rfl) (by kernel_rfl) (fun _ _ _ h => h) (Or.inl ⟨by rfl, ?_⟩) hHeld ?_
    · intro wq hSw
      try dsimp only at hSw
      go_simp
    try simp only [Act.put, List.getElem_toArray, List.getElem_cons_succ, List.getElem_cons_zero, List.setIfInBounds_toArray, List.set_cons_zero, List.set_cons_succ]
    refine wpAnyH_take (i := 4) (oi := _) (v := .pointer (some ⟨w.heap.size + 1, 2, none⟩)) rfl (by kernel_rfl) (by kernel_rfl) (by kernel_rfl) (fun _ _ _ h => h) (Or.inl ⟨by rfl, ?_⟩) hHeld ?_
    · intro wq hSw
      try dsimp only at hSw
      go_simp
    try simp only [Act.put, List.getElem_toArray, List.getElem_cons_succ, List.getElem_cons_zero, List.setIfInBounds_toArray, List.set_cons_zero, List.set_cons_succ]
    refine wpAnyH_take (i := 5) (oi := _) (v := .int .i64 x2) rfl (by kernel_rfl) (by kernel_rfl) (by kernel_rfl) (fun _ _ _ h => h) (Or.inl ⟨by rfl, ?_⟩) hHeld ?_
    · intro wq hSw
      try dsimp only at hSw
      go_simp
    try simp only [Act.put, List.getElem_toArray, List.getElem_cons_succ, List.getElem_cons_zero, List.setIfInBounds_toArray, List.set_cons_zero, List.set_cons_succ]
    refine wpAnyH_ready (rs := [6]) (by kernel_rfl) (by simp) ?_
    refine AllReadyH.cons rfl (fun KK hK => ?_) AllReadyH.nil
    simp only [List.getElem_toArray, List.getElem_cons_succ, List.getElem_cons_zero]
    rw [if_pos (by rfl)]
    go_simp
    clear hHeld
    refine hK.out _ _ ?_ (fun hHeld => ?_)
    · exact ⟨(cell_aside _ (by have := unhide S0; dsimp only; omega) (cell_aside _ (by have := unhide S0; dsimp only; omega) p0)), (cell_aside _ (by have := unhide S0; dsimp only; omega) (cell_aside _ (by have := unhide S0; dsimp only; omega) p1)), (cell_aside _ (by have := unhide S0; dsimp only; omega) (cell_aside _ (by have := unhide S0; dsimp only; omega) t0)), (cell_aside _ (by have := unhide S0; dsimp only; omega) (cell_aside _ (by have := unhide S0; dsimp only; omega) t1)), (cell_aside _ (by have := unhide S0; dsimp only; omega) (cell_aside _ (by have := unhide S0; dsimp only; omega) t2))⟩
    clear hK KK
    try simp only [Act.put, List.getElem_toArray, List.getElem_cons_succ, List.getElem_cons_zero, List.setIfInBounds_toArray, List.set_cons_zero, List.set_cons_succ]
    refine wpAnyH_ready (rs := [7]) (by kernel_rfl) (by simp) ?_
    refine AllReadyH.cons rfl (fun KK hK => ?_) AllReadyH.nil
    simp only [List.getElem_toArray, List.getElem_cons_succ, List.getElem_cons_zero]
    rw [if_pos (by rfl)]
    go_simp
    clear hHeld
    refine hK.out _ _ ?_ (fun hHeld => ?_)
    · exact ⟨(cell_aside _ (by have := unhide S0; dsimp only; omega) (cell_aside _ (by have := unhide S0; dsimp only; omega) (cell_aside _ (by have := unhide S0; dsimp only; omega) (cell_aside _ (by have := unhide S0; dsimp only; omega) p0)))), (cell_aside _ (by have := unhide S0; dsimp only; omega) (cell_aside _ (by have := unhide S0; dsimp only; omega) (cell_aside _ (by have := unhide S0; dsimp only; omega) (cell_aside _ (by have := unhide S0; dsimp only; omega) p1)))), (cell_aside _ (by have := unhide S0; dsimp only; omega) (cell_aside _ (by have := unhide S0; dsimp only; omega) (cell_aside _ (by have := unhide S0; dsimp only; omega) (cell_aside _ (by have := unhide S0; dsimp only; omega) t0)))), (cell_aside _ (by have := unhide S0; dsimp only; omega) (cell_aside _ (by have := unhide S0; dsimp only; omega) (cell_aside _ (by have := unhide S0; dsimp only; omega) (cell_aside _ (by have := unhide S0; dsimp only; omega) t1)))), (cell_aside _ (by have := unhide S0; dsimp only; omega) (cell_aside _ (by have := unhide S0; dsimp only; omega) (cell_aside _ (by have := unhide S0; dsimp only; omega) (cell_aside _ (by have := unhide S0; dsimp only; omega) t2))))⟩
    clear hK KK
    try simp only [Act.put, List.getElem_toArray, List.getElem_cons_succ, List.getElem_cons_zero, List.setIfInBounds_toArray, List.set_cons_zero, List.set_cons_succ]
    refine wpAnyH_take (i := 8) (oi := _) (v := .int .i64 x2) rfl (by kernel_rfl) (by kernel_rfl) (by kernel_rfl) (fun _ _ _ h => h) (Or.inl ⟨by rfl, ?_⟩) hHeld ?_
    · intro wq hSw
      try dsimp only at hSw
      go_simp
    try simp only [Act.put, List.getElem_toArray, List.getElem_cons_succ, List.getElem_cons_zero, List.setIfInBounds_toArray, List.set_cons_zero, List.set_cons_succ]
    refine wpAnyH_done (by kernel_rfl) ?_ _
    clear hHeld
    have RA := hide (((((r1.set_other (p := ⟨w.heap.size + 2, 0, none⟩) (.inr (by have := unhide S0; dsimp only; omega)) (.bool s1)).set_other (p := ⟨w.heap.size + 2, 1, none⟩) (.inr (by have := unhide S0; dsimp only; omega)) (.slice a1 xs.length c1)).set_other (p := ⟨w.heap.size + 3, 0, none⟩) (.inr (by have := unhide S0; dsimp only; omega)) (.bool s2)).set_other (p := ⟨w.heap.size + 3, 1, none⟩) (.inr (by have := unhide S0; dsimp only; omega)) (.slice a2 ys.length c2)).read.tight.wider (lo' := 0) (Nat.zero_le _) (Nat.le_refl _))
    have RB := hide (((((r2.set_other (p := ⟨w.heap.size + 2, 0, none⟩) (.inr (by have := unhide S0; dsimp only; omega)) (.bool s1)).set_other (p := ⟨w.heap.size + 2, 1, none⟩) (.inr (by have := unhide S0; dsimp only; omega)) (.slice a1 xs.length c1)).set_other (p := ⟨w.heap.size + 3, 0, none⟩) (.inr (by have := unhide S0; dsimp only; omega)) (.bool s2)).set_other (p := ⟨w.heap.size + 3, 1, none⟩) (.inr (by have := unhide S0; dsimp only; omega)) (.slice a2 ys.length c2)).read.tight.wider (lo' := 0) (Nat.zero_le _) (Nat.le_refl _))
    have K7 := hide (((((unhide K).setNew (p := ⟨w.heap.size + 2, 0, none⟩) (by simp) (.bool s1)).setNew (p := ⟨w.heap.size + 2, 1, none⟩) (by simp) (.slice a1 xs.length c1)).setNew (p := ⟨w.heap.size + 3, 0, none⟩) (by simp) (.bool s2)).setNew (p := ⟨w.heap.size + 3, 1, none⟩) (by simp) (.slice a2 ys.length c2))
    have FF := hide (show WN s1 xs ∧ WN s2 ys ∧ xs.length ≤ 9000 ∧ ys.length ≤ 9000 ∧ Alg (wval s1 xs) x1 (wval s2 ys) x2 x2 ∧ wval s1 xs = wval s1 xs * 2 ^ (x1 - x2).toNat ∧ wval s2 ys = wval s2 ys * 2 ^ (x2 - x2).toNat from ⟨n1, n2, by omega, by omega, ⟨.inl (unhide M0), .inr (Int.le_refl _), by omega, by omega⟩, by rw [unhide M0, Int.zero_mul], by simp⟩)
    clear r1 r2 K n1 n2
    go_wp2_with fail
    exact bodyPost_ret (v := .tuple #[.agg #[.bool s1, .slice a1 xs.length c1], .agg #[.bool s2, .slice a2 ys.length c2], .int .i64 x2]) (by simp [results, Tryz.results178, go_sem, q0, q1, u0, u1, n_q0, n_q1, n_u0, n_u1]) rfl ⟨_, _, _, _, _, _, _, rfl, unhide RA, unhide RB, unhide FF, unhide K7⟩
  by_cases hy : ys.length = 0
  · have hbx : ((xs.length : Int) == 0) = false := beq_eq_false_iff_ne.2 (by omega)
    have hby : ((ys.length : Int) == 0) = true := beq_iff_eq.2 (by omega)
    have m0 : wval s2 ys = 0 := by rw [List.length_eq_zero_iff.1 hy]; exact wval_nil s2
    have M0 := hide m0
    clear hy m0 e3 f4
    go_wp2_with fail
    generalize ((((w.alloc (.cells #[.bool s1, .slice a1 xs.length c1, .int .i64 x1] 52)).alloc (.cells #[.bool s2, .slice a2 ys.length c2, .int .i64 x2] 52)).alloc (.cells #[.bool false, .slice none 0 0] 50)).alloc (.cells #[.bool false, .slice none 0 0] 50)) = W at *
    have n_qf0 := qf0
    have n_q0 := q0
    have n_qf1 := qf1
    have n_q1 := q1
    have n_uf0 := uf0
    have n_u0 := u0
    have n_uf1 := uf1
    have n_u1 := u1
    have kd := (Kept.refl 0 0 W).drew
    replace r1 := r1.kept kd (by omega)
    replace r2 := r2.kept kd (by omega)
    replace qf0 := kd.loose0 (World.block_lt_of_cell? _ _ q0) qf0
    replace qf1 := kd.loose0 (World.block_lt_of_cell? _ _ q1) qf1
    replace uf0 := kd.loose0 (World.block_lt_of_cell? _ _ u0) uf0
    replace uf1 := kd.loose0 (World.block_lt_of_cell? _ _ u1) uf1
    replace p0 := kd.cell0 p0
    replace p1 := kd.cell0 p1
    replace p2 := kd.cell0 p2
    replace t0 := kd.cell0 t0
    replace t1 := kd.cell0 t1
    replace t2 := kd.cell0 t2
    replace q0 := kd.cell0 q0
    replace q1 := kd.cell0 q1
    replace u0 := kd.cell0 u0
    replace u1 := kd.cell0 u1
    replace K := hide ((unhide K).trans kd)
    have z1 := kd.size
    clear kd
    refine wp_region_held_drew (S := (fun w' => w'.cell? ⟨w.heap.size, 0, none⟩ = some (.bool s1) ∧ w'.cell? ⟨w.heap.size, 1, none⟩ = some (.slice a1 xs.length c1) ∧ w'.cell? ⟨w.heap.size, 2, none⟩ = some (.int .i64 x1) ∧ w'.cell? ⟨w.heap.size + 1, 0, none⟩ = some (.bool s2) ∧ w'.cell? ⟨w.heap.size + 1, 1, none⟩ = some (.slice a2 ys.length c2))) (by kernel_rfl) ?_ (fun hHeld => ?_)
    · exact ⟨p0, p1, p2, t0, t1⟩
    refine wpAnyH_take (i := 0) (oi := _) (v := .pointer (some ⟨w.heap.size, 0, none⟩)) rfl (by kernel_rfl) (by kernel_rfl) (by kernel_rfl) (fun _ _ _ h => h) (Or.inl ⟨by rfl, ?_⟩) hHeld ?_
    · intro wq hSw
      try dsimp only at hSw
      go_simp
    try simp only [Act.put, List.getElem_toArray, List.getElem_cons_succ, List.getElem_cons_zero, List.setIfInBounds_toArray, List.set_cons_zero, List.set_cons_succ]
    refine wpAnyH_take (i := 1) (oi := _) (v := .agg #[.bool s1, .slice a1 xs.length c1]) rfl (by kernel_rfl) (by kernel_rfl) (by kernel_rfl) (fun _ _ _ h => h) (Or.inl ⟨by rfl, ?_⟩) hHeld ?_
    · intro wq hSw
      try dsimp only at hSw
      go_simp
    try simp only [Act.put, List.getElem_toArray, List.getElem_cons_succ, List.getElem_cons_zero, List.setIfInBounds_toArray, List.set_cons_zero, List.set_cons_succ]
    refine wpAnyH_take (i := 2) (oi := _) (v := .pointer (some ⟨w.heap.size + 1, 0, none⟩)) rfl (by kernel_rfl) (by kernel_rfl) (by kernel_rfl) (fun _ _ _ h => h) (Or.inl ⟨by rfl, ?_⟩) hHeld ?_
    · intro wq hSw
      try dsimp only at hSw
      go_simp
    try simp only [Act.put, List.getElem_toArray, List.getElem_cons_succ, List.getElem_cons_zero, List.setIfInBounds_toArray, List.set_cons_zero, List.set_cons_succ]
    refine wpAnyH_take (i := 3) (oi := _) (v := .agg #[.bool s2, .slice a2 ys.length c2]) rfl (by kernel_rfl) (by kernel_rfl) (by kernel_rfl) (fun _ _ _ h => h) (Or.inl ⟨by rfl, ?_⟩) hHeld ?_
    · intro wq hSw
      try dsimp only at hSw
      go_simp
    try simp only [Act.put, List.getElem_toArray, List.getElem_cons_succ, List.getElem_cons_zero, List.setIfInBounds_toArray, List.set_cons_zero, List.set_cons_succ]
    refine wpAnyH_take (i := 4) (oi := _) (v := .pointer (some ⟨w.heap.size, 2, none⟩)) rfl (by kernel_rfl) (by kernel_rfl) (by kernel_rfl) (fun _ _ _ h => h) (Or.inl ⟨by rfl, ?_⟩) hHeld ?_
    · intro wq hSw
      try dsimp only at hSw
      go_simp
    try simp only [Act.put, List.getElem_toArray, List.getElem_cons_succ, List.getElem_cons_zero, List.setIfInBounds_toArray, List.set_cons_zero, List.set_cons_succ]
    refine wpAnyH_take (i := 5) (oi := _) (v := .int .i64 x1) rfl (by kernel_rfl) (by kernel_rfl) (by kernel_rfl) (fun _ _ _ h => h) (Or.inl ⟨by rfl, ?_⟩) hHeld ?_
    · intro wq hSw
      try dsimp only at hSw
      go_simp
    try simp only [Act.put, List.getElem_toArray, List.getElem_cons_succ, List.getElem_cons_zero, List.setIfInBounds_toArray, List.set_cons_zero, List.set_cons_succ]
    refine wpAnyH_ready (rs := [6]) (by kernel_rfl) (by simp) ?_
    refine AllReadyH.cons rfl (fun KK hK => ?_) AllReadyH.nil
    simp only [List.getElem_toArray, List.getElem_cons_succ, List.getElem_cons_zero]
    rw [if_pos (by rfl)]
    go_simp
    clear hHeld
    refine hK.out _ _ ?_ (fun hHeld => ?_)
    · exact ⟨(cell_aside _ (by have := unhide S0; dsimp only; omega) (cell_aside _ (by have := unhide S0; dsimp only; omega) p0)), (cell_aside _ (by have := unhide S0; dsimp only; omega) (cell_aside _ (by have := unhide S0; dsimp only; omega) p1)), (cell_aside _ (by have := unhide S0; dsimp only; omega) (cell_aside _ (by have := unhide S0; dsimp only; omega) p2)), (cell_aside _ (by have := unhide S0; dsimp only; omega) (cell_aside _ (by have := unhide S0; dsimp only; omega) t0)), (cell_aside _ (by have := unhide S0; dsimp only; omega) (cell_aside _ (by have := unhide S0; dsimp only; omega) t1))⟩
    clear hK KK
    try simp only [Act.put, List.getElem_toArray, List.getElem_cons_succ, List.getElem_cons_zero, List.setIfInBounds_toArray, List.set_cons_zero, List.set_cons_succ]
    refine wpAnyH_ready (rs := [7]) (by kernel_rfl) (by simp) ?_
    refine AllReadyH.cons rfl (fun KK hK => ?_) AllReadyH.nil
    simp only [List.getElem_toArray, List.getElem_cons_succ, List.getElem_cons_zero]
    rw [if_pos (by rfl)]
    go_simp
    clear hHeld
    refine hK.out _ _ ?_ (fun hHeld => ?_)
    · exact ⟨(cell_aside _ (by have := unhide S0; dsimp only; omega) (cell_aside _ (by have := unhide S0; dsimp only; omega) (cell_aside _ (by have := unhide S0; dsimp only; omega) (cell_aside _ (by have := unhide S0; dsimp only; omega) p0)))), (cell_aside _ (by have := unhide S0; dsimp only; omega) (cell_aside _ (by have := unhide S0; dsimp only; omega) (cell_aside _ (by have := unhide S0; dsimp only; omega) (cell_aside _ (by have := unhide S0; dsimp only; omega) p1)))), (cell_aside _ (by have := unhide S0; dsimp only; omega) (cell_aside _ (by have := unhide S0; dsimp only; omega) (cell_aside _ (by have := unhide S0; dsimp only; omega) (cell_aside _ (by have := unhide S0; dsimp only; omega) p2)))), (cell_aside _ (by have := unhide S0; dsimp only; omega) (cell_aside _ (by have := unhide S0; dsimp only; omega) (cell_aside _ (by have := unhide S0; dsimp only; omega) (cell_aside _ (by have := unhide S0; dsimp only; omega) t0)))), (cell_aside _ (by have := unhide S0; dsimp only; omega) (cell_aside _ (by have := unhide S0; dsimp only; omega) (cell_aside _ (by have := unhide S0; dsimp only; omega) (cell_aside _ (by have := unhide S0; dsimp only; omega) t1))))⟩
    clear hK KK
    try simp only [Act.put, List.getElem_toArray, List.getElem_cons_succ, List.getElem_cons_zero, List.setIfInBounds_toArray, List.set_cons_zero, List.set_cons_succ]
    refine wpAnyH_take (i := 8) (oi := _) (v := .int .i64 x1) rfl (by kernel_rfl) (by kernel_rfl) (by kernel_rfl) (fun _ _ _ h => h) (Or.inl ⟨by rfl, ?_⟩) hHeld ?_
    · intro wq hSw
      try dsimp only at hSw
      go_simp
    try simp only [Act.put, List.getElem_toArray, List.getElem_cons_succ, List.getElem_cons_zero, List.setIfInBounds_toArray, List.set_cons_zero, List.set_cons_succ]
    refine wpAnyH_done (by kernel_rfl) ?_ _
    clear hHeld
    have RA := hide (((((r1.set_other (p := ⟨w.heap.size + 2, 0, none⟩) (.inr (by have := unhide S0; dsimp only; omega)) (.bool s1)).set_other (p := ⟨w.heap.size + 2, 1, none⟩) (.inr (by have := unhide S0; dsimp only; omega)) (.slice a1 xs.length c1)).set_other (p := ⟨w.heap.size + 3, 0, none⟩) (.inr (by have := unhide S0; dsimp only; omega)) (.bool s2)).set_other (p := ⟨w.heap.size + 3, 1, none⟩) (.inr (by have := unhide S0; dsimp only; omega)) (.slice a2 ys.length c2)).read.tight.wider (lo' := 0) (Nat.zero_le _) (Nat.le_refl _))
    have RB := hide (((((r2.set_other (p := ⟨w.heap.size + 2, 0, none⟩) (.inr (by have := unhide S0; dsimp only; omega)) (.bool s1)).set_other (p := ⟨w.heap.size + 2, 1, none⟩) (.inr (by have := unhide S0; dsimp only; omega)) (.slice a1 xs.length c1)).set_other (p := ⟨w.heap.size + 3, 0, none⟩) (.inr (by have := unhide S0; dsimp only; omega)) (.bool s2)).set_other (p := ⟨w.heap.size + 3, 1, none⟩) (.inr (by have := unhide S0; dsimp only; omega)) (.slice a2 ys.length c2)).read.tight.wider (lo' := 0) (Nat.zero_le _) (Nat.le_refl _))
    have K7 := hide (((((unhide K).setNew (p := ⟨w.heap.size + 2, 0, none⟩) (by simp) (.bool s1)).setNew (p := ⟨w.heap.size + 2, 1, none⟩) (by simp) (.slice a1 xs.length c1)).setNew (p := ⟨w.heap.size + 3, 0, none⟩) (by simp) (.bool s2)).setNew (p := ⟨w.heap.size + 3, 1, none⟩) (by simp) (.slice a2 ys.length c2))
    have FF := hide (show WN s1 xs ∧ WN s2 ys ∧ xs.length ≤ 9000 ∧ ys.length ≤ 9000 ∧ Alg (wval s1 xs) x1 (wval s2 ys) x2 x1 ∧ wval s1 xs = wval s1 xs * 2 ^ (x1 - x1).toNat ∧ wval s2 ys = wval s2 ys * 2 ^ (x2 - x1).toNat from ⟨n1, n2, by omega, by omega, ⟨.inr (Int.le_refl _), .inl (unhide M0), by omega, by omega⟩, by simp, by rw [unhide M0, Int.zero_mul]⟩)
    clear r1 r2 K n1 n2
    go_wp2_with fail
    exact bodyPost_ret (v := .tuple #[.agg #[.bool s1, .slice a1 xs.length c1], .agg #[.bool s2, .slice a2 ys.length c2], .int .i64 x1]) (by simp [results, Tryz.results178, go_sem, q0, q1, u0, u1, n_q0, n_q1, n_u0, n_u1]) rfl ⟨_, _, _, _, _, _, _, rfl, unhide RA, unhide RB, unhide FF, unhide K7⟩
  have hbx : ((xs.length : Int) == 0) = false := beq_eq_false_iff_ne.2 (by omega)
  have hby : ((ys.length : Int) == 0) = false := beq_eq_false_iff_ne.2 (by omega)
  clear e3 f4
  by_cases hle : x1 ≤ x2
  · obtain ⟨d, hd⟩ : ∃ d : Nat, x2 - x1 = (d : Int) := ⟨(x2 - x1).toNat, by omega⟩
    have hd2 : d ≤ 80000 := by omega
    have hw : IntKind.i64.wrap (x2 - x1) = (d : Int) := by rw [w64 _ (by omega) (by omega), hd]
    obtain ⟨g1, g2, g3, g4⟩ := shl_wn n2 (by omega) d
    have gl := limbs_shl_lenW n2.1 ly d hd2
    have HD := hide hd
    go_wp2_with fail
    generalize ((((w.alloc (.cells #[.bool s1, .slice a1 xs.length c1, .int .i64 x1] 52)).alloc (.cells #[.bool s2, .slice a2 ys.length c2, .int .i64 x2] 52)).alloc (.cells #[.bool false, .slice none 0 0] 50)).alloc (.cells #[.bool false, .slice none 0 0] 50)) = W at *
    have HSH := hide (shl_spec W.drew (r2.kept (Kept.refl 0 0 W).drew (by omega)) n2.1.1 (by omega) d (.inr (by omega)) (by omega))
    generalize hzz : limbs ((val ys).toNat * 2 ^ d) = zz at *
    clear hzz hd
    skip
    have n_qf0 := qf0
    have n_q0 := q0
    have n_qf1 := qf1
    have n_q1 := q1
    have n_uf0 := uf0
    have n_u0 := u0
    have n_uf1 := uf1
    have n_u1 := u1
    have kd := (Kept.refl 0 0 W).drew
    replace r1 := r1.kept kd (by omega)
    replace r2 := r2.kept kd (by omega)
    replace qf0 := kd.loose0 (World.block_lt_of_cell? _ _ q0) qf0
    replace qf1 := kd.loose0 (World.block_lt_of_cell? _ _ q1) qf1
    replace uf0 := kd.loose0 (World.block_lt_of_cell? _ _ u0) uf0
    replace uf1 := kd.loose0 (World.block_lt_of_cell? _ _ u1) uf1
    replace p0 := kd.cell0 p0
    replace p1 := kd.cell0 p1
    replace p2 := kd.cell0 p2
    replace t0 := kd.cell0 t0
    replace t1 := kd.cell0 t1
    replace t2 := kd.cell0 t2
    replace q0 := kd.cell0 q0
    replace q1 := kd.cell0 q1
    replace u0 := kd.cell0 u0
    replace u1 := kd.cell0 u1
    replace K := hide ((unhide K).trans kd)
    have z1 := kd.size
    clear kd
    refine wp_region_held_drew (S := (fun w' => w'.cell? ⟨w.heap.size, 0, none⟩ = some (.bool s1) ∧ w'.cell? ⟨w.heap.size, 1, none⟩ = some (.slice a1 xs.length c1) ∧ w'.cell? ⟨w.heap.size, 2, none⟩ = some (.int .i64 x1) ∧ w'.cell? ⟨w.heap.size + 1, 0, none⟩ = some (.bool s2) ∧ w'.cell? ⟨w.heap.size + 1, 1, none⟩ = some (.slice a2 ys.length c2) ∧ w'.cell? ⟨w.heap.size + 1, 2, none⟩ = some (.int .i64 x2))) (by kernel_rfl) ?_ (fun hHeld => ?_)
    · exact ⟨p0, p1, p2, t0, t1, t2⟩
    refine wpAnyH_take (i := 0) (oi := _) (v := .pointer (some ⟨w.heap.size, 0, none⟩)) rfl (by kernel_rfl) (by kernel_rfl) (by kernel_rfl) (fun _ _ _ h => h) (Or.inl ⟨by rfl, ?_⟩) hHeld ?_
    · intro wq hSw
      try dsimp only at hSw
      go_simp
    try simp only [Act.put, List.getElem_toArray, List.getElem_cons_succ, List.getElem_cons_zero, List.setIfInBounds_toArray, List.set_cons_zero, List.set_cons_succ]
    refine wpAnyH_take (i := 1) (oi := _) (v := .agg #[.bool s1, .slice a1 xs.length c1]) rfl (by kernel_rfl) (by kernel_rfl) (by kernel_rfl) (fun _ _ _ h => h) (Or.inl ⟨by rfl, ?_⟩) hHeld ?_
    · intro wq hSw
      try dsimp only at hSw
      go_simp
    try simp only [Act.put, List.getElem_toArray, List.getElem_cons_succ, List.getElem_cons_zero, List.setIfInBounds_toArray, List.set_cons_zero, List.set_cons_succ]
    refine wpAnyH_take (i := 2) (oi := _) (v := .pointer (some ⟨w.heap.size + 1, 0, none⟩)) rfl (by kernel_rfl) (by kernel_rfl) (by kernel_rfl) (fun _ _ _ h => h) (Or.inl ⟨by rfl, ?_⟩) hHeld ?_
    · intro wq hSw
      try dsimp only at hSw
      go_simp
    try simp only [Act.put, List.getElem_toArray, List.getElem_cons_succ, List.getElem_cons_zero, List.setIfInBounds_toArray, List.set_cons_zero, List.set_cons_succ]
    refine wpAnyH_take (i := 3) (oi := _) (v := .pointer (some ⟨w.heap.size + 1, 0, none⟩)) rfl (by kernel_rfl) (by kernel_rfl) (by kernel_rfl) (fun _ _ _ h => h) (Or.inl ⟨by rfl, ?_⟩) hHeld ?_
    · intro wq hSw
      try dsimp only at hSw
      go_simp
    try simp only [Act.put, List.getElem_toArray, List.getElem_cons_succ, List.getElem_cons_zero, List.setIfInBounds_toArray, List.set_cons_zero, List.set_cons_succ]
    refine wpAnyH_take (i := 4) (oi := _) (v := .bool s2) rfl (by kernel_rfl) (by kernel_rfl) (by kernel_rfl) (fun _ _ _ h => h) (Or.inl ⟨by rfl, ?_⟩) hHeld ?_
    · intro wq hSw
      try dsimp only at hSw
      go_simp
    try simp only [Act.put, List.getElem_toArray, List.getElem_cons_succ, List.getElem_cons_zero, List.setIfInBounds_toArray, List.set_cons_zero, List.set_cons_succ]
    refine wpAnyH_take (i := 5) (oi := _) (v := .pointer (some ⟨w.heap.size + 1, 0, none⟩)) rfl (by kernel_rfl) (by kernel_rfl) (by kernel_rfl) (fun _ _ _ h => h) (Or.inl ⟨by rfl, ?_⟩) hHeld ?_
    · intro wq hSw
      try dsimp only at hSw
      go_simp
    try simp only [Act.put, List.getElem_toArray, List.getElem_cons_succ, List.getElem_cons_zero, List.setIfInBounds_toArray, List.set_cons_zero, List.set_cons_succ]
    refine wpAnyH_take (i := 6) (oi := _) (v := .pointer (some ⟨w.heap.size + 1, 1, none⟩)) rfl (by kernel_rfl) (by kernel_rfl) (by kernel_rfl) (fun _ _ _ h => h) (Or.inl ⟨by rfl, ?_⟩) hHeld ?_
    · intro wq hSw
      try dsimp only at hSw
      go_simp
    try simp only [Act.put, List.getElem_toArray, List.getElem_cons_succ, List.getElem_cons_zero, List.setIfInBounds_toArray, List.set_cons_zero, List.set_cons_succ]
    refine wpAnyH_take (i := 7) (oi := _) (v := .agg #[.slice a2 ys.length c2]) rfl (by kernel_rfl) (by kernel_rfl) (by kernel_rfl) (fun _ _ _ h => h) (Or.inl ⟨by rfl, ?_⟩) hHeld ?_
    · intro wq hSw
      try dsimp only at hSw
      go_simp
    try simp only [Act.put, List.getElem_toArray, List.getElem_cons_succ, List.getElem_cons_zero, List.setIfInBounds_toArray, List.set_cons_zero, List.set_cons_succ]
    refine wpAnyH_take (i := 8) (oi := _) (v := .pointer (some ⟨w.heap.size + 1, 2, none⟩)) rfl (by kernel_rfl) (by kernel_rfl) (by kernel_rfl) (fun _ _ _ h => h) (Or.inl ⟨by rfl, ?_⟩) hHeld ?_
    · intro wq hSw
      try dsimp only at hSw
      go_simp
    try simp only [Act.put, List.getElem_toArray, List.getElem_cons_succ, List.getElem_cons_zero, List.setIfInBounds_toArray, List.set_cons_zero, List.set_cons_succ]
    refine wpAnyH_take (i := 9) (oi := _) (v := .int .i64 x2) rfl (by kernel_rfl) (by kernel_rfl) (by kernel_rfl) (fun _ _ _ h => h) (Or.inl ⟨by rfl, ?_⟩) hHeld ?_
    · intro wq hSw
      try dsimp only at hSw
      go_simp
    try simp only [Act.put, List.getElem_toArray, List.getElem_cons_succ, List.getElem_cons_zero, List.setIfInBounds_toArray, List.set_cons_zero, List.set_cons_succ]
    refine wpAnyH_take (i := 10) (oi := _) (v := .pointer (some ⟨w.heap.size, 2, none⟩)) rfl (by kernel_rfl) (by kernel_rfl) (by kernel_rfl) (fun _ _ _ h => h) (Or.inl ⟨by rfl, ?_⟩) hHeld ?_
    · intro wq hSw
      try dsimp only at hSw
      go_simp
    try simp only [Act.put, List.getElem_toArray, List.getElem_cons_succ, List.getElem_cons_zero, List.setIfInBounds_toArray, List.set_cons_zero, List.set_cons_succ]
    refine wpAnyH_take (i := 11) (oi := _) (v := .int .i64 x1) rfl (by kernel_rfl) (by kernel_rfl) (by kernel_rfl) (fun _ _ _ h => h) (Or.inl ⟨by rfl, ?_⟩) hHeld ?_
    · intro wq hSw
      try dsimp only at hSw
      go_simp
    try simp only [Act.put, List.getElem_toArray, List.getElem_cons_succ, List.getElem_cons_zero, List.setIfInBounds_toArray, List.set_cons_zero, List.set_cons_succ]
    refine wpAnyH_take (i := 12) (oi := _) (v := .int .i64 (d : Int)) rfl (by kernel_rfl) (by kernel_rfl) (by kernel_rfl) (fun _ _ _ h => h) (Or.inl ⟨by rfl, ?_⟩) hHeld ?_
    · intro wq hSw
      try dsimp only at hSw
      go_simp
    try simp only [Act.put, List.getElem_toArray, List.getElem_cons_succ, List.getElem_cons_zero, List.setIfInBounds_toArray, List.set_cons_zero, List.set_cons_succ]
    refine wpAnyH_take (i := 15) (oi := _) (v := .pointer (some ⟨w.heap.size, 2, none⟩)) rfl (by kernel_rfl) (by kernel_rfl) (by kernel_rfl) (fun _ _ _ h => h) (Or.inl ⟨by rfl, ?_⟩) hHeld ?_
    · intro wq hSw
      try dsimp only at hSw
      go_simp
    try simp only [Act.put, List.getElem_toArray, List.getElem_cons_succ, List.getElem_cons_zero, List.setIfInBounds_toArray, List.set_cons_zero, List.set_cons_succ]
    refine wpAnyH_take (i := 16) (oi := _) (v := .int .i64 x1) rfl (by kernel_rfl) (by kernel_rfl) (by kernel_rfl) (fun _ _ _ h => h) (Or.inl ⟨by rfl, ?_⟩) hHeld ?_
    · intro wq hSw
      try dsimp only at hSw
      go_simp
    try simp only [Act.put, List.getElem_toArray, List.getElem_cons_succ, List.getElem_cons_zero, List.setIfInBounds_toArray, List.set_cons_zero, List.set_cons_succ]
    refine wpAnyH_ready (rs := [13]) (by kernel_rfl) (by simp) ?_
    refine AllReadyH.cons rfl (fun KK hK => ?_) AllReadyH.nil
    simp only [List.getElem_toArray, List.getElem_cons_succ, List.getElem_cons_zero]
    rw [if_pos (by rfl)]
    refine wps2 202 (.tmp 43) (.tmp 48) _ rfl in_l2shl (.agg #[.slice a2 ys.length c2]) (.int .i64 (d : Int)) rfl rfl (unhide HSH) ?_
    rintro e w2 ⟨v5, rfl, r5, k2⟩
    refine ⟨_, rfl, ?_⟩
    replace r1 := r1.kept k2 (by omega)
    replace r2 := r2.kept k2 (by omega)
    replace qf0 := k2.loose0 (World.block_lt_of_cell? _ _ q0) qf0
    replace qf1 := k2.loose0 (World.block_lt_of_cell? _ _ q1) qf1
    replace uf0 := k2.loose0 (World.block_lt_of_cell? _ _ u0) uf0
    replace uf1 := k2.loose0 (World.block_lt_of_cell? _ _ u1) uf1
    replace p0 := k2.cell0 p0
    replace p1 := k2.cell0 p1
    replace p2 := k2.cell0 p2
    replace t0 := k2.cell0 t0
    replace t1 := k2.cell0 t1
    replace t2 := k2.cell0 t2
    replace q0 := k2.cell0 q0
    replace q1 := k2.cell0 q1
    replace u0 := k2.cell0 u0
    replace u1 := k2.cell0 u1
    replace K := hide ((unhide K).trans k2)
    have z3 := k2.size
    clear k2
    clear hHeld
    refine hK.out _ _ ?_ (fun hHeld => ?_)
    · exact ⟨p0, p1, p2, t0, t1, t2⟩
    clear hK KK
    try simp only [Act.put, List.getElem_toArray, List.getElem_cons_succ, List.getElem_cons_zero, List.setIfInBounds_toArray, List.set_cons_zero, List.set_cons_succ]
    refine wpAnyH_ready (rs := [14]) (by kernel_rfl) (by simp) ?_
    refine AllReadyH.cons rfl (fun KK hK => ?_) AllReadyH.nil
    simp only [List.getElem_toArray, List.getElem_cons_succ, List.getElem_cons_zero]
    rw [if_pos (by rfl)]
    refine wps2 152 (.tmp 40) (.tmp 49) _ rfl in_l3make (.bool s2) (.agg #[v5]) rfl rfl (make_spec s2 _ r5 g3.1.1 (by omega)) ?_
    rintro e w4 ⟨v6, rfl, r6, k4⟩
    refine ⟨_, rfl, ?_⟩
    replace r1 := r1.kept k4 (by omega)
    replace r2 := r2.kept k4 (by omega)
    replace r5 := r5.kept k4 (by omega)
    replace qf0 := k4.loose0 (World.block_lt_of_cell? _ _ q0) qf0
    replace qf1 := k4.loose0 (World.block_lt_of_cell? _ _ q1) qf1
    replace uf0 := k4.loose0 (World.block_lt_of_cell? _ _ u0) uf0
    replace uf1 := k4.loose0 (World.block_lt_of_cell? _ _ u1) uf1
    replace p0 := k4.cell0 p0
    replace p1 := k4.cell0 p1
    replace p2 := k4.cell0 p2
    replace t0 := k4.cell0 t0
    replace t1 := k4.cell0 t1
    replace t2 := k4.cell0 t2
    replace q0 := k4.cell0 q0
    replace q1 := k4.cell0 q1
    replace u0 := k4.cell0 u0
    replace u1 := k4.cell0 u1
    replace K := hide ((unhide K).trans k4)
    have z5 := k4.size
    clear k4
    clear hHeld
    refine hK.out _ _ ?_ (fun hHeld => ?_)
    · exact ⟨p0, p1, p2, t0, t1, t2⟩
    clear hK KK
    try simp only [Act.put, List.getElem_toArray, List.getElem_cons_succ, List.getElem_cons_zero, List.setIfInBounds_toArray, List.set_cons_zero, List.set_cons_succ]
    rw [g2] at r6
    obtain ⟨a6, c6, hv⟩ := Row.form' r6
    subst hv
    refine wpAnyH_ready (rs := [17]) (by kernel_rfl) (by simp) ?_
    refine AllReadyH.cons rfl (fun KK hK => ?_) AllReadyH.nil
    simp only [List.getElem_toArray, List.getElem_cons_succ, List.getElem_cons_zero]
    rw [if_pos (by rfl)]
    go_simp
    clear hHeld
    refine hK.out _ _ ?_ (fun hHeld => ?_)
    · exact ⟨(cell_aside _ (by have := unhide S0; dsimp only; omega) (cell_aside _ (by have := unhide S0; dsimp only; omega) p0)), (cell_aside _ (by have := unhide S0; dsimp only; omega) (cell_aside _ (by have := unhide S0; dsimp only; omega) p1)), (cell_aside _ (by have := unhide S0; dsimp only; omega) (cell_aside _ (by have := unhide S0; dsimp only; omega) p2)), (cell_aside _ (by have := unhide S0; dsimp only; omega) (cell_aside _ (by have := unhide S0; dsimp only; omega) t0)), (cell_aside _ (by have := unhide S0; dsimp only; omega) (cell_aside _ (by have := unhide S0; dsimp only; omega) t1)), (cell_aside _ (by have := unhide S0; dsimp only; omega) (cell_aside _ (by have := unhide S0; dsimp only; omega) t2))⟩
    clear hK KK
    try simp only [Act.put, List.getElem_toArray, List.getElem_cons_succ, List.getElem_cons_zero, List.setIfInBounds_toArray, List.set_cons_zero, List.set_cons_succ]
    refine wpAnyH_ready (rs := [18]) (by kernel_rfl) (by simp) ?_
    refine AllReadyH.cons rfl (fun KK hK => ?_) AllReadyH.nil
    simp only [List.getElem_toArray, List.getElem_cons_succ, List.getElem_cons_zero]
    rw [if_pos (by rfl)]
    go_simp
    clear hHeld
    refine hK.out _ _ ?_ (fun hHeld => ?_)
    · exact ⟨(cell_aside _ (by have := unhide S0; dsimp only; omega) (cell_aside _ (by have := unhide S0; dsimp only; omega) (cell_aside _ (by have := unhide S0; dsimp only; omega) (cell_aside _ (by have := unhide S0; dsimp only; omega) p0)))), (cell_aside _ (by have := unhide S0; dsimp only; omega) (cell_aside _ (by have := unhide S0; dsimp only; omega) (cell_aside _ (by have := unhide S0; dsimp only; omega) (cell_aside _ (by have := unhide S0; dsimp only; omega) p1)))), (cell_aside _ (by have := unhide S0; dsimp only; omega) (cell_aside _ (by have := unhide S0; dsimp only; omega) (cell_aside _ (by have := unhide S0; dsimp only; omega) (cell_aside _ (by have := unhide S0; dsimp only; omega) p2)))), (cell_aside _ (by have := unhide S0; dsimp only; omega) (cell_aside _ (by have := unhide S0; dsimp only; omega) (cell_aside _ (by have := unhide S0; dsimp only; omega) (cell_aside _ (by have := unhide S0; dsimp only; omega) t0)))), (cell_aside _ (by have := unhide S0; dsimp only; omega) (cell_aside _ (by have := unhide S0; dsimp only; omega) (cell_aside _ (by have := unhide S0; dsimp only; omega) (cell_aside _ (by have := unhide S0; dsimp only; omega) t1)))), (cell_aside _ (by have := unhide S0; dsimp only; omega) (cell_aside _ (by have := unhide S0; dsimp only; omega) (cell_aside _ (by have := unhide S0; dsimp only; omega) (cell_aside _ (by have := unhide S0; dsimp only; omega) t2))))⟩
    clear hK KK
    try simp only [Act.put, List.getElem_toArray, List.getElem_cons_succ, List.getElem_cons_zero, List.setIfInBounds_toArray, List.set_cons_zero, List.set_cons_succ]
    refine wpAnyH_take (i := 19) (oi := _) (v := .int .i64 x1) rfl (by kernel_rfl) (by kernel_rfl) (by kernel_rfl) (fun _ _ _ h => h) (Or.inl ⟨by rfl, ?_⟩) hHeld ?_
    · intro wq hSw
      try dsimp only at hSw
      go_simp
    try simp only [Act.put, List.getElem_toArray, List.getElem_cons_succ, List.getElem_cons_zero, List.setIfInBounds_toArray, List.set_cons_zero, List.set_cons_succ]
    refine wpAnyH_done (by kernel_rfl) ?_ _
    clear hHeld
    clear r5
    have RA := hide (((((r1.set_other (p := ⟨w.heap.size + 2, 0, none⟩) (.inr (by have := unhide S0; dsimp only; omega)) (.bool s1)).set_other (p := ⟨w.heap.size + 2, 1, none⟩) (.inr (by have := unhide S0; dsimp only; omega)) (.slice a1 xs.length c1)).set_other (p := ⟨w.heap.size + 3, 0, none⟩) (.inr (by have := unhide S0; dsimp only; omega)) (.bool s2)).set_other (p := ⟨w.heap.size + 3, 1, none⟩) (.inr (by have := unhide S0; dsimp only; omega)) (.slice a6 zz.length c6)).read.tight.wider (lo' := 0) (Nat.zero_le _) (Nat.le_refl _))
    have RB := hide (((((r6.set_other (p := ⟨w.heap.size + 2, 0, none⟩) (.inl (by have := unhide S0; dsimp only; omega)) (.bool s1)).set_other (p := ⟨w.heap.size + 2, 1, none⟩) (.inl (by have := unhide S0; dsimp only; omega)) (.slice a1 xs.length c1)).set_other (p := ⟨w.heap.size + 3, 0, none⟩) (.inl (by have := unhide S0; dsimp only; omega)) (.bool s2)).set_other (p := ⟨w.heap.size + 3, 1, none⟩) (.inl (by have := unhide S0; dsimp only; omega)) (.slice a6 zz.length c6)).read.tight.wider (lo' := 0) (Nat.zero_le _) (Nat.le_refl _))
    have K7 := hide (((((unhide K).setNew (p := ⟨w.heap.size + 2, 0, none⟩) (by simp) (.bool s1)).setNew (p := ⟨w.heap.size + 2, 1, none⟩) (by simp) (.slice a1 xs.length c1)).setNew (p := ⟨w.heap.size + 3, 0, none⟩) (by simp) (.bool s2)).setNew (p := ⟨w.heap.size + 3, 1, none⟩) (by simp) (.slice a6 zz.length c6))
    have FF := hide (show WN s1 xs ∧ WN s2 zz ∧ xs.length ≤ 9000 ∧ zz.length ≤ 9000 ∧ Alg (wval s1 xs) x1 (wval s2 ys) x2 x1 ∧ wval s1 xs = wval s1 xs * 2 ^ (x1 - x1).toNat ∧ wval s2 zz = wval s2 ys * 2 ^ (x2 - x1).toNat from ⟨n1, g3, by omega, gl, ⟨.inr (Int.le_refl _), .inr hle, by omega, by omega⟩, by simp, by rw [g4, unhide HD, Int.toNat_natCast]⟩)
    clear r1 r2 r6 g3 g4 HSH K n1 n2
    go_wp2_with fail
    exact bodyPost_ret (v := .tuple #[.agg #[.bool s1, .slice a1 xs.length c1], .agg #[.bool s2, .slice a6 zz.length c6], .int .i64 x1]) (by simp [results, Tryz.results178, go_sem, q0, q1, u0, u1, n_q0, n_q1, n_u0, n_u1]) rfl ⟨_, _, _, _, _, _, _, rfl, unhide RA, unhide RB, unhide FF, unhide K7⟩
  · obtain ⟨d, hd⟩ : ∃ d : Nat, x1 - x2 = (d : Int) := ⟨(x1 - x2).toNat, by omega⟩
    have hd2 : d ≤ 80000 := by omega
    have hw : IntKind.i64.wrap (x1 - x2) = (d : Int) := by rw [w64 _ (by omega) (by omega), hd]
    obtain ⟨g1, g2, g3, g4⟩ := shl_wn n1 (by omega) d
    have gl := limbs_shl_lenW n1.1 lx d hd2
    have HD := hide hd
    go_wp2_with fail
    generalize ((((w.alloc (.cells #[.bool s1, .slice a1 xs.length c1, .int .i64 x1] 52)).alloc (.cells #[.bool s2, .slice a2 ys.length c2, .int .i64 x2] 52)).alloc (.cells #[.bool false, .slice none 0 0] 50)).alloc (.cells #[.bool false, .slice none 0 0] 50)) = W at *
    have HSH := hide (shl_spec W.drew (r1.kept (Kept.refl 0 0 W).drew (by omega)) n1.1.1 (by omega) d (.inr (by omega)) (by omega))
    generalize hzz : limbs ((val xs).toNat * 2 ^ d) = zz at *
    clear hzz hd
    skip
    have n_qf0 := qf0
    have n_q0 := q0
    have n_qf1 := qf1
    have n_q1 := q1
    have n_uf0 := uf0
    have n_u0 := u0
    have n_uf1 := uf1
    have n_u1 := u1
    have kd := (Kept.refl 0 0 W).drew
    replace r1 := r1.kept kd (by omega)
    replace r2 := r2.kept kd (by omega)
    replace qf0 := kd.loose0 (World.block_lt_of_cell? _ _ q0) qf0
    replace qf1 := kd.loose0 (World.block_lt_of_cell? _ _ q1) qf1
    replace uf0 := kd.loose0 (World.block_lt_of_cell? _ _ u0) uf0
    replace uf1 := kd.loose0 (World.block_lt_of_cell? _ _ u1) uf1
    replace p0 := kd.cell0 p0
    replace p1 := kd.cell0 p1
    replace p2 := kd.cell0 p2
    replace t0 := kd.cell0 t0
    replace t1 := kd.cell0 t1
    replace t2 := kd.cell0 t2
    replace q0 := kd.cell0 q0
    replace q1 := kd.cell0 q1
    replace u0 := kd.cell0 u0
    replace u1 := kd.cell0 u1
    replace K := hide ((unhide K).trans kd)
    have z1 := kd.size
    clear kd
    refine wp_region_held_drew (S := (fun w' => w'.cell? ⟨w.heap.size, 0, none⟩ = some (.bool s1) ∧ w'.cell? ⟨w.heap.size, 1, none⟩ = some (.slice a1 xs.length c1) ∧ w'.cell? ⟨w.heap.size, 2, none⟩ = some (.int .i64 x1) ∧ w'.cell? ⟨w.heap.size + 1, 0, none⟩ = some (.bool s2) ∧ w'.cell? ⟨w.heap.size + 1, 1, none⟩ = some (.slice a2 ys.length c2) ∧ w'.cell? ⟨w.heap.size + 1, 2, none⟩ = some (.int .i64 x2))) (by kernel_rfl) ?_ (fun hHeld => ?_)
    · exact ⟨p0, p1, p2, t0, t1, t2⟩
    refine wpAnyH_take (i := 0) (oi := _) (v := .pointer (some ⟨w.heap.size, 0, none⟩)) rfl (by kernel_rfl) (by kernel_rfl) (by kernel_rfl) (fun _ _ _ h => h) (Or.inl ⟨by rfl, ?_⟩) hHeld ?_
    · intro wq hSw
      try dsimp only at hSw
      go_simp
    try simp only [Act.put, List.getElem_toArray, List.getElem_cons_succ, List.getElem_cons_zero, List.setIfInBounds_toArray, List.set_cons_zero, List.set_cons_succ]
    refine wpAnyH_take (i := 1) (oi := _) (v := .pointer (some ⟨w.heap.size, 0, none⟩)) rfl (by kernel_rfl) (by kernel_rfl) (by kernel_rfl) (fun _ _ _ h => h) (Or.inl ⟨by rfl, ?_⟩) hHeld ?_
    · intro wq hSw
      try dsimp only at hSw
      go_simp
    try simp only [Act.put, List.getElem_toArray, List.getElem_cons_succ, List.getElem_cons_zero, List.setIfInBounds_toArray, List.set_cons_zero, List.set_cons_succ]
    refine wpAnyH_take (i := 2) (oi := _) (v := .bool s1) rfl (by kernel_rfl) (by kernel_rfl) (by kernel_rfl) (fun _ _ _ h => h) (Or.inl ⟨by rfl, ?_⟩) hHeld ?_
    · intro wq hSw
      try dsimp only at hSw
      go_simp
    try simp only [Act.put, List.getElem_toArray, List.getElem_cons_succ, List.getElem_cons_zero, List.setIfInBounds_toArray, List.set_cons_zero, List.set_cons_succ]
    refine wpAnyH_take (i := 3) (oi := _) (v := .pointer (some ⟨w.heap.size, 0, none⟩)) rfl (by kernel_rfl) (by kernel_rfl) (by kernel_rfl) (fun _ _ _ h => h) (Or.inl ⟨by rfl, ?_⟩) hHeld ?_
    · intro wq hSw
      try dsimp only at hSw
      go_simp
    try simp only [Act.put, List.getElem_toArray, List.getElem_cons_succ, List.getElem_cons_zero, List.setIfInBounds_toArray, List.set_cons_zero, List.set_cons_succ]
    refine wpAnyH_take (i := 4) (oi := _) (v := .pointer (some ⟨w.heap.size, 1, none⟩)) rfl (by kernel_rfl) (by kernel_rfl) (by kernel_rfl) (fun _ _ _ h => h) (Or.inl ⟨by rfl, ?_⟩) hHeld ?_
    · intro wq hSw
      try dsimp only at hSw
      go_simp
    try simp only [Act.put, List.getElem_toArray, List.getElem_cons_succ, List.getElem_cons_zero, List.setIfInBounds_toArray, List.set_cons_zero, List.set_cons_succ]
    refine wpAnyH_take (i := 5) (oi := _) (v := .agg #[.slice a1 xs.length c1]) rfl (by kernel_rfl) (by kernel_rfl) (by kernel_rfl) (fun _ _ _ h => h) (Or.inl ⟨by rfl, ?_⟩) hHeld ?_
    · intro wq hSw
      try dsimp only at hSw
      go_simp
    try simp only [Act.put, List.getElem_toArray, List.getElem_cons_succ, List.getElem_cons_zero, List.setIfInBounds_toArray, List.set_cons_zero, List.set_cons_succ]
    refine wpAnyH_take (i := 6) (oi := _) (v := .pointer (some ⟨w.heap.size, 2, none⟩)) rfl (by kernel_rfl) (by kernel_rfl) (by kernel_rfl) (fun _ _ _ h => h) (Or.inl ⟨by rfl, ?_⟩) hHeld ?_
    · intro wq hSw
      try dsimp only at hSw
      go_simp
    try simp only [Act.put, List.getElem_toArray, List.getElem_cons_succ, List.getElem_cons_zero, List.setIfInBounds_toArray, List.set_cons_zero, List.set_cons_succ]
    refine wpAnyH_take (i := 7) (oi := _) (v := .int .i64 x1) rfl (by kernel_rfl) (by kernel_rfl) (by kernel_rfl) (fun _ _ _ h => h) (Or.inl ⟨by rfl, ?_⟩) hHeld ?_
    · intro wq hSw
      try dsimp only at hSw
      go_simp
    try simp only [Act.put, List.getElem_toArray, List.getElem_cons_succ, List.getElem_cons_zero, List.setIfInBounds_toArray, List.set_cons_zero, List.set_cons_succ]
    refine wpAnyH_take (i := 8) (oi := _) (v := .pointer (some ⟨w.heap.size + 1, 2, none⟩)) rfl (by kernel_rfl) (by kernel_rfl) (by kernel_rfl) (fun _ _ _ h => h) (Or.inl ⟨by rfl, ?_⟩) hHeld ?_
    · intro wq hSw
      try dsimp only at hSw
      go_simp
    try simp only [Act.put, List.getElem_toArray, List.getElem_cons_succ, List.getElem_cons_zero, List.setIfInBounds_toArray, List.set_cons_zero, List.set_cons_succ]
    refine wpAnyH_take (i := 9) (oi := _) (v := .int .i64 x2) rfl (by kernel_rfl) (by kernel_rfl) (by kernel_rfl) (fun _ _ _ h => h) (Or.inl ⟨by rfl, ?_⟩) hHeld ?_
    · intro wq hSw
      try dsimp only at hSw
      go_simp
    try simp only [Act.put, List.getElem_toArray, List.getElem_cons_succ, List.getElem_cons_zero, List.setIfInBounds_toArray, List.set_cons_zero, List.set_cons_succ]
    refine wpAnyH_take (i := 10) (oi := _) (v := .int .i64 (d : Int)) rfl (by kernel_rfl) (by kernel_rfl) (by kernel_rfl) (fun _ _ _ h => h) (Or.inl ⟨by rfl, ?_⟩) hHeld ?_
    · intro wq hSw
      try dsimp only at hSw
      go_simp
    try simp only [Act.put, List.getElem_toArray, List.getElem_cons_succ, List.getElem_cons_zero, List.setIfInBounds_toArray, List.set_cons_zero, List.set_cons_succ]
    refine wpAnyH_take (i := 13) (oi := _) (v := .pointer (some ⟨w.heap.size + 1, 0, none⟩)) rfl (by kernel_rfl) (by kernel_rfl) (by kernel_rfl) (fun _ _ _ h => h) (Or.inl ⟨by rfl, ?_⟩) hHeld ?_
    · intro wq hSw
      try dsimp only at hSw
      go_simp
    try simp only [Act.put, List.getElem_toArray, List.getElem_cons_succ, List.getElem_cons_zero, List.setIfInBounds_toArray, List.set_cons_zero, List.set_cons_succ]
    refine wpAnyH_take (i := 14) (oi := _) (v := .agg #[.bool s2, .slice a2 ys.length c2]) rfl (by kernel_rfl) (by kernel_rfl) (by kernel_rfl) (fun _ _ _ h => h) (Or.inl ⟨by rfl, ?_⟩) hHeld ?_
    · intro wq hSw
      try dsimp only at hSw
      go_simp
    try simp only [Act.put, List.getElem_toArray, List.getElem_cons_succ, List.getElem_cons_zero, List.setIfInBounds_toArray, List.set_cons_zero, List.set_cons_succ]
    refine wpAnyH_take (i := 15) (oi := _) (v := .pointer (some ⟨w.heap.size + 1, 2, none⟩)) rfl (by kernel_rfl) (by kernel_rfl) (by kernel_rfl) (fun _ _ _ h => h) (Or.inl ⟨by rfl, ?_⟩) hHeld ?_
    · intro wq hSw
      try dsimp only at hSw
      go_simp
    try simp only [Act.put, List.getElem_toArray, List.getElem_cons_succ, List.getElem_cons_zero, List.setIfInBounds_toArray, List.set_cons_zero, List.set_cons_succ]
    refine wpAnyH_take (i := 16) (oi := _) (v := .int .i64 x2) rfl (by kernel_rfl) (by kernel_rfl) (by kernel_rfl) (fun _ _ _ h => h) (Or.inl ⟨by rfl, ?_⟩) hHeld ?_
    · intro wq hSw
      try dsimp only at hSw
      go_simp
    try simp only [Act.put, List.getElem_toArray, List.getElem_cons_succ, List.getElem_cons_zero, List.setIfInBounds_toArray, List.set_cons_zero, List.set_cons_succ]
    refine wpAnyH_ready (rs := [11]) (by kernel_rfl) (by simp) ?_
    refine AllReadyH.cons rfl (fun KK hK => ?_) AllReadyH.nil
    simp only [List.getElem_toArray, List.getElem_cons_succ, List.getElem_cons_zero]
    rw [if_pos (by rfl)]
    refine wps2 202 (.tmp 58) (.tmp 63) _ rfl in_l2shl (.agg #[.slice a1 xs.length c1]) (.int .i64 (d : Int)) rfl rfl (unhide HSH) ?_
    rintro e w2 ⟨v5, rfl, r5, k2⟩
    refine ⟨_, rfl, ?_⟩
    replace r1 := r1.kept k2 (by omega)
    replace r2 := r2.kept k2 (by omega)
    replace qf0 := k2.loose0 (World.block_lt_of_cell? _ _ q0) qf0
    replace qf1 := k2.loose0 (World.block_lt_of_cell? _ _ q1) qf1
    replace uf0 := k2.loose0 (World.block_lt_of_cell? _ _ u0) uf0
    replace uf1 := k2.loose0 (World.block_lt_of_cell? _ _ u1) uf1
    replace p0 := k2.cell0 p0
    replace p1 := k2.cell0 p1
    replace p2 := k2.cell0 p2
    replace t0 := k2.cell0 t0
    replace t1 := k2.cell0 t1
    replace t2 := k2.cell0 t2
    replace q0 := k2.cell0 q0
    replace q1 := k2.cell0 q1
    replace u0 := k2.cell0 u0
    replace u1 := k2.cell0 u1
    replace K := hide ((unhide K).trans k2)
    have z3 := k2.size
    clear k2
    clear hHeld
    refine hK.out _ _ ?_ (fun hHeld => ?_)
    · exact ⟨p0, p1, p2, t0, t1, t2⟩
    clear hK KK
    try simp only [Act.put, List.getElem_toArray, List.getElem_cons_succ, List.getElem_cons_zero, List.setIfInBounds_toArray, List.set_cons_zero, List.set_cons_succ]
    refine wpAnyH_ready (rs := [12]) (by kernel_rfl) (by simp) ?_
    refine AllReadyH.cons rfl (fun KK hK => ?_) AllReadyH.nil
    simp only [List.getElem_toArray, List.getElem_cons_succ, List.getElem_cons_zero]
    rw [if_pos (by rfl)]
    refine wps2 152 (.tmp 55) (.tmp 64) _ rfl in_l3make (.bool s1) (.agg #[v5]) rfl rfl (make_spec s1 _ r5 g3.1.1 (by omega)) ?_
    rintro e w4 ⟨v6, rfl, r6, k4⟩
    refine ⟨_, rfl, ?_⟩
    replace r1 := r1.kept k4 (by omega)
    replace r2 := r2.kept k4 (by omega)
    replace r5 := r5.kept k4 (by omega)
    replace qf0 := k4.loose0 (World.block_lt_of_cell? _ _ q0) qf0
    replace qf1 := k4.loose0 (World.block_lt_of_cell? _ _ q1) qf1
    replace uf0 := k4.loose0 (World.block_lt_of_cell? _ _ u0) uf0
    replace uf1 := k4.loose0 (World.block_lt_of_cell? _ _ u1) uf1
    replace p0 := k4.cell0 p0
    replace p1 := k4.cell0 p1
    replace p2 := k4.cell0 p2
    replace t0 := k4.cell0 t0
    replace t1 := k4.cell0 t1
    replace t2 := k4.cell0 t2
    replace q0 := k4.cell0 q0
    replace q1 := k4.cell0 q1
    replace u0 := k4.cell0 u0
    replace u1 := k4.cell0 u1
    replace K := hide ((unhide K).trans k4)
    have z5 := k4.size
    clear k4
    clear hHeld
    refine hK.out _ _ ?_ (fun hHeld => ?_)
    · exact ⟨p0, p1, p2, t0, t1, t2⟩
    clear hK KK
    try simp only [Act.put, List.getElem_toArray, List.getElem_cons_succ, List.getElem_cons_zero, List.setIfInBounds_toArray, List.set_cons_zero, List.set_cons_succ]
    rw [g2] at r6
    obtain ⟨a6, c6, hv⟩ := Row.form' r6
    subst hv
    refine wpAnyH_ready (rs := [17]) (by kernel_rfl) (by simp) ?_
    refine AllReadyH.cons rfl (fun KK hK => ?_) AllReadyH.nil
    simp only [List.getElem_toArray, List.getElem_cons_succ, List.getElem_cons_zero]
    rw [if_pos (by rfl)]
    go_simp
    clear hHeld
    refine hK.out _ _ ?_ (fun hHeld => ?_)
    · exact ⟨(cell_aside _ (by have := unhide S0; dsimp only; omega) (cell_aside _ (by have := unhide S0; dsimp only; omega) p0)), (cell_aside _ (by have := unhide S0; dsimp only; omega) (cell_aside _ (by have := unhide S0; dsimp only; omega) p1)), (cell_aside _ (by have := unhide S0; dsimp only; omega) (cell_aside _ (by have := unhide S0; dsimp only; omega) p2)), (cell_aside _ (by have := unhide S0; dsimp only; omega) (cell_aside _ (by have := unhide S0; dsimp only; omega) t0)), (cell_aside _ (by have := unhide S0; dsimp only; omega) (cell_aside _ (by have := unhide S0; dsimp only; omega) t1)), (cell_aside _ (by have := unhide S0; dsimp only; omega) (cell_aside _ (by have := unhide S0; dsimp only; omega) t2))⟩
    clear hK KK
    try simp only [Act.put, List.getElem_toArray, List.getElem_cons_succ, List.getElem_cons_zero, List.setIfInBounds_toArray, List.set_cons_zero, List.set_cons_succ]
    refine wpAnyH_ready (rs := [18]) (by kernel_rfl) (by simp) ?_
    refine AllReadyH.cons rfl (fun KK hK => ?_) AllReadyH.nil
    simp only [List.getElem_toArray, List.getElem_cons_succ, List.getElem_cons_zero]
    rw [if_pos (by rfl)]
    go_simp
    clear hHeld
    refine hK.out _ _ ?_ (fun hHeld => ?_)
    · exact ⟨(cell_aside _ (by have := unhide S0; dsimp only; omega) (cell_aside _ (by have := unhide S0; dsimp only; omega) (cell_aside _ (by have := unhide S0; dsimp only; omega) (cell_aside _ (by have := unhide S0; dsimp only; omega) p0)))), (cell_aside _ (by have := unhide S0; dsimp only; omega) (cell_aside _ (by have := unhide S0; dsimp only; omega) (cell_aside _ (by have := unhide S0; dsimp only; omega) (cell_aside _ (by have := unhide S0; dsimp only; omega) p1)))), (cell_aside _ (by have := unhide S0; dsimp only; omega) (cell_aside _ (by have := unhide S0; dsimp only; omega) (cell_aside _ (by have := unhide S0; dsimp only; omega) (cell_aside _ (by have := unhide S0; dsimp only; omega) p2)))), (cell_aside _ (by have := unhide S0; dsimp only; omega) (cell_aside _ (by have := unhide S0; dsimp only; omega) (cell_aside _ (by have := unhide S0; dsimp only; omega) (cell_aside _ (by have := unhide S0; dsimp only; omega) t0)))), (cell_aside _ (by have := unhide S0; dsimp only; omega) (cell_aside _ (by have := unhide S0; dsimp only; omega) (cell_aside _ (by have := unhide S0; dsimp only; omega) (cell_aside _ (by have := unhide S0; dsimp only; omega) t1)))), (cell_aside _ (by have := unhide S0; dsimp only; omega) (cell_aside _ (by have := unhide S0; dsimp only; omega) (cell_aside _ (by have := unhide S0; dsimp only; omega) (cell_aside _ (by have := unhide S0; dsimp only; omega) t2))))⟩
    clear hK KK
    try simp only [Act.put, List.getElem_toArray, List.getElem_cons_succ, List.getElem_cons_zero, List.setIfInBounds_toArray, List.set_cons_zero, List.set_cons_succ]
    refine wpAnyH_take (i := 19) (oi := _) (v := .int .i64 x2) rfl (by kernel_rfl) (by kernel_rfl) (by kernel_rfl) (fun _ _ _ h => h) (Or.inl ⟨by rfl, ?_⟩) hHeld ?_
    · intro wq hSw
      try dsimp only at hSw
      go_simp
    try simp only [Act.put, List.getElem_toArray, List.getElem_cons_succ, List.getElem_cons_zero, List.setIfInBounds_toArray, List.set_cons_zero, List.set_cons_succ]
    refine wpAnyH_done (by kernel_rfl) ?_ _
    clear hHeld
    clear r5
    have RA := hide (((((r6.set_other (p := ⟨w.heap.size + 2, 0, none⟩) (.inl (by have := unhide S0; dsimp only; omega)) (.bool s1)).set_other (p := ⟨w.heap.size + 2, 1, none⟩) (.inl (by have := unhide S0; dsimp only; omega)) (.slice a6 zz.length c6)).set_other (p := ⟨w.heap.size + 3, 0, none⟩) (.inl (by have := unhide S0; dsimp only; omega)) (.bool s2)).set_other (p := ⟨w.heap.size + 3, 1, none⟩) (.inl (by have := unhide S0; dsimp only; omega)) (.slice a2 ys.length c2)).read.tight.wider (lo' := 0) (Nat.zero_le _) (Nat.le_refl _))
    have RB := hide (((((r2.set_other (p := ⟨w.heap.size + 2, 0, none⟩) (.inr (by have := unhide S0; dsimp only; omega)) (.bool s1)).set_other (p := ⟨w.heap.size + 2, 1, none⟩) (.inr (by have := unhide S0; dsimp only; omega)) (.slice a6 zz.length c6)).set_other (p := ⟨w.heap.size + 3, 0, none⟩) (.inr (by have := unhide S0; dsimp only; omega)) (.bool s2)).set_other (p := ⟨w.heap.size + 3, 1, none⟩) (.inr (by have := unhide S0; dsimp only; omega)) (.slice a2 ys.length c2)).read.tight.wider (lo' := 0) (Nat.zero_le _) (Nat.le_refl _))
    have K7 := hide (((((unhide K).setNew (p := ⟨w.heap.size + 2, 0, none⟩) (by simp) (.bool s1)).setNew (p := ⟨w.heap.size + 2, 1, none⟩) (by simp) (.slice a6 zz.length c6)).setNew (p := ⟨w.heap.size + 3, 0, none⟩) (by simp) (.bool s2)).setNew (p := ⟨w.heap.size + 3, 1, none⟩) (by simp) (.slice a2 ys.length c2))
    have FF := hide (show WN s1 zz ∧ WN s2 ys ∧ zz.length ≤ 9000 ∧ ys.length ≤ 9000 ∧ Alg (wval s1 xs) x1 (wval s2 ys) x2 x2 ∧ wval s1 zz = wval s1 xs * 2 ^ (x1 - x2).toNat ∧ wval s2 ys = wval s2 ys * 2 ^ (x2 - x2).toNat from ⟨g3, n2, gl, by omega, ⟨.inr (by omega), .inr (Int.le_refl _), by omega, by omega⟩, by rw [g4, unhide HD, Int.toNat_natCast], by simp⟩)
    clear r1 r2 r6 g3 g4 HSH K n1 n2
    go_wp2_with fail
    exact bodyPost_ret (v := .tuple #[.agg #[.bool s1, .slice a6 zz.length c6], .agg #[.bool s2, .slice a2 ys.length c2], .int .i64 x2]) (by simp [results, Tryz.results178, go_sem, q0, q1, u0, u1, n_q0, n_q1, n_u0, n_u1]) rfl ⟨_, _, _, _, _, _, _, rfl, unhide RA, unhide RB, unhide FF, unhide K7⟩

theorem align4_spec {b1 b2 : Bool} {l1 h1 l2 h2 : Nat} {v1 v2 : Value} {xs ys : List Int} (s1 s2 : Bool) (x1 x2 : Int) (w : World) (r1 : Row .i64 b1 l1 h1 w v1 xs) (r2 : Row .i64 b2 l2 h2 w v2 ys) (o1 : dokB s1 xs x1 = true) (o2 : dokB s2 ys x2 = true) :
    Calls Tryz.prog 178 #[.agg #[.bool s1, v1, .int .i64 x1], .agg #[.bool s2, v2, .int .i64 x2]] w fun e w' => ∃ u1 u2 t1 t2 z1 z2 E, e = .returned (.tuple #[.agg #[.bool t1, u1], .agg #[.bool t2, u2], .int .i64 E]) ∧ Row .i64 false 0 w'.heap.size w' u1 z1 ∧ Row .i64 false 0 w'.heap.size w' u2 z2 ∧ (WN t1 z1 ∧ WN t2 z2 ∧ z1.length ≤ 9000 ∧ z2.length ≤ 9000 ∧ Alg (wval s1 xs) x1 (wval s2 ys) x2 E ∧ wval t1 z1 = wval s1 xs * 2 ^ (x1 - E).toNat ∧ wval t2 z2 = wval s2 ys * 2 ^ (x2 - E).toNat) ∧ Kept 0 0 w w' := align4_wide s1 s2 x1 x2 w r1 r2 (dok_wb o1) (dok_wb o2)

end Go.Proofs.YthahoabkehcgbaaGreatDoor

