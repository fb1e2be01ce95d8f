/-
  Contracts that the proofs of this seat share: DivNum, Nat15, Nat16.
-/
import Derived.Test.YtflpkblmcnkghaaDoorBA
import Derived.Test.YtflpkblmcnkghaaDoorBB
import Derived.Test.YtflpkblmcnkghaaDoorBE
import Derived.Test.YtflpkblmcnkghaaDoorBC
namespace Go.Proofs.YtflpkblmcnkghaaDoor
set_option linter.unusedVariables false

theorem times_bound (t y : Int) (h0 : -65535 ≤ t) (h1 : t ≤ 65535) (y0 : 0 ≤ y) (y1 : y ≤ 65535) : -4294836225 ≤ t * y ∧ t * y ≤ 4294836225 := by
  have a := Int.mul_le_mul_of_nonneg_right h1 y0
  have b := Int.mul_le_mul_of_nonneg_right h0 y0
  omega

/-- One limb of a multiple that is added. -/
theorem times_step (zs ys : List Int) (p i : Nat) (hi : p + i < zs.length) (hy : i < ys.length) (z t c S0 : Int) (hz : zs.getD (p + i) 0 = z) (h : val zs + 65536 ^ (p + i) * c = S0 + t * (65536 ^ p * val (ys.take i))) :
    val (zs.set (p + i) ((z + t * ys.getD i 0 + c) % 65536)) + 65536 ^ (p + (i + 1)) * ((z + t * ys.getD i 0 + c) / 65536) = S0 + t * (65536 ^ p * val (ys.take (i + 1))) := by
  rw [val_set _ _ _ hi, hz, val_take_succ ys i hy, Int.mul_add, Int.mul_add, ← Int.add_assoc, ← h, ← Nat.add_assoc, Int.pow_succ]
  generalize ys.getD i 0 = y
  have e : (z + t * y + c) % 65536 - z + 65536 * ((z + t * y + c) / 65536) = c + t * y := by
    generalize t * y = m; omega
  have key : ∀ P A B : Int, P * A + P * 65536 * B = P * (A + 65536 * B) := fun P A B => by rw [Int.mul_add, Int.mul_assoc]
  rw [Int.add_assoc, key, e, Int.mul_add, Int.pow_add, Int.add_assoc]
  congr 2
  rw [Int.mul_comm t (65536 ^ p * (65536 ^ i * y)), Int.mul_assoc, Int.mul_assoc, Int.mul_assoc, Int.mul_comm t y]

theorem times_end (zs ys : List Int) (p : Nat) (hp : p + ys.length < zs.length) (t c S0 : Int) (h : val zs + 65536 ^ (p + ys.length) * c = S0 + t * (65536 ^ p * val ys)) :
    val (zs.set (p + ys.length) (zs.getD (p + ys.length) 0 + c)) = S0 + t * (65536 ^ p * val ys) := by
  rw [val_set _ _ _ hp, ← h]
  congr 2
  omega

theorem lim_of_getD {zs : List Int} (h : ∀ j, j < zs.length → 0 ≤ zs.getD j 0 ∧ zs.getD j 0 ≤ 65535) : Lim zs := fun z hz => by
  obtain ⟨i, hi, rfl⟩ := List.getElem_of_mem hz
  have := h i hi
  simpa [List.getD, hi] using this

/-- The guess of a limb is not too small. -/
theorem guess_ge (R Y H P y q low : Int) (hP : 0 < P) (hy : 0 < y) (hR : R = H * P + low) (hlow : low < P) (hY : y * P ≤ Y) (hq : 0 ≤ q) (h : q * Y ≤ R) : q ≤ H / y := by
  have h1 : q * (y * P) ≤ q * Y := Int.mul_le_mul_of_nonneg_left hY hq
  have h2 : q * y * P < (H + 1) * P := by
    rw [Int.mul_assoc, Int.add_mul, Int.one_mul]; omega
  have h3 : q * y < H + 1 := Int.lt_of_mul_lt_mul_right h2 (Int.le_of_lt hP)
  exact (Int.le_ediv_iff_mul_le hy).2 (by omega)

end Go.Proofs.YtflpkblmcnkghaaDoor

namespace Go.Proofs.YtflpkblmcnkghaaDoor
open Go.RowKit
set_option linter.unusedVariables false
set_option maxRecDepth 8000
set_option linter.unusedSimpArgs false

theorem in_l2small : ∀ (w : World) (args : Array Value), (callFunc 53 args).run Tryd.prog w = .ok (.enter 53 args) w := enters Tryd.func53 (by decide) (fun h => by cases h)

set_option maxHeartbeats 2000000 in
theorem div_one {b1 b2 : Bool} {l1 h1' l2 h2 : Nat} {v1 v2 : Value} {xs ys : List Int} (w : World) (r1 : Row .i64 b1 l1 h1' w v1 xs) (r2 : Row .i64 b2 l2 h2 w v2 ys) (hx : Lim xs) (hy : Lim ys) (nx : xs.length ≤ 100000) (h1 : ys.length = 1) (h0 : 0 < val ys) :
    Calls Tryd.prog 35 #[.agg #[v1], .agg #[v2]] w fun e w' => ∃ vq vr, e = .returned (.tuple #[.agg #[vq], .agg #[vr]]) ∧ Row .i64 true w.heap.size w'.heap.size w' vq (limbs (val xs / val ys).toNat) ∧ Row .i64 true w.heap.size w'.heap.size w' vr (limbs (val xs % val ys).toNat) ∧ Kept 0 0 w w' := by
  replace r1 := r1.tight
  replace r2 := r2.tight
  obtain ⟨d, rfl⟩ : ∃ d, ys = [d] := by
    match ys, h1 with
    | [d], _ => exact ⟨d, rfl⟩
  have hd := hy d (by simp)
  have hv : val [d] = d := by simp [val]
  rw [hv] at h0
  rw [hv]
  obtain ⟨zq, hzq⟩ : ∃ zq, zq = limbs (val xs / d).toNat := ⟨_, rfl⟩
  obtain ⟨zr, hzr⟩ : ∃ zr, zr = limbs (val xs % d).toNat := ⟨_, rfl⟩
  rw [← hzq, ← hzr]
  have HZQ := hide hzq
  have HZR := hide hzr
  clear hzq hzr hv hy
  have hr0 := Int.emod_nonneg (val xs) (show d ≠ 0 by omega)
  have hr1 := Int.emod_lt_of_pos (val xs) (show 0 < d by omega)
  have k0 : Kept 0 0 w ((((w.alloc (.cells #[v1] 37)).alloc (.cells #[v2] 37)).alloc (.cells #[.slice none 0 0] 37)).alloc (.cells #[.slice none 0 0] 37)) := (((((Kept.refl 0 0 w).alloc (.cells #[v1] 37)).alloc (.cells #[v2] 37)).alloc (.cells #[.slice none 0 0] 37)).alloc (.cells #[.slice none 0 0] 37))
  have p0 : ((((w.alloc (.cells #[v1] 37)).alloc (.cells #[v2] 37)).alloc (.cells #[.slice none 0 0] 37)).alloc (.cells #[.slice none 0 0] 37)).cell? ⟨w.heap.size, 0, none⟩ = some (v1) := old_cell _ (old_cell _ (old_cell _ (new_cell2 _ _ _ _ _ _ (by simp) rfl)))
  have t0 : ((((w.alloc (.cells #[v1] 37)).alloc (.cells #[v2] 37)).alloc (.cells #[.slice none 0 0] 37)).alloc (.cells #[.slice none 0 0] 37)).cell? ⟨w.heap.size + 1, 0, none⟩ = some (v2) := old_cell _ (old_cell _ (new_cell2 _ _ _ _ _ _ (by simp) rfl))
  have x0 : ((((w.alloc (.cells #[v1] 37)).alloc (.cells #[v2] 37)).alloc (.cells #[.slice none 0 0] 37)).alloc (.cells #[.slice none 0 0] 37)).cell? ⟨w.heap.size + 2, 0, none⟩ = some (.slice none 0 0) := old_cell _ (new_cell2 _ _ _ _ _ _ (by simp) rfl)
  have xf0 : ((((w.alloc (.cells #[v1] 37)).alloc (.cells #[v2] 37)).alloc (.cells #[.slice none 0 0] 37)).alloc (.cells #[.slice none 0 0] 37)).frozen? ⟨w.heap.size + 2, 0, none⟩ = false := loose_old (by simp <;> omega) (new_loose2 _ _ _ _ _ (by simp))
  have y0 : ((((w.alloc (.cells #[v1] 37)).alloc (.cells #[v2] 37)).alloc (.cells #[.slice none 0 0] 37)).alloc (.cells #[.slice none 0 0] 37)).cell? ⟨w.heap.size + 3, 0, none⟩ = some (.slice none 0 0) := new_cell2 _ _ _ _ _ _ (by simp) rfl
  have yf0 : ((((w.alloc (.cells #[v1] 37)).alloc (.cells #[v2] 37)).alloc (.cells #[.slice none 0 0] 37)).alloc (.cells #[.slice none 0 0] 37)).frozen? ⟨w.heap.size + 3, 0, none⟩ = false := new_loose2 _ _ _ _ _ (by simp)
  replace r1 := r1.kept k0 (by omega)
  replace r2 := r2.kept k0 (by omega)
  have s0 : ((((w.alloc (.cells #[v1] 37)).alloc (.cells #[v2] 37)).alloc (.cells #[.slice none 0 0] 37)).alloc (.cells #[.slice none 0 0] 37)).heap.size = w.heap.size + 4 := by simp
  obtain ⟨a1, c1, hv⟩ := Row.form' r1
  subst hv
  obtain ⟨a2, c2, hv⟩ := Row.form' r2
  subst hv
  have K := hide (k0)
  clear k0
  have S0 := hide s0
  clear s0
  have xat := (row_cell r2).2.2.2 0 (by simp)
  obtain ⟨gy, oy, ey, cy⟩ := xat
  rw [Nat.add_zero] at cy
  simp only [List.getD, List.getElem?_cons_zero, Option.getD_some] at cy
  cases ey
  go_enter Tryd.func35, Tryd.ntmps35
  go_wp2_with fail
  generalize ((((w.alloc (.cells #[.slice a1 xs.length c1] 37)).alloc (.cells #[.slice (some ⟨gy, oy, none⟩) 1 c2] 37)).alloc (.cells #[.slice none 0 0] 37)).alloc (.cells #[.slice none 0 0] 37)) = W at *
  have gyl := World.block_lt_of_cell? _ _ cy
  dsimp only at gyl
  have kd := (Kept.refl 0 0 W).drew
  replace r1 := r1.kept kd (by omega)
  replace r2 := r2.kept kd (by omega)
  replace xf0 := kd.loose0 (World.block_lt_of_cell? _ _ x0) xf0
  replace yf0 := kd.loose0 (World.block_lt_of_cell? _ _ y0) yf0
  replace p0 := kd.cell0 p0
  replace t0 := kd.cell0 t0
  replace x0 := kd.cell0 x0
  replace y0 := kd.cell0 y0
  replace cy := kd.cell0 cy
  replace K := hide ((unhide K).trans kd)
  have z1 := kd.size
  clear kd
  refine wp_region_held_drew (S := (fun w' => w'.cell? ⟨w.heap.size, 0, none⟩ = some (.slice a1 xs.length c1) ∧ w'.cell? ⟨w.heap.size + 1, 0, none⟩ = some (.slice (some ⟨gy, oy, none⟩) 1 c2) ∧ w'.cell? ⟨gy, oy, none⟩ = some (.int .i64 d))) (by kernel_rfl) ?_ (fun hHeld => ?_)
  · exact ⟨p0, t0, cy⟩
  generalize W.drew = wd2 at *
  refine wpAnyH_take (i := 0) (oi := _) (v := .agg #[.slice a1 xs.length c1]) rfl (by kernel_rfl) (by kernel_rfl) (by kernel_rfl) (fun _ _ _ h => h) (Or.inl ⟨by rfl, ?_⟩) hHeld ?_
  · intro wq hSw
    try dsimp only at hSw
    go_simp
  try simp only [Act.put, List.getElem_toArray, List.getElem_cons_succ, List.getElem_cons_zero, List.setIfInBounds_toArray, List.set_cons_zero, List.set_cons_succ]
  refine wpAnyH_take (i := 1) (oi := _) (v := .pointer (some ⟨w.heap.size + 1, 0, none⟩)) rfl (by kernel_rfl) (by kernel_rfl) (by kernel_rfl) (fun _ _ _ h => h) (Or.inl ⟨by rfl, ?_⟩) hHeld ?_
  · intro wq hSw
    try dsimp only at hSw
    go_simp
  try simp only [Act.put, List.getElem_toArray, List.getElem_cons_succ, List.getElem_cons_zero, List.setIfInBounds_toArray, List.set_cons_zero, List.set_cons_succ]
  refine wpAnyH_take (i := 2) (oi := _) (v := .slice (some ⟨gy, oy, none⟩) 1 c2) rfl (by kernel_rfl) (by kernel_rfl) (by kernel_rfl) (fun _ _ _ h => h) (Or.inl ⟨by rfl, ?_⟩) hHeld ?_
  · intro wq hSw
    try dsimp only at hSw
    go_simp
  try simp only [Act.put, List.getElem_toArray, List.getElem_cons_succ, List.getElem_cons_zero, List.setIfInBounds_toArray, List.set_cons_zero, List.set_cons_succ]
  refine wpAnyH_take (i := 3) (oi := _) (v := .pointer (some ⟨gy, oy, none⟩)) rfl (by kernel_rfl) (by kernel_rfl) (by kernel_rfl) (fun _ _ _ h => h) (Or.inl ⟨by rfl, ?_⟩) hHeld ?_
  · intro wq hSw
    try dsimp only at hSw
    go_simp
  try simp only [Act.put, List.getElem_toArray, List.getElem_cons_succ, List.getElem_cons_zero, List.setIfInBounds_toArray, List.set_cons_zero, List.set_cons_succ]
  refine wpAnyH_take (i := 4) (oi := _) (v := .int .i64 d) rfl (by kernel_rfl) (by kernel_rfl) (by kernel_rfl) (fun _ _ _ h => h) (Or.inl ⟨by rfl, ?_⟩) hHeld ?_
  · intro wq hSw
    try dsimp only at hSw
    go_simp
  try simp only [Act.put, List.getElem_toArray, List.getElem_cons_succ, List.getElem_cons_zero, List.setIfInBounds_toArray, List.set_cons_zero, List.set_cons_succ]
  refine wpAnyH_ready (rs := [5, 9]) (by kernel_rfl) (by simp) ?_
  refine AllReadyH.cons rfl (fun KK hK => ?_) (AllReadyH.cons rfl (fun KK hK => ?_) AllReadyH.nil)
  · simp only [List.getElem_toArray, List.getElem_cons_succ, List.getElem_cons_zero]
    rw [if_pos (by rfl)]
    refine wps2 53 (.tmp 19) (.tmp 23) _ rfl in_l2small (.agg #[.slice a1 xs.length c1]) (.int .i64 d) rfl rfl (small_spec _ r1 hx nx d h0 (by omega)) ?_
    rintro e w3 ⟨v3, rfl, r3, k3⟩
    refine ⟨_, rfl, ?_⟩
    replace r1 := r1.kept k3 (by omega)
    replace r2 := r2.kept k3 (by omega)
    replace xf0 := k3.loose0 (World.block_lt_of_cell? _ _ x0) xf0
    replace yf0 := k3.loose0 (World.block_lt_of_cell? _ _ y0) yf0
    replace p0 := k3.cell0 p0
    replace t0 := k3.cell0 t0
    replace x0 := k3.cell0 x0
    replace y0 := k3.cell0 y0
    replace cy := k3.cell0 cy
    replace K := hide ((unhide K).trans k3)
    have z4 := k3.size
    clear k3
    rw [← unhide HZQ] at r3
    obtain ⟨a3, c3, hv⟩ := Row.form' r3
    subst hv
    clear hHeld
    refine hK.out _ _ ?_ (fun hHeld => ?_)
    · exact ⟨p0, t0, cy⟩
    clear hK KK
    try simp only [Act.put, List.getElem_toArray, List.getElem_cons_succ, List.getElem_cons_zero, List.setIfInBounds_toArray, List.set_cons_zero, List.set_cons_succ]
    refine wpAnyH_take (i := 6) (oi := _) (v := .tuple #[.agg #[.slice a3 zq.length c3], .int .i64 (val xs % d)]) rfl (by kernel_rfl) (by kernel_rfl) (by kernel_rfl) (fun _ _ _ h => h) (Or.inl ⟨by rfl, ?_⟩) hHeld ?_
    · intro wq hSw
      try dsimp only at hSw
      go_simp
    try simp only [Act.put, List.getElem_toArray, List.getElem_cons_succ, List.getElem_cons_zero, List.setIfInBounds_toArray, List.set_cons_zero, List.set_cons_succ]
    refine wpAnyH_take (i := 7) (oi := _) (v := .agg #[.slice a3 zq.length c3]) rfl (by kernel_rfl) (by kernel_rfl) (by kernel_rfl) (fun _ _ _ h => h) (Or.inl ⟨by rfl, ?_⟩) hHeld ?_
    · intro wq hSw
      try dsimp only at hSw
      go_simp
    try simp only [Act.put, List.getElem_toArray, List.getElem_cons_succ, List.getElem_cons_zero, List.setIfInBounds_toArray, List.set_cons_zero, List.set_cons_succ]
    refine wpAnyH_take (i := 8) (oi := _) (v := .int .i64 (val xs % d)) rfl (by kernel_rfl) (by kernel_rfl) (by kernel_rfl) (fun _ _ _ h => h) (Or.inl ⟨by rfl, ?_⟩) hHeld ?_
    · intro wq hSw
      try dsimp only at hSw
      go_simp
    try simp only [Act.put, List.getElem_toArray, List.getElem_cons_succ, List.getElem_cons_zero, List.setIfInBounds_toArray, List.set_cons_zero, List.set_cons_succ]
    refine wpAnyH_ready (rs := [9]) (by kernel_rfl) (by simp) ?_
    refine AllReadyH.cons rfl (fun KK hK => ?_) AllReadyH.nil
    simp only [List.getElem_toArray, List.getElem_cons_succ, List.getElem_cons_zero]
    rw [if_pos (by rfl)]
    go_simp
    have kn := (Kept.refl 0 0 w3).alloc (.cells #[.slice none 0 0] 37)
    replace r1 := r1.kept kn (by omega)
    replace r2 := r2.kept kn (by omega)
    replace r3 := r3.kept kn (by omega)
    replace xf0 := kn.loose0 (World.block_lt_of_cell? _ _ x0) xf0
    replace yf0 := kn.loose0 (World.block_lt_of_cell? _ _ y0) yf0
    replace p0 := kn.cell0 p0
    replace t0 := kn.cell0 t0
    replace x0 := kn.cell0 x0
    replace y0 := kn.cell0 y0
    replace cy := kn.cell0 cy
    replace K := hide ((unhide K).trans kn)
    have z6 := kn.size
    clear kn
    have szm : w3.heap.size < (w3.alloc (.cells #[.slice none 0 0] 37)).heap.size := by simp
    have m0 : (w3.alloc (.cells #[.slice none 0 0] 37)).cell? ⟨w3.heap.size, 0, none⟩ = some (.slice none 0 0) := new_cell2 _ _ _ _ _ _ rfl rfl
    have mf0 : (w3.alloc (.cells #[.slice none 0 0] 37)).frozen? ⟨w3.heap.size, 0, none⟩ = false := new_loose2 _ _ _ _ _ rfl
    clear hHeld
    refine hK.out _ _ ?_ (fun hHeld => ?_)
    · exact ⟨p0, t0, cy⟩
    clear hK KK
    try simp only [Act.put, List.getElem_toArray, List.getElem_cons_succ, List.getElem_cons_zero, List.setIfInBounds_toArray, List.set_cons_zero, List.set_cons_succ]
    generalize w3.alloc (.cells #[.slice none 0 0] 37) = w5 at *
    refine wpAnyH_ready (rs := [10]) (by kernel_rfl) (by simp) ?_
    refine AllReadyH.cons rfl (fun KK hK => ?_) AllReadyH.nil
    simp only [List.getElem_toArray, List.getElem_cons_succ, List.getElem_cons_zero]
    rw [if_pos (by rfl)]
    go_simp
    clear hHeld
    refine hK.out _ _ ?_ (fun hHeld => ?_)
    · exact ⟨(cell_aside _ (by have := unhide S0; dsimp only; omega) (p0)), (cell_aside _ (by have := unhide S0; dsimp only; omega) (t0)), (cell_aside _ (by have := unhide S0; dsimp only; omega) (cy))⟩
    clear hK KK
    try simp only [Act.put, List.getElem_toArray, List.getElem_cons_succ, List.getElem_cons_zero, List.setIfInBounds_toArray, List.set_cons_zero, List.set_cons_succ]
    refine wpAnyH_take (i := 11) (oi := _) (v := .int .i64 (val xs % d)) rfl (by kernel_rfl) (by kernel_rfl) (by kernel_rfl) (fun _ _ _ h => h) (Or.inl ⟨by rfl, ?_⟩) hHeld ?_
    · intro wq hSw
      try dsimp only at hSw
      go_simp
    try simp only [Act.put, List.getElem_toArray, List.getElem_cons_succ, List.getElem_cons_zero, List.setIfInBounds_toArray, List.set_cons_zero, List.set_cons_succ]
    refine wpAnyH_done (by kernel_rfl) ?_ _
    clear hHeld cy gyl
    have sS0 := unhide S0
    replace r1 := r1.set_other (p := ⟨w3.heap.size, 0, none⟩) (by dsimp only; omega) (.slice a3 zq.length c3)
    replace r2 := r2.set_other (p := ⟨w3.heap.size, 0, none⟩) (by dsimp only; omega) (.slice a3 zq.length c3)
    replace r3 := r3.set_other (p := ⟨w3.heap.size, 0, none⟩) (by dsimp only; omega) (.slice a3 zq.length c3)
    replace p0 := cell_aside (.slice a3 zq.length c3) (r := ⟨w3.heap.size, 0, none⟩) (by dsimp only; omega) p0
    replace t0 := cell_aside (.slice a3 zq.length c3) (r := ⟨w3.heap.size, 0, none⟩) (by dsimp only; omega) t0
    replace x0 := cell_aside (.slice a3 zq.length c3) (r := ⟨w3.heap.size, 0, none⟩) (by dsimp only; omega) x0
    replace y0 := cell_aside (.slice a3 zq.length c3) (r := ⟨w3.heap.size, 0, none⟩) (by dsimp only; omega) y0
    replace xf0 : (w5.setCell ⟨w3.heap.size, 0, none⟩ (.slice a3 zq.length c3)).frozen? _ = false := (frozen_set _ _ _ _ _).trans xf0
    replace yf0 : (w5.setCell ⟨w3.heap.size, 0, none⟩ (.slice a3 zq.length c3)).frozen? _ = false := (frozen_set _ _ _ _ _).trans yf0
    replace mf0 : (w5.setCell ⟨w3.heap.size, 0, none⟩ (.slice a3 zq.length c3)).frozen? _ = false := (frozen_set _ _ _ _ _).trans mf0
    replace m0 : (w5.setCell ⟨w3.heap.size, 0, none⟩ (.slice a3 zq.length c3)).cell? ⟨w3.heap.size, 0, none⟩ = some (.slice a3 zq.length c3) := cell_on _ _ _ _ _ m0
    replace K := hide ((unhide K).setNew (p := ⟨w3.heap.size, 0, none⟩) (by dsimp only; omega) (.slice a3 zq.length c3))
    have zs7 : (w5.setCell ⟨w3.heap.size, 0, none⟩ (.slice a3 zq.length c3)).heap.size = w5.heap.size := by simp [World.setCell]
    clear sS0
    generalize w5.setCell ⟨w3.heap.size, 0, none⟩ (.slice a3 zq.length c3) = ws7 at *
    go_wp2_with fail
    have kd := (Kept.refl 0 0 ws7).drew
    replace r1 := r1.kept kd (by omega)
    replace r2 := r2.kept kd (by omega)
    replace r3 := r3.kept kd (by omega)
    replace xf0 := kd.loose0 (World.block_lt_of_cell? _ _ x0) xf0
    replace yf0 := kd.loose0 (World.block_lt_of_cell? _ _ y0) yf0
    replace mf0 := kd.loose0 (World.block_lt_of_cell? _ _ m0) mf0
    replace p0 := kd.cell0 p0
    replace t0 := kd.cell0 t0
    replace x0 := kd.cell0 x0
    replace y0 := kd.cell0 y0
    replace m0 := kd.cell0 m0
    replace K := hide ((unhide K).trans kd)
    have z8 := kd.size
    clear kd
    refine wp_region_held_drew (S := (fun w' => w'.cell? ⟨w3.heap.size, 0, none⟩ = some (.slice a3 zq.length c3))) (by kernel_rfl) ?_ (fun hHeld => ?_)
    · exact m0
    generalize ws7.drew = wd9 at *
    refine wpAnyH_take (i := 0) (oi := _) (v := .agg #[.slice a3 zq.length c3]) rfl (by kernel_rfl) (by kernel_rfl) (by kernel_rfl) (fun _ _ _ h => h) (Or.inl ⟨by rfl, ?_⟩) hHeld ?_
    · intro wq hSw
      try dsimp only at hSw
      go_simp
    try simp only [Act.put, List.getElem_toArray, List.getElem_cons_succ, List.getElem_cons_zero, List.setIfInBounds_toArray, List.set_cons_zero, List.set_cons_succ]
    refine wpAnyH_take (i := 1) (oi := _) (v := .int .i64 (val xs % d)) rfl (by kernel_rfl) (by kernel_rfl) (by kernel_rfl) (fun _ _ _ h => h) (Or.inl ⟨by rfl, ?_⟩) hHeld ?_
    · intro wq hSw
      try dsimp only at hSw
      go_simp
    try simp only [Act.put, List.getElem_toArray, List.getElem_cons_succ, List.getElem_cons_zero, List.setIfInBounds_toArray, List.set_cons_zero, List.set_cons_succ]
    refine wpAnyH_ready (rs := [2]) (by kernel_rfl) (by simp) ?_
    refine AllReadyH.cons rfl (fun KK hK => ?_) AllReadyH.nil
    simp only [List.getElem_toArray, List.getElem_cons_succ, List.getElem_cons_zero]
    rw [if_pos (by rfl)]
    refine wps1 29 (.tmp 28) _ rfl in_l2of (.int .i64 (val xs % d)) rfl (of_spec _ (val xs % d) (by omega)) ?_
    rintro e w10 ⟨v4, rfl, r4, k10⟩
    refine ⟨_, rfl, ?_⟩
    replace r1 := r1.kept k10 (by omega)
    replace r2 := r2.kept k10 (by omega)
    replace r3 := r3.kept k10 (by omega)
    replace xf0 := k10.loose0 (World.block_lt_of_cell? _ _ x0) xf0
    replace yf0 := k10.loose0 (World.block_lt_of_cell? _ _ y0) yf0
    replace mf0 := k10.loose0 (World.block_lt_of_cell? _ _ m0) mf0
    replace p0 := k10.cell0 p0
    replace t0 := k10.cell0 t0
    replace x0 := k10.cell0 x0
    replace y0 := k10.cell0 y0
    replace m0 := k10.cell0 m0
    replace K := hide ((unhide K).trans k10)
    have z11 := k10.size
    clear k10
    rw [← unhide HZR] at r4
    obtain ⟨a4, c4, hv⟩ := Row.form' r4
    subst hv
    clear hHeld
    refine hK.out _ _ ?_ (fun hHeld => ?_)
    · exact m0
    clear hK KK
    try simp only [Act.put, List.getElem_toArray, List.getElem_cons_succ, List.getElem_cons_zero, List.setIfInBounds_toArray, List.set_cons_zero, List.set_cons_succ]
    refine wpAnyH_ready (rs := [3]) (by kernel_rfl) (by simp) ?_
    refine AllReadyH.cons rfl (fun KK hK => ?_) AllReadyH.nil
    simp only [List.getElem_toArray, List.getElem_cons_succ, List.getElem_cons_zero]
    rw [if_pos (by rfl)]
    go_simp
    clear hHeld
    refine hK.out _ _ ?_ (fun hHeld => ?_)
    · exact cell_aside _ (by have := unhide S0; dsimp only; omega) m0
    clear hK KK
    try simp only [Act.put, List.getElem_toArray, List.getElem_cons_succ, List.getElem_cons_zero, List.setIfInBounds_toArray, List.set_cons_zero, List.set_cons_succ]
    have sS0 := unhide S0
    replace r1 := r1.set_other (p := ⟨w.heap.size + 2, 0, none⟩) (by dsimp only; omega) (.slice a3 zq.length c3)
    replace r2 := r2.set_other (p := ⟨w.heap.size + 2, 0, none⟩) (by dsimp only; omega) (.slice a3 zq.length c3)
    replace r3 := r3.set_other (p := ⟨w.heap.size + 2, 0, none⟩) (by dsimp only; omega) (.slice a3 zq.length c3)
    replace r4 := r4.set_other (p := ⟨w.heap.size + 2, 0, none⟩) (by dsimp only; omega) (.slice a3 zq.length c3)
    replace p0 := cell_aside (.slice a3 zq.length c3) (r := ⟨w.heap.size + 2, 0, none⟩) (by dsimp only; omega) p0
    replace t0 := cell_aside (.slice a3 zq.length c3) (r := ⟨w.heap.size + 2, 0, none⟩) (by dsimp only; omega) t0
    replace y0 := cell_aside (.slice a3 zq.length c3) (r := ⟨w.heap.size + 2, 0, none⟩) (by dsimp only; omega) y0
    replace m0 := cell_aside (.slice a3 zq.length c3) (r := ⟨w.heap.size + 2, 0, none⟩) (by dsimp only; omega) m0
    replace xf0 : (w10.setCell ⟨w.heap.size + 2, 0, none⟩ (.slice a3 zq.length c3)).frozen? _ = false := (frozen_set _ _ _ _ _).trans xf0
    replace yf0 : (w10.setCell ⟨w.heap.size + 2, 0, none⟩ (.slice a3 zq.length c3)).frozen? _ = false := (frozen_set _ _ _ _ _).trans yf0
    replace mf0 : (w10.setCell ⟨w.heap.size + 2, 0, none⟩ (.slice a3 zq.length c3)).frozen? _ = false := (frozen_set _ _ _ _ _).trans mf0
    replace x0 : (w10.setCell ⟨w.heap.size + 2, 0, none⟩ (.slice a3 zq.length c3)).cell? ⟨w.heap.size + 2, 0, none⟩ = some (.slice a3 zq.length c3) := cell_on _ _ _ _ _ x0
    replace K := hide ((unhide K).setNew (p := ⟨w.heap.size + 2, 0, none⟩) (by dsimp only; omega) (.slice a3 zq.length c3))
    have zs12 : (w10.setCell ⟨w.heap.size + 2, 0, none⟩ (.slice a3 zq.length c3)).heap.size = w10.heap.size := by simp [World.setCell]
    clear sS0
    generalize w10.setCell ⟨w.heap.size + 2, 0, none⟩ (.slice a3 zq.length c3) = ws12 at *
    refine wpAnyH_ready (rs := [4]) (by kernel_rfl) (by simp) ?_
    refine AllReadyH.cons rfl (fun KK hK => ?_) AllReadyH.nil
    simp only [List.getElem_toArray, List.getElem_cons_succ, List.getElem_cons_zero]
    rw [if_pos (by rfl)]
    go_simp
    clear hHeld
    refine hK.out _ _ ?_ (fun hHeld => ?_)
    · exact cell_aside _ (by have := unhide S0; dsimp only; omega) m0
    clear hK KK
    try simp only [Act.put, List.getElem_toArray, List.getElem_cons_succ, List.getElem_cons_zero, List.setIfInBounds_toArray, List.set_cons_zero, List.set_cons_succ]
    have sS0 := unhide S0
    replace r1 := r1.set_other (p := ⟨w.heap.size + 3, 0, none⟩) (by dsimp only; omega) (.slice a4 zr.length c4)
    replace r2 := r2.set_other (p := ⟨w.heap.size + 3, 0, none⟩) (by dsimp only; omega) (.slice a4 zr.length c4)
    replace r3 := r3.set_other (p := ⟨w.heap.size + 3, 0, none⟩) (by dsimp only; omega) (.slice a4 zr.length c4)
    replace r4 := r4.set_other (p := ⟨w.heap.size + 3, 0, none⟩) (by dsimp only; omega) (.slice a4 zr.length c4)
    replace p0 := cell_aside (.slice a4 zr.length c4) (r := ⟨w.heap.size + 3, 0, none⟩) (by dsimp only; omega) p0
    replace t0 := cell_aside (.slice a4 zr.length c4) (r := ⟨w.heap.size + 3, 0, none⟩) (by dsimp only; omega) t0
    replace x0 := cell_aside (.slice a4 zr.length c4) (r := ⟨w.heap.size + 3, 0, none⟩) (by dsimp only; omega) x0
    replace m0 := cell_aside (.slice a4 zr.length c4) (r := ⟨w.heap.size + 3, 0, none⟩) (by dsimp only; omega) m0
    replace xf0 : (ws12.setCell ⟨w.heap.size + 3, 0, none⟩ (.slice a4 zr.length c4)).frozen? _ = false := (frozen_set _ _ _ _ _).trans xf0
    replace yf0 : (ws12.setCell ⟨w.heap.size + 3, 0, none⟩ (.slice a4 zr.length c4)).frozen? _ = false := (frozen_set _ _ _ _ _).trans yf0
    replace mf0 : (ws12.setCell ⟨w.heap.size + 3, 0, none⟩ (.slice a4 zr.length c4)).frozen? _ = false := (frozen_set _ _ _ _ _).trans mf0
    replace y0 : (ws12.setCell ⟨w.heap.size + 3, 0, none⟩ (.slice a4 zr.length c4)).cell? ⟨w.heap.size + 3, 0, none⟩ = some (.slice a4 zr.length c4) := cell_on _ _ _ _ _ y0
    replace K := hide ((unhide K).setNew (p := ⟨w.heap.size + 3, 0, none⟩) (by dsimp only; omega) (.slice a4 zr.length c4))
    have zs13 : (ws12.setCell ⟨w.heap.size + 3, 0, none⟩ (.slice a4 zr.length c4)).heap.size = ws12.heap.size := by simp [World.setCell]
    clear sS0
    generalize ws12.setCell ⟨w.heap.size + 3, 0, none⟩ (.slice a4 zr.length c4) = ws13 at *
    refine wpAnyH_done (by kernel_rfl) ?_ _
    clear hHeld
    have R1 := hide (r3.tight.wider (lo' := w.heap.size) (by have := unhide S0; omega) (Nat.le_refl _))
    have R2 := hide (r4.tight.wider (lo' := w.heap.size) (by have := unhide S0; omega) (Nat.le_refl _))
    clear r1 r2 r3 r4
    go_wp2_with fail
    exact bodyPost_ret (v := .tuple #[.agg #[.slice a3 zq.length c3], .agg #[.slice a4 zr.length c4]]) (by simp [results, Tryd.results35, go_sem, x0, y0]) rfl ⟨_, _, rfl, unhide R1, unhide R2, unhide K⟩
  · simp only [List.getElem_toArray, List.getElem_cons_succ, List.getElem_cons_zero]
    rw [if_pos (by rfl)]
    go_simp
    have kn := (Kept.refl 0 0 wd2).alloc (.cells #[.slice none 0 0] 37)
    replace r1 := r1.kept kn (by omega)
    replace r2 := r2.kept kn (by omega)
    replace xf0 := kn.loose0 (World.block_lt_of_cell? _ _ x0) xf0
    replace yf0 := kn.loose0 (World.block_lt_of_cell? _ _ y0) yf0
    replace p0 := kn.cell0 p0
    replace t0 := kn.cell0 t0
    replace x0 := kn.cell0 x0
    replace y0 := kn.cell0 y0
    replace cy := kn.cell0 cy
    replace K := hide ((unhide K).trans kn)
    have z4 := kn.size
    clear kn
    have szm : wd2.heap.size < (wd2.alloc (.cells #[.slice none 0 0] 37)).heap.size := by simp
    have m0 : (wd2.alloc (.cells #[.slice none 0 0] 37)).cell? ⟨wd2.heap.size, 0, none⟩ = some (.slice none 0 0) := new_cell2 _ _ _ _ _ _ rfl rfl
    have mf0 : (wd2.alloc (.cells #[.slice none 0 0] 37)).frozen? ⟨wd2.heap.size, 0, none⟩ = false := new_loose2 _ _ _ _ _ rfl
    clear hHeld
    refine hK.out _ _ ?_ (fun hHeld => ?_)
    · exact ⟨p0, t0, cy⟩
    clear hK KK
    try simp only [Act.put, List.getElem_toArray, List.getElem_cons_succ, List.getElem_cons_zero, List.setIfInBounds_toArray, List.set_cons_zero, List.set_cons_succ]
    generalize wd2.alloc (.cells #[.slice none 0 0] 37) = w3 at *
    refine wpAnyH_ready (rs := [5]) (by kernel_rfl) (by simp) ?_
    refine AllReadyH.cons rfl (fun KK hK => ?_) AllReadyH.nil
    simp only [List.getElem_toArray, List.getElem_cons_succ, List.getElem_cons_zero]
    rw [if_pos (by rfl)]
    refine wps2 53 (.tmp 19) (.tmp 23) _ rfl in_l2small (.agg #[.slice a1 xs.length c1]) (.int .i64 d) rfl rfl (small_spec _ r1 hx nx d h0 (by omega)) ?_
    rintro e w5 ⟨v3, rfl, r3, k5⟩
    refine ⟨_, rfl, ?_⟩
    replace r1 := r1.kept k5 (by omega)
    replace r2 := r2.kept k5 (by omega)
    replace xf0 := k5.loose0 (World.block_lt_of_cell? _ _ x0) xf0
    replace yf0 := k5.loose0 (World.block_lt_of_cell? _ _ y0) yf0
    replace mf0 := k5.loose0 (World.block_lt_of_cell? _ _ m0) mf0
    replace p0 := k5.cell0 p0
    replace t0 := k5.cell0 t0
    replace x0 := k5.cell0 x0
    replace y0 := k5.cell0 y0
    replace cy := k5.cell0 cy
    replace m0 := k5.cell0 m0
    replace K := hide ((unhide K).trans k5)
    have z6 := k5.size
    clear k5
    rw [← unhide HZQ] at r3
    obtain ⟨a3, c3, hv⟩ := Row.form' r3
    subst hv
    clear hHeld
    refine hK.out _ _ ?_ (fun hHeld => ?_)
    · exact ⟨p0, t0, cy⟩
    clear hK KK
    try simp only [Act.put, List.getElem_toArray, List.getElem_cons_succ, List.getElem_cons_zero, List.setIfInBounds_toArray, List.set_cons_zero, List.set_cons_succ]
    refine wpAnyH_take (i := 6) (oi := _) (v := .tuple #[.agg #[.slice a3 zq.length c3], .int .i64 (val xs % d)]) rfl (by kernel_rfl) (by kernel_rfl) (by kernel_rfl) (fun _ _ _ h => h) (Or.inl ⟨by rfl, ?_⟩) hHeld ?_
    · intro wq hSw
      try dsimp only at hSw
      go_simp
    try simp only [Act.put, List.getElem_toArray, List.getElem_cons_succ, List.getElem_cons_zero, List.setIfInBounds_toArray, List.set_cons_zero, List.set_cons_succ]
    refine wpAnyH_take (i := 7) (oi := _) (v := .agg #[.slice a3 zq.length c3]) rfl (by kernel_rfl) (by kernel_rfl) (by kernel_rfl) (fun _ _ _ h => h) (Or.inl ⟨by rfl, ?_⟩) hHeld ?_
    · intro wq hSw
      try dsimp only at hSw
      go_simp
    try simp only [Act.put, List.getElem_toArray, List.getElem_cons_succ, List.getElem_cons_zero, List.setIfInBounds_toArray, List.set_cons_zero, List.set_cons_succ]
    refine wpAnyH_take (i := 8) (oi := _) (v := .int .i64 (val xs % d)) rfl (by kernel_rfl) (by kernel_rfl) (by kernel_rfl) (fun _ _ _ h => h) (Or.inl ⟨by rfl, ?_⟩) hHeld ?_
    · intro wq hSw
      try dsimp only at hSw
      go_simp
    try simp only [Act.put, List.getElem_toArray, List.getElem_cons_succ, List.getElem_cons_zero, List.setIfInBounds_toArray, List.set_cons_zero, List.set_cons_succ]
    refine wpAnyH_ready (rs := [10]) (by kernel_rfl) (by simp) ?_
    refine AllReadyH.cons rfl (fun KK hK => ?_) AllReadyH.nil
    simp only [List.getElem_toArray, List.getElem_cons_succ, List.getElem_cons_zero]
    rw [if_pos (by rfl)]
    go_simp
    clear hHeld
    refine hK.out _ _ ?_ (fun hHeld => ?_)
    · exact ⟨(cell_aside _ (by have := unhide S0; dsimp only; omega) (p0)), (cell_aside _ (by have := unhide S0; dsimp only; omega) (t0)), (cell_aside _ (by have := unhide S0; dsimp only; omega) (cy))⟩
    clear hK KK
    try simp only [Act.put, List.getElem_toArray, List.getElem_cons_succ, List.getElem_cons_zero, List.setIfInBounds_toArray, List.set_cons_zero, List.set_cons_succ]
    refine wpAnyH_take (i := 11) (oi := _) (v := .int .i64 (val xs % d)) rfl (by kernel_rfl) (by kernel_rfl) (by kernel_rfl) (fun _ _ _ h => h) (Or.inl ⟨by rfl, ?_⟩) hHeld ?_
    · intro wq hSw
      try dsimp only at hSw
      go_simp
    try simp only [Act.put, List.getElem_toArray, List.getElem_cons_succ, List.getElem_cons_zero, List.setIfInBounds_toArray, List.set_cons_zero, List.set_cons_succ]
    refine wpAnyH_done (by kernel_rfl) ?_ _
    clear hHeld cy gyl
    have sS0 := unhide S0
    replace r1 := r1.set_other (p := ⟨wd2.heap.size, 0, none⟩) (by dsimp only; omega) (.slice a3 zq.length c3)
    replace r2 := r2.set_other (p := ⟨wd2.heap.size, 0, none⟩) (by dsimp only; omega) (.slice a3 zq.length c3)
    replace r3 := r3.set_other (p := ⟨wd2.heap.size, 0, none⟩) (by dsimp only; omega) (.slice a3 zq.length c3)
    replace p0 := cell_aside (.slice a3 zq.length c3) (r := ⟨wd2.heap.size, 0, none⟩) (by dsimp only; omega) p0
    replace t0 := cell_aside (.slice a3 zq.length c3) (r := ⟨wd2.heap.size, 0, none⟩) (by dsimp only; omega) t0
    replace x0 := cell_aside (.slice a3 zq.length c3) (r := ⟨wd2.heap.size, 0, none⟩) (by dsimp only; omega) x0
    replace y0 := cell_aside (.slice a3 zq.length c3) (r := ⟨wd2.heap.size, 0, none⟩) (by dsimp only; omega) y0
    replace xf0 : (w5.setCell ⟨wd2.heap.size, 0, none⟩ (.slice a3 zq.length c3)).frozen? _ = false := (frozen_set _ _ _ _ _).trans xf0
    replace yf0 : (w5.setCell ⟨wd2.heap.size, 0, none⟩ (.slice a3 zq.length c3)).frozen? _ = false := (frozen_set _ _ _ _ _).trans yf0
    replace mf0 : (w5.setCell ⟨wd2.heap.size, 0, none⟩ (.slice a3 zq.length c3)).frozen? _ = false := (frozen_set _ _ _ _ _).trans mf0
    replace m0 : (w5.setCell ⟨wd2.heap.size, 0, none⟩ (.slice a3 zq.length c3)).cell? ⟨wd2.heap.size, 0, none⟩ = some (.slice a3 zq.length c3) := cell_on _ _ _ _ _ m0
    replace K := hide ((unhide K).setNew (p := ⟨wd2.heap.size, 0, none⟩) (by dsimp only; omega) (.slice a3 zq.length c3))
    have zs7 : (w5.setCell ⟨wd2.heap.size, 0, none⟩ (.slice a3 zq.length c3)).heap.size = w5.heap.size := by simp [World.setCell]
    clear sS0
    generalize w5.setCell ⟨wd2.heap.size, 0, none⟩ (.slice a3 zq.length c3) = ws7 at *
    go_wp2_with fail
    have kd := (Kept.refl 0 0 ws7).drew
    replace r1 := r1.kept kd (by omega)
    replace r2 := r2.kept kd (by omega)
    replace r3 := r3.kept kd (by omega)
    replace xf0 := kd.loose0 (World.block_lt_of_cell? _ _ x0) xf0
    replace yf0 := kd.loose0 (World.block_lt_of_cell? _ _ y0) yf0
    replace mf0 := kd.loose0 (World.block_lt_of_cell? _ _ m0) mf0
    replace p0 := kd.cell0 p0
    replace t0 := kd.cell0 t0
    replace x0 := kd.cell0 x0
    replace y0 := kd.cell0 y0
    replace m0 := kd.cell0 m0
    replace K := hide ((unhide K).trans kd)
    have z8 := kd.size
    clear kd
    refine wp_region_held_drew (S := (fun w' => w'.cell? ⟨wd2.heap.size, 0, none⟩ = some (.slice a3 zq.length c3))) (by kernel_rfl) ?_ (fun hHeld => ?_)
    · exact m0
    generalize ws7.drew = wd9 at *
    refine wpAnyH_take (i := 0) (oi := _) (v := .agg #[.slice a3 zq.length c3]) rfl (by kernel_rfl) (by kernel_rfl) (by kernel_rfl) (fun _ _ _ h => h) (Or.inl ⟨by rfl, ?_⟩) hHeld ?_
    · intro wq hSw
      try dsimp only at hSw
      go_simp
    try simp only [Act.put, List.getElem_toArray, List.getElem_cons_succ, List.getElem_cons_zero, List.setIfInBounds_toArray, List.set_cons_zero, List.set_cons_succ]
    refine wpAnyH_take (i := 1) (oi := _) (v := .int .i64 (val xs % d)) rfl (by kernel_rfl) (by kernel_rfl) (by kernel_rfl) (fun _ _ _ h => h) (Or.inl ⟨by rfl, ?_⟩) hHeld ?_
    · intro wq hSw
      try dsimp only at hSw
      go_simp
    try simp only [Act.put, List.getElem_toArray, List.getElem_cons_succ, List.getElem_cons_zero, List.setIfInBounds_toArray, List.set_cons_zero, List.set_cons_succ]
    refine wpAnyH_ready (rs := [2]) (by kernel_rfl) (by simp) ?_
    refine AllReadyH.cons rfl (fun KK hK => ?_) AllReadyH.nil
    simp only [List.getElem_toArray, List.getElem_cons_succ, List.getElem_cons_zero]
    rw [if_pos (by rfl)]
    refine wps1 29 (.tmp 28) _ rfl in_l2of (.int .i64 (val xs % d)) rfl (of_spec _ (val xs % d) (by omega)) ?_
    rintro e w10 ⟨v4, rfl, r4, k10⟩
    refine ⟨_, rfl, ?_⟩
    replace r1 := r1.kept k10 (by omega)
    replace r2 := r2.kept k10 (by omega)
    replace r3 := r3.kept k10 (by omega)
    replace xf0 := k10.loose0 (World.block_lt_of_cell? _ _ x0) xf0
    replace yf0 := k10.loose0 (World.block_lt_of_cell? _ _ y0) yf0
    replace mf0 := k10.loose0 (World.block_lt_of_cell? _ _ m0) mf0
    replace p0 := k10.cell0 p0
    replace t0 := k10.cell0 t0
    replace x0 := k10.cell0 x0
    replace y0 := k10.cell0 y0
    replace m0 := k10.cell0 m0
    replace K := hide ((unhide K).trans k10)
    have z11 := k10.size
    clear k10
    rw [← unhide HZR] at r4
    obtain ⟨a4, c4, hv⟩ := Row.form' r4
    subst hv
    clear hHeld
    refine hK.out _ _ ?_ (fun hHeld => ?_)
    · exact m0
    clear hK KK
    try simp only [Act.put, List.getElem_toArray, List.getElem_cons_succ, List.getElem_cons_zero, List.setIfInBounds_toArray, List.set_cons_zero, List.set_cons_succ]
    refine wpAnyH_ready (rs := [3]) (by kernel_rfl) (by simp) ?_
    refine AllReadyH.cons rfl (fun KK hK => ?_) AllReadyH.nil
    simp only [List.getElem_toArray, List.getElem_cons_succ, List.getElem_cons_zero]
    rw [if_pos (by rfl)]
    go_simp
    clear hHeld
    refine hK.out _ _ ?_ (fun hHeld => ?_)
    · exact cell_aside _ (by have := unhide S0; dsimp only; omega) m0
    clear hK KK
    try simp only [Act.put, List.getElem_toArray, List.getElem_cons_succ, List.getElem_cons_zero, List.setIfInBounds_toArray, List.set_cons_zero, List.set_cons_succ]
    have sS0 := unhide S0
    replace r1 := r1.set_other (p := ⟨w.heap.size + 2, 0, none⟩) (by dsimp only; omega) (.slice a3 zq.length c3)
    replace r2 := r2.set_other (p := ⟨w.heap.size + 2, 0, none⟩) (by dsimp only; omega) (.slice a3 zq.length c3)
    replace r3 := r3.set_other (p := ⟨w.heap.size + 2, 0, none⟩) (by dsimp only; omega) (.slice a3 zq.length c3)
    replace r4 := r4.set_other (p := ⟨w.heap.size + 2, 0, none⟩) (by dsimp only; omega) (.slice a3 zq.length c3)
    replace p0 := cell_aside (.slice a3 zq.length c3) (r := ⟨w.heap.size + 2, 0, none⟩) (by dsimp only; omega) p0
    replace t0 := cell_aside (.slice a3 zq.length c3) (r := ⟨w.heap.size + 2, 0, none⟩) (by dsimp only; omega) t0
    replace y0 := cell_aside (.slice a3 zq.length c3) (r := ⟨w.heap.size + 2, 0, none⟩) (by dsimp only; omega) y0
    replace m0 := cell_aside (.slice a3 zq.length c3) (r := ⟨w.heap.size + 2, 0, none⟩) (by dsimp only; omega) m0
    replace xf0 : (w10.setCell ⟨w.heap.size + 2, 0, none⟩ (.slice a3 zq.length c3)).frozen? _ = false := (frozen_set _ _ _ _ _).trans xf0
    replace yf0 : (w10.setCell ⟨w.heap.size + 2, 0, none⟩ (.slice a3 zq.length c3)).frozen? _ = false := (frozen_set _ _ _ _ _).trans yf0
    replace mf0 : (w10.setCell ⟨w.heap.size + 2, 0, none⟩ (.slice a3 zq.length c3)).frozen? _ = false := (frozen_set _ _ _ _ _).trans mf0
    replace x0 : (w10.setCell ⟨w.heap.size + 2, 0, none⟩ (.slice a3 zq.length c3)).cell? ⟨w.heap.size + 2, 0, none⟩ = some (.slice a3 zq.length c3) := cell_on _ _ _ _ _ x0
    replace K := hide ((unhide K).setNew (p := ⟨w.heap.size + 2, 0, none⟩) (by dsimp only; omega) (.slice a3 zq.length c3))
    have zs12 : (w10.setCell ⟨w.heap.size + 2, 0, none⟩ (.slice a3 zq.length c3)).heap.size = w10.heap.size := by simp [World.setCell]
    clear sS0
    generalize w10.setCell ⟨w.heap.size + 2, 0, none⟩ (.slice a3 zq.length c3) = ws12 at *
    refine wpAnyH_ready (rs := [4]) (by kernel_rfl) (by simp) ?_
    refine AllReadyH.cons rfl (fun KK hK => ?_) AllReadyH.nil
    simp only [List.getElem_toArray, List.getElem_cons_succ, List.getElem_cons_zero]
    rw [if_pos (by rfl)]
    go_simp
    clear hHeld
    refine hK.out _ _ ?_ (fun hHeld => ?_)
    · exact cell_aside _ (by have := unhide S0; dsimp only; omega) m0
    clear hK KK
    try simp only [Act.put, List.getElem_toArray, List.getElem_cons_succ, List.getElem_cons_zero, List.setIfInBounds_toArray, List.set_cons_zero, List.set_cons_succ]
    have sS0 := unhide S0
    replace r1 := r1.set_other (p := ⟨w.heap.size + 3, 0, none⟩) (by dsimp only; omega) (.slice a4 zr.length c4)
    replace r2 := r2.set_other (p := ⟨w.heap.size + 3, 0, none⟩) (by dsimp only; omega) (.slice a4 zr.length c4)
    replace r3 := r3.set_other (p := ⟨w.heap.size + 3, 0, none⟩) (by dsimp only; omega) (.slice a4 zr.length c4)
    replace r4 := r4.set_other (p := ⟨w.heap.size + 3, 0, none⟩) (by dsimp only; omega) (.slice a4 zr.length c4)
    replace p0 := cell_aside (.slice a4 zr.length c4) (r := ⟨w.heap.size + 3, 0, none⟩) (by dsimp only; omega) p0
    replace t0 := cell_aside (.slice a4 zr.length c4) (r := ⟨w.heap.size + 3, 0, none⟩) (by dsimp only; omega) t0
    replace x0 := cell_aside (.slice a4 zr.length c4) (r := ⟨w.heap.size + 3, 0, none⟩) (by dsimp only; omega) x0
    replace m0 := cell_aside (.slice a4 zr.length c4) (r := ⟨w.heap.size + 3, 0, none⟩) (by dsimp only; omega) m0
    replace xf0 : (ws12.setCell ⟨w.heap.size + 3, 0, none⟩ (.slice a4 zr.length c4)).frozen? _ = false := (frozen_set _ _ _ _ _).trans xf0
    replace yf0 : (ws12.setCell ⟨w.heap.size + 3, 0, none⟩ (.slice a4 zr.length c4)).frozen? _ = false := (frozen_set _ _ _ _ _).trans yf0
    replace mf0 : (ws12.setCell ⟨w.heap.size + 3, 0, none⟩ (.slice a4 zr.length c4)).frozen? _ = false := (frozen_set _ _ _ _ _).trans mf0
    replace y0 : (ws12.setCell ⟨w.heap.size + 3, 0, none⟩ (.slice a4 zr.length c4)).cell? ⟨w.heap.size + 3, 0, none⟩ = some (.slice a4 zr.length c4) := cell_on _ _ _ _ _ y0
    replace K := hide ((unhide K).setNew (p := ⟨w.heap.size + 3, 0, none⟩) (by dsimp only; omega) (.slice a4 zr.length c4))
    have zs13 : (ws12.setCell ⟨w.heap.size + 3, 0, none⟩ (.slice a4 zr.length c4)).heap.size = ws12.heap.size := by simp [World.setCell]
    clear sS0
    generalize ws12.setCell ⟨w.heap.size + 3, 0, none⟩ (.slice a4 zr.length c4) = ws13 at *
    refine wpAnyH_done (by kernel_rfl) ?_ _
    clear hHeld
    have R1 := hide (r3.tight.wider (lo' := w.heap.size) (by have := unhide S0; omega) (Nat.le_refl _))
    have R2 := hide (r4.tight.wider (lo' := w.heap.size) (by have := unhide S0; omega) (Nat.le_refl _))
    clear r1 r2 r3 r4
    go_wp2_with fail
    exact bodyPost_ret (v := .tuple #[.agg #[.slice a3 zq.length c3], .agg #[.slice a4 zr.length c4]]) (by simp [results, Tryd.results35, go_sem, x0, y0]) rfl ⟨_, _, rfl, unhide R1, unhide R2, unhide K⟩

end Go.Proofs.YtflpkblmcnkghaaDoor

namespace Go.Proofs.YtflpkblmcnkghaaDoor
open Go.RowKit
set_option linter.unusedVariables false
set_option maxRecDepth 8000
set_option linter.unusedSimpArgs false

/-- A row appended to one limb that was written out. -/
theorem wp_append_row {o : Oper} {a : Act} {K : Act → World → Prop} {Q : Exit → Act → World → Prop} {W w : World} {b g lo hi : Nat} {bw : Bool} {z : Int} {v : Value} {zs : List Int} (s x : Operand)
    (ho : o.op = .call { callee := .builtin .append, args := #[s, x], argTypes := #[35, 35] }) (hs : a.eval s = .slice (some ⟨g, 0, none⟩) 1 1) (hx : a.eval x = v)
    (hown : w.ownsRow b 3 1 (.slice (some ⟨g, 0, none⟩) 1 1) 1 ([z].map (Value.int .i64))) (r : Row .i64 bw lo hi w v zs) (hn : zs.length ≤ 200000) (hb : b ≤ w.heap.size) (kW : Kept 0 0 W w) (hg : W.heap.size ≤ g)
    (h : ∀ v' w', Row .i64 true b w'.heap.size w' v' (z :: zs) → Kept 0 0 W w' → K (a.put o.dst v') w') : Oper.wp Tryd.prog o a w K Q := by
  obtain ⟨i0, hi0, hz0, hz1, hz2⟩ := info_parts Tryd.info3'
  by_cases hz : zs = []
  · subst hz
    obtain ⟨a0, c0, rfl⟩ := Row.form' r
    refine Lib.wp_append_run w s x 35 35 ho _ _ hs hx _ _ (run_append_zero w _ _ 3 i0 Tryd.underlying35 hi0 _ _ 1 1 c0 (Nat.le_refl _)) ?_
    exact h _ _ (Row.own hown) kW
  · obtain ⟨g1, off, c', hv, -, -, hnews⟩ := r.news hz
    subst hv
    refine wp_append_own w s x 35 ho b 3 i0 (.int .i64 0) 1 8 Tryd.underlying35 hi0 hz0 hz1 hz2 rfl (by decide) _ 1 _ hs hown ⟨g1, off, none⟩ zs.length c' (zs.map (Value.int .i64)) hx (by simp) hnews (ints_one _ _) (by unfold maxLen; omega) (by omega) hb ?_
    intro v' w' hown' hgrow _
    refine h v' w' ?_ (kW.growNew hgrow (fun q hq => by simp [Value.ownBlock] at hq; omega))
    have e : ([z].map (Value.int .i64)) ++ zs.map (Value.int .i64) = (z :: zs).map (Value.int .i64) := by simp
    rw [e] at hown'
    exact Row.own hown'

/-- The state of the long division: the quotient's limbs, and what is left. -/
structure DivSt (W wr : World) (X M : Nat) (out : List Int) (R : Nat) : Prop where
  own : wr.ownsRow W.heap.size 3 1 (.slice (some ⟨W.heap.size, 0, none⟩) M M) M (out.map (Value.int .i64))
  len : out.length = M
  rest : ∃ v, wr.cell? ⟨X, 0, none⟩ = some v ∧ Row .i64 true (X + 1) wr.heap.size wr v (limbs R)
  loose : wr.frozen? ⟨X, 0, none⟩ = false
  gx : W.heap.size < X
  k : Kept 0 0 W wr

theorem DivSt.kept {W wr w' : World} {X M R : Nat} {out : List Int} (s : DivSt W wr X M out R) (k : Kept 0 0 wr w') : DivSt W w' X M out R := by
  obtain ⟨v, c, r⟩ := s.rest
  have l := World.block_lt_of_cell? _ _ c
  exact ⟨own_kept s.own k, s.len, ⟨v, k.cell0 c, (r.kept k (by omega)).tight⟩, k.loose0 l s.loose, s.gx, s.k.trans k⟩
theorem DivSt.put {W wr : World} {X M R : Nat} {out : List Int} (s : DivSt W wr X M out R) (j : Nat) (z : Int) : DivSt W (wr.setCell ⟨W.heap.size, j, none⟩ (.int .i64 z)) X M (out.set j z) R := by
  obtain ⟨v, c, r⟩ := s.rest
  have hg := s.gx
  have ho := s.own
  have hl := s.len
  subst hl
  refine ⟨by have := own_set ho j z; simpa using this, by simp, ⟨v, cell_aside _ (p := ⟨X, 0, none⟩) (r := ⟨W.heap.size, j, none⟩) (by dsimp only; omega) c, ?_⟩, by rw [frozen_set]; exact s.loose, s.gx, s.k.setNew (p := ⟨W.heap.size, j, none⟩) (Nat.le_refl _) _⟩
  exact (r.set_other (p := ⟨W.heap.size, j, none⟩) (.inl (by dsimp only; omega)) _).tight
theorem DivSt.again {W wr : World} {X M R R' b hi : Nat} {out : List Int} {v : Value} (s : DivSt W wr X M out R) (r : Row .i64 true b hi wr v (limbs R')) (hb : X < b) : DivSt W (wr.setCell ⟨X, 0, none⟩ v) X M out R' := by
  obtain ⟨v0, c, -⟩ := s.rest
  have hg := s.gx
  refine ⟨own_apart s.own (p := ⟨X, 0, none⟩) (by simp [Value.ownBlock]; omega) _, s.len, ⟨v, cell_on _ _ _ _ _ c, ?_⟩, by rw [frozen_set]; exact s.loose, s.gx, s.k.setNew (p := ⟨X, 0, none⟩) (by dsimp only; omega) _⟩
  exact ((r.set_other (p := ⟨X, 0, none⟩) (.inl hb) v).tight.wider (by omega) (Nat.le_refl _))

theorem limbs_len_mono {a b : Nat} (h : a ≤ b) : (limbs a).length ≤ (limbs b).length := (limbs_length_le a _).2 (by
  have := (limbs_length_le b (limbs b).length).1 (Nat.le_refl _)
  omega)
theorem div_digit (xs out : List Int) (j : Nat) (Y R d R' : Int) (hj : j < out.length) (h : val (xs.drop (j + 1)) = val (out.drop (j + 1)) * Y + R) (hd : xs.getD j 0 + 65536 * R = d * Y + R') :
    val (xs.drop j) = val ((out.set j d).drop j) * Y + R' := by
  rw [val_drop xs j, h, set_drop out j d hj, Int.add_mul, Int.mul_add]
  have : 65536 * (val (out.drop (j + 1)) * Y) = 65536 * val (out.drop (j + 1)) * Y := by rw [Int.mul_assoc]
  omega

set_option maxHeartbeats 8000000 in
theorem div_many {b1 b2 : Bool} {l1 h1' l2 h2 : Nat} {v1 v2 : Value} {xs ys : List Int} (w : World) (r1 : Row .i64 b1 l1 h1' w v1 xs) (r2 : Row .i64 b2 l2 h2 w v2 ys) (hx : Lim xs) (hy : Nrm ys) (nx : xs.length ≤ 50000) (ny : ys.length ≤ 50000) (h1 : ys.length ≠ 1) (h0 : 0 < val ys) :
    Calls Tryd.prog 35 #[.agg #[v1], .agg #[v2]] w fun e w' => ∃ vq vr, e = .returned (.tuple #[.agg #[vq], .agg #[vr]]) ∧ Row .i64 true w.heap.size w'.heap.size w' vq (limbs (val xs / val ys).toNat) ∧ Row .i64 true w.heap.size w'.heap.size w' vr (limbs (val xs % val ys).toNat) ∧ Kept 0 0 w w' := by
  replace r1 := r1.tight
  replace r2 := r2.tight
  obtain ⟨Mx, hM⟩ : ∃ M, M = xs.length := ⟨_, rfl⟩
  obtain ⟨Y, hY⟩ : ∃ Y, Y = val ys := ⟨_, rfl⟩
  rw [← hY]
  rw [← hY] at h0
  have HY := hide hY
  clear hY
  have hr0 := r1.len
  have k0 : Kept 0 0 w ((((w.alloc (.cells #[v1] 37)).alloc (.cells #[v2] 37)).alloc (.cells #[.slice none 0 0] 37)).alloc (.cells #[.slice none 0 0] 37)) := (((((Kept.refl 0 0 w).alloc (.cells #[v1] 37)).alloc (.cells #[v2] 37)).alloc (.cells #[.slice none 0 0] 37)).alloc (.cells #[.slice none 0 0] 37))
  have p0 : ((((w.alloc (.cells #[v1] 37)).alloc (.cells #[v2] 37)).alloc (.cells #[.slice none 0 0] 37)).alloc (.cells #[.slice none 0 0] 37)).cell? ⟨w.heap.size, 0, none⟩ = some (v1) := old_cell _ (old_cell _ (old_cell _ (new_cell2 _ _ _ _ _ _ (by simp) rfl)))
  have t0 : ((((w.alloc (.cells #[v1] 37)).alloc (.cells #[v2] 37)).alloc (.cells #[.slice none 0 0] 37)).alloc (.cells #[.slice none 0 0] 37)).cell? ⟨w.heap.size + 1, 0, none⟩ = some (v2) := old_cell _ (old_cell _ (new_cell2 _ _ _ _ _ _ (by simp) rfl))
  have x0 : ((((w.alloc (.cells #[v1] 37)).alloc (.cells #[v2] 37)).alloc (.cells #[.slice none 0 0] 37)).alloc (.cells #[.slice none 0 0] 37)).cell? ⟨w.heap.size + 2, 0, none⟩ = some (.slice none 0 0) := old_cell _ (new_cell2 _ _ _ _ _ _ (by simp) rfl)
  have xf0 : ((((w.alloc (.cells #[v1] 37)).alloc (.cells #[v2] 37)).alloc (.cells #[.slice none 0 0] 37)).alloc (.cells #[.slice none 0 0] 37)).frozen? ⟨w.heap.size + 2, 0, none⟩ = false := loose_old (by simp <;> omega) (new_loose2 _ _ _ _ _ (by simp))
  have y0 : ((((w.alloc (.cells #[v1] 37)).alloc (.cells #[v2] 37)).alloc (.cells #[.slice none 0 0] 37)).alloc (.cells #[.slice none 0 0] 37)).cell? ⟨w.heap.size + 3, 0, none⟩ = some (.slice none 0 0) := new_cell2 _ _ _ _ _ _ (by simp) rfl
  have yf0 : ((((w.alloc (.cells #[v1] 37)).alloc (.cells #[v2] 37)).alloc (.cells #[.slice none 0 0] 37)).alloc (.cells #[.slice none 0 0] 37)).frozen? ⟨w.heap.size + 3, 0, none⟩ = false := new_loose2 _ _ _ _ _ (by simp)
  replace r1 := r1.kept k0 (by omega)
  replace r2 := r2.kept k0 (by omega)
  have s0 : ((((w.alloc (.cells #[v1] 37)).alloc (.cells #[v2] 37)).alloc (.cells #[.slice none 0 0] 37)).alloc (.cells #[.slice none 0 0] 37)).heap.size = w.heap.size + 4 := by simp
  have K := hide (k0)
  clear k0
  have S0 := hide s0
  clear s0
  obtain ⟨a1, c1, hv⟩ := Row.form' r1
  rw [← hM] at hv
  subst hv
  obtain ⟨a2, c2, hv⟩ := Row.form' r2
  subst hv
  have nM : Mx ≤ 50000 := by omega
  have HM := hide hM
  clear hM hr0
  have h1' : ((ys.length : Int) == 1) = false := beq_eq_false_iff_ne.2 (by omega)
  go_enter Tryd.func35, Tryd.ntmps35
  go_upto_region 4 with fail
  generalize ((((w.alloc (.cells #[.slice a1 Mx c1] 37)).alloc (.cells #[.slice a2 ys.length c2] 37)).alloc (.cells #[.slice none 0 0] 37)).alloc (.cells #[.slice none 0 0] 37)) = W at *
  obtain ⟨i0, hi0, hz0, hz1, hz2⟩ := info_parts Tryd.info3'
  have hb0 : i0.bytes * Mx ≤ 281474976710656 := by rw [hz2]; omega
  have hm0 : Mx ≤ maxLen := by unfold maxLen; omega
  have P0 := hide p0
  have T0 := hide t0
  have X0 := hide (And.intro x0 xf0)
  have Y0 := hide (And.intro y0 yf0)
  have R1 := hide r1
  have R2 := hide r2
  clear t0 x0 xf0 y0 yf0 r1 r2
  go_wp2_with (at_make; refine wpList_make_full _ rfl _ _ 35 rfl W.heap.size 3 i0 (.int .i64 0) 1 Tryd.underlying35 hi0 hz0 hz1 .i64 .i64 _ _ Mx rfl rfl rfl rfl hb0 hm0 (Nat.le_refl _) ?_)
  intro w1 hown hgrow
  rw [show (madeCells #[Value.int IntKind.i64 0] Mx).toList = (List.replicate Mx (0 : Int)).map (Value.int .i64) from by have := made_zero .i64 Mx; simpa [Value.cells] using this] at hown
  have kn : Kept 0 0 W w1 := ⟨hgrow.os, hgrow.tape, hgrow.output, hgrow.size, fun i hi _ => hgrow.block i hi (by simp)⟩
  replace p0 := kn.cell0 p0
  have l1 := hown.lt W.heap.size rfl
  have st0 : DivSt W (w1.alloc (.cells #[.slice none 0 0] 37)) w1.heap.size Mx (List.replicate Mx 0) 0 := ⟨own_kept hown ((Kept.refl 0 0 _).alloc _), by simp, ⟨_, new_cell2 _ _ _ _ _ _ rfl rfl, by rw [limbs_zero]; exact Row.nil _ _ _ _ _⟩, new_loose2 _ _ _ _ _ rfl, l1.2, kn.alloc _⟩
  have p0' := old_cell (.cells #[.slice none 0 0] 37) p0
  have hne1 : ¬ w.heap.size = w1.heap.size := by have := unhide S0; have := kn.size; omega
  have hne2 : ¬ w1.heap.size = w.heap.size := by omega
  have ST := hide st0
  clear st0 hown hgrow kn p0 hi0 hz0 hz1 hz2 hb0 hm0 l1
  go_wp2_with fail
  generalize w1.alloc (.cells #[.slice none 0 0] 37) = W1 at *
  generalize w1.heap.size = X at *
  clear p0' hne1 hne2
  go_loopw [10] (fun ii wr => ∃ (out : List Int) (k R : Nat), ii = .int .i64 ((k : Int) - 1) ∧ k ≤ Mx ∧ Lim out ∧ Hid (val (xs.drop k) = val (out.drop k) * Y + R) ∧ (R : Int) < Y ∧ DivSt W wr X Mx out R) (fun ii _ => (intOf ii + 1).toNat)
  case atStart => exact ⟨List.replicate Mx 0, Mx, 0, rfl, Nat.le_refl _, Lim.zeros _, by show _ = _; rw [List.drop_of_length_le (by have := unhide HM; omega), List.drop_of_length_le (by simp)]; simp [val], by omega, unhide ST⟩
  case round =>
    clear ST
    obtain ⟨out, k, R, rfl, hk, hlo, hV, hRY, st⟩ := hrel
    have kk := st.k
    have p0 := kk.cell0 (unhide P0)
    have t0 := kk.cell0 (unhide T0)
    have r1 := (unhide R1).kept kk (by omega)
    have r2 := (unhide R2).kept kk (by omega)
    have bX := World.block_lt_of_cell? _ _ (unhide X0).1
    have bY := World.block_lt_of_cell? _ _ (unhide Y0).1
    dsimp only at bX bY
    have x0 := kk.cell0 (unhide X0).1
    have xf0 := kk.loose0 bX (unhide X0).2
    have y0 := kk.cell0 (unhide Y0).1
    have yf0 := kk.loose0 bY (unhide Y0).2
    replace K := hide ((unhide K).trans kk)
    have gX := st.gx
    obtain ⟨vr, cr, rr⟩ := st.rest
    have lX := World.block_lt_of_cell? _ _ cr
    dsimp only at lX
    have ST := hide st
    have frX := st.loose
    have nR : (limbs R).length ≤ ys.length := by
      have := (limbs_length_le R ys.length).2 (by have := val_lt hy.1; have := unhide HY; omega)
      exact this
    have zk := kk.size
    clear st kk
    generalize hzr : limbs R = zr at *
    have HZR := hide hzr
    obtain ⟨ar, dr, hv⟩ := Row.form' rr
    subst hv
    clear hzr
    have ST' := unhide ST
    clear ST
    by_cases h0k : k = 0
    · subst h0k
      have hV' := unhide hV
      simp only [List.drop_zero] at hV'
      have hq := div_unique h0 hV' (by omega) hRY
      obtain ⟨zq, hzq⟩ : ∃ zq, zq = limbs (val xs / Y).toNat := ⟨_, rfl⟩
      have HZQ : Hid (limbs (val out).toNat = zq) := by show _ = _; rw [hzq, hq.1]
      have HQ := hide hzq
      have HRR : Hid (zr = limbs (val xs % Y).toNat) := by show _ = _; rw [← unhide HZR, hq.2]; rfl
      have or := Row.own ST'.own
      have ol := ST'.len
      clear hV hV' hzq hq
      have hcm : ((0 : Nat) : Int) - 1 = -1 := rfl
      go_wp2_with fail
      have kd := (Kept.refl 0 0 wr).drew
      replace r1 := r1.kept kd (by omega)
      replace r2 := r2.kept kd (by omega)
      replace rr := rr.kept kd (by omega)
      replace or := or.kept kd (by omega)
      replace ST' := ST'.kept kd
      replace xf0 := kd.loose0 (World.block_lt_of_cell? _ _ x0) xf0
      replace yf0 := kd.loose0 (World.block_lt_of_cell? _ _ y0) yf0
      replace frX := kd.loose0 (World.block_lt_of_cell? _ _ cr) frX
      replace p0 := kd.cell0 p0
      replace t0 := kd.cell0 t0
      replace x0 := kd.cell0 x0
      replace y0 := kd.cell0 y0
      replace cr := kd.cell0 cr
      replace K := hide ((unhide K).trans kd)
      have z1 := kd.size
      clear kd
      refine wp_region_held_drew (S := (fun w' => w'.cell? ⟨X, 0, none⟩ = some (.slice ar zr.length dr))) (by kernel_rfl) ?_ (fun hHeld => ?_)
      · exact cr
      generalize wr.drew = wd2 at *
      refine wpAnyH_take (i := 0) (oi := _) (v := .slice (some ⟨W.heap.size, 0, none⟩) Mx Mx) rfl (by kernel_rfl) (by kernel_rfl) (by kernel_rfl) (fun _ _ _ h => h) (Or.inl ⟨by rfl, ?_⟩) hHeld ?_
      · intro wq hSw
        try dsimp only at hSw
        go_simp
      try simp only [Act.put, List.getElem_toArray, List.getElem_cons_succ, List.getElem_cons_zero, List.setIfInBounds_toArray, List.set_cons_zero, List.set_cons_succ]
      refine wpAnyH_take (i := 2) (oi := _) (v := .agg #[.slice ar zr.length dr]) rfl (by kernel_rfl) (by kernel_rfl) (by kernel_rfl) (fun _ _ _ h => h) (Or.inl ⟨by rfl, ?_⟩) hHeld ?_
      · intro wq hSw
        try dsimp only at hSw
        go_simp
      try simp only [Act.put, List.getElem_toArray, List.getElem_cons_succ, List.getElem_cons_zero, List.setIfInBounds_toArray, List.set_cons_zero, List.set_cons_succ]
      refine wpAnyH_ready (rs := [1]) (by kernel_rfl) (by simp) ?_
      refine AllReadyH.cons rfl (fun KK hK => ?_) AllReadyH.nil
      simp only [List.getElem_toArray, List.getElem_cons_succ, List.getElem_cons_zero]
      rw [if_pos (by rfl)]
      refine wps1 51 (.tmp 79) _ rfl in_l2norm (.slice (some ⟨W.heap.size, 0, none⟩) Mx Mx) rfl (norm_spec _ or hlo (by omega)) ?_
      rintro e w3 ⟨v3, rfl, r3, k3⟩
      refine ⟨_, rfl, ?_⟩
      replace r1 := r1.kept k3 (by omega)
      replace r2 := r2.kept k3 (by omega)
      replace rr := rr.kept k3 (by omega)
      replace or := or.kept k3 (by omega)
      replace ST' := ST'.kept k3
      replace xf0 := k3.loose0 (World.block_lt_of_cell? _ _ x0) xf0
      replace yf0 := k3.loose0 (World.block_lt_of_cell? _ _ y0) yf0
      replace frX := k3.loose0 (World.block_lt_of_cell? _ _ cr) frX
      replace p0 := k3.cell0 p0
      replace t0 := k3.cell0 t0
      replace x0 := k3.cell0 x0
      replace y0 := k3.cell0 y0
      replace cr := k3.cell0 cr
      replace K := hide ((unhide K).trans k3)
      have z4 := k3.size
      clear k3
      clear ST'
      rw [unhide HZQ] at r3
      obtain ⟨a3, c3, hv⟩ := Row.form' r3
      subst hv
      clear hHeld
      refine hK.out _ _ ?_ (fun hHeld => ?_)
      · exact cr
      clear hK KK
      try simp only [Act.put, List.getElem_toArray, List.getElem_cons_succ, List.getElem_cons_zero, List.setIfInBounds_toArray, List.set_cons_zero, List.set_cons_succ]
      refine wpAnyH_ready (rs := [3]) (by kernel_rfl) (by simp) ?_
      refine AllReadyH.cons rfl (fun KK hK => ?_) AllReadyH.nil
      simp only [List.getElem_toArray, List.getElem_cons_succ, List.getElem_cons_zero]
      rw [if_pos (by rfl)]
      go_simp
      clear hHeld
      refine hK.out _ _ ?_ (fun hHeld => ?_)
      · exact cell_aside _ (by have := unhide S0; dsimp only; omega) cr
      clear hK KK
      try simp only [Act.put, List.getElem_toArray, List.getElem_cons_succ, List.getElem_cons_zero, List.setIfInBounds_toArray, List.set_cons_zero, List.set_cons_succ]
      have sS0 := unhide S0
      replace r1 := r1.set_other (p := ⟨w.heap.size + 2, 0, none⟩) (by dsimp only; omega) (.slice a3 zq.length c3)
      replace r2 := r2.set_other (p := ⟨w.heap.size + 2, 0, none⟩) (by dsimp only; omega) (.slice a3 zq.length c3)
      replace rr := rr.set_other (p := ⟨w.heap.size + 2, 0, none⟩) (by dsimp only; omega) (.slice a3 zq.length c3)
      replace or := or.set_other (p := ⟨w.heap.size + 2, 0, none⟩) (by dsimp only; omega) (.slice a3 zq.length c3)
      replace r3 := r3.set_other (p := ⟨w.heap.size + 2, 0, none⟩) (by dsimp only; omega) (.slice a3 zq.length c3)
      replace p0 := cell_aside (.slice a3 zq.length c3) (r := ⟨w.heap.size + 2, 0, none⟩) (by dsimp only; omega) p0
      replace t0 := cell_aside (.slice a3 zq.length c3) (r := ⟨w.heap.size + 2, 0, none⟩) (by dsimp only; omega) t0
      replace y0 := cell_aside (.slice a3 zq.length c3) (r := ⟨w.heap.size + 2, 0, none⟩) (by dsimp only; omega) y0
      replace cr := cell_aside (.slice a3 zq.length c3) (r := ⟨w.heap.size + 2, 0, none⟩) (by dsimp only; omega) cr
      replace xf0 : (w3.setCell ⟨w.heap.size + 2, 0, none⟩ (.slice a3 zq.length c3)).frozen? _ = false := (frozen_set _ _ _ _ _).trans xf0
      replace yf0 : (w3.setCell ⟨w.heap.size + 2, 0, none⟩ (.slice a3 zq.length c3)).frozen? _ = false := (frozen_set _ _ _ _ _).trans yf0
      replace frX : (w3.setCell ⟨w.heap.size + 2, 0, none⟩ (.slice a3 zq.length c3)).frozen? _ = false := (frozen_set _ _ _ _ _).trans frX
      replace x0 : (w3.setCell ⟨w.heap.size + 2, 0, none⟩ (.slice a3 zq.length c3)).cell? ⟨w.heap.size + 2, 0, none⟩ = some (.slice a3 zq.length c3) := cell_on _ _ _ _ _ x0
      replace K := hide ((unhide K).setNew (p := ⟨w.heap.size + 2, 0, none⟩) (by dsimp only; omega) (.slice a3 zq.length c3))
      have zs5 : (w3.setCell ⟨w.heap.size + 2, 0, none⟩ (.slice a3 zq.length c3)).heap.size = w3.heap.size := by simp [World.setCell]
      clear sS0
      generalize w3.setCell ⟨w.heap.size + 2, 0, none⟩ (.slice a3 zq.length c3) = ws5 at *
      refine wpAnyH_ready (rs := [4]) (by kernel_rfl) (by simp) ?_
      refine AllReadyH.cons rfl (fun KK hK => ?_) AllReadyH.nil
      simp only [List.getElem_toArray, List.getElem_cons_succ, List.getElem_cons_zero]
      rw [if_pos (by rfl)]
      go_simp
      clear hHeld
      refine hK.out _ _ ?_ (fun hHeld => ?_)
      · exact cell_aside _ (by have := unhide S0; dsimp only; omega) cr
      clear hK KK
      try simp only [Act.put, List.getElem_toArray, List.getElem_cons_succ, List.getElem_cons_zero, List.setIfInBounds_toArray, List.set_cons_zero, List.set_cons_succ]
      have sS0 := unhide S0
      replace r1 := r1.set_other (p := ⟨w.heap.size + 3, 0, none⟩) (by dsimp only; omega) (.slice ar zr.length dr)
      replace r2 := r2.set_other (p := ⟨w.heap.size + 3, 0, none⟩) (by dsimp only; omega) (.slice ar zr.length dr)
      replace rr := rr.set_other (p := ⟨w.heap.size + 3, 0, none⟩) (by dsimp only; omega) (.slice ar zr.length dr)
      replace or := or.set_other (p := ⟨w.heap.size + 3, 0, none⟩) (by dsimp only; omega) (.slice ar zr.length dr)
      replace r3 := r3.set_other (p := ⟨w.heap.size + 3, 0, none⟩) (by dsimp only; omega) (.slice ar zr.length dr)
      replace p0 := cell_aside (.slice ar zr.length dr) (r := ⟨w.heap.size + 3, 0, none⟩) (by dsimp only; omega) p0
      replace t0 := cell_aside (.slice ar zr.length dr) (r := ⟨w.heap.size + 3, 0, none⟩) (by dsimp only; omega) t0
      replace x0 := cell_aside (.slice ar zr.length dr) (r := ⟨w.heap.size + 3, 0, none⟩) (by dsimp only; omega) x0
      replace cr := cell_aside (.slice ar zr.length dr) (r := ⟨w.heap.size + 3, 0, none⟩) (by dsimp only; omega) cr
      replace xf0 : (ws5.setCell ⟨w.heap.size + 3, 0, none⟩ (.slice ar zr.length dr)).frozen? _ = false := (frozen_set _ _ _ _ _).trans xf0
      replace yf0 : (ws5.setCell ⟨w.heap.size + 3, 0, none⟩ (.slice ar zr.length dr)).frozen? _ = false := (frozen_set _ _ _ _ _).trans yf0
      replace frX : (ws5.setCell ⟨w.heap.size + 3, 0, none⟩ (.slice ar zr.length dr)).frozen? _ = false := (frozen_set _ _ _ _ _).trans frX
      replace y0 : (ws5.setCell ⟨w.heap.size + 3, 0, none⟩ (.slice ar zr.length dr)).cell? ⟨w.heap.size + 3, 0, none⟩ = some (.slice ar zr.length dr) := cell_on _ _ _ _ _ y0
      replace K := hide ((unhide K).setNew (p := ⟨w.heap.size + 3, 0, none⟩) (by dsimp only; omega) (.slice ar zr.length dr))
      have zs6 : (ws5.setCell ⟨w.heap.size + 3, 0, none⟩ (.slice ar zr.length dr)).heap.size = ws5.heap.size := by simp [World.setCell]
      clear sS0
      generalize ws5.setCell ⟨w.heap.size + 3, 0, none⟩ (.slice ar zr.length dr) = ws6 at *
      refine wpAnyH_done (by kernel_rfl) ?_ _
      clear hHeld
      have R1 := hide (r3.tight.wider (lo' := w.heap.size) (by have := unhide S0; omega) (Nat.le_refl _))
      have R2 := hide (rr.tight.wider (lo' := w.heap.size) (by have := unhide S0; omega) (Nat.le_refl _))
      clear r1 r2 rr or r3
      go_wp2_with fail
      exact bodyPost_ret (v := .tuple #[.agg #[.slice a3 zq.length c3], .agg #[.slice ar zr.length dr]]) (by simp [results, Tryd.results35, go_sem, x0, y0]) rfl ⟨_, _, rfl, by rw [← unhide HQ]; exact unhide R1, by rw [← unhide HRR]; exact unhide R2, unhide K⟩
    · obtain ⟨j, rfl⟩ : ∃ j, k = j + 1 := ⟨k - 1, by omega⟩
      obtain ⟨gx, ox, ex, cx0⟩ := (row_cell (unhide R1)).2.2.2 j (by have := unhide HM; omega)
      cases ex
      have gxl := World.block_lt_of_cell? _ _ cx0
      dsimp only at gxl
      have cx := ST'.k.cell0 cx0
      clear cx0
      have hz := hx.at j
      generalize hzz : xs.getD j 0 = z at *
      have e1 : ((j + 1 : Nat) : Int) - 1 = j := by omega
      rw [e1]
      have hj1 : (j : Int) < (Mx : Int) := by omega
      have hjb : (0 : Int) ≤ (j : Int) := by omega
      have HZZ := hide hzz
      clear hzz e1 h0k
      go_upto_region 9 with fail
      go_cut [] from 38 to 78 (fun wx => ∃ S : Nat, (S : Int) = z + 65536 * R ∧ DivSt W wx X Mx out S)
      case first =>
        have kd := (Kept.refl 0 0 wr).drew
        replace r1 := r1.kept kd (by omega)
        replace r2 := r2.kept kd (by omega)
        replace rr := rr.kept kd (by omega)
        replace ST' := ST'.kept kd
        replace xf0 := kd.loose0 (World.block_lt_of_cell? _ _ x0) xf0
        replace yf0 := kd.loose0 (World.block_lt_of_cell? _ _ y0) yf0
        replace frX := kd.loose0 (World.block_lt_of_cell? _ _ cr) frX
        replace p0 := kd.cell0 p0
        replace t0 := kd.cell0 t0
        replace x0 := kd.cell0 x0
        replace y0 := kd.cell0 y0
        replace cr := kd.cell0 cr
        replace cx := kd.cell0 cx
        replace K := hide ((unhide K).trans kd)
        have z1 := kd.size
        clear kd
        refine wp_region_held_drew (S := (fun w' => w'.cell? ⟨w.heap.size, 0, none⟩ = some (.slice (some ⟨gx, ox, none⟩) Mx c1) ∧ w'.cell? ⟨gx, (ox + j), none⟩ = some (.int .i64 z))) (by kernel_rfl) ?_ (fun hHeld => ?_)
        · exact ⟨p0, cx⟩
        generalize wr.drew = wd at *
        refine wpAnyH_take (i := 0) (oi := _) (v := .pointer (some ⟨w.heap.size, 0, none⟩)) rfl (by kernel_rfl) (by kernel_rfl) (by kernel_rfl) (fun _ _ _ h => h) (Or.inl ⟨by rfl, ?_⟩) hHeld ?_
        · intro wq hSw
          try dsimp only at hSw
          go_simp
        try simp only [Act.put, List.getElem_toArray, List.getElem_cons_succ, List.getElem_cons_zero, List.setIfInBounds_toArray, List.set_cons_zero, List.set_cons_succ]
        refine wpAnyH_take (i := 1) (oi := _) (v := .slice (some ⟨gx, ox, none⟩) Mx c1) rfl (by kernel_rfl) (by kernel_rfl) (by kernel_rfl) (fun _ _ _ h => h) (Or.inl ⟨by rfl, ?_⟩) hHeld ?_
        · intro wq hSw
          try dsimp only at hSw
          go_simp
        try simp only [Act.put, List.getElem_toArray, List.getElem_cons_succ, List.getElem_cons_zero, List.setIfInBounds_toArray, List.set_cons_zero, List.set_cons_succ]
        refine wpAnyH_take (i := 2) (oi := _) (v := .int .i64 (j : Int)) rfl (by kernel_rfl) (by kernel_rfl) (by kernel_rfl) (fun _ _ _ h => h) (Or.inl ⟨by rfl, ?_⟩) hHeld ?_
        · intro wq hSw
          try dsimp only at hSw
          go_simp
        try simp only [Act.put, List.getElem_toArray, List.getElem_cons_succ, List.getElem_cons_zero, List.setIfInBounds_toArray, List.set_cons_zero, List.set_cons_succ]
        refine wpAnyH_take (i := 3) (oi := _) (v := .pointer (some ⟨gx, (ox + j), none⟩)) rfl (by kernel_rfl) (by kernel_rfl) (by kernel_rfl) (fun _ _ _ h => h) (Or.inl ⟨by rfl, ?_⟩) hHeld ?_
        · intro wq hSw
          try dsimp only at hSw
          go_simp
        try simp only [Act.put, List.getElem_toArray, List.getElem_cons_succ, List.getElem_cons_zero, List.setIfInBounds_toArray, List.set_cons_zero, List.set_cons_succ]
        refine wpAnyH_take (i := 4) (oi := _) (v := .int .i64 z) rfl (by kernel_rfl) (by kernel_rfl) (by kernel_rfl) (fun _ _ _ h => h) (Or.inl ⟨by rfl, ?_⟩) hHeld ?_
        · intro wq hSw
          try dsimp only at hSw
          go_simp
        try simp only [Act.put, List.getElem_toArray, List.getElem_cons_succ, List.getElem_cons_zero, List.setIfInBounds_toArray, List.set_cons_zero, List.set_cons_succ]
        refine wpAnyH_take (i := 6) (oi := _) (v := .pointer (some ⟨X, 0, none⟩)) rfl (by kernel_rfl) (by kernel_rfl) (by kernel_rfl) (fun _ _ _ h => h) (Or.inl ⟨by rfl, ?_⟩) hHeld ?_
        · intro wq hSw
          try dsimp only at hSw
          go_simp
        try simp only [Act.put, List.getElem_toArray, List.getElem_cons_succ, List.getElem_cons_zero, List.setIfInBounds_toArray, List.set_cons_zero, List.set_cons_succ]
        refine wpAnyH_ready (rs := [5, 7]) (by kernel_rfl) (by simp) ?_
        refine AllReadyH.cons rfl (fun KK hK => ?_) (AllReadyH.cons rfl (fun KK hK => ?_) AllReadyH.nil)
        · simp only [List.getElem_toArray, List.getElem_cons_succ, List.getElem_cons_zero]
          rw [if_pos (by rfl)]
          have Sv := And.intro (And.intro p0 (And.intro t0 (And.intro x0 (And.intro y0 (And.intro cr (And.intro cx (And.intro xf0 (And.intro yf0 frX)))))))) (And.intro r1 (And.intro r2 (And.intro rr ST')))
          have SV := hide Sv
          clear Sv
          have KV := hide (unhide K)
          go_simp
          have kl := (Kept.refl 0 0 wd).alloc (.cells #[.int .i64 z] 3)
          have ol := own_lit .i64 wd 3 wd.heap.size (Nat.le_refl _) [z] (by simp [maxLen])
          have szl : wd.heap.size < (wd.alloc (.cells #[.int .i64 z] 3)).heap.size := by simp
          replace r1 := r1.kept kl (by omega)
          replace r2 := r2.kept kl (by omega)
          replace rr := rr.kept kl (by omega)
          replace ST' := ST'.kept kl
          replace xf0 := kl.loose0 (World.block_lt_of_cell? _ _ x0) xf0
          replace yf0 := kl.loose0 (World.block_lt_of_cell? _ _ y0) yf0
          replace frX := kl.loose0 (World.block_lt_of_cell? _ _ cr) frX
          replace p0 := kl.cell0 p0
          replace t0 := kl.cell0 t0
          replace x0 := kl.cell0 x0
          replace y0 := kl.cell0 y0
          replace cr := kl.cell0 cr
          replace cx := kl.cell0 cx
          replace K := hide ((unhide K).trans kl)
          have z2 := kl.size
          simp only [List.map_cons, List.map_nil, List.length_cons, List.length_nil] at ol
          clear hHeld
          refine hK.out _ _ ?_ (fun hHeld => ?_)
          · exact ⟨p0, cx⟩
          clear hK KK
          try simp only [Act.put, List.getElem_toArray, List.getElem_cons_succ, List.getElem_cons_zero, List.setIfInBounds_toArray, List.set_cons_zero, List.set_cons_succ]
          generalize wd.alloc (.cells #[.int .i64 z] 3) = wl3 at *
          refine wpAnyH_ready (rs := [7]) (by kernel_rfl) (by simp) ?_
          refine AllReadyH.cons rfl (fun KK hK => ?_) AllReadyH.nil
          simp only [List.getElem_toArray, List.getElem_cons_succ, List.getElem_cons_zero]
          rw [if_pos (by rfl)]
          go_simp
          clear hHeld
          refine hK.out _ _ ?_ (fun hHeld => ?_)
          · exact ⟨p0, cx⟩
          clear hK KK
          try simp only [Act.put, List.getElem_toArray, List.getElem_cons_succ, List.getElem_cons_zero, List.setIfInBounds_toArray, List.set_cons_zero, List.set_cons_succ]
          refine wpAnyH_ready (rs := [8]) (by kernel_rfl) (by simp) ?_
          refine AllReadyH.cons rfl (fun KK hK => ?_) AllReadyH.nil
          simp only [List.getElem_toArray, List.getElem_cons_succ, List.getElem_cons_zero]
          rw [if_pos (by rfl)]
          refine wp_append_row (W := wd) (.tmp 47) (.tmp 49) rfl rfl rfl (by simpa using ol) rr (by omega) (by omega) kl (Nat.le_refl _) ?_
          intro va wa ra ka
          obtain ⟨⟨p0, t0, x0, y0, cr, cx, xf0, yf0, frX⟩, r1, r2, rr, ST'⟩ := unhide SV
          replace K := hide (unhide KV)
          clear SV KV ol kl
          replace r1 := r1.kept ka (by omega)
          replace r2 := r2.kept ka (by omega)
          replace rr := rr.kept ka (by omega)
          replace ST' := ST'.kept ka
          replace xf0 := ka.loose0 (World.block_lt_of_cell? _ _ x0) xf0
          replace yf0 := ka.loose0 (World.block_lt_of_cell? _ _ y0) yf0
          replace frX := ka.loose0 (World.block_lt_of_cell? _ _ cr) frX
          replace p0 := ka.cell0 p0
          replace t0 := ka.cell0 t0
          replace x0 := ka.cell0 x0
          replace y0 := ka.cell0 y0
          replace cr := ka.cell0 cr
          replace cx := ka.cell0 cx
          replace K := hide ((unhide K).trans ka)
          have z4 := ka.size
          clear ka
          clear hHeld
          refine hK.out _ _ ?_ (fun hHeld => ?_)
          · exact ⟨p0, cx⟩
          clear hK KK
          try simp only [Act.put, List.getElem_toArray, List.getElem_cons_succ, List.getElem_cons_zero, List.setIfInBounds_toArray, List.set_cons_zero, List.set_cons_succ]
          have hlz : Lim (z :: zr) := fun q hq => by
            rcases List.mem_cons.1 hq with e | e
            · subst e; exact hz
            · rw [← unhide HZR] at e; exact limbs_lim R q e
          obtain ⟨aa, da, hv⟩ := Row.form' ra
          subst hv
          have hla : (z :: zr).length ≤ 1000000 := by simp; omega
          refine wpAnyH_ready (rs := [9]) (by kernel_rfl) (by simp) ?_
          refine AllReadyH.cons rfl (fun KK hK => ?_) AllReadyH.nil
          simp only [List.getElem_toArray, List.getElem_cons_succ, List.getElem_cons_zero]
          rw [if_pos (by rfl)]
          refine wps1 51 (.tmp 50) _ rfl in_l2norm (.slice aa (z :: zr).length da) rfl (norm_spec _ ra hlz hla) ?_
          rintro e w5 ⟨v3, rfl, r3, k3⟩
          refine ⟨_, rfl, ?_⟩
          replace r1 := r1.kept k3 (by omega)
          replace r2 := r2.kept k3 (by omega)
          replace rr := rr.kept k3 (by omega)
          replace ra := ra.kept k3 (by omega)
          replace ST' := ST'.kept k3
          replace xf0 := k3.loose0 (World.block_lt_of_cell? _ _ x0) xf0
          replace yf0 := k3.loose0 (World.block_lt_of_cell? _ _ y0) yf0
          replace frX := k3.loose0 (World.block_lt_of_cell? _ _ cr) frX
          replace p0 := k3.cell0 p0
          replace t0 := k3.cell0 t0
          replace x0 := k3.cell0 x0
          replace y0 := k3.cell0 y0
          replace cr := k3.cell0 cr
          replace cx := k3.cell0 cx
          replace K := hide ((unhide K).trans k3)
          have z6 := k3.size
          clear k3
          obtain ⟨S, hS⟩ : ∃ S : Nat, (S : Int) = z + 65536 * R := ⟨(z + 65536 * R).toNat, by omega⟩
          have eS : (val (z :: zr)).toNat = S := by rw [← unhide HZR]; show (z + 65536 * val (limbs R)).toNat = S; rw [limbs_val]; omega
          rw [eS] at r3
          have nX1 : ¬ X = w.heap.size := by have := unhide S0; omega
          have nX2 : ¬ w.heap.size = X := by omega
          clear hHeld
          refine hK.out _ _ ?_ (fun hHeld => ?_)
          · exact ⟨p0, cx⟩
          clear hK KK
          try simp only [Act.put, List.getElem_toArray, List.getElem_cons_succ, List.getElem_cons_zero, List.setIfInBounds_toArray, List.set_cons_zero, List.set_cons_succ]
          have st3 := ST'.again r3 (by omega)
          obtain ⟨a3, c3, hv⟩ := Row.form' r3
          generalize hz3 : limbs S = z3 at *
          subst hv
          refine wpAnyH_ready (rs := [10]) (by kernel_rfl) (by simp) ?_
          refine AllReadyH.cons rfl (fun KK hK => ?_) AllReadyH.nil
          simp only [List.getElem_toArray, List.getElem_cons_succ, List.getElem_cons_zero]
          rw [if_pos (by rfl)]
          go_simp
          clear hHeld
          refine hK.out _ _ ?_ (fun hHeld => ?_)
          · exact ⟨cell_aside _ (by dsimp only; omega) p0, cell_aside _ (by dsimp only; omega) cx⟩
          clear hK KK
          try simp only [Act.put, List.getElem_toArray, List.getElem_cons_succ, List.getElem_cons_zero, List.setIfInBounds_toArray, List.set_cons_zero, List.set_cons_succ]
          refine wpAnyH_done (by kernel_rfl) ?_ _
          clear hHeld
          clear ST' rr cr frX r3 ra hla hlz nX1 nX2
          have st4 := hide st3
          clear st3
          go_wp2_with fail
          go_meet
          exact ⟨S, hS, unhide st4⟩
        · simp only [List.getElem_toArray, List.getElem_cons_succ, List.getElem_cons_zero]
          rw [if_pos (by rfl)]
          go_simp
          clear hHeld
          refine hK.out _ _ ?_ (fun hHeld => ?_)
          · exact ⟨p0, cx⟩
          clear hK KK
          try simp only [Act.put, List.getElem_toArray, List.getElem_cons_succ, List.getElem_cons_zero, List.setIfInBounds_toArray, List.set_cons_zero, List.set_cons_succ]
          refine wpAnyH_ready (rs := [5]) (by kernel_rfl) (by simp) ?_
          refine AllReadyH.cons rfl (fun KK hK => ?_) AllReadyH.nil
          simp only [List.getElem_toArray, List.getElem_cons_succ, List.getElem_cons_zero]
          rw [if_pos (by rfl)]
          have Sv := And.intro (And.intro p0 (And.intro t0 (And.intro x0 (And.intro y0 (And.intro cr (And.intro cx (And.intro xf0 (And.intro yf0 frX)))))))) (And.intro r1 (And.intro r2 (And.intro rr ST')))
          have SV := hide Sv
          clear Sv
          have KV := hide (unhide K)
          go_simp
          have kl := (Kept.refl 0 0 wd).alloc (.cells #[.int .i64 z] 3)
          have ol := own_lit .i64 wd 3 wd.heap.size (Nat.le_refl _) [z] (by simp [maxLen])
          have szl : wd.heap.size < (wd.alloc (.cells #[.int .i64 z] 3)).heap.size := by simp
          replace r1 := r1.kept kl (by omega)
          replace r2 := r2.kept kl (by omega)
          replace rr := rr.kept kl (by omega)
          replace ST' := ST'.kept kl
          replace xf0 := kl.loose0 (World.block_lt_of_cell? _ _ x0) xf0
          replace yf0 := kl.loose0 (World.block_lt_of_cell? _ _ y0) yf0
          replace frX := kl.loose0 (World.block_lt_of_cell? _ _ cr) frX
          replace p0 := kl.cell0 p0
          replace t0 := kl.cell0 t0
          replace x0 := kl.cell0 x0
          replace y0 := kl.cell0 y0
          replace cr := kl.cell0 cr
          replace cx := kl.cell0 cx
          replace K := hide ((unhide K).trans kl)
          have z2 := kl.size
          simp only [List.map_cons, List.map_nil, List.length_cons, List.length_nil] at ol
          clear hHeld
          refine hK.out _ _ ?_ (fun hHeld => ?_)
          · exact ⟨p0, cx⟩
          clear hK KK
          try simp only [Act.put, List.getElem_toArray, List.getElem_cons_succ, List.getElem_cons_zero, List.setIfInBounds_toArray, List.set_cons_zero, List.set_cons_succ]
          generalize wd.alloc (.cells #[.int .i64 z] 3) = wl3 at *
          refine wpAnyH_ready (rs := [8]) (by kernel_rfl) (by simp) ?_
          refine AllReadyH.cons rfl (fun KK hK => ?_) AllReadyH.nil
          simp only [List.getElem_toArray, List.getElem_cons_succ, List.getElem_cons_zero]
          rw [if_pos (by rfl)]
          refine wp_append_row (W := wd) (.tmp 47) (.tmp 49) rfl rfl rfl (by simpa using ol) rr (by omega) (by omega) kl (Nat.le_refl _) ?_
          intro va wa ra ka
          obtain ⟨⟨p0, t0, x0, y0, cr, cx, xf0, yf0, frX⟩, r1, r2, rr, ST'⟩ := unhide SV
          replace K := hide (unhide KV)
          clear SV KV ol kl
          replace r1 := r1.kept ka (by omega)
          replace r2 := r2.kept ka (by omega)
          replace rr := rr.kept ka (by omega)
          replace ST' := ST'.kept ka
          replace xf0 := ka.loose0 (World.block_lt_of_cell? _ _ x0) xf0
          replace yf0 := ka.loose0 (World.block_lt_of_cell? _ _ y0) yf0
          replace frX := ka.loose0 (World.block_lt_of_cell? _ _ cr) frX
          replace p0 := ka.cell0 p0
          replace t0 := ka.cell0 t0
          replace x0 := ka.cell0 x0
          replace y0 := ka.cell0 y0
          replace cr := ka.cell0 cr
          replace cx := ka.cell0 cx
          replace K := hide ((unhide K).trans ka)
          have z4 := ka.size
          clear ka
          clear hHeld
          refine hK.out _ _ ?_ (fun hHeld => ?_)
          · exact ⟨p0, cx⟩
          clear hK KK
          try simp only [Act.put, List.getElem_toArray, List.getElem_cons_succ, List.getElem_cons_zero, List.setIfInBounds_toArray, List.set_cons_zero, List.set_cons_succ]
          have hlz : Lim (z :: zr) := fun q hq => by
            rcases List.mem_cons.1 hq with e | e
            · subst e; exact hz
            · rw [← unhide HZR] at e; exact limbs_lim R q e
          obtain ⟨aa, da, hv⟩ := Row.form' ra
          subst hv
          have hla : (z :: zr).length ≤ 1000000 := by simp; omega
          refine wpAnyH_ready (rs := [9]) (by kernel_rfl) (by simp) ?_
          refine AllReadyH.cons rfl (fun KK hK => ?_) AllReadyH.nil
          simp only [List.getElem_toArray, List.getElem_cons_succ, List.getElem_cons_zero]
          rw [if_pos (by rfl)]
          refine wps1 51 (.tmp 50) _ rfl in_l2norm (.slice aa (z :: zr).length da) rfl (norm_spec _ ra hlz hla) ?_
          rintro e w5 ⟨v3, rfl, r3, k3⟩
          refine ⟨_, rfl, ?_⟩
          replace r1 := r1.kept k3 (by omega)
          replace r2 := r2.kept k3 (by omega)
          replace rr := rr.kept k3 (by omega)
          replace ra := ra.kept k3 (by omega)
          replace ST' := ST'.kept k3
          replace xf0 := k3.loose0 (World.block_lt_of_cell? _ _ x0) xf0
          replace yf0 := k3.loose0 (World.block_lt_of_cell? _ _ y0) yf0
          replace frX := k3.loose0 (World.block_lt_of_cell? _ _ cr) frX
          replace p0 := k3.cell0 p0
          replace t0 := k3.cell0 t0
          replace x0 := k3.cell0 x0
          replace y0 := k3.cell0 y0
          replace cr := k3.cell0 cr
          replace cx := k3.cell0 cx
          replace K := hide ((unhide K).trans k3)
          have z6 := k3.size
          clear k3
          obtain ⟨S, hS⟩ : ∃ S : Nat, (S : Int) = z + 65536 * R := ⟨(z + 65536 * R).toNat, by omega⟩
          have eS : (val (z :: zr)).toNat = S := by rw [← unhide HZR]; show (z + 65536 * val (limbs R)).toNat = S; rw [limbs_val]; omega
          rw [eS] at r3
          have nX1 : ¬ X = w.heap.size := by have := unhide S0; omega
          have nX2 : ¬ w.heap.size = X := by omega
          clear hHeld
          refine hK.out _ _ ?_ (fun hHeld => ?_)
          · exact ⟨p0, cx⟩
          clear hK KK
          try simp only [Act.put, List.getElem_toArray, List.getElem_cons_succ, List.getElem_cons_zero, List.setIfInBounds_toArray, List.set_cons_zero, List.set_cons_succ]
          have st3 := ST'.again r3 (by omega)
          obtain ⟨a3, c3, hv⟩ := Row.form' r3
          generalize hz3 : limbs S = z3 at *
          subst hv
          refine wpAnyH_ready (rs := [10]) (by kernel_rfl) (by simp) ?_
          refine AllReadyH.cons rfl (fun KK hK => ?_) AllReadyH.nil
          simp only [List.getElem_toArray, List.getElem_cons_succ, List.getElem_cons_zero]
          rw [if_pos (by rfl)]
          go_simp
          clear hHeld
          refine hK.out _ _ ?_ (fun hHeld => ?_)
          · exact ⟨cell_aside _ (by dsimp only; omega) p0, cell_aside _ (by dsimp only; omega) cx⟩
          clear hK KK
          try simp only [Act.put, List.getElem_toArray, List.getElem_cons_succ, List.getElem_cons_zero, List.setIfInBounds_toArray, List.set_cons_zero, List.set_cons_succ]
          refine wpAnyH_done (by kernel_rfl) ?_ _
          clear hHeld
          clear ST' rr cr frX r3 ra hla hlz nX1 nX2
          have st4 := hide st3
          clear st3
          go_wp2_with fail
          go_meet
          exact ⟨S, hS, unhide st4⟩
      case rest =>
        obtain ⟨S, hS, st⟩ := hcut
        clear ST' rr cr frX p0 t0 x0 y0 xf0 yf0 r1 r2 cx K nR lX bX bY zk
        generalize hwc : wc = w5 at *
        clear hwc
        have SS := hide st
        have hSb : (S : Int) < 65536 * Y := by omega
        clear st
        go_wp2_with fail
        go_loopw [11, 12] (fun ll hh wx => ∃ (l h : Nat), ll = .int .i64 (l : Int) ∧ hh = .int .i64 (h : Int) ∧ l < h ∧ h ≤ 65536 ∧ Hid ((l : Int) * Y ≤ S) ∧ Hid ((S : Int) < h * Y) ∧ DivSt W wx X Mx out S) (fun ll hh _ => (intOf hh - intOf ll).toNat)
        case atStart => exact ⟨0, 65536, rfl, rfl, by omega, by omega, hide (by simp), hide (by simpa using hSb), unhide SS⟩
        case round =>
          clear SS
          obtain ⟨l, h, rfl, rfl, hlh, hh6, hl1, hh1, st⟩ := hrel
          have kk := st.k
          have t0 := kk.cell0 (unhide T0)
          have r2 := (unhide R2).kept kk (by omega)
          have zk := kk.size
          obtain ⟨vr, cr, rr⟩ := st.rest
          have lX := World.block_lt_of_cell? _ _ cr
          dsimp only at lX
          have frX := st.loose
          have ST' := st
          have nS : (limbs S).length ≤ ys.length + 1 := (limbs_length_le S (ys.length + 1)).2 (by
            have h1 := val_lt hy.1
            have h2 := unhide HY
            rw [Int.pow_succ]
            omega)
          clear st kk
          generalize hzs : limbs S = zs at *
          have HZS := hide hzs
          obtain ⟨ar2, dr2, hv⟩ := Row.form' rr
          subst hv
          clear hzs
          have K := hide (Kept.refl 0 0 wr)
          by_cases hgt : 1 < h - l
          · obtain ⟨m, hm⟩ : ∃ m, m = (l + h) / 2 := ⟨_, rfl⟩
            have hm1 : l < m ∧ m < h := by omega
            have hgt' : (1 : Int) < (h : Int) - (l : Int) := by omega
            have ed : ((l : Int) + (h : Int)).tdiv 2 = (m : Int) := by rw [Int.tdiv_eq_ediv_of_nonneg (by omega)]; omega
            have hm6 : (m : Int) ≤ 9223372036854775807 := by omega
            clear hm
            go_wp2_with fail
            clear ed hgt'
            have nm4 := limbs_int_length (m : Int) hm6
            rw [Int.toNat_natCast] at nm4
            obtain ⟨c, hc⟩ : ∃ c, c = cmpI ((m : Int) * Y) S := ⟨_, rfl⟩
            have HC := hide hc
            clear hc
            have ym : val ys * val (limbs m) = (m : Int) * Y := by rw [limbs_val, ← unhide HY, Int.mul_comm]
            have ym0 : 0 ≤ (m : Int) * Y := Int.mul_nonneg (by omega) (by omega)
            have kd := (Kept.refl 0 0 wr).drew
            replace r2 := r2.kept kd (by omega)
            replace rr := rr.kept kd (by omega)
            replace ST' := ST'.kept kd
            replace frX := kd.loose0 (World.block_lt_of_cell? _ _ cr) frX
            replace t0 := kd.cell0 t0
            replace cr := kd.cell0 cr
            replace K := hide ((unhide K).trans kd)
            have z2 := kd.size
            clear kd
            refine wp_region_held_drew (S := (fun w' => w'.cell? ⟨w.heap.size + 1, 0, none⟩ = some (.slice a2 ys.length c2) ∧ w'.cell? ⟨X, 0, none⟩ = some (.slice ar2 zs.length dr2))) (by kernel_rfl) ?_ (fun hHeld => ?_)
            · exact ⟨t0, cr⟩
            generalize wr.drew = wd3 at *
            refine wpAnyH_take (i := 0) (oi := _) (v := .agg #[.slice a2 ys.length c2]) rfl (by kernel_rfl) (by kernel_rfl) (by kernel_rfl) (fun _ _ _ h => h) (Or.inl ⟨by rfl, ?_⟩) hHeld ?_
            · intro wq hSw
              try dsimp only at hSw
              go_simp
            try simp only [Act.put, List.getElem_toArray, List.getElem_cons_succ, List.getElem_cons_zero, List.setIfInBounds_toArray, List.set_cons_zero, List.set_cons_succ]
            refine wpAnyH_take (i := 1) (oi := _) (v := .int .i64 (m : Int)) rfl (by kernel_rfl) (by kernel_rfl) (by kernel_rfl) (fun _ _ _ h => h) (Or.inl ⟨by rfl, ?_⟩) hHeld ?_
            · intro wq hSw
              try dsimp only at hSw
              go_simp
            try simp only [Act.put, List.getElem_toArray, List.getElem_cons_succ, List.getElem_cons_zero, List.setIfInBounds_toArray, List.set_cons_zero, List.set_cons_succ]
            refine wpAnyH_take (i := 4) (oi := _) (v := .agg #[.slice ar2 zs.length dr2]) rfl (by kernel_rfl) (by kernel_rfl) (by kernel_rfl) (fun _ _ _ h => h) (Or.inl ⟨by rfl, ?_⟩) hHeld ?_
            · intro wq hSw
              try dsimp only at hSw
              go_simp
            try simp only [Act.put, List.getElem_toArray, List.getElem_cons_succ, List.getElem_cons_zero, List.setIfInBounds_toArray, List.set_cons_zero, List.set_cons_succ]
            refine wpAnyH_ready (rs := [2]) (by kernel_rfl) (by simp) ?_
            refine AllReadyH.cons rfl (fun KK hK => ?_) AllReadyH.nil
            simp only [List.getElem_toArray, List.getElem_cons_succ, List.getElem_cons_zero]
            rw [if_pos (by rfl)]
            refine wps1 29 (.tmp 61) _ rfl in_l2of (.int .i64 (m : Int)) rfl (of_spec _ (m : Int) hm6) ?_
            rintro e w4 ⟨v3, rfl, r3, k4⟩
            refine ⟨_, rfl, ?_⟩
            replace r2 := r2.kept k4 (by omega)
            replace rr := rr.kept k4 (by omega)
            replace ST' := ST'.kept k4
            replace frX := k4.loose0 (World.block_lt_of_cell? _ _ cr) frX
            replace t0 := k4.cell0 t0
            replace cr := k4.cell0 cr
            replace K := hide ((unhide K).trans k4)
            have z5 := k4.size
            clear k4
            rw [Int.toNat_natCast] at r3
            clear hHeld
            refine hK.out _ _ ?_ (fun hHeld => ?_)
            · exact ⟨t0, cr⟩
            clear hK KK
            try simp only [Act.put, List.getElem_toArray, List.getElem_cons_succ, List.getElem_cons_zero, List.setIfInBounds_toArray, List.set_cons_zero, List.set_cons_succ]
            refine wpAnyH_ready (rs := [3]) (by kernel_rfl) (by simp) ?_
            refine AllReadyH.cons rfl (fun KK hK => ?_) AllReadyH.nil
            simp only [List.getElem_toArray, List.getElem_cons_succ, List.getElem_cons_zero]
            rw [if_pos (by rfl)]
            refine wps2 45 (.tmp 60) (.tmp 62) _ rfl in_l2mul (.agg #[.slice a2 ys.length c2]) (.agg #[v3]) rfl rfl (mul_spec _ r2 r3 hy.1 (limbs_lim m) (by omega) (by omega)) ?_
            rintro e w6 ⟨v4, rfl, r4, k6⟩
            refine ⟨_, rfl, ?_⟩
            replace r2 := r2.kept k6 (by omega)
            replace rr := rr.kept k6 (by omega)
            replace r3 := r3.kept k6 (by omega)
            replace ST' := ST'.kept k6
            replace frX := k6.loose0 (World.block_lt_of_cell? _ _ cr) frX
            replace t0 := k6.cell0 t0
            replace cr := k6.cell0 cr
            replace K := hide ((unhide K).trans k6)
            have z7 := k6.size
            clear k6
            rw [ym] at r4
            clear hHeld
            refine hK.out _ _ ?_ (fun hHeld => ?_)
            · exact ⟨t0, cr⟩
            clear hK KK
            try simp only [Act.put, List.getElem_toArray, List.getElem_cons_succ, List.getElem_cons_zero, List.setIfInBounds_toArray, List.set_cons_zero, List.set_cons_succ]
            refine wpAnyH_ready (rs := [5]) (by kernel_rfl) (by simp) ?_
            refine AllReadyH.cons rfl (fun KK hK => ?_) AllReadyH.nil
            simp only [List.getElem_toArray, List.getElem_cons_succ, List.getElem_cons_zero]
            rw [if_pos (by rfl)]
            refine wps2 44 (.tmp 63) (.tmp 64) _ rfl in_l2cmp (.agg #[v4]) (.agg #[.slice ar2 zs.length dr2]) rfl rfl (Calls.mono (cmp_spec _ r4 rr (limbs_nrm _) (by rw [← unhide HZS]; exact limbs_nrm S)) (fun e w' h => (show e = .returned (.int .i64 c) ∧ Kept 0 0 _ w' from ⟨by rw [h.1, unhide HC, limbs_val, ← unhide HZS, limbs_val, Int.toNat_of_nonneg ym0], h.2⟩))) ?_
            rintro e w8 ⟨rfl, k8⟩
            refine ⟨_, rfl, ?_⟩
            replace r2 := r2.kept k8 (by omega)
            replace rr := rr.kept k8 (by omega)
            replace r3 := r3.kept k8 (by omega)
            replace r4 := r4.kept k8 (by omega)
            replace ST' := ST'.kept k8
            replace frX := k8.loose0 (World.block_lt_of_cell? _ _ cr) frX
            replace t0 := k8.cell0 t0
            replace cr := k8.cell0 cr
            replace K := hide ((unhide K).trans k8)
            have z9 := k8.size
            clear k8
            clear hHeld
            refine hK.out _ _ ?_ (fun hHeld => ?_)
            · exact ⟨t0, cr⟩
            clear hK KK
            try simp only [Act.put, List.getElem_toArray, List.getElem_cons_succ, List.getElem_cons_zero, List.setIfInBounds_toArray, List.set_cons_zero, List.set_cons_succ]
            refine wpAnyH_take (i := 6) (oi := _) (v := .bool (decide (c ≤ 0))) rfl (by kernel_rfl) (by kernel_rfl) (by kernel_rfl) (fun _ _ _ h => h) (Or.inl ⟨by rfl, ?_⟩) hHeld ?_
            · intro wq hSw
              try dsimp only at hSw
              go_simp
            try simp only [Act.put, List.getElem_toArray, List.getElem_cons_succ, List.getElem_cons_zero, List.setIfInBounds_toArray, List.set_cons_zero, List.set_cons_succ]
            refine wpAnyH_done (by kernel_rfl) ?_ _
            clear hHeld
            have st5 := ST'
            by_cases hcl : (m : Int) * Y ≤ S
            · have hc0 : c ≤ 0 := by rw [unhide HC]; unfold cmpI; split <;> (try split) <;> omega
              have S5 := hide st5
              clear r2 rr r3 r4 ST' st5 t0 cr frX K
              go_wp2
              go_roundw
              case rel => exact ⟨m, h, rfl, rfl, by omega, hh6, hide hcl, hh1, unhide S5⟩
              case measure => simp [intOf]; omega
            · have hc0 : ¬ c ≤ 0 := by rw [unhide HC]; unfold cmpI; rw [if_neg (by omega), if_pos (by omega)]; omega
              have S5 := hide st5
              clear r2 rr r3 r4 ST' st5 t0 cr frX K
              go_wp2
              go_roundw
              case rel => exact ⟨l, m, rfl, rfl, by omega, by omega, hl1, hide (by omega), unhide S5⟩
              case measure => simp [intOf]; omega
          · have hhe : h = l + 1 := by omega
            subst hhe
            have hgt' : ¬ (1 : Int) < ((l + 1 : Nat) : Int) - (l : Int) := by omega
            have hl63 : (l : Int) ≤ 9223372036854775807 := by omega
            have hol := ST'.len
            have how := ST'.own
            rw [← hol] at how
            have hoc := own_cell how j (by omega)
            obtain ⟨oc1, oc2⟩ := hoc
            have st6 := hide (ST'.put j (l : Int))
            have gX' := gX
            have hne1 : ¬ X = W.heap.size := by omega
            have hne2 : ¬ W.heap.size = X := by omega
            have hne3 : ¬ W.heap.size = w.heap.size + 1 := by have := unhide S0; omega
            have hne4 : ¬ w.heap.size + 1 = W.heap.size := by omega
            have t0' := cell_aside (.int .i64 (l : Int)) (r := ⟨W.heap.size, j, none⟩) (by dsimp only; omega) t0
            have cr' := cell_aside (.int .i64 (l : Int)) (r := ⟨W.heap.size, j, none⟩) (by dsimp only; omega) cr
            have r2' := r2.set_other (p := ⟨W.heap.size, j, none⟩) (.inr (by have := unhide S0; dsimp only; omega)) (.int .i64 (l : Int))
            have rr' := rr.set_other (p := ⟨W.heap.size, j, none⟩) (.inl (by dsimp only; omega)) (.int .i64 (l : Int))
            have fr' : (wr.setCell ⟨W.heap.size, j, none⟩ (.int .i64 (l : Int))).frozen? ⟨X, 0, none⟩ = false := (frozen_set _ _ _ _ _).trans frX
            have szw : (wr.setCell ⟨W.heap.size, j, none⟩ (.int .i64 (l : Int))).heap.size = wr.heap.size := by simp [World.setCell]
            clear t0 cr r2 rr frX how hol ST' K
            go_wp2_with fail
            clear oc1 oc2 hgt' hne1 hne2 hne3 hne4
            generalize wr.setCell ⟨W.heap.size, j, none⟩ (.int .i64 (l : Int)) = w6 at *
            have K := hide (Kept.refl 0 0 w6)
            have ST' := unhide st6
            clear st6
            have nl4 := limbs_int_length (l : Int) hl63
            rw [Int.toNat_natCast] at nl4
            have yl : val ys * val (limbs l) = (l : Int) * Y := by rw [limbs_val, ← unhide HY, Int.mul_comm]
            obtain ⟨R', hR'⟩ : ∃ R' : Nat, (R' : Int) = S - (l : Int) * Y := ⟨((S : Int) - (l : Int) * Y).toNat, by have := unhide hl1; omega⟩
            have yl0 : 0 ≤ (l : Int) * Y := Int.mul_nonneg (by omega) (by omega)
            have kd := (Kept.refl 0 0 w6).drew
            replace r2' := r2'.kept kd (by omega)
            replace rr' := rr'.kept kd (by omega)
            replace ST' := ST'.kept kd
            replace fr' := kd.loose0 (World.block_lt_of_cell? _ _ cr') fr'
            replace t0' := kd.cell0 t0'
            replace cr' := kd.cell0 cr'
            replace K := hide ((unhide K).trans kd)
            have z2 := kd.size
            clear kd
            refine wp_region_held_drew (S := (fun w' => w'.cell? ⟨w.heap.size + 1, 0, none⟩ = some (.slice a2 ys.length c2))) (by kernel_rfl) ?_ (fun hHeld => ?_)
            · exact t0'
            generalize w6.drew = wd3 at *
            refine wpAnyH_take (i := 1) (oi := _) (v := .agg #[.slice a2 ys.length c2]) rfl (by kernel_rfl) (by kernel_rfl) (by kernel_rfl) (fun _ _ _ h => h) (Or.inl ⟨by rfl, ?_⟩) hHeld ?_
            · intro wq hSw
              try dsimp only at hSw
              go_simp
            try simp only [Act.put, List.getElem_toArray, List.getElem_cons_succ, List.getElem_cons_zero, List.setIfInBounds_toArray, List.set_cons_zero, List.set_cons_succ]
            refine wpAnyH_take (i := 2) (oi := _) (v := .int .i64 (l : Int)) rfl (by kernel_rfl) (by kernel_rfl) (by kernel_rfl) (fun _ _ _ h => h) (Or.inl ⟨by rfl, ?_⟩) hHeld ?_
            · intro wq hSw
              try dsimp only at hSw
              go_simp
            try simp only [Act.put, List.getElem_toArray, List.getElem_cons_succ, List.getElem_cons_zero, List.setIfInBounds_toArray, List.set_cons_zero, List.set_cons_succ]
            refine wpAnyH_ready (rs := [0, 3]) (by kernel_rfl) (by simp) ?_
            refine AllReadyH.cons rfl (fun KK hK => ?_) (AllReadyH.cons rfl (fun KK hK => ?_) AllReadyH.nil)
            · simp only [List.getElem_toArray, List.getElem_cons_succ, List.getElem_cons_zero]
              rw [if_pos (by rfl)]
              go_simp
              clear hHeld
              refine hK.out _ _ ?_ (fun hHeld => ?_)
              · exact t0'
              clear hK KK
              try simp only [Act.put, List.getElem_toArray, List.getElem_cons_succ, List.getElem_cons_zero, List.setIfInBounds_toArray, List.set_cons_zero, List.set_cons_succ]
              refine wpAnyH_ready (rs := [3]) (by kernel_rfl) (by simp) ?_
              refine AllReadyH.cons rfl (fun KK hK => ?_) AllReadyH.nil
              simp only [List.getElem_toArray, List.getElem_cons_succ, List.getElem_cons_zero]
              rw [if_pos (by rfl)]
              refine wps1 29 (.tmp 75) _ rfl in_l2of (.int .i64 (l : Int)) rfl (of_spec _ (l : Int) hl63) ?_
              rintro e w4 ⟨v3, rfl, r3, k4⟩
              refine ⟨_, rfl, ?_⟩
              replace r2' := r2'.kept k4 (by omega)
              replace rr' := rr'.kept k4 (by omega)
              replace ST' := ST'.kept k4
              replace fr' := k4.loose0 (World.block_lt_of_cell? _ _ cr') fr'
              replace t0' := k4.cell0 t0'
              replace cr' := k4.cell0 cr'
              replace K := hide ((unhide K).trans k4)
              have z5 := k4.size
              clear k4
              rw [Int.toNat_natCast] at r3
              clear hHeld
              refine hK.out _ _ ?_ (fun hHeld => ?_)
              · exact t0'
              clear hK KK
              try simp only [Act.put, List.getElem_toArray, List.getElem_cons_succ, List.getElem_cons_zero, List.setIfInBounds_toArray, List.set_cons_zero, List.set_cons_succ]
              refine wpAnyH_ready (rs := [4]) (by kernel_rfl) (by simp) ?_
              refine AllReadyH.cons rfl (fun KK hK => ?_) AllReadyH.nil
              simp only [List.getElem_toArray, List.getElem_cons_succ, List.getElem_cons_zero]
              rw [if_pos (by rfl)]
              refine wps2 45 (.tmp 74) (.tmp 76) _ rfl in_l2mul (.agg #[.slice a2 ys.length c2]) (.agg #[v3]) rfl rfl (mul_spec _ r2' r3 hy.1 (limbs_lim l) (by omega) (by omega)) ?_
              rintro e w6 ⟨v4, rfl, r4, k6⟩
              refine ⟨_, rfl, ?_⟩
              replace r2' := r2'.kept k6 (by omega)
              replace rr' := rr'.kept k6 (by omega)
              replace r3 := r3.kept k6 (by omega)
              replace ST' := ST'.kept k6
              replace fr' := k6.loose0 (World.block_lt_of_cell? _ _ cr') fr'
              replace t0' := k6.cell0 t0'
              replace cr' := k6.cell0 cr'
              replace K := hide ((unhide K).trans k6)
              have z7 := k6.size
              clear k6
              rw [yl] at r4
              clear hHeld
              refine hK.out _ _ ?_ (fun hHeld => ?_)
              · exact t0'
              clear hK KK
              try simp only [Act.put, List.getElem_toArray, List.getElem_cons_succ, List.getElem_cons_zero, List.setIfInBounds_toArray, List.set_cons_zero, List.set_cons_succ]
              refine wpAnyH_ready (rs := [5]) (by kernel_rfl) (by simp) ?_
              refine AllReadyH.cons rfl (fun KK hK => ?_) AllReadyH.nil
              simp only [List.getElem_toArray, List.getElem_cons_succ, List.getElem_cons_zero]
              rw [if_pos (by rfl)]
              refine wps2 54 (.tmp 73) (.tmp 77) _ rfl in_l2sub (.agg #[.slice ar2 zs.length dr2]) (.agg #[v4]) rfl rfl (sub_spec _ rr' r4 (by rw [← unhide HZS]; exact limbs_lim S) (limbs_lim _) (by omega) (by rw [← unhide HZS]; exact limbs_len_mono (by have := unhide hl1; omega)) (by rw [limbs_val, ← unhide HZS, limbs_val]; have := unhide hl1; omega)) ?_
              rintro e w8 ⟨v5, rfl, r5, k8⟩
              refine ⟨_, rfl, ?_⟩
              replace r2' := r2'.kept k8 (by omega)
              replace rr' := rr'.kept k8 (by omega)
              replace r3 := r3.kept k8 (by omega)
              replace r4 := r4.kept k8 (by omega)
              replace ST' := ST'.kept k8
              replace fr' := k8.loose0 (World.block_lt_of_cell? _ _ cr') fr'
              replace t0' := k8.cell0 t0'
              replace cr' := k8.cell0 cr'
              replace K := hide ((unhide K).trans k8)
              have z9 := k8.size
              clear k8
              rw [show (val zs - val (limbs ((l : Int) * Y).toNat)).toNat = R' from by rw [limbs_val, ← unhide HZS, limbs_val]; omega] at r5
              clear hHeld
              refine hK.out _ _ ?_ (fun hHeld => ?_)
              · exact t0'
              clear hK KK
              try simp only [Act.put, List.getElem_toArray, List.getElem_cons_succ, List.getElem_cons_zero, List.setIfInBounds_toArray, List.set_cons_zero, List.set_cons_succ]
              have st7 := hide (ST'.again r5 (by omega))
              obtain ⟨a5, c5, hv⟩ := Row.form' r5
              generalize hz5 : limbs R' = z5 at *
              subst hv
              have nX1 : ¬ X = w.heap.size + 1 := by have := unhide S0; omega
              have nX2 : ¬ w.heap.size + 1 = X := by omega
              refine wpAnyH_ready (rs := [6]) (by kernel_rfl) (by simp) ?_
              refine AllReadyH.cons rfl (fun KK hK => ?_) AllReadyH.nil
              simp only [List.getElem_toArray, List.getElem_cons_succ, List.getElem_cons_zero]
              rw [if_pos (by rfl)]
              go_simp
              clear hHeld
              refine hK.out _ _ ?_ (fun hHeld => ?_)
              · exact cell_aside _ (by dsimp only; omega) t0'
              clear hK KK
              try simp only [Act.put, List.getElem_toArray, List.getElem_cons_succ, List.getElem_cons_zero, List.setIfInBounds_toArray, List.set_cons_zero, List.set_cons_succ]
              refine wpAnyH_done (by kernel_rfl) ?_ _
              clear hHeld nX1 nX2
              have hdg := div_digit xs out j Y R (l : Int) R' (by have := (unhide st7).len; simp at this; omega) (unhide hV) (by rw [unhide HZZ]; omega)
              have HDG := hide hdg
              have hRY2 : (R' : Int) < Y := by
                have := unhide hh1
                have e : ((l + 1 : Nat) : Int) * Y = (l : Int) * Y + Y := by rw [Int.natCast_add, Int.add_mul]; simp
                omega
              have hlo2 := hlo.set j (x := (l : Int)) (by omega) (by omega)
              clear r2' rr' r3 r4 r5 ST' t0' cr' fr' K hdg
              go_wp2
              go_roundw
              case rel => exact ⟨out.set j (l : Int), j, R', by first | rfl | go_num, by omega, hlo2, HDG, hRY2, unhide st7⟩
              case measure => simp [intOf]
            · simp only [List.getElem_toArray, List.getElem_cons_succ, List.getElem_cons_zero]
              rw [if_pos (by rfl)]
              refine wps1 29 (.tmp 75) _ rfl in_l2of (.int .i64 (l : Int)) rfl (of_spec _ (l : Int) hl63) ?_
              rintro e w4 ⟨v3, rfl, r3, k4⟩
              refine ⟨_, rfl, ?_⟩
              replace r2' := r2'.kept k4 (by omega)
              replace rr' := rr'.kept k4 (by omega)
              replace ST' := ST'.kept k4
              replace fr' := k4.loose0 (World.block_lt_of_cell? _ _ cr') fr'
              replace t0' := k4.cell0 t0'
              replace cr' := k4.cell0 cr'
              replace K := hide ((unhide K).trans k4)
              have z5 := k4.size
              clear k4
              rw [Int.toNat_natCast] at r3
              clear hHeld
              refine hK.out _ _ ?_ (fun hHeld => ?_)
              · exact t0'
              clear hK KK
              try simp only [Act.put, List.getElem_toArray, List.getElem_cons_succ, List.getElem_cons_zero, List.setIfInBounds_toArray, List.set_cons_zero, List.set_cons_succ]
              refine wpAnyH_ready (rs := [0, 4]) (by kernel_rfl) (by simp) ?_
              refine AllReadyH.cons rfl (fun KK hK => ?_) (AllReadyH.cons rfl (fun KK hK => ?_) AllReadyH.nil)
              · simp only [List.getElem_toArray, List.getElem_cons_succ, List.getElem_cons_zero]
                rw [if_pos (by rfl)]
                go_simp
                clear hHeld
                refine hK.out _ _ ?_ (fun hHeld => ?_)
                · exact t0'
                clear hK KK
                try simp only [Act.put, List.getElem_toArray, List.getElem_cons_succ, List.getElem_cons_zero, List.setIfInBounds_toArray, List.set_cons_zero, List.set_cons_succ]
                refine wpAnyH_ready (rs := [4]) (by kernel_rfl) (by simp) ?_
                refine AllReadyH.cons rfl (fun KK hK => ?_) AllReadyH.nil
                simp only [List.getElem_toArray, List.getElem_cons_succ, List.getElem_cons_zero]
                rw [if_pos (by rfl)]
                refine wps2 45 (.tmp 74) (.tmp 76) _ rfl in_l2mul (.agg #[.slice a2 ys.length c2]) (.agg #[v3]) rfl rfl (mul_spec _ r2' r3 hy.1 (limbs_lim l) (by omega) (by omega)) ?_
                rintro e w6 ⟨v4, rfl, r4, k6⟩
                refine ⟨_, rfl, ?_⟩
                replace r2' := r2'.kept k6 (by omega)
                replace rr' := rr'.kept k6 (by omega)
                replace r3 := r3.kept k6 (by omega)
                replace ST' := ST'.kept k6
                replace fr' := k6.loose0 (World.block_lt_of_cell? _ _ cr') fr'
                replace t0' := k6.cell0 t0'
                replace cr' := k6.cell0 cr'
                replace K := hide ((unhide K).trans k6)
                have z7 := k6.size
                clear k6
                rw [yl] at r4
                clear hHeld
                refine hK.out _ _ ?_ (fun hHeld => ?_)
                · exact t0'
                clear hK KK
                try simp only [Act.put, List.getElem_toArray, List.getElem_cons_succ, List.getElem_cons_zero, List.setIfInBounds_toArray, List.set_cons_zero, List.set_cons_succ]
                refine wpAnyH_ready (rs := [5]) (by kernel_rfl) (by simp) ?_
                refine AllReadyH.cons rfl (fun KK hK => ?_) AllReadyH.nil
                simp only [List.getElem_toArray, List.getElem_cons_succ, List.getElem_cons_zero]
                rw [if_pos (by rfl)]
                refine wps2 54 (.tmp 73) (.tmp 77) _ rfl in_l2sub (.agg #[.slice ar2 zs.length dr2]) (.agg #[v4]) rfl rfl (sub_spec _ rr' r4 (by rw [← unhide HZS]; exact limbs_lim S) (limbs_lim _) (by omega) (by rw [← unhide HZS]; exact limbs_len_mono (by have := unhide hl1; omega)) (by rw [limbs_val, ← unhide HZS, limbs_val]; have := unhide hl1; omega)) ?_
                rintro e w8 ⟨v5, rfl, r5, k8⟩
                refine ⟨_, rfl, ?_⟩
                replace r2' := r2'.kept k8 (by omega)
                replace rr' := rr'.kept k8 (by omega)
                replace r3 := r3.kept k8 (by omega)
                replace r4 := r4.kept k8 (by omega)
                replace ST' := ST'.kept k8
                replace fr' := k8.loose0 (World.block_lt_of_cell? _ _ cr') fr'
                replace t0' := k8.cell0 t0'
                replace cr' := k8.cell0 cr'
                replace K := hide ((unhide K).trans k8)
                have z9 := k8.size
                clear k8
                rw [show (val zs - val (limbs ((l : Int) * Y).toNat)).toNat = R' from by rw [limbs_val, ← unhide HZS, limbs_val]; omega] at r5
                clear hHeld
                refine hK.out _ _ ?_ (fun hHeld => ?_)
                · exact t0'
                clear hK KK
                try simp only [Act.put, List.getElem_toArray, List.getElem_cons_succ, List.getElem_cons_zero, List.setIfInBounds_toArray, List.set_cons_zero, List.set_cons_succ]
                have st7 := hide (ST'.again r5 (by omega))
                obtain ⟨a5, c5, hv⟩ := Row.form' r5
                generalize hz5 : limbs R' = z5 at *
                subst hv
                have nX1 : ¬ X = w.heap.size + 1 := by have := unhide S0; omega
                have nX2 : ¬ w.heap.size + 1 = X := by omega
                refine wpAnyH_ready (rs := [6]) (by kernel_rfl) (by simp) ?_
                refine AllReadyH.cons rfl (fun KK hK => ?_) AllReadyH.nil
                simp only [List.getElem_toArray, List.getElem_cons_succ, List.getElem_cons_zero]
                rw [if_pos (by rfl)]
                go_simp
                clear hHeld
                refine hK.out _ _ ?_ (fun hHeld => ?_)
                · exact cell_aside _ (by dsimp only; omega) t0'
                clear hK KK
                try simp only [Act.put, List.getElem_toArray, List.getElem_cons_succ, List.getElem_cons_zero, List.setIfInBounds_toArray, List.set_cons_zero, List.set_cons_succ]
                refine wpAnyH_done (by kernel_rfl) ?_ _
                clear hHeld nX1 nX2
                have hdg := div_digit xs out j Y R (l : Int) R' (by have := (unhide st7).len; simp at this; omega) (unhide hV) (by rw [unhide HZZ]; omega)
                have HDG := hide hdg
                have hRY2 : (R' : Int) < Y := by
                  have := unhide hh1
                  have e : ((l + 1 : Nat) : Int) * Y = (l : Int) * Y + Y := by rw [Int.natCast_add, Int.add_mul]; simp
                  omega
                have hlo2 := hlo.set j (x := (l : Int)) (by omega) (by omega)
                clear r2' rr' r3 r4 r5 ST' t0' cr' fr' K hdg
                go_wp2
                go_roundw
                case rel => exact ⟨out.set j (l : Int), j, R', by first | rfl | go_num, by omega, hlo2, HDG, hRY2, unhide st7⟩
                case measure => simp [intOf]
              · simp only [List.getElem_toArray, List.getElem_cons_succ, List.getElem_cons_zero]
                rw [if_pos (by rfl)]
                refine wps2 45 (.tmp 74) (.tmp 76) _ rfl in_l2mul (.agg #[.slice a2 ys.length c2]) (.agg #[v3]) rfl rfl (mul_spec _ r2' r3 hy.1 (limbs_lim l) (by omega) (by omega)) ?_
                rintro e w6 ⟨v4, rfl, r4, k6⟩
                refine ⟨_, rfl, ?_⟩
                replace r2' := r2'.kept k6 (by omega)
                replace rr' := rr'.kept k6 (by omega)
                replace r3 := r3.kept k6 (by omega)
                replace ST' := ST'.kept k6
                replace fr' := k6.loose0 (World.block_lt_of_cell? _ _ cr') fr'
                replace t0' := k6.cell0 t0'
                replace cr' := k6.cell0 cr'
                replace K := hide ((unhide K).trans k6)
                have z7 := k6.size
                clear k6
                rw [yl] at r4
                clear hHeld
                refine hK.out _ _ ?_ (fun hHeld => ?_)
                · exact t0'
                clear hK KK
                try simp only [Act.put, List.getElem_toArray, List.getElem_cons_succ, List.getElem_cons_zero, List.setIfInBounds_toArray, List.set_cons_zero, List.set_cons_succ]
                refine wpAnyH_ready (rs := [0]) (by kernel_rfl) (by simp) ?_
                refine AllReadyH.cons rfl (fun KK hK => ?_) AllReadyH.nil
                simp only [List.getElem_toArray, List.getElem_cons_succ, List.getElem_cons_zero]
                rw [if_pos (by rfl)]
                go_simp
                clear hHeld
                refine hK.out _ _ ?_ (fun hHeld => ?_)
                · exact t0'
                clear hK KK
                try simp only [Act.put, List.getElem_toArray, List.getElem_cons_succ, List.getElem_cons_zero, List.setIfInBounds_toArray, List.set_cons_zero, List.set_cons_succ]
                refine wpAnyH_ready (rs := [5]) (by kernel_rfl) (by simp) ?_
                refine AllReadyH.cons rfl (fun KK hK => ?_) AllReadyH.nil
                simp only [List.getElem_toArray, List.getElem_cons_succ, List.getElem_cons_zero]
                rw [if_pos (by rfl)]
                refine wps2 54 (.tmp 73) (.tmp 77) _ rfl in_l2sub (.agg #[.slice ar2 zs.length dr2]) (.agg #[v4]) rfl rfl (sub_spec _ rr' r4 (by rw [← unhide HZS]; exact limbs_lim S) (limbs_lim _) (by omega) (by rw [← unhide HZS]; exact limbs_len_mono (by have := unhide hl1; omega)) (by rw [limbs_val, ← unhide HZS, limbs_val]; have := unhide hl1; omega)) ?_
                rintro e w8 ⟨v5, rfl, r5, k8⟩
                refine ⟨_, rfl, ?_⟩
                replace r2' := r2'.kept k8 (by omega)
                replace rr' := rr'.kept k8 (by omega)
                replace r3 := r3.kept k8 (by omega)
                replace r4 := r4.kept k8 (by omega)
                replace ST' := ST'.kept k8
                replace fr' := k8.loose0 (World.block_lt_of_cell? _ _ cr') fr'
                replace t0' := k8.cell0 t0'
                replace cr' := k8.cell0 cr'
                replace K := hide ((unhide K).trans k8)
                have z9 := k8.size
                clear k8
                rw [show (val zs - val (limbs ((l : Int) * Y).toNat)).toNat = R' from by rw [limbs_val, ← unhide HZS, limbs_val]; omega] at r5
                clear hHeld
                refine hK.out _ _ ?_ (fun hHeld => ?_)
                · exact t0'
                clear hK KK
                try simp only [Act.put, List.getElem_toArray, List.getElem_cons_succ, List.getElem_cons_zero, List.setIfInBounds_toArray, List.set_cons_zero, List.set_cons_succ]
                have st7 := hide (ST'.again r5 (by omega))
                obtain ⟨a5, c5, hv⟩ := Row.form' r5
                generalize hz5 : limbs R' = z5 at *
                subst hv
                have nX1 : ¬ X = w.heap.size + 1 := by have := unhide S0; omega
                have nX2 : ¬ w.heap.size + 1 = X := by omega
                refine wpAnyH_ready (rs := [6]) (by kernel_rfl) (by simp) ?_
                refine AllReadyH.cons rfl (fun KK hK => ?_) AllReadyH.nil
                simp only [List.getElem_toArray, List.getElem_cons_succ, List.getElem_cons_zero]
                rw [if_pos (by rfl)]
                go_simp
                clear hHeld
                refine hK.out _ _ ?_ (fun hHeld => ?_)
                · exact cell_aside _ (by dsimp only; omega) t0'
                clear hK KK
                try simp only [Act.put, List.getElem_toArray, List.getElem_cons_succ, List.getElem_cons_zero, List.setIfInBounds_toArray, List.set_cons_zero, List.set_cons_succ]
                refine wpAnyH_done (by kernel_rfl) ?_ _
                clear hHeld nX1 nX2
                have hdg := div_digit xs out j Y R (l : Int) R' (by have := (unhide st7).len; simp at this; omega) (unhide hV) (by rw [unhide HZZ]; omega)
                have HDG := hide hdg
                have hRY2 : (R' : Int) < Y := by
                  have := unhide hh1
                  have e : ((l + 1 : Nat) : Int) * Y = (l : Int) * Y + Y := by rw [Int.natCast_add, Int.add_mul]; simp
                  omega
                have hlo2 := hlo.set j (x := (l : Int)) (by omega) (by omega)
                clear r2' rr' r3 r4 r5 ST' t0' cr' fr' K hdg
                go_wp2
                go_roundw
                case rel => exact ⟨out.set j (l : Int), j, R', by first | rfl | go_num, by omega, hlo2, HDG, hRY2, unhide st7⟩
                case measure => simp [intOf]

/-- The model's l2div: a quotient and what is left. -/
theorem div_spec {b1 b2 : Bool} {l1 h1' l2 h2 : Nat} {v1 v2 : Value} {xs ys : List Int} (w : World) (r1 : Row .i64 b1 l1 h1' w v1 xs) (r2 : Row .i64 b2 l2 h2 w v2 ys) (hx : Lim xs) (hy : Nrm ys) (nx : xs.length ≤ 50000) (ny : ys.length ≤ 50000) (h0 : 0 < val ys) :
    Calls Tryd.prog 35 #[.agg #[v1], .agg #[v2]] w fun e w' => ∃ vq vr, e = .returned (.tuple #[.agg #[vq], .agg #[vr]]) ∧ Row .i64 true w.heap.size w'.heap.size w' vq (limbs (val xs / val ys).toNat) ∧ Row .i64 true w.heap.size w'.heap.size w' vr (limbs (val xs % val ys).toNat) ∧ Kept 0 0 w w' := by
  by_cases h1 : ys.length = 1
  · exact div_one w r1 r2 hx hy.1 (by omega) h1 h0
  · exact div_many w r1 r2 hx hy nx ny h1 h0

end Go.Proofs.YtflpkblmcnkghaaDoor

