/-
  The contract of the model's l2div.
-/
import Derived.Test.YtmoeeoninbphiaaBB
import Derived.Test.YtmoeeoninbphiaaBE
import Derived.Test.YtmoeeoninbphiaaBC
import Derived.Test.YtmoeeoninbphiaaDivNum
namespace Go.Proofs.Ytmoeeoninbphiaa
open Go.RowKit
set_option linter.unusedVariables false
set_option maxRecDepth 8000
set_option linter.unusedSimpArgs false

theorem in_l2small : ∀ (w : World) (args : Array Value), (callFunc 42 args).run Try.prog w = .ok (.enter 42 args) w := enters Try.func42 (by decide) (fun h => by cases h)

set_option maxHeartbeats 2000000 in
theorem div_one {b1 b2 : Bool} {l1 h1' l2 h2 : Nat} {v1 v2 : Value} {xs ys : List Int} (w : World) (r1 : Row .i64 b1 l1 h1' w v1 xs) (r2 : Row .i64 b2 l2 h2 w v2 ys) (hx : Lim xs) (hy : Lim ys) (nx : xs.length ≤ 100000) (h1 : ys.length = 1) (h0 : 0 < val ys) :
    Calls Try.prog 25 #[.agg #[v1], .agg #[v2]] w fun e w' => ∃ vq vr, e = .returned (.tuple #[.agg #[vq], .agg #[vr]]) ∧ Row .i64 true w.heap.size w'.heap.size w' vq (limbs (val xs / val ys).toNat) ∧ Row .i64 true w.heap.size w'.heap.size w' vr (limbs (val xs % val ys).toNat) ∧ Kept 0 0 w w' := by
  replace r1 := r1.tight
  replace r2 := r2.tight
  obtain ⟨d, rfl⟩ : ∃ d, ys = [d] := by
    match ys, h1 with
    | [d], _ => exact ⟨d, rfl⟩
  have hd := hy d (by simp)
  have hv : val [d] = d := by simp [val]
  rw [hv] at h0
  rw [hv]
  obtain ⟨zq, hzq⟩ : ∃ zq, zq = limbs (val xs / d).toNat := ⟨_, rfl⟩
  obtain ⟨zr, hzr⟩ : ∃ zr, zr = limbs (val xs % d).toNat := ⟨_, rfl⟩
  rw [← hzq, ← hzr]
  have HZQ := hide hzq
  have HZR := hide hzr
  clear hzq hzr hv hy
  have hr0 := Int.emod_nonneg (val xs) (show d ≠ 0 by omega)
  have hr1 := Int.emod_lt_of_pos (val xs) (show 0 < d by omega)
  have k0 : Kept 0 0 w ((((w.alloc (.cells #[v1] 28)).alloc (.cells #[v2] 28)).alloc (.cells #[.slice none 0 0] 28)).alloc (.cells #[.slice none 0 0] 28)) := (((((Kept.refl 0 0 w).alloc (.cells #[v1] 28)).alloc (.cells #[v2] 28)).alloc (.cells #[.slice none 0 0] 28)).alloc (.cells #[.slice none 0 0] 28))
  have p0 : ((((w.alloc (.cells #[v1] 28)).alloc (.cells #[v2] 28)).alloc (.cells #[.slice none 0 0] 28)).alloc (.cells #[.slice none 0 0] 28)).cell? ⟨w.heap.size, 0, none⟩ = some (v1) := old_cell _ (old_cell _ (old_cell _ (new_cell2 _ _ _ _ _ _ (by simp) rfl)))
  have t0 : ((((w.alloc (.cells #[v1] 28)).alloc (.cells #[v2] 28)).alloc (.cells #[.slice none 0 0] 28)).alloc (.cells #[.slice none 0 0] 28)).cell? ⟨w.heap.size + 1, 0, none⟩ = some (v2) := old_cell _ (old_cell _ (new_cell2 _ _ _ _ _ _ (by simp) rfl))
  have x0 : ((((w.alloc (.cells #[v1] 28)).alloc (.cells #[v2] 28)).alloc (.cells #[.slice none 0 0] 28)).alloc (.cells #[.slice none 0 0] 28)).cell? ⟨w.heap.size + 2, 0, none⟩ = some (.slice none 0 0) := old_cell _ (new_cell2 _ _ _ _ _ _ (by simp) rfl)
  have xf0 : ((((w.alloc (.cells #[v1] 28)).alloc (.cells #[v2] 28)).alloc (.cells #[.slice none 0 0] 28)).alloc (.cells #[.slice none 0 0] 28)).frozen? ⟨w.heap.size + 2, 0, none⟩ = false := loose_old (by simp <;> omega) (new_loose2 _ _ _ _ _ (by simp))
  have y0 : ((((w.alloc (.cells #[v1] 28)).alloc (.cells #[v2] 28)).alloc (.cells #[.slice none 0 0] 28)).alloc (.cells #[.slice none 0 0] 28)).cell? ⟨w.heap.size + 3, 0, none⟩ = some (.slice none 0 0) := new_cell2 _ _ _ _ _ _ (by simp) rfl
  have yf0 : ((((w.alloc (.cells #[v1] 28)).alloc (.cells #[v2] 28)).alloc (.cells #[.slice none 0 0] 28)).alloc (.cells #[.slice none 0 0] 28)).frozen? ⟨w.heap.size + 3, 0, none⟩ = false := new_loose2 _ _ _ _ _ (by simp)
  replace r1 := r1.kept k0 (by omega)
  replace r2 := r2.kept k0 (by omega)
  have s0 : ((((w.alloc (.cells #[v1] 28)).alloc (.cells #[v2] 28)).alloc (.cells #[.slice none 0 0] 28)).alloc (.cells #[.slice none 0 0] 28)).heap.size = w.heap.size + 4 := by simp
  obtain ⟨a1, c1, hv⟩ := Row.form' r1
  subst hv
  obtain ⟨a2, c2, hv⟩ := Row.form' r2
  subst hv
  have K := hide (k0)
  clear k0
  have S0 := hide s0
  clear s0
  have xat := (row_cell r2).2.2.2 0 (by simp)
  obtain ⟨gy, oy, ey, cy⟩ := xat
  rw [Nat.add_zero] at cy
  simp only [List.getD, List.getElem?_cons_zero, Option.getD_some] at cy
  cases ey
  go_enter Try.func25, Try.ntmps25
  go_wp2_with fail
  generalize ((((w.alloc (.cells #[.slice a1 xs.length c1] 28)).alloc (.cells #[.slice (some ⟨gy, oy, none⟩) 1 c2] 28)).alloc (.cells #[.slice none 0 0] 28)).alloc (.cells #[.slice none 0 0] 28)) = W at *
  have gyl := World.block_lt_of_cell? _ _ cy
  dsimp only at gyl
  have kd := (Kept.refl 0 0 W).drew
  replace r1 := r1.kept kd (by omega)
  replace r2 := r2.kept kd (by omega)
  replace xf0 := kd.loose0 (World.block_lt_of_cell? _ _ x0) xf0
  replace yf0 := kd.loose0 (World.block_lt_of_cell? _ _ y0) yf0
  replace p0 := kd.cell0 p0
  replace t0 := kd.cell0 t0
  replace x0 := kd.cell0 x0
  replace y0 := kd.cell0 y0
  replace cy := kd.cell0 cy
  replace K := hide ((unhide K).trans kd)
  have z1 := kd.size
  clear kd
  refine wp_region_held_drew (S := (fun w' => w'.cell? ⟨w.heap.size, 0, none⟩ = some (.slice a1 xs.length c1) ∧ w'.cell? ⟨w.heap.size + 1, 0, none⟩ = some (.slice (some ⟨gy, oy, none⟩) 1 c2) ∧ w'.cell? ⟨gy, oy, none⟩ = some (.int .i64 d))) (by kernel_rfl) ?_ (fun hHeld => ?_)
  · exact ⟨p0, t0, cy⟩
  generalize W.drew = wd2 at *
  refine wpAnyH_take (i := 0) (oi := _) (v := .agg #[.slice a1 xs.length c1]) rfl (by kernel_rfl) (by kernel_rfl) (by kernel_rfl) (fun _ _ _ h => h) (Or.inl ⟨by rfl, ?_⟩) hHeld ?_
  · intro wq hSw
    try dsimp only at hSw
    go_simp
  try simp only [Act.put, List.getElem_toArray, List.getElem_cons_succ, List.getElem_cons_zero, List.setIfInBounds_toArray, List.set_cons_zero, List.set_cons_succ]
  refine wpAnyH_take (i := 1) (oi := _) (v := .pointer (some ⟨w.heap.size + 1, 0, none⟩)) rfl (by kernel_rfl) (by kernel_rfl) (by kernel_rfl) (fun _ _ _ h => h) (Or.inl ⟨by rfl, ?_⟩) hHeld ?_
  · intro wq hSw
    try dsimp only at hSw
    go_simp
  try simp only [Act.put, List.getElem_toArray, List.getElem_cons_succ, List.getElem_cons_zero, List.setIfInBounds_toArray, List.set_cons_zero, List.set_cons_succ]
  refine wpAnyH_take (i := 2) (oi := _) (v := .slice (some ⟨gy, oy, none⟩) 1 c2) rfl (by kernel_rfl) (by kernel_rfl) (by kernel_rfl) (fun _ _ _ h => h) (Or.inl ⟨by rfl, ?_⟩) hHeld ?_
  · intro wq hSw
    try dsimp only at hSw
    go_simp
  try simp only [Act.put, List.getElem_toArray, List.getElem_cons_succ, List.getElem_cons_zero, List.setIfInBounds_toArray, List.set_cons_zero, List.set_cons_succ]
  refine wpAnyH_take (i := 3) (oi := _) (v := .pointer (some ⟨gy, oy, none⟩)) rfl (by kernel_rfl) (by kernel_rfl) (by kernel_rfl) (fun _ _ _ h => h) (Or.inl ⟨by rfl, ?_⟩) hHeld ?_
  · intro wq hSw
    try dsimp only at hSw
    go_simp
  try simp only [Act.put, List.getElem_toArray, List.getElem_cons_succ, List.getElem_cons_zero, List.setIfInBounds_toArray, List.set_cons_zero, List.set_cons_succ]
  refine wpAnyH_take (i := 4) (oi := _) (v := .int .i64 d) rfl (by kernel_rfl) (by kernel_rfl) (by kernel_rfl) (fun _ _ _ h => h) (Or.inl ⟨by rfl, ?_⟩) hHeld ?_
  · intro wq hSw
    try dsimp only at hSw
    go_simp
  try simp only [Act.put, List.getElem_toArray, List.getElem_cons_succ, List.getElem_cons_zero, List.setIfInBounds_toArray, List.set_cons_zero, List.set_cons_succ]
  refine wpAnyH_ready (rs := [5, 9]) (by kernel_rfl) (by simp) ?_
  refine AllReadyH.cons rfl (fun KK hK => ?_) (AllReadyH.cons rfl (fun KK hK => ?_) AllReadyH.nil)
  · simp only [List.getElem_toArray, List.getElem_cons_succ, List.getElem_cons_zero]
    rw [if_pos (by rfl)]
    refine wps2 42 (.tmp 19) (.tmp 23) _ rfl in_l2small (.agg #[.slice a1 xs.length c1]) (.int .i64 d) rfl rfl (small_spec _ r1 hx nx d h0 (by omega)) ?_
    rintro e w3 ⟨v3, rfl, r3, k3⟩
    refine ⟨_, rfl, ?_⟩
    replace r1 := r1.kept k3 (by omega)
    replace r2 := r2.kept k3 (by omega)
    replace xf0 := k3.loose0 (World.block_lt_of_cell? _ _ x0) xf0
    replace yf0 := k3.loose0 (World.block_lt_of_cell? _ _ y0) yf0
    replace p0 := k3.cell0 p0
    replace t0 := k3.cell0 t0
    replace x0 := k3.cell0 x0
    replace y0 := k3.cell0 y0
    replace cy := k3.cell0 cy
    replace K := hide ((unhide K).trans k3)
    have z4 := k3.size
    clear k3
    rw [← unhide HZQ] at r3
    obtain ⟨a3, c3, hv⟩ := Row.form' r3
    subst hv
    clear hHeld
    refine hK.out _ _ ?_ (fun hHeld => ?_)
    · exact ⟨p0, t0, cy⟩
    clear hK KK
    try simp only [Act.put, List.getElem_toArray, List.getElem_cons_succ, List.getElem_cons_zero, List.setIfInBounds_toArray, List.set_cons_zero, List.set_cons_succ]
    refine wpAnyH_take (i := 6) (oi := _) (v := .tuple #[.agg #[.slice a3 zq.length c3], .int .i64 (val xs % d)]) rfl (by kernel_rfl) (by kernel_rfl) (by kernel_rfl) (fun _ _ _ h => h) (Or.inl ⟨by rfl, ?_⟩) hHeld ?_
    · intro wq hSw
      try dsimp only at hSw
      go_simp
    try simp only [Act.put, List.getElem_toArray, List.getElem_cons_succ, List.getElem_cons_zero, List.setIfInBounds_toArray, List.set_cons_zero, List.set_cons_succ]
    refine wpAnyH_take (i := 7) (oi := _) (v := .agg #[.slice a3 zq.length c3]) rfl (by kernel_rfl) (by kernel_rfl) (by kernel_rfl) (fun _ _ _ h => h) (Or.inl ⟨by rfl, ?_⟩) hHeld ?_
    · intro wq hSw
      try dsimp only at hSw
      go_simp
    try simp only [Act.put, List.getElem_toArray, List.getElem_cons_succ, List.getElem_cons_zero, List.setIfInBounds_toArray, List.set_cons_zero, List.set_cons_succ]
    refine wpAnyH_take (i := 8) (oi := _) (v := .int .i64 (val xs % d)) rfl (by kernel_rfl) (by kernel_rfl) (by kernel_rfl) (fun _ _ _ h => h) (Or.inl ⟨by rfl, ?_⟩) hHeld ?_
    · intro wq hSw
      try dsimp only at hSw
      go_simp
    try simp only [Act.put, List.getElem_toArray, List.getElem_cons_succ, List.getElem_cons_zero, List.setIfInBounds_toArray, List.set_cons_zero, List.set_cons_succ]
    refine wpAnyH_ready (rs := [9]) (by kernel_rfl) (by simp) ?_
    refine AllReadyH.cons rfl (fun KK hK => ?_) AllReadyH.nil
    simp only [List.getElem_toArray, List.getElem_cons_succ, List.getElem_cons_zero]
    rw [if_pos (by rfl)]
    go_simp
    have kn := (Kept.refl 0 0 w3).alloc (.cells #[.slice none 0 0] 28)
    replace r1 := r1.kept kn (by omega)
    replace r2 := r2.kept kn (by omega)
    replace r3 := r3.kept kn (by omega)
    replace xf0 := kn.loose0 (World.block_lt_of_cell? _ _ x0) xf0
    replace yf0 := kn.loose0 (World.block_lt_of_cell? _ _ y0) yf0
    replace p0 := kn.cell0 p0
    replace t0 := kn.cell0 t0
    replace x0 := kn.cell0 x0
    replace y0 := kn.cell0 y0
    replace cy := kn.cell0 cy
    replace K := hide ((unhide K).trans kn)
    have z6 := kn.size
    clear kn
    have szm : w3.heap.size < (w3.alloc (.cells #[.slice none 0 0] 28)).heap.size := by simp
    have m0 : (w3.alloc (.cells #[.slice none 0 0] 28)).cell? ⟨w3.heap.size, 0, none⟩ = some (.slice none 0 0) := new_cell2 _ _ _ _ _ _ rfl rfl
    have mf0 : (w3.alloc (.cells #[.slice none 0 0] 28)).frozen? ⟨w3.heap.size, 0, none⟩ = false := new_loose2 _ _ _ _ _ rfl
    clear hHeld
    refine hK.out _ _ ?_ (fun hHeld => ?_)
    · exact ⟨p0, t0, cy⟩
    clear hK KK
    try simp only [Act.put, List.getElem_toArray, List.getElem_cons_succ, List.getElem_cons_zero, List.setIfInBounds_toArray, List.set_cons_zero, List.set_cons_succ]
    generalize w3.alloc (.cells #[.slice none 0 0] 28) = w5 at *
    refine wpAnyH_ready (rs := [10]) (by kernel_rfl) (by simp) ?_
    refine AllReadyH.cons rfl (fun KK hK => ?_) AllReadyH.nil
    simp only [List.getElem_toArray, List.getElem_cons_succ, List.getElem_cons_zero]
    rw [if_pos (by rfl)]
    go_simp
    clear hHeld
    refine hK.out _ _ ?_ (fun hHeld => ?_)
    · exact ⟨(cell_aside _ (by have := unhide S0; dsimp only; omega) (p0)), (cell_aside _ (by have := unhide S0; dsimp only; omega) (t0)), (cell_aside _ (by have := unhide S0; dsimp only; omega) (cy))⟩
    clear hK KK
    try simp only [Act.put, List.getElem_toArray, List.getElem_cons_succ, List.getElem_cons_zero, List.setIfInBounds_toArray, List.set_cons_zero, List.set_cons_succ]
    refine wpAnyH_take (i := 11) (oi := _) (v := .int .i64 (val xs % d)) rfl (by kernel_rfl) (by kernel_rfl) (by kernel_rfl) (fun _ _ _ h => h) (Or.inl ⟨by rfl, ?_⟩) hHeld ?_
    · intro wq hSw
      try dsimp only at hSw
      go_simp
    try simp only [Act.put, List.getElem_toArray, List.getElem_cons_succ, List.getElem_cons_zero, List.setIfInBounds_toArray, List.set_cons_zero, List.set_cons_succ]
    refine wpAnyH_done (by kernel_rfl) ?_ _
    clear hHeld cy gyl
    have sS0 := unhide S0
    replace r1 := r1.set_other (p := ⟨w3.heap.size, 0, none⟩) (by dsimp only; omega) (.slice a3 zq.length c3)
    replace r2 := r2.set_other (p := ⟨w3.heap.size, 0, none⟩) (by dsimp only; omega) (.slice a3 zq.length c3)
    replace r3 := r3.set_other (p := ⟨w3.heap.size, 0, none⟩) (by dsimp only; omega) (.slice a3 zq.length c3)
    replace p0 := cell_aside (.slice a3 zq.length c3) (r := ⟨w3.heap.size, 0, none⟩) (by dsimp only; omega) p0
    replace t0 := cell_aside (.slice a3 zq.length c3) (r := ⟨w3.heap.size, 0, none⟩) (by dsimp only; omega) t0
    replace x0 := cell_aside (.slice a3 zq.length c3) (r := ⟨w3.heap.size, 0, none⟩) (by dsimp only; omega) x0
    replace y0 := cell_aside (.slice a3 zq.length c3) (r := ⟨w3.heap.size, 0, none⟩) (by dsimp only; omega) y0
    replace xf0 : (w5.setCell ⟨w3.heap.size, 0, none⟩ (.slice a3 zq.length c3)).frozen? _ = false := (frozen_set _ _ _ _ _).trans xf0
    replace yf0 : (w5.setCell ⟨w3.heap.size, 0, none⟩ (.slice a3 zq.length c3)).frozen? _ = false := (frozen_set _ _ _ _ _).trans yf0
    replace mf0 : (w5.setCell ⟨w3.heap.size, 0, none⟩ (.slice a3 zq.length c3)).frozen? _ = false := (frozen_set _ _ _ _ _).trans mf0
    replace m0 : (w5.setCell ⟨w3.heap.size, 0, none⟩ (.slice a3 zq.length c3)).cell? ⟨w3.heap.size, 0, none⟩ = some (.slice a3 zq.length c3) := cell_on _ _ _ _ _ m0
    replace K := hide ((unhide K).setNew (p := ⟨w3.heap.size, 0, none⟩) (by dsimp only; omega) (.slice a3 zq.length c3))
    have zs7 : (w5.setCell ⟨w3.heap.size, 0, none⟩ (.slice a3 zq.length c3)).heap.size = w5.heap.size := by simp [World.setCell]
    clear sS0
    generalize w5.setCell ⟨w3.heap.size, 0, none⟩ (.slice a3 zq.length c3) = ws7 at *
    go_wp2_with fail
    have kd := (Kept.refl 0 0 ws7).drew
    replace r1 := r1.kept kd (by omega)
    replace r2 := r2.kept kd (by omega)
    replace r3 := r3.kept kd (by omega)
    replace xf0 := kd.loose0 (World.block_lt_of_cell? _ _ x0) xf0
    replace yf0 := kd.loose0 (World.block_lt_of_cell? _ _ y0) yf0
    replace mf0 := kd.loose0 (World.block_lt_of_cell? _ _ m0) mf0
    replace p0 := kd.cell0 p0
    replace t0 := kd.cell0 t0
    replace x0 := kd.cell0 x0
    replace y0 := kd.cell0 y0
    replace m0 := kd.cell0 m0
    replace K := hide ((unhide K).trans kd)
    have z8 := kd.size
    clear kd
    refine wp_region_held_drew (S := (fun w' => w'.cell? ⟨w3.heap.size, 0, none⟩ = some (.slice a3 zq.length c3))) (by kernel_rfl) ?_ (fun hHeld => ?_)
    · exact m0
    generalize ws7.drew = wd9 at *
    refine wpAnyH_take (i := 0) (oi := _) (v := .agg #[.slice a3 zq.length c3]) rfl (by kernel_rfl) (by kernel_rfl) (by kernel_rfl) (fun _ _ _ h => h) (Or.inl ⟨by rfl, ?_⟩) hHeld ?_
    · intro wq hSw
      try dsimp only at hSw
      go_simp
    try simp only [Act.put, List.getElem_toArray, List.getElem_cons_succ, List.getElem_cons_zero, List.setIfInBounds_toArray, List.set_cons_zero, List.set_cons_succ]
    refine wpAnyH_take (i := 1) (oi := _) (v := .int .i64 (val xs % d)) rfl (by kernel_rfl) (by kernel_rfl) (by kernel_rfl) (fun _ _ _ h => h) (Or.inl ⟨by rfl, ?_⟩) hHeld ?_
    · intro wq hSw
      try dsimp only at hSw
      go_simp
    try simp only [Act.put, List.getElem_toArray, List.getElem_cons_succ, List.getElem_cons_zero, List.setIfInBounds_toArray, List.set_cons_zero, List.set_cons_succ]
    refine wpAnyH_ready (rs := [2]) (by kernel_rfl) (by simp) ?_
    refine AllReadyH.cons rfl (fun KK hK => ?_) AllReadyH.nil
    simp only [List.getElem_toArray, List.getElem_cons_succ, List.getElem_cons_zero]
    rw [if_pos (by rfl)]
    refine wps1 28 (.tmp 28) _ rfl in_l2of (.int .i64 (val xs % d)) rfl (of_spec _ (val xs % d) (by omega)) ?_
    rintro e w10 ⟨v4, rfl, r4, k10⟩
    refine ⟨_, rfl, ?_⟩
    replace r1 := r1.kept k10 (by omega)
    replace r2 := r2.kept k10 (by omega)
    replace r3 := r3.kept k10 (by omega)
    replace xf0 := k10.loose0 (World.block_lt_of_cell? _ _ x0) xf0
    replace yf0 := k10.loose0 (World.block_lt_of_cell? _ _ y0) yf0
    replace mf0 := k10.loose0 (World.block_lt_of_cell? _ _ m0) mf0
    replace p0 := k10.cell0 p0
    replace t0 := k10.cell0 t0
    replace x0 := k10.cell0 x0
    replace y0 := k10.cell0 y0
    replace m0 := k10.cell0 m0
    replace K := hide ((unhide K).trans k10)
    have z11 := k10.size
    clear k10
    rw [← unhide HZR] at r4
    obtain ⟨a4, c4, hv⟩ := Row.form' r4
    subst hv
    clear hHeld
    refine hK.out _ _ ?_ (fun hHeld => ?_)
    · exact m0
    clear hK KK
    try simp only [Act.put, List.getElem_toArray, List.getElem_cons_succ, List.getElem_cons_zero, List.setIfInBounds_toArray, List.set_cons_zero, List.set_cons_succ]
    refine wpAnyH_ready (rs := [3]) (by kernel_rfl) (by simp) ?_
    refine AllReadyH.cons rfl (fun KK hK => ?_) AllReadyH.nil
    simp only [List.getElem_toArray, List.getElem_cons_succ, List.getElem_cons_zero]
    rw [if_pos (by rfl)]
    go_simp
    clear hHeld
    refine hK.out _ _ ?_ (fun hHeld => ?_)
    · exact cell_aside _ (by have := unhide S0; dsimp only; omega) m0
    clear hK KK
    try simp only [Act.put, List.getElem_toArray, List.getElem_cons_succ, List.getElem_cons_zero, List.setIfInBounds_toArray, List.set_cons_zero, List.set_cons_succ]
    have sS0 := unhide S0
    replace r1 := r1.set_other (p := ⟨w.heap.size + 2, 0, none⟩) (by dsimp only; omega) (.slice a3 zq.length c3)
    replace r2 := r2.set_other (p := ⟨w.heap.size + 2, 0, none⟩) (by dsimp only; omega) (.slice a3 zq.length c3)
    replace r3 := r3.set_other (p := ⟨w.heap.size + 2, 0, none⟩) (by dsimp only; omega) (.slice a3 zq.length c3)
    replace r4 := r4.set_other (p := ⟨w.heap.size + 2, 0, none⟩) (by dsimp only; omega) (.slice a3 zq.length c3)
    replace p0 := cell_aside (.slice a3 zq.length c3) (r := ⟨w.heap.size + 2, 0, none⟩) (by dsimp only; omega) p0
    replace t0 := cell_aside (.slice a3 zq.length c3) (r := ⟨w.heap.size + 2, 0, none⟩) (by dsimp only; omega) t0
    replace y0 := cell_aside (.slice a3 zq.length c3) (r := ⟨w.heap.size + 2, 0, none⟩) (by dsimp only; omega) y0
    replace m0 := cell_aside (.slice a3 zq.length c3) (r := ⟨w.heap.size + 2, 0, none⟩) (by dsimp only; omega) m0
    replace xf0 : (w10.setCell ⟨w.heap.size + 2, 0, none⟩ (.slice a3 zq.length c3)).frozen? _ = false := (frozen_set _ _ _ _ _).trans xf0
    replace yf0 : (w10.setCell ⟨w.heap.size + 2, 0, none⟩ (.slice a3 zq.length c3)).frozen? _ = false := (frozen_set _ _ _ _ _).trans yf0
    replace mf0 : (w10.setCell ⟨w.heap.size + 2, 0, none⟩ (.slice a3 zq.length c3)).frozen? _ = false := (frozen_set _ _ _ _ _).trans mf0
    replace x0 : (w10.setCell ⟨w.heap.size + 2, 0, none⟩ (.slice a3 zq.length c3)).cell? ⟨w.heap.size + 2, 0, none⟩ = some (.slice a3 zq.length c3) := cell_on _ _ _ _ _ x0
    replace K := hide ((unhide K).setNew (p := ⟨w.heap.size + 2, 0, none⟩) (by dsimp only; omega) (.slice a3 zq.length c3))
    have zs12 : (w10.setCell ⟨w.heap.size + 2, 0, none⟩ (.slice a3 zq.length c3)).heap.size = w10.heap.size := by simp [World.setCell]
    clear sS0
    generalize w10.setCell ⟨w.heap.size + 2, 0, none⟩ (.slice a3 zq.length c3) = ws12 at *
    refine wpAnyH_ready (rs := [4]) (by kernel_rfl) (by simp) ?_
    refine AllReadyH.cons rfl (fun KK hK => ?_) AllReadyH.nil
    simp only [List.getElem_toArray, List.getElem_cons_succ, List.getElem_cons_zero]
    rw [if_pos (by rfl)]
    go_simp
    clear hHeld
    refine hK.out _ _ ?_ (fun hHeld => ?_)
    · exact cell_aside _ (by have := unhide S0; dsimp only; omega) m0
    clear hK KK
    try simp only [Act.put, List.getElem_toArray, List.getElem_cons_succ, List.getElem_cons_zero, List.setIfInBounds_toArray, List.set_cons_zero, List.set_cons_succ]
    have sS0 := unhide S0
    replace r1 := r1.set_other (p := ⟨w.heap.size + 3, 0, none⟩) (by dsimp only; omega) (.slice a4 zr.length c4)
    replace r2 := r2.set_other (p := ⟨w.heap.size + 3, 0, none⟩) (by dsimp only; omega) (.slice a4 zr.length c4)
    replace r3 := r3.set_other (p := ⟨w.heap.size + 3, 0, none⟩) (by dsimp only; omega) (.slice a4 zr.length c4)
    replace r4 := r4.set_other (p := ⟨w.heap.size + 3, 0, none⟩) (by dsimp only; omega) (.slice a4 zr.length c4)
    replace p0 := cell_aside (.slice a4 zr.length c4) (r := ⟨w.heap.size + 3, 0, none⟩) (by dsimp only; omega) p0
    replace t0 := cell_aside (.slice a4 zr.length c4) (r := ⟨w.heap.size + 3, 0, none⟩) (by dsimp only; omega) t0
    replace x0 := cell_aside (.slice a4 zr.length c4) (r := ⟨w.heap.size + 3, 0, none⟩) (by dsimp only; omega) x0
    replace m0 := cell_aside (.slice a4 zr.length c4) (r := ⟨w.heap.size + 3, 0, none⟩) (by dsimp only; omega) m0
    replace xf0 : (ws12.setCell ⟨w.heap.size + 3, 0, none⟩ (.slice a4 zr.length c4)).frozen? _ = false := (frozen_set _ _ _ _ _).trans xf0
    replace yf0 : (ws12.setCell ⟨w.heap.size + 3, 0, none⟩ (.slice a4 zr.length c4)).frozen? _ = false := (frozen_set _ _ _ _ _).trans yf0
    replace mf0 : (ws12.setCell ⟨w.heap.size + 3, 0, none⟩ (.slice a4 zr.length c4)).frozen? _ = false := (frozen_set _ _ _ _ _).trans mf0
    replace y0 : (ws12.setCell ⟨w.heap.size + 3, 0, none⟩ (.slice a4 zr.length c4)).cell? ⟨w.heap.size + 3, 0, none⟩ = some (.slice a4 zr.length c4) := cell_on _ _ _ _ _ y0
    replace K := hide ((unhide K).setNew (p := ⟨w.heap.size + 3, 0, none⟩) (by dsimp only; omega) (.slice a4 zr.length c4))
    have zs13 : (ws12.setCell ⟨w.heap.size + 3, 0, none⟩ (.slice a4 zr.length c4)).heap.size = ws12.heap.size := by simp [World.setCell]
    clear sS0
    generalize ws12.setCell ⟨w.heap.size + 3, 0, none⟩ (.slice a4 zr.length c4) = ws13 at *
    refine wpAnyH_done (by kernel_rfl) ?_ _
    clear hHeld
    have R1 := hide (r3.tight.wider (lo' := w.heap.size) (by have := unhide S0; omega) (Nat.le_refl _))
    have R2 := hide (r4.tight.wider (lo' := w.heap.size) (by have := unhide S0; omega) (Nat.le_refl _))
    clear r1 r2 r3 r4
    go_wp2_with fail
    exact bodyPost_ret (v := .tuple #[.agg #[.slice a3 zq.length c3], .agg #[.slice a4 zr.length c4]]) (by simp [results, Try.results25, go_sem, x0, y0]) rfl ⟨_, _, rfl, unhide R1, unhide R2, unhide K⟩
  · simp only [List.getElem_toArray, List.getElem_cons_succ, List.getElem_cons_zero]
    rw [if_pos (by rfl)]
    go_simp
    have kn := (Kept.refl 0 0 wd2).alloc (.cells #[.slice none 0 0] 28)
    replace r1 := r1.kept kn (by omega)
    replace r2 := r2.kept kn (by omega)
    replace xf0 := kn.loose0 (World.block_lt_of_cell? _ _ x0) xf0
    replace yf0 := kn.loose0 (World.block_lt_of_cell? _ _ y0) yf0
    replace p0 := kn.cell0 p0
    replace t0 := kn.cell0 t0
    replace x0 := kn.cell0 x0
    replace y0 := kn.cell0 y0
    replace cy := kn.cell0 cy
    replace K := hide ((unhide K).trans kn)
    have z4 := kn.size
    clear kn
    have szm : wd2.heap.size < (wd2.alloc (.cells #[.slice none 0 0] 28)).heap.size := by simp
    have m0 : (wd2.alloc (.cells #[.slice none 0 0] 28)).cell? ⟨wd2.heap.size, 0, none⟩ = some (.slice none 0 0) := new_cell2 _ _ _ _ _ _ rfl rfl
    have mf0 : (wd2.alloc (.cells #[.slice none 0 0] 28)).frozen? ⟨wd2.heap.size, 0, none⟩ = false := new_loose2 _ _ _ _ _ rfl
    clear hHeld
    refine hK.out _ _ ?_ (fun hHeld => ?_)
    · exact ⟨p0, t0, cy⟩
    clear hK KK
    try simp only [Act.put, List.getElem_toArray, List.getElem_cons_succ, List.getElem_cons_zero, List.setIfInBounds_toArray, List.set_cons_zero, List.set_cons_succ]
    generalize wd2.alloc (.cells #[.slice none 0 0] 28) = w3 at *
    refine wpAnyH_ready (rs := [5]) (by kernel_rfl) (by simp) ?_
    refine AllReadyH.cons rfl (fun KK hK => ?_) AllReadyH.nil
    simp only [List.getElem_toArray, List.getElem_cons_succ, List.getElem_cons_zero]
    rw [if_pos (by rfl)]
    refine wps2 42 (.tmp 19) (.tmp 23) _ rfl in_l2small (.agg #[.slice a1 xs.length c1]) (.int .i64 d) rfl rfl (small_spec _ r1 hx nx d h0 (by omega)) ?_
    rintro e w5 ⟨v3, rfl, r3, k5⟩
    refine ⟨_, rfl, ?_⟩
    replace r1 := r1.kept k5 (by omega)
    replace r2 := r2.kept k5 (by omega)
    replace xf0 := k5.loose0 (World.block_lt_of_cell? _ _ x0) xf0
    replace yf0 := k5.loose0 (World.block_lt_of_cell? _ _ y0) yf0
    replace mf0 := k5.loose0 (World.block_lt_of_cell? _ _ m0) mf0
    replace p0 := k5.cell0 p0
    replace t0 := k5.cell0 t0
    replace x0 := k5.cell0 x0
    replace y0 := k5.cell0 y0
    replace cy := k5.cell0 cy
    replace m0 := k5.cell0 m0
    replace K := hide ((unhide K).trans k5)
    have z6 := k5.size
    clear k5
    rw [← unhide HZQ] at r3
    obtain ⟨a3, c3, hv⟩ := Row.form' r3
    subst hv
    clear hHeld
    refine hK.out _ _ ?_ (fun hHeld => ?_)
    · exact ⟨p0, t0, cy⟩
    clear hK KK
    try simp only [Act.put, List.getElem_toArray, List.getElem_cons_succ, List.getElem_cons_zero, List.setIfInBounds_toArray, List.set_cons_zero, List.set_cons_succ]
    refine wpAnyH_take (i := 6) (oi := _) (v := .tuple #[.agg #[.slice a3 zq.length c3], .int .i64 (val xs % d)]) rfl (by kernel_rfl) (by kernel_rfl) (by kernel_rfl) (fun _ _ _ h => h) (Or.inl ⟨by rfl, ?_⟩) hHeld ?_
    · intro wq hSw
      try dsimp only at hSw
      go_simp
    try simp only [Act.put, List.getElem_toArray, List.getElem_cons_succ, List.getElem_cons_zero, List.setIfInBounds_toArray, List.set_cons_zero, List.set_cons_succ]
    refine wpAnyH_take (i := 7) (oi := _) (v := .agg #[.slice a3 zq.length c3]) rfl (by kernel_rfl) (by kernel_rfl) (by kernel_rfl) (fun _ _ _ h => h) (Or.inl ⟨by rfl, ?_⟩) hHeld ?_
    · intro wq hSw
      try dsimp only at hSw
      go_simp
    try simp only [Act.put, List.getElem_toArray, List.getElem_cons_succ, List.getElem_cons_zero, List.setIfInBounds_toArray, List.set_cons_zero, List.set_cons_succ]
    refine wpAnyH_take (i := 8) (oi := _) (v := .int .i64 (val xs % d)) rfl (by kernel_rfl) (by kernel_rfl) (by kernel_rfl) (fun _ _ _ h => h) (Or.inl ⟨by rfl, ?_⟩) hHeld ?_
    · intro wq hSw
      try dsimp only at hSw
      go_simp
    try simp only [Act.put, List.getElem_toArray, List.getElem_cons_succ, List.getElem_cons_zero, List.setIfInBounds_toArray, List.set_cons_zero, List.set_cons_succ]
    refine wpAnyH_ready (rs := [10]) (by kernel_rfl) (by simp) ?_
    refine AllReadyH.cons rfl (fun KK hK => ?_) AllReadyH.nil
    simp only [List.getElem_toArray, List.getElem_cons_succ, List.getElem_cons_zero]
    rw [if_pos (by rfl)]
    go_simp
    clear hHeld
    refine hK.out _ _ ?_ (fun hHeld => ?_)
    · exact ⟨(cell_aside _ (by have := unhide S0; dsimp only; omega) (p0)), (cell_aside _ (by have := unhide S0; dsimp only; omega) (t0)), (cell_aside _ (by have := unhide S0; dsimp only; omega) (cy))⟩
    clear hK KK
    try simp only [Act.put, List.getElem_toArray, List.getElem_cons_succ, List.getElem_cons_zero, List.setIfInBounds_toArray, List.set_cons_zero, List.set_cons_succ]
    refine wpAnyH_take (i := 11) (oi := _) (v := .int .i64 (val xs % d)) rfl (by kernel_rfl) (by kernel_rfl) (by kernel_rfl) (fun _ _ _ h => h) (Or.inl ⟨by rfl, ?_⟩) hHeld ?_
    · intro wq hSw
      try dsimp only at hSw
      go_simp
    try simp only [Act.put, List.getElem_toArray, List.getElem_cons_succ, List.getElem_cons_zero, List.setIfInBounds_toArray, List.set_cons_zero, List.set_cons_succ]
    refine wpAnyH_done (by kernel_rfl) ?_ _
    clear hHeld cy gyl
    have sS0 := unhide S0
    replace r1 := r1.set_other (p := ⟨wd2.heap.size, 0, none⟩) (by dsimp only; omega) (.slice a3 zq.length c3)
    replace r2 := r2.set_other (p := ⟨wd2.heap.size, 0, none⟩) (by dsimp only; omega) (.slice a3 zq.length c3)
    replace r3 := r3.set_other (p := ⟨wd2.heap.size, 0, none⟩) (by dsimp only; omega) (.slice a3 zq.length c3)
    replace p0 := cell_aside (.slice a3 zq.length c3) (r := ⟨wd2.heap.size, 0, none⟩) (by dsimp only; omega) p0
    replace t0 := cell_aside (.slice a3 zq.length c3) (r := ⟨wd2.heap.size, 0, none⟩) (by dsimp only; omega) t0
    replace x0 := cell_aside (.slice a3 zq.length c3) (r := ⟨wd2.heap.size, 0, none⟩) (by dsimp only; omega) x0
    replace y0 := cell_aside (.slice a3 zq.length c3) (r := ⟨wd2.heap.size, 0, none⟩) (by dsimp only; omega) y0
    replace xf0 : (w5.setCell ⟨wd2.heap.size, 0, none⟩ (.slice a3 zq.length c3)).frozen? _ = false := (frozen_set _ _ _ _ _).trans xf0
    replace yf0 : (w5.setCell ⟨wd2.heap.size, 0, none⟩ (.slice a3 zq.length c3)).frozen? _ = false := (frozen_set _ _ _ _ _).trans yf0
    replace mf0 : (w5.setCell ⟨wd2.heap.size, 0, none⟩ (.slice a3 zq.length c3)).frozen? _ = false := (frozen_set _ _ _ _ _).trans mf0
    replace m0 : (w5.setCell ⟨wd2.heap.size, 0, none⟩ (.slice a3 zq.length c3)).cell? ⟨wd2.heap.size, 0, none⟩ = some (.slice a3 zq.length c3) := cell_on _ _ _ _ _ m0
    replace K := hide ((unhide K).setNew (p := ⟨wd2.heap.size, 0, none⟩) (by dsimp only; omega) (.slice a3 zq.length c3))
    have zs7 : (w5.setCell ⟨wd2.heap.size, 0, none⟩ (.slice a3 zq.length c3)).heap.size = w5.heap.size := by simp [World.setCell]
    clear sS0
    generalize w5.setCell ⟨wd2.heap.size, 0, none⟩ (.slice a3 zq.length c3) = ws7 at *
    go_wp2_with fail
    have kd := (Kept.refl 0 0 ws7).drew
    replace r1 := r1.kept kd (by omega)
    replace r2 := r2.kept kd (by omega)
    replace r3 := r3.kept kd (by omega)
    replace xf0 := kd.loose0 (World.block_lt_of_cell? _ _ x0) xf0
    replace yf0 := kd.loose0 (World.block_lt_of_cell? _ _ y0) yf0
    replace mf0 := kd.loose0 (World.block_lt_of_cell? _ _ m0) mf0
    replace p0 := kd.cell0 p0
    replace t0 := kd.cell0 t0
    replace x0 := kd.cell0 x0
    replace y0 := kd.cell0 y0
    replace m0 := kd.cell0 m0
    replace K := hide ((unhide K).trans kd)
    have z8 := kd.size
    clear kd
    refine wp_region_held_drew (S := (fun w' => w'.cell? ⟨wd2.heap.size, 0, none⟩ = some (.slice a3 zq.length c3))) (by kernel_rfl) ?_ (fun hHeld => ?_)
    · exact m0
    generalize ws7.drew = wd9 at *
    refine wpAnyH_take (i := 0) (oi := _) (v := .agg #[.slice a3 zq.length c3]) rfl (by kernel_rfl) (by kernel_rfl) (by kernel_rfl) (fun _ _ _ h => h) (Or.inl ⟨by rfl, ?_⟩) hHeld ?_
    · intro wq hSw
      try dsimp only at hSw
      go_simp
    try simp only [Act.put, List.getElem_toArray, List.getElem_cons_succ, List.getElem_cons_zero, List.setIfInBounds_toArray, List.set_cons_zero, List.set_cons_succ]
    refine wpAnyH_take (i := 1) (oi := _) (v := .int .i64 (val xs % d)) rfl (by kernel_rfl) (by kernel_rfl) (by kernel_rfl) (fun _ _ _ h => h) (Or.inl ⟨by rfl, ?_⟩) hHeld ?_
    · intro wq hSw
      try dsimp only at hSw
      go_simp
    try simp only [Act.put, List.getElem_toArray, List.getElem_cons_succ, List.getElem_cons_zero, List.setIfInBounds_toArray, List.set_cons_zero, List.set_cons_succ]
    refine wpAnyH_ready (rs := [2]) (by kernel_rfl) (by simp) ?_
    refine AllReadyH.cons rfl (fun KK hK => ?_) AllReadyH.nil
    simp only [List.getElem_toArray, List.getElem_cons_succ, List.getElem_cons_zero]
    rw [if_pos (by rfl)]
    refine wps1 28 (.tmp 28) _ rfl in_l2of (.int .i64 (val xs % d)) rfl (of_spec _ (val xs % d) (by omega)) ?_
    rintro e w10 ⟨v4, rfl, r4, k10⟩
    refine ⟨_, rfl, ?_⟩
    replace r1 := r1.kept k10 (by omega)
    replace r2 := r2.kept k10 (by omega)
    replace r3 := r3.kept k10 (by omega)
    replace xf0 := k10.loose0 (World.block_lt_of_cell? _ _ x0) xf0
    replace yf0 := k10.loose0 (World.block_lt_of_cell? _ _ y0) yf0
    replace mf0 := k10.loose0 (World.block_lt_of_cell? _ _ m0) mf0
    replace p0 := k10.cell0 p0
    replace t0 := k10.cell0 t0
    replace x0 := k10.cell0 x0
    replace y0 := k10.cell0 y0
    replace m0 := k10.cell0 m0
    replace K := hide ((unhide K).trans k10)
    have z11 := k10.size
    clear k10
    rw [← unhide HZR] at r4
    obtain ⟨a4, c4, hv⟩ := Row.form' r4
    subst hv
    clear hHeld
    refine hK.out _ _ ?_ (fun hHeld => ?_)
    · exact m0
    clear hK KK
    try simp only [Act.put, List.getElem_toArray, List.getElem_cons_succ, List.getElem_cons_zero, List.setIfInBounds_toArray, List.set_cons_zero, List.set_cons_succ]
    refine wpAnyH_ready (rs := [3]) (by kernel_rfl) (by simp) ?_
    refine AllReadyH.cons rfl (fun KK hK => ?_) AllReadyH.nil
    simp only [List.getElem_toArray, List.getElem_cons_succ, List.getElem_cons_zero]
    rw [if_pos (by rfl)]
    go_simp
    clear hHeld
    refine hK.out _ _ ?_ (fun hHeld => ?_)
    · exact cell_aside _ (by have := unhide S0; dsimp only; omega) m0
    clear hK KK
    try simp only [Act.put, List.getElem_toArray, List.getElem_cons_succ, List.getElem_cons_zero, List.setIfInBounds_toArray, List.set_cons_zero, List.set_cons_succ]
    have sS0 := unhide S0
    replace r1 := r1.set_other (p := ⟨w.heap.size + 2, 0, none⟩) (by dsimp only; omega) (.slice a3 zq.length c3)
    replace r2 := r2.set_other (p := ⟨w.heap.size + 2, 0, none⟩) (by dsimp only; omega) (.slice a3 zq.length c3)
    replace r3 := r3.set_other (p := ⟨w.heap.size + 2, 0, none⟩) (by dsimp only; omega) (.slice a3 zq.length c3)
    replace r4 := r4.set_other (p := ⟨w.heap.size + 2, 0, none⟩) (by dsimp only; omega) (.slice a3 zq.length c3)
    replace p0 := cell_aside (.slice a3 zq.length c3) (r := ⟨w.heap.size + 2, 0, none⟩) (by dsimp only; omega) p0
    replace t0 := cell_aside (.slice a3 zq.length c3) (r := ⟨w.heap.size + 2, 0, none⟩) (by dsimp only; omega) t0
    replace y0 := cell_aside (.slice a3 zq.length c3) (r := ⟨w.heap.size + 2, 0, none⟩) (by dsimp only; omega) y0
    replace m0 := cell_aside (.slice a3 zq.length c3) (r := ⟨w.heap.size + 2, 0, none⟩) (by dsimp only; omega) m0
    replace xf0 : (w10.setCell ⟨w.heap.size + 2, 0, none⟩ (.slice a3 zq.length c3)).frozen? _ = false := (frozen_set _ _ _ _ _).trans xf0
    replace yf0 : (w10.setCell ⟨w.heap.size + 2, 0, none⟩ (.slice a3 zq.length c3)).frozen? _ = false := (frozen_set _ _ _ _ _).trans yf0
    replace mf0 : (w10.setCell ⟨w.heap.size + 2, 0, none⟩ (.slice a3 zq.length c3)).frozen? _ = false := (frozen_set _ _ _ _ _).trans mf0
    replace x0 : (w10.setCell ⟨w.heap.size + 2, 0, none⟩ (.slice a3 zq.length c3)).cell? ⟨w.heap.size + 2, 0, none⟩ = some (.slice a3 zq.length c3) := cell_on _ _ _ _ _ x0
    replace K := hide ((unhide K).setNew (p := ⟨w.heap.size + 2, 0, none⟩) (by dsimp only; omega) (.slice a3 zq.length c3))
    have zs12 : (w10.setCell ⟨w.heap.size + 2, 0, none⟩ (.slice a3 zq.length c3)).heap.size = w10.heap.size := by simp [World.setCell]
    clear sS0
    generalize w10.setCell ⟨w.heap.size + 2, 0, none⟩ (.slice a3 zq.length c3) = ws12 at *
    refine wpAnyH_ready (rs := [4]) (by kernel_rfl) (by simp) ?_
    refine AllReadyH.cons rfl (fun KK hK => ?_) AllReadyH.nil
    simp only [List.getElem_toArray, List.getElem_cons_succ, List.getElem_cons_zero]
    rw [if_pos (by rfl)]
    go_simp
    clear hHeld
    refine hK.out _ _ ?_ (fun hHeld => ?_)
    · exact cell_aside _ (by have := unhide S0; dsimp only; omega) m0
    clear hK KK
    try simp only [Act.put, List.getElem_toArray, List.getElem_cons_succ, List.getElem_cons_zero, List.setIfInBounds_toArray, List.set_cons_zero, List.set_cons_succ]
    have sS0 := unhide S0
    replace r1 := r1.set_other (p := ⟨w.heap.size + 3, 0, none⟩) (by dsimp only; omega) (.slice a4 zr.length c4)
    replace r2 := r2.set_other (p := ⟨w.heap.size + 3, 0, none⟩) (by dsimp only; omega) (.slice a4 zr.length c4)
    replace r3 := r3.set_other (p := ⟨w.heap.size + 3, 0, none⟩) (by dsimp only; omega) (.slice a4 zr.length c4)
    replace r4 := r4.set_other (p := ⟨w.heap.size + 3, 0, none⟩) (by dsimp only; omega) (.slice a4 zr.length c4)
    replace p0 := cell_aside (.slice a4 zr.length c4) (r := ⟨w.heap.size + 3, 0, none⟩) (by dsimp only; omega) p0
    replace t0 := cell_aside (.slice a4 zr.length c4) (r := ⟨w.heap.size + 3, 0, none⟩) (by dsimp only; omega) t0
    replace x0 := cell_aside (.slice a4 zr.length c4) (r := ⟨w.heap.size + 3, 0, none⟩) (by dsimp only; omega) x0
    replace m0 := cell_aside (.slice a4 zr.length c4) (r := ⟨w.heap.size + 3, 0, none⟩) (by dsimp only; omega) m0
    replace xf0 : (ws12.setCell ⟨w.heap.size + 3, 0, none⟩ (.slice a4 zr.length c4)).frozen? _ = false := (frozen_set _ _ _ _ _).trans xf0
    replace yf0 : (ws12.setCell ⟨w.heap.size + 3, 0, none⟩ (.slice a4 zr.length c4)).frozen? _ = false := (frozen_set _ _ _ _ _).trans yf0
    replace mf0 : (ws12.setCell ⟨w.heap.size + 3, 0, none⟩ (.slice a4 zr.length c4)).frozen? _ = false := (frozen_set _ _ _ _ _).trans mf0
    replace y0 : (ws12.setCell ⟨w.heap.size + 3, 0, none⟩ (.slice a4 zr.length c4)).cell? ⟨w.heap.size + 3, 0, none⟩ = some (.slice a4 zr.length c4) := cell_on _ _ _ _ _ y0
    replace K := hide ((unhide K).setNew (p := ⟨w.heap.size + 3, 0, none⟩) (by dsimp only; omega) (.slice a4 zr.length c4))
    have zs13 : (ws12.setCell ⟨w.heap.size + 3, 0, none⟩ (.slice a4 zr.length c4)).heap.size = ws12.heap.size := by simp [World.setCell]
    clear sS0
    generalize ws12.setCell ⟨w.heap.size + 3, 0, none⟩ (.slice a4 zr.length c4) = ws13 at *
    refine wpAnyH_done (by kernel_rfl) ?_ _
    clear hHeld
    have R1 := hide (r3.tight.wider (lo' := w.heap.size) (by have := unhide S0; omega) (Nat.le_refl _))
    have R2 := hide (r4.tight.wider (lo' := w.heap.size) (by have := unhide S0; omega) (Nat.le_refl _))
    clear r1 r2 r3 r4
    go_wp2_with fail
    exact bodyPost_ret (v := .tuple #[.agg #[.slice a3 zq.length c3], .agg #[.slice a4 zr.length c4]]) (by simp [results, Try.results25, go_sem, x0, y0]) rfl ⟨_, _, rfl, unhide R1, unhide R2, unhide K⟩

end Go.Proofs.Ytmoeeoninbphiaa
