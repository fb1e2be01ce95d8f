/-
  Contracts of the model's NatDiv.
-/
import Derived.Test.YtdhponfpikclhaaNat16
import Derived.Test.YtdhponfpikclhaaHelpW
import Derived.Deep.DeepCutAuto
namespace Go.Proofs.Ytdhponfpikclhaa
open Go.RowKit
set_option linter.unusedVariables false
set_option maxRecDepth 8000
set_option linter.unusedSimpArgs false

/-- Whether two lists are divided, and what is told. -/
def divB (xs ys : List Int) : Bool := okB xs && (okB ys && decide (0 < ys.length))
def divQ (xs ys : List Int) : List Int := if divB xs ys = true then limbs (val xs / val ys).toNat else []
def divR (xs ys : List Int) : List Int := if divB xs ys = true then limbs (val xs % val ys).toNat else []
theorem divQ_no {xs ys : List Int} (h : divB xs ys = false) : divQ xs ys = [] := by unfold divQ; rw [h]; rfl
theorem divR_no {xs ys : List Int} (h : divB xs ys = false) : divR xs ys = [] := by unfold divR; rw [h]; rfl
theorem divQ_yes {xs ys : List Int} (h : divB xs ys = true) : divQ xs ys = limbs (val xs / val ys).toNat := by unfold divQ; rw [h]; rfl
theorem divR_yes {xs ys : List Int} (h : divB xs ys = true) : divR xs ys = limbs (val xs % val ys).toNat := by unfold divR; rw [h]; rfl
theorem div_pos {ys : List Int} (h : okB ys = true) (h0 : 0 < ys.length) : 0 < val ys := by
  have hn := ((okB_iff ys).1 h).2
  have e1 := nrm_pow hn (List.length_pos_iff.1 h0)
  have : (0 : Int) < 65536 ^ (ys.length - 1) := Int.pow_pos (by decide)
  omega
theorem divQ_len (xs ys : List Int) : (divQ xs ys).length ≤ 100 := by
  unfold divQ
  split
  · rename_i h
    unfold divB at h
    simp only [Bool.and_eq_true, decide_eq_true_eq] at h
    obtain ⟨l1, n1⟩ := (okB_iff xs).1 h.1
    have h0 := div_pos h.2.1 h.2.2
    have hx := val_nonneg n1.1
    have e : (val xs / val ys).toNat ≤ (val xs).toNat := by have := Int.ediv_le_self (val ys) hx; omega
    have := limbs_len_mono e
    rw [← nrm_limbs n1] at this
    omega
  · simp
theorem divR_len (xs ys : List Int) : (divR xs ys).length ≤ 100 := by
  unfold divR
  split
  · rename_i h
    unfold divB at h
    simp only [Bool.and_eq_true, decide_eq_true_eq] at h
    obtain ⟨l1, n1⟩ := (okB_iff ys).1 h.2.1
    have h0 := div_pos h.2.1 h.2.2
    have e : (val xs % val ys).toNat ≤ (val ys).toNat := by have := Int.emod_lt_of_pos (val xs) h0; omega
    have := limbs_len_mono e
    rw [← nrm_limbs n1] at this
    omega
  · simp

set_option maxHeartbeats 4000000 in
theorem natDiv_spec {b1 b2 : Bool} {l1 h1 l2 h2 : Nat} {v1 v2 : Value} {xs ys : List Int} (w : World) (r1 : Row .i64 b1 l1 h1 w v1 xs) (r2 : Row .i64 b2 l2 h2 w v2 ys) :
    Calls Try.prog 59 #[.agg #[v1], .agg #[v2]] w fun e w' => ∃ vq vr, e = .returned (.tuple #[.agg #[vq], .agg #[vr], .bool (divB xs ys)]) ∧ Row .i64 true w.heap.size w'.heap.size w' vq (divQ xs ys) ∧ Row .i64 true w.heap.size w'.heap.size w' vr (divR xs ys) ∧ Kept 0 0 w w' := by
  have k0 : Kept 0 0 w ((((w.alloc (.cells #[v1] 26)).alloc (.cells #[v2] 26)).alloc (.cells #[.slice none 0 0] 26)).alloc (.cells #[.slice none 0 0] 26)) := (((((Kept.refl 0 0 w).alloc (.cells #[v1] 26)).alloc (.cells #[v2] 26)).alloc (.cells #[.slice none 0 0] 26)).alloc (.cells #[.slice none 0 0] 26))
  have p0 : ((((w.alloc (.cells #[v1] 26)).alloc (.cells #[v2] 26)).alloc (.cells #[.slice none 0 0] 26)).alloc (.cells #[.slice none 0 0] 26)).cell? ⟨w.heap.size, 0, none⟩ = some (v1) := old_cell _ (old_cell _ (old_cell _ (new_cell2 _ _ _ _ _ _ (by simp) rfl)))
  have t0 : ((((w.alloc (.cells #[v1] 26)).alloc (.cells #[v2] 26)).alloc (.cells #[.slice none 0 0] 26)).alloc (.cells #[.slice none 0 0] 26)).cell? ⟨w.heap.size + 1, 0, none⟩ = some (v2) := old_cell _ (old_cell _ (new_cell2 _ _ _ _ _ _ (by simp) rfl))
  have q0 : ((((w.alloc (.cells #[v1] 26)).alloc (.cells #[v2] 26)).alloc (.cells #[.slice none 0 0] 26)).alloc (.cells #[.slice none 0 0] 26)).cell? ⟨w.heap.size + 2, 0, none⟩ = some (.slice none 0 0) := old_cell _ (new_cell2 _ _ _ _ _ _ (by simp) rfl)
  have qf0 : ((((w.alloc (.cells #[v1] 26)).alloc (.cells #[v2] 26)).alloc (.cells #[.slice none 0 0] 26)).alloc (.cells #[.slice none 0 0] 26)).frozen? ⟨w.heap.size + 2, 0, none⟩ = false := loose_old (by simp <;> omega) (new_loose2 _ _ _ _ _ (by simp))
  have y0 : ((((w.alloc (.cells #[v1] 26)).alloc (.cells #[v2] 26)).alloc (.cells #[.slice none 0 0] 26)).alloc (.cells #[.slice none 0 0] 26)).cell? ⟨w.heap.size + 3, 0, none⟩ = some (.slice none 0 0) := new_cell2 _ _ _ _ _ _ (by simp) rfl
  have yf0 : ((((w.alloc (.cells #[v1] 26)).alloc (.cells #[v2] 26)).alloc (.cells #[.slice none 0 0] 26)).alloc (.cells #[.slice none 0 0] 26)).frozen? ⟨w.heap.size + 3, 0, none⟩ = false := new_loose2 _ _ _ _ _ (by simp)
  replace r1 := r1.kept k0 (by omega)
  replace r2 := r2.kept k0 (by omega)
  have s0 : ((((w.alloc (.cells #[v1] 26)).alloc (.cells #[v2] 26)).alloc (.cells #[.slice none 0 0] 26)).alloc (.cells #[.slice none 0 0] 26)).heap.size = w.heap.size + 4 := by simp
  obtain ⟨a1, c1, hv⟩ := Row.form' r1
  subst hv
  obtain ⟨a2, c2, hv⟩ := Row.form' r2
  subst hv
  have K := hide (k0)
  clear k0
  have S0 := hide s0
  clear s0
  go_enter Try.func59, Try.ntmps59
  go_wp2_with fail
  generalize ((((w.alloc (.cells #[.slice a1 xs.length c1] 26)).alloc (.cells #[.slice a2 ys.length c2] 26)).alloc (.cells #[.slice none 0 0] 26)).alloc (.cells #[.slice none 0 0] 26)) = W at *
  refine (ok_spec _ r1).mono ?_
  rintro e w1 ⟨rfl, k1⟩
  replace r1 := r1.kept k1 (by omega)
  replace r2 := r2.kept k1 (by omega)
  replace qf0 := k1.loose0 (World.block_lt_of_cell? _ _ q0) qf0
  replace yf0 := k1.loose0 (World.block_lt_of_cell? _ _ y0) yf0
  replace p0 := k1.cell0 p0
  replace t0 := k1.cell0 t0
  replace q0 := k1.cell0 q0
  replace y0 := k1.cell0 y0
  replace K := hide ((unhide K).trans k1)
  have z2 := k1.size
  clear k1
  cases ho1 : okB xs
  · have HO := hide ho1
    clear ho1
    have e0 : Hid (divB xs ys = false) := by show _ = _; unfold divB; simp [unhide HO]
    have K' := hide (((unhide K).setNew (p := ⟨w.heap.size + 2, 0, none⟩) (by simp) (.slice none 0 0)).setNew (p := ⟨w.heap.size + 3, 0, none⟩) (by simp) (.slice none 0 0))
    clear r1 r2 K
    go_wp2_with fail
    exact bodyPost_ret (v := .tuple #[.agg #[.slice none 0 0], .agg #[.slice none 0 0], .bool false]) (by simp [results, Try.results59, go_sem, q0, y0]) rfl ⟨_, _, by rw [unhide e0], by rw [divQ_no (unhide e0)]; exact Row.nil _ _ _ _ _, by rw [divR_no (unhide e0)]; exact Row.nil _ _ _ _ _, unhide K'⟩
  have HO1 := hide ho1
  clear ho1
  go_wp2_with fail
  refine (ok_spec _ r2).mono ?_
  rintro e w3 ⟨rfl, k3⟩
  replace r1 := r1.kept k3 (by omega)
  replace r2 := r2.kept k3 (by omega)
  replace qf0 := k3.loose0 (World.block_lt_of_cell? _ _ q0) qf0
  replace yf0 := k3.loose0 (World.block_lt_of_cell? _ _ y0) yf0
  replace p0 := k3.cell0 p0
  replace t0 := k3.cell0 t0
  replace q0 := k3.cell0 q0
  replace y0 := k3.cell0 y0
  replace K := hide ((unhide K).trans k3)
  have z4 := k3.size
  clear k3
  cases ho2 : okB ys
  · have HO := hide ho2
    clear ho2
    have e0 : Hid (divB xs ys = false) := by show _ = _; unfold divB; simp [unhide HO]
    have K' := hide (((unhide K).setNew (p := ⟨w.heap.size + 2, 0, none⟩) (by simp) (.slice none 0 0)).setNew (p := ⟨w.heap.size + 3, 0, none⟩) (by simp) (.slice none 0 0))
    clear r1 r2 K
    go_wp2_with fail
    exact bodyPost_ret (v := .tuple #[.agg #[.slice none 0 0], .agg #[.slice none 0 0], .bool false]) (by simp [results, Try.results59, go_sem, q0, y0]) rfl ⟨_, _, by rw [unhide e0], by rw [divQ_no (unhide e0)]; exact Row.nil _ _ _ _ _, by rw [divR_no (unhide e0)]; exact Row.nil _ _ _ _ _, unhide K'⟩
  have HO2 := hide ho2
  clear ho2
  by_cases hl0 : ys.length = 0
  · have HO := hide hl0
    have hl1 : ((ys.length : Int) == 0) = true := by simp [hl0]
    clear hl0
    have e0 : Hid (divB xs ys = false) := by show _ = _; unfold divB; simp [unhide HO]
    have K' := hide (((unhide K).setNew (p := ⟨w.heap.size + 2, 0, none⟩) (by simp) (.slice none 0 0)).setNew (p := ⟨w.heap.size + 3, 0, none⟩) (by simp) (.slice none 0 0))
    clear r1 r2 K
    go_wp2_with fail
    exact bodyPost_ret (v := .tuple #[.agg #[.slice none 0 0], .agg #[.slice none 0 0], .bool false]) (by simp [results, Try.results59, go_sem, q0, y0]) rfl ⟨_, _, by rw [unhide e0], by rw [divQ_no (unhide e0)]; exact Row.nil _ _ _ _ _, by rw [divR_no (unhide e0)]; exact Row.nil _ _ _ _ _, unhide K'⟩
  have hl1 : ((ys.length : Int) == 0) = false := beq_eq_false_iff_ne.2 (by omega)
  have hyp := div_pos (unhide HO2) (by omega)
  obtain ⟨lx, hx⟩ := (okB_iff xs).1 (unhide HO1)
  obtain ⟨ly, hy⟩ := (okB_iff ys).1 (unhide HO2)
  have eB : divB xs ys = true := by unfold divB; rw [unhide HO1, unhide HO2, decide_eq_true (show 0 < ys.length by omega)]; rfl
  have EB := hide eB
  obtain ⟨zq, hzq⟩ : ∃ z, divQ xs ys = z := ⟨_, rfl⟩
  obtain ⟨zr, hzr⟩ : ∃ z, divR xs ys = z := ⟨_, rfl⟩
  have lq := divQ_len xs ys
  have lr := divR_len xs ys
  rw [hzq] at lq
  rw [hzr] at lr
  have EQ : Hid (limbs (val xs / val ys).toNat = zq) := by show _ = _; rw [← hzq, divQ_yes eB]
  have ER : Hid (limbs (val xs % val ys).toNat = zr) := by show _ = _; rw [← hzr, divR_yes eB]
  have HZQ := hide hzq
  have HZR := hide hzr
  clear eB hzq hzr
  go_wp2_with fail
  have mk := div_spec w3 r1 r2 hx.1 hy (by omega) (by omega) hyp
  rw [unhide EQ, unhide ER] at mk
  refine (mk).mono ?_
  rintro e w5 ⟨v3, v4, rfl, r3, r4, k5⟩
  replace r1 := r1.kept k5 (by omega)
  replace r2 := r2.kept k5 (by omega)
  replace qf0 := k5.loose0 (World.block_lt_of_cell? _ _ q0) qf0
  replace yf0 := k5.loose0 (World.block_lt_of_cell? _ _ y0) yf0
  replace p0 := k5.cell0 p0
  replace t0 := k5.cell0 t0
  replace q0 := k5.cell0 q0
  replace y0 := k5.cell0 y0
  replace K := hide ((unhide K).trans k5)
  have z6 := k5.size
  clear k5
  clear mk
  obtain ⟨a3, c3, hv⟩ := Row.form' r3
  subst hv
  obtain ⟨a4, c4, hv⟩ := Row.form' r4
  subst hv
  go_wp2_with fail
  have kn := (Kept.refl 0 0 w5).alloc (.cells #[.slice a3 zq.length c3] 26)
  have m0 : (w5.alloc (.cells #[.slice a3 zq.length c3] 26)).cell? ⟨w5.heap.size, 0, none⟩ = some (.slice a3 zq.length c3) := new_cell2 _ _ _ _ _ _ (by simp) rfl
  have sz7 : w5.heap.size + 1 = (w5.alloc (.cells #[.slice a3 zq.length c3] 26)).heap.size := by simp
  have SZ7 := hide sz7
  replace sz7 := Nat.le_of_eq sz7
  replace r1 := r1.kept kn (by omega)
  replace r2 := r2.kept kn (by omega)
  replace r3 := r3.kept kn (by omega)
  replace r4 := r4.kept kn (by omega)
  replace qf0 := kn.loose0 (World.block_lt_of_cell? _ _ q0) qf0
  replace yf0 := kn.loose0 (World.block_lt_of_cell? _ _ y0) yf0
  replace p0 := kn.cell0 p0
  replace t0 := kn.cell0 t0
  replace q0 := kn.cell0 q0
  replace y0 := kn.cell0 y0
  replace K := hide ((unhide K).trans kn)
  have z8 := kn.size
  clear kn
  have kn := (Kept.refl 0 0 (w5.alloc (.cells #[.slice a3 zq.length c3] 26))).alloc (.cells #[.slice a4 zr.length c4] 26)
  have n0 : ((w5.alloc (.cells #[.slice a3 zq.length c3] 26)).alloc (.cells #[.slice a4 zr.length c4] 26)).cell? ⟨w5.heap.size + 1, 0, none⟩ = some (.slice a4 zr.length c4) := new_cell2 _ _ _ _ _ _ (by simp) rfl
  have sz9 : (w5.alloc (.cells #[.slice a3 zq.length c3] 26)).heap.size + 1 = ((w5.alloc (.cells #[.slice a3 zq.length c3] 26)).alloc (.cells #[.slice a4 zr.length c4] 26)).heap.size := by simp
  have SZ9 := hide sz9
  replace sz9 := Nat.le_of_eq sz9
  replace r1 := r1.kept kn (by omega)
  replace r2 := r2.kept kn (by omega)
  replace r3 := r3.kept kn (by omega)
  replace r4 := r4.kept kn (by omega)
  replace qf0 := kn.loose0 (World.block_lt_of_cell? _ _ q0) qf0
  replace yf0 := kn.loose0 (World.block_lt_of_cell? _ _ y0) yf0
  replace p0 := kn.cell0 p0
  replace t0 := kn.cell0 t0
  replace q0 := kn.cell0 q0
  replace y0 := kn.cell0 y0
  replace m0 := kn.cell0 m0
  replace K := hide ((unhide K).trans kn)
  have z10 := kn.size
  clear kn
  generalize ((w5.alloc (.cells #[.slice a3 zq.length c3] 26)).alloc (.cells #[.slice a4 zr.length c4] 26)) = wn11 at *
  clear r1 r2
  have kd := (Kept.refl 0 0 wn11).drew
  replace r3 := r3.kept kd (by omega)
  replace r4 := r4.kept kd (by omega)
  replace qf0 := kd.loose0 (World.block_lt_of_cell? _ _ q0) qf0
  replace yf0 := kd.loose0 (World.block_lt_of_cell? _ _ y0) yf0
  replace p0 := kd.cell0 p0
  replace t0 := kd.cell0 t0
  replace q0 := kd.cell0 q0
  replace y0 := kd.cell0 y0
  replace m0 := kd.cell0 m0
  replace n0 := kd.cell0 n0
  replace K := hide ((unhide K).trans kd)
  have z12 := kd.size
  clear kd
  refine wp_region_held_drew (S := (fun w' => w'.cell? ⟨w5.heap.size, 0, none⟩ = some (.slice a3 zq.length c3) ∧ w'.cell? ⟨w5.heap.size + 1, 0, none⟩ = some (.slice a4 zr.length c4))) (by kernel_rfl) ?_ (fun hHeld => ?_)
  · exact ⟨m0, n0⟩
  generalize wn11.drew = wn13 at *
  refine wpAnyH_take (i := 0) (oi := _) (v := .agg #[.slice a3 zq.length c3]) rfl (by kernel_rfl) (by kernel_rfl) (by kernel_rfl) (fun _ _ _ h => h) (Or.inl ⟨by rfl, ?_⟩) hHeld ?_
  · intro wq hSw
    try dsimp only at hSw
    go_simp
  try simp only [Act.put, List.getElem_toArray, List.getElem_cons_succ, List.getElem_cons_zero, List.setIfInBounds_toArray, List.set_cons_zero, List.set_cons_succ]
  refine wpAnyH_take (i := 1) (oi := _) (v := .agg #[.slice a4 zr.length c4]) rfl (by kernel_rfl) (by kernel_rfl) (by kernel_rfl) (fun _ _ _ h => h) (Or.inl ⟨by rfl, ?_⟩) hHeld ?_
  · intro wq hSw
    try dsimp only at hSw
    go_simp
  try simp only [Act.put, List.getElem_toArray, List.getElem_cons_succ, List.getElem_cons_zero, List.setIfInBounds_toArray, List.set_cons_zero, List.set_cons_succ]
  refine wpAnyH_ready (rs := [2]) (by kernel_rfl) (by simp) ?_
  refine AllReadyH.cons rfl (fun KK hK => ?_) AllReadyH.nil
  simp only [List.getElem_toArray, List.getElem_cons_succ, List.getElem_cons_zero]
  rw [if_pos (by rfl)]
  go_simp
  clear hHeld
  refine hK.out _ _ ?_ (fun hHeld => ?_)
  · exact ⟨cell_aside _ (by have := unhide S0; dsimp only; omega) m0, cell_aside _ (by have := unhide S0; dsimp only; omega) n0⟩
  clear hK KK
  try simp only [Act.put, List.getElem_toArray, List.getElem_cons_succ, List.getElem_cons_zero, List.setIfInBounds_toArray, List.set_cons_zero, List.set_cons_succ]
  have sS0 := unhide S0
  replace r3 := r3.set_other (p := ⟨w.heap.size + 2, 0, none⟩) (by dsimp only; omega) (.slice a3 zq.length c3)
  replace r4 := r4.set_other (p := ⟨w.heap.size + 2, 0, none⟩) (by dsimp only; omega) (.slice a3 zq.length c3)
  replace p0 := cell_aside (.slice a3 zq.length c3) (r := ⟨w.heap.size + 2, 0, none⟩) (by dsimp only; omega) p0
  replace t0 := cell_aside (.slice a3 zq.length c3) (r := ⟨w.heap.size + 2, 0, none⟩) (by dsimp only; omega) t0
  replace y0 := cell_aside (.slice a3 zq.length c3) (r := ⟨w.heap.size + 2, 0, none⟩) (by dsimp only; omega) y0
  replace m0 := cell_aside (.slice a3 zq.length c3) (r := ⟨w.heap.size + 2, 0, none⟩) (by dsimp only; omega) m0
  replace n0 := cell_aside (.slice a3 zq.length c3) (r := ⟨w.heap.size + 2, 0, none⟩) (by dsimp only; omega) n0
  replace qf0 : (wn13.setCell ⟨w.heap.size + 2, 0, none⟩ (.slice a3 zq.length c3)).frozen? _ = false := (frozen_set _ _ _ _ _).trans qf0
  replace yf0 : (wn13.setCell ⟨w.heap.size + 2, 0, none⟩ (.slice a3 zq.length c3)).frozen? _ = false := (frozen_set _ _ _ _ _).trans yf0
  replace q0 : (wn13.setCell ⟨w.heap.size + 2, 0, none⟩ (.slice a3 zq.length c3)).cell? ⟨w.heap.size + 2, 0, none⟩ = some (.slice a3 zq.length c3) := cell_on _ _ _ _ _ q0
  replace K := hide ((unhide K).setNew (p := ⟨w.heap.size + 2, 0, none⟩) (by dsimp only; omega) (.slice a3 zq.length c3))
  have zs14 : (wn13.setCell ⟨w.heap.size + 2, 0, none⟩ (.slice a3 zq.length c3)).heap.size = wn13.heap.size := by simp [World.setCell]
  clear sS0
  generalize wn13.setCell ⟨w.heap.size + 2, 0, none⟩ (.slice a3 zq.length c3) = ws14 at *
  refine wpAnyH_ready (rs := [3]) (by kernel_rfl) (by simp) ?_
  refine AllReadyH.cons rfl (fun KK hK => ?_) AllReadyH.nil
  simp only [List.getElem_toArray, List.getElem_cons_succ, List.getElem_cons_zero]
  rw [if_pos (by rfl)]
  go_simp
  clear hHeld
  refine hK.out _ _ ?_ (fun hHeld => ?_)
  · exact ⟨cell_aside _ (by have := unhide S0; dsimp only; omega) m0, cell_aside _ (by have := unhide S0; dsimp only; omega) n0⟩
  clear hK KK
  try simp only [Act.put, List.getElem_toArray, List.getElem_cons_succ, List.getElem_cons_zero, List.setIfInBounds_toArray, List.set_cons_zero, List.set_cons_succ]
  have sS0 := unhide S0
  replace r3 := r3.set_other (p := ⟨w.heap.size + 3, 0, none⟩) (by dsimp only; omega) (.slice a4 zr.length c4)
  replace r4 := r4.set_other (p := ⟨w.heap.size + 3, 0, none⟩) (by dsimp only; omega) (.slice a4 zr.length c4)
  replace p0 := cell_aside (.slice a4 zr.length c4) (r := ⟨w.heap.size + 3, 0, none⟩) (by dsimp only; omega) p0
  replace t0 := cell_aside (.slice a4 zr.length c4) (r := ⟨w.heap.size + 3, 0, none⟩) (by dsimp only; omega) t0
  replace q0 := cell_aside (.slice a4 zr.length c4) (r := ⟨w.heap.size + 3, 0, none⟩) (by dsimp only; omega) q0
  replace m0 := cell_aside (.slice a4 zr.length c4) (r := ⟨w.heap.size + 3, 0, none⟩) (by dsimp only; omega) m0
  replace n0 := cell_aside (.slice a4 zr.length c4) (r := ⟨w.heap.size + 3, 0, none⟩) (by dsimp only; omega) n0
  replace qf0 : (ws14.setCell ⟨w.heap.size + 3, 0, none⟩ (.slice a4 zr.length c4)).frozen? _ = false := (frozen_set _ _ _ _ _).trans qf0
  replace yf0 : (ws14.setCell ⟨w.heap.size + 3, 0, none⟩ (.slice a4 zr.length c4)).frozen? _ = false := (frozen_set _ _ _ _ _).trans yf0
  replace y0 : (ws14.setCell ⟨w.heap.size + 3, 0, none⟩ (.slice a4 zr.length c4)).cell? ⟨w.heap.size + 3, 0, none⟩ = some (.slice a4 zr.length c4) := cell_on _ _ _ _ _ y0
  replace K := hide ((unhide K).setNew (p := ⟨w.heap.size + 3, 0, none⟩) (by dsimp only; omega) (.slice a4 zr.length c4))
  have zs15 : (ws14.setCell ⟨w.heap.size + 3, 0, none⟩ (.slice a4 zr.length c4)).heap.size = ws14.heap.size := by simp [World.setCell]
  clear sS0
  generalize ws14.setCell ⟨w.heap.size + 3, 0, none⟩ (.slice a4 zr.length c4) = ws15 at *
  refine wpAnyH_take (i := 4) (oi := _) (v := .bool true) rfl (by kernel_rfl) (by kernel_rfl) (by kernel_rfl) (fun _ _ _ h => h) (Or.inl ⟨by rfl, ?_⟩) hHeld ?_
  · intro wq hSw
    try dsimp only at hSw
    go_simp
  try simp only [Act.put, List.getElem_toArray, List.getElem_cons_succ, List.getElem_cons_zero, List.setIfInBounds_toArray, List.set_cons_zero, List.set_cons_succ]
  refine wpAnyH_done (by kernel_rfl) ?_ _
  clear hHeld
  have R1 := hide (r3.tight.wider (lo' := w.heap.size) (by have := unhide S0; omega) (Nat.le_refl _))
  have R2 := hide (r4.tight.wider (lo' := w.heap.size) (by have := unhide S0; omega) (Nat.le_refl _))
  clear r3 r4
  go_wp2_with fail
  exact bodyPost_ret (v := .tuple #[.agg #[.slice a3 zq.length c3], .agg #[.slice a4 zr.length c4], .bool true]) (by simp [results, Try.results59, go_sem, q0, y0]) rfl ⟨_, _, by rw [unhide EB], by rw [unhide HZQ]; exact unhide R1, by rw [unhide HZR]; exact unhide R2, unhide K⟩

end Go.Proofs.Ytdhponfpikclhaa
