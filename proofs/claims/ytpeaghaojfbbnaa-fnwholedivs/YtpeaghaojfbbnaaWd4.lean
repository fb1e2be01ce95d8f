/-
  The program's WholeDiv.
-/
import Derived.Test.YtpeaghaojfbbnaaWd2
import Derived.Test.YtpeaghaojfbbnaaWd3
import Derived.Deep.DeepCutAuto
namespace Go.Proofs.Ytpeaghaojfbbnaa
open Go.RowKit
set_option linter.unusedVariables false
set_option maxRecDepth 8000
set_option linter.unusedSimpArgs false

theorem wdR_len (s : Bool) {xs ys : List Int} (h0 : 0 < val ys) (hy : Nrm ys) : (wdR s xs ys).length ≤ ys.length := by
  have hr0 : 0 ≤ val xs % val ys := Int.emod_nonneg _ (by omega)
  have hr1 : val xs % val ys < val ys := Int.emod_lt_of_pos _ h0
  have hly := val_lt hy.1
  unfold wdR
  split
  · refine (limbs_length_le _ _).2 ?_
    omega
  · refine (limbs_length_le _ _).2 ?_
    omega

set_option maxHeartbeats 16000000 in
theorem wDiv_impl {b1 b2 : Bool} {l1 h1 l2 h2 : Nat} {v1 v2 : Value} {xs ys : List Int} (s1 s2 : Bool) (w : World) (r1 : Row .i64 b1 l1 h1 w v1 xs) (r2 : Row .i64 b2 l2 h2 w v2 ys) :
    Calls Try.prog 5 #[.agg #[.bool s1, v1], .agg #[.bool s2, v2]] w fun e w' => ∃ vq vr mm, e = .returned (.tuple #[.agg #[.bool (wvS s1 s2 xs ys), vq], .agg #[.bool false, vr], .bool (wvB s1 s2 xs ys)]) ∧ Row .i64 true w.heap.size mm w' vq (wvQ s1 s2 xs ys) ∧ Row .i64 true mm w'.heap.size w' vr (wvR s1 s2 xs ys) ∧ w.heap.size ≤ mm ∧ mm ≤ w'.heap.size ∧ Kept 0 0 w w' := by
  obtain ⟨W, hW⟩ : ∃ W, W = (((w.alloc (.cells #[.bool s1, v1] 27)).alloc (.cells #[.bool s2, v2] 27)).alloc (.cells #[.bool false, .slice none 0 0] 27)).alloc (.cells #[.bool false, .slice none 0 0] 27) := ⟨_, rfl⟩
  have k0 : Kept 0 0 w W := by rw [hW]; exact ((((Kept.refl 0 0 w).alloc _).alloc _).alloc _).alloc _
  have c0 : W.cell? ⟨w.heap.size, 0, none⟩ = some (.bool s1) := by rw [hW]; exact old_cell _ (old_cell _ (old_cell _ (new_cell2 _ _ _ _ _ _ (by simp) rfl)))
  have c1 : W.cell? ⟨w.heap.size, 1, none⟩ = some v1 := by rw [hW]; exact old_cell _ (old_cell _ (old_cell _ (new_cell2 _ _ _ _ _ _ (by simp) rfl)))
  have d0 : W.cell? ⟨w.heap.size + 1, 0, none⟩ = some (.bool s2) := by rw [hW]; exact old_cell _ (old_cell _ (new_cell2 _ _ _ _ _ _ (by simp) rfl))
  have d1 : W.cell? ⟨w.heap.size + 1, 1, none⟩ = some v2 := by rw [hW]; exact old_cell _ (old_cell _ (new_cell2 _ _ _ _ _ _ (by simp) rfl))
  have q0 : W.cell? ⟨w.heap.size + 2, 0, none⟩ = some (.bool false) := by rw [hW]; exact old_cell _ (new_cell2 _ _ _ _ _ _ (by simp) rfl)
  have q1 : W.cell? ⟨w.heap.size + 2, 1, none⟩ = some (.slice none 0 0) := by rw [hW]; exact old_cell _ (new_cell2 _ _ _ _ _ _ (by simp) rfl)
  have t0 : W.cell? ⟨w.heap.size + 3, 0, none⟩ = some (.bool false) := by rw [hW]; exact new_cell2 _ _ _ _ _ _ (by simp) rfl
  have t1 : W.cell? ⟨w.heap.size + 3, 1, none⟩ = some (.slice none 0 0) := by rw [hW]; exact new_cell2 _ _ _ _ _ _ (by simp) rfl
  have kl : ∀ {w0 : World} {a : Addr} (ob : Obj), a.block < w0.heap.size → w0.frozen? a = false → (w0.alloc ob).frozen? a = false := fun ob hb h => ((Kept.refl 0 0 _).alloc ob).loose0 hb h
  have f0 : W.frozen? ⟨w.heap.size + 2, 0, none⟩ = false := by rw [hW]; exact kl _ (by simp) (new_loose2 _ _ _ _ _ (by simp))
  have f1 : W.frozen? ⟨w.heap.size + 2, 1, none⟩ = false := by rw [hW]; exact kl _ (by simp) (new_loose2 _ _ _ _ _ (by simp))
  have g0 : W.frozen? ⟨w.heap.size + 3, 0, none⟩ = false := by rw [hW]; exact new_loose2 _ _ _ _ _ (by simp)
  have g1 : W.frozen? ⟨w.heap.size + 3, 1, none⟩ = false := by rw [hW]; exact new_loose2 _ _ _ _ _ (by simp)
  have sW : W.heap.size = w.heap.size + 4 := by rw [hW]; simp
  replace r1 := r1.kept k0 (by omega)
  replace r2 := r2.kept k0 (by omega)
  obtain ⟨a1, e1, rfl⟩ := Row.form' r1
  obtain ⟨a2, e2, rfl⟩ := Row.form' r2
  have K := hide k0
  have SW := hide sW
  clear k0 kl sW
  go_enter Try.func5, Try.ntmps5
  go_wp2_with fail
  rw [← hW]
  clear hW
  refine (wok_impl s1 _ r1).mono ?_
  rintro e w1 ⟨rfl, k1⟩
  replace f0 := k1.loose0 (World.block_lt_of_cell? _ _ q0) f0
  replace f1 := k1.loose0 (World.block_lt_of_cell? _ _ q1) f1
  replace g0 := k1.loose0 (World.block_lt_of_cell? _ _ t0) g0
  replace g1 := k1.loose0 (World.block_lt_of_cell? _ _ t1) g1
  replace c0 := k1.cell0 c0
  replace c1 := k1.cell0 c1
  replace d0 := k1.cell0 d0
  replace d1 := k1.cell0 d1
  replace q0 := k1.cell0 q0
  replace q1 := k1.cell0 q1
  replace t0 := k1.cell0 t0
  replace t1 := k1.cell0 t1
  replace r1 := r1.kept k1 (by omega)
  replace r2 := r2.kept k1 (by omega)
  replace K := hide ((unhide K).trans k1)
  have z1 := k1.size
  clear k1
  cases ho1 : wokB s1 xs
  · have e0 : Hid (wvB s1 s2 xs ys = false) := by show _ = _; unfold wvB; rw [ho1]; rfl
    clear ho1
    obtain ⟨A0, A1, B0, B1, ks, hs⟩ := four_set (.bool false) (.slice none 0 0) (.bool false) (.slice none 0 0) q0 q1 t0 t1
    have K7 := hide ((unhide K).wide ks (by omega))
    clear ks hs K r1 r2
    go_wp2_with fail
    exact bodyPost_ret (v := .tuple #[.agg #[.bool false, .slice none 0 0], .agg #[.bool false, .slice none 0 0], .bool false]) (by simp [results, Try.results5, go_sem, A0, A1, B0, B1]) rfl ⟨_, _, w.heap.size, by rw [(wv_no (unhide e0)).1, unhide e0], by rw [(wv_no (unhide e0)).2.1]; exact Row.nil _ _ _ _ _, by rw [(wv_no (unhide e0)).2.2]; exact Row.nil _ _ _ _ _, Nat.le_refl _, (unhide K7).size, unhide K7⟩
  have HO1 := hide ho1
  clear ho1
  go_wp2_with fail
  refine (wok_impl s2 _ r2).mono ?_
  rintro e w3 ⟨rfl, k3⟩
  replace f0 := k3.loose0 (World.block_lt_of_cell? _ _ q0) f0
  replace f1 := k3.loose0 (World.block_lt_of_cell? _ _ q1) f1
  replace g0 := k3.loose0 (World.block_lt_of_cell? _ _ t0) g0
  replace g1 := k3.loose0 (World.block_lt_of_cell? _ _ t1) g1
  replace c0 := k3.cell0 c0
  replace c1 := k3.cell0 c1
  replace d0 := k3.cell0 d0
  replace d1 := k3.cell0 d1
  replace q0 := k3.cell0 q0
  replace q1 := k3.cell0 q1
  replace t0 := k3.cell0 t0
  replace t1 := k3.cell0 t1
  replace r1 := r1.kept k3 (by omega)
  replace r2 := r2.kept k3 (by omega)
  replace K := hide ((unhide K).trans k3)
  have z3 := k3.size
  clear k3
  cases ho2 : wokB s2 ys
  · have e0 : Hid (wvB s1 s2 xs ys = false) := by show _ = _; unfold wvB; rw [unhide HO1, ho2]; rfl
    clear ho2
    obtain ⟨A0, A1, B0, B1, ks, hs⟩ := four_set (.bool false) (.slice none 0 0) (.bool false) (.slice none 0 0) q0 q1 t0 t1
    have K7 := hide ((unhide K).wide ks (by omega))
    clear ks hs K r1 r2
    go_wp2_with fail
    exact bodyPost_ret (v := .tuple #[.agg #[.bool false, .slice none 0 0], .agg #[.bool false, .slice none 0 0], .bool false]) (by simp [results, Try.results5, go_sem, A0, A1, B0, B1]) rfl ⟨_, _, w.heap.size, by rw [(wv_no (unhide e0)).1, unhide e0], by rw [(wv_no (unhide e0)).2.1]; exact Row.nil _ _ _ _ _, by rw [(wv_no (unhide e0)).2.2]; exact Row.nil _ _ _ _ _, Nat.le_refl _, (unhide K7).size, unhide K7⟩
  have HO2 := hide ho2
  clear ho2
  by_cases hz : ys.length = 0
  · have e0 : Hid (wvB s1 s2 xs ys = false) := by show _ = _; unfold wvB; rw [unhide HO1, unhide HO2, decide_eq_false (by omega)]; rfl
    obtain ⟨A0, A1, B0, B1, ks, hs⟩ := four_set (.bool false) (.slice none 0 0) (.bool false) (.slice none 0 0) q0 q1 t0 t1
    have K7 := hide ((unhide K).wide ks (by omega))
    clear ks hs K r1 r2
    go_wp2_with fail
    exact bodyPost_ret (v := .tuple #[.agg #[.bool false, .slice none 0 0], .agg #[.bool false, .slice none 0 0], .bool false]) (by simp [results, Try.results5, go_sem, A0, A1, B0, B1]) rfl ⟨_, _, w.heap.size, by rw [(wv_no (unhide e0)).1, unhide e0], by rw [(wv_no (unhide e0)).2.1]; exact Row.nil _ _ _ _ _, by rw [(wv_no (unhide e0)).2.2]; exact Row.nil _ _ _ _ _, Nat.le_refl _, (unhide K7).size, unhide K7⟩
  obtain ⟨-, -, lx, hx⟩ := wok_int (unhide HO1)
  obtain ⟨-, -, ly, hy⟩ := wok_int (unhide HO2)
  have mx : xs.length ≤ 1000000 := by omega
  have my : ys.length ≤ 1000000 := by omega
  go_upto_region 3 with fail
  go_cut [7, 8] (fun p q wx => ∃ X Y, p = .pointer (some ⟨X, 0, none⟩) ∧ q = .pointer (some ⟨Y, 0, none⟩) ∧ Sig2 w3 wx X Y s1 xs s2 ys)
  case first =>
    clear hx hy lx ly hz HO1 HO2 t0 t1 g0 g1
    have kw := Kept.refl 0 0 w3
    have own1 : True := trivial
    have own2 : True := trivial
    have kd := (Kept.refl 0 0 w3).drew
    replace r1 := r1.kept kd (by omega)
    replace r2 := r2.kept kd (by omega)
    replace kw := kw.trans kd
    replace f0 := kd.loose0 (World.block_lt_of_cell? _ _ q0) f0
    replace f1 := kd.loose0 (World.block_lt_of_cell? _ _ q1) f1
    replace c0 := kd.cell0 c0
    replace c1 := kd.cell0 c1
    replace d0 := kd.cell0 d0
    replace d1 := kd.cell0 d1
    replace q0 := kd.cell0 q0
    replace q1 := kd.cell0 q1
    replace K := hide ((unhide K).trans kd)
    have z5 := kd.size
    clear kd
    refine wp_region_held_drew (S := (fun w' => w'.cell? ⟨w.heap.size, 0, none⟩ = some (.bool s1) ∧ w'.cell? ⟨w.heap.size, 1, none⟩ = some (.slice a1 xs.length e1) ∧ w'.cell? ⟨w.heap.size + 1, 0, none⟩ = some (.bool s2) ∧ w'.cell? ⟨w.heap.size + 1, 1, none⟩ = some (.slice a2 ys.length e2))) (by kernel_rfl) ?_ (fun hHeld => ?_)
    · exact ⟨c0, c1, d0, d1⟩
    generalize w3.drew = wd at *
    refine wpAnyH_take (i := 0) (oi := _) (v := .agg #[.bool s1, .slice a1 xs.length e1]) rfl (by kernel_rfl) (by kernel_rfl) (by kernel_rfl) (fun _ _ _ h => h) (Or.inl ⟨by rfl, ?_⟩) hHeld ?_
    · intro wq hSw
      try dsimp only at hSw
      go_simp
    try simp only [Act.put, List.getElem_toArray, List.getElem_cons_succ, List.getElem_cons_zero, List.setIfInBounds_toArray, List.set_cons_zero, List.set_cons_succ]
    refine wpAnyH_take (i := 2) (oi := _) (v := .agg #[.bool s2, .slice a2 ys.length e2]) rfl (by kernel_rfl) (by kernel_rfl) (by kernel_rfl) (fun _ _ _ h => h) (Or.inl ⟨by rfl, ?_⟩) hHeld ?_
    · intro wq hSw
      try dsimp only at hSw
      go_simp
    try simp only [Act.put, List.getElem_toArray, List.getElem_cons_succ, List.getElem_cons_zero, List.setIfInBounds_toArray, List.set_cons_zero, List.set_cons_succ]
    refine wpAnyH_ready (rs := [1, 4, 5]) (by kernel_rfl) (by simp) ?_
    refine AllReadyH.cons rfl (fun KK hK => ?_) (AllReadyH.cons rfl (fun KK hK => ?_) (AllReadyH.cons rfl (fun KK hK => ?_) AllReadyH.nil))
    · simp only [List.getElem_toArray, List.getElem_cons_succ, List.getElem_cons_zero]
      rw [if_pos (by rfl)]
      refine wps1 13 (.tmp 30) _ rfl in_signedOf (.agg #[.bool s1, .slice a1 xs.length e1]) rfl (signedOf_impl s1 _ r1 mx) ?_
      rintro e w6 ⟨v3, rfl, o3, k6⟩
      refine ⟨_, rfl, ?_⟩
      replace r1 := r1.kept k6 (by omega)
      replace r2 := r2.kept k6 (by omega)
      replace kw := kw.trans k6
      replace f0 := k6.loose0 (World.block_lt_of_cell? _ _ q0) f0
      replace f1 := k6.loose0 (World.block_lt_of_cell? _ _ q1) f1
      replace c0 := k6.cell0 c0
      replace c1 := k6.cell0 c1
      replace d0 := k6.cell0 d0
      replace d1 := k6.cell0 d1
      replace q0 := k6.cell0 q0
      replace q1 := k6.cell0 q1
      replace K := hide ((unhide K).trans k6)
      have z7 := k6.size
      clear k6
      have l3 := o3.lt
      obtain ⟨a3, c3, hv⟩ := own_slice o3
      subst hv
      clear hHeld
      refine hK.out _ _ ?_ (fun hHeld => ?_)
      · exact ⟨c0, c1, d0, d1⟩
      clear hK KK
      try simp only [Act.put, List.getElem_toArray, List.getElem_cons_succ, List.getElem_cons_zero, List.setIfInBounds_toArray, List.set_cons_zero, List.set_cons_succ]
      refine wpAnyH_ready (rs := [3, 4, 5]) (by kernel_rfl) (by simp) ?_
      refine AllReadyH.cons rfl (fun KK hK => ?_) (AllReadyH.cons rfl (fun KK hK => ?_) (AllReadyH.cons rfl (fun KK hK => ?_) AllReadyH.nil))
      · simp only [List.getElem_toArray, List.getElem_cons_succ, List.getElem_cons_zero]
        rw [if_pos (by rfl)]
        refine wps1 13 (.tmp 32) _ rfl in_signedOf (.agg #[.bool s2, .slice a2 ys.length e2]) rfl (signedOf_impl s2 _ r2 my) ?_
        rintro e w8 ⟨v4, rfl, o4, k8⟩
        refine ⟨_, rfl, ?_⟩
        replace r1 := r1.kept k8 (by omega)
        replace r2 := r2.kept k8 (by omega)
        replace kw := kw.trans k8
        replace o3 := own_kept o3 k8
        replace f0 := k8.loose0 (World.block_lt_of_cell? _ _ q0) f0
        replace f1 := k8.loose0 (World.block_lt_of_cell? _ _ q1) f1
        replace c0 := k8.cell0 c0
        replace c1 := k8.cell0 c1
        replace d0 := k8.cell0 d0
        replace d1 := k8.cell0 d1
        replace q0 := k8.cell0 q0
        replace q1 := k8.cell0 q1
        replace K := hide ((unhide K).trans k8)
        have z9 := k8.size
        clear k8
        have l4 := o4.lt
        obtain ⟨a4, c4, hv⟩ := own_slice o4
        subst hv
        clear hHeld
        refine hK.out _ _ ?_ (fun hHeld => ?_)
        · exact ⟨c0, c1, d0, d1⟩
        clear hK KK
        try simp only [Act.put, List.getElem_toArray, List.getElem_cons_succ, List.getElem_cons_zero, List.setIfInBounds_toArray, List.set_cons_zero, List.set_cons_succ]
        refine wpAnyH_ready (rs := [4, 5]) (by kernel_rfl) (by simp) ?_
        refine AllReadyH.cons rfl (fun KK hK => ?_) (AllReadyH.cons rfl (fun KK hK => ?_) AllReadyH.nil)
        · simp only [List.getElem_toArray, List.getElem_cons_succ, List.getElem_cons_zero]
          rw [if_pos (by rfl)]
          go_simp
          have kn := (Kept.refl 0 0 w8).alloc (.cells #[.slice none 0 0, .bool false] 41)
          replace r1 := r1.kept kn (by omega)
          replace r2 := r2.kept kn (by omega)
          replace kw := kw.trans kn
          replace o3 := own_kept o3 kn
          replace o4 := own_kept o4 kn
          replace f0 := kn.loose0 (World.block_lt_of_cell? _ _ q0) f0
          replace f1 := kn.loose0 (World.block_lt_of_cell? _ _ q1) f1
          replace c0 := kn.cell0 c0
          replace c1 := kn.cell0 c1
          replace d0 := kn.cell0 d0
          replace d1 := kn.cell0 d1
          replace q0 := kn.cell0 q0
          replace q1 := kn.cell0 q1
          replace K := hide ((unhide K).trans kn)
          have z11 := kn.size
          clear kn
          have szx : w8.heap.size < (w8.alloc (.cells #[.slice none 0 0, .bool false] 41)).heap.size := by simp
          have x0 : (w8.alloc (.cells #[.slice none 0 0, .bool false] 41)).cell? ⟨w8.heap.size, 0, none⟩ = some (.slice none 0 0) := new_cell2 _ _ _ _ _ _ rfl rfl
          have xf0 : (w8.alloc (.cells #[.slice none 0 0, .bool false] 41)).frozen? ⟨w8.heap.size, 0, none⟩ = false := new_loose2 _ _ _ _ _ rfl
          have x1 : (w8.alloc (.cells #[.slice none 0 0, .bool false] 41)).cell? ⟨w8.heap.size, 1, none⟩ = some (.bool false) := new_cell2 _ _ _ _ _ _ rfl rfl
          have xf1 : (w8.alloc (.cells #[.slice none 0 0, .bool false] 41)).frozen? ⟨w8.heap.size, 1, none⟩ = false := new_loose2 _ _ _ _ _ rfl
          clear hHeld
          refine hK.out _ _ ?_ (fun hHeld => ?_)
          · exact ⟨c0, c1, d0, d1⟩
          clear hK KK
          try simp only [Act.put, List.getElem_toArray, List.getElem_cons_succ, List.getElem_cons_zero, List.setIfInBounds_toArray, List.set_cons_zero, List.set_cons_succ]
          generalize w8.alloc (.cells #[.slice none 0 0, .bool false] 41) = w10 at *
          refine wpAnyH_ready (rs := [5]) (by kernel_rfl) (by simp) ?_
          refine AllReadyH.cons rfl (fun KK hK => ?_) AllReadyH.nil
          · simp only [List.getElem_toArray, List.getElem_cons_succ, List.getElem_cons_zero]
            rw [if_pos (by rfl)]
            go_simp
            have kn := (Kept.refl 0 0 w10).alloc (.cells #[.slice none 0 0, .bool false] 41)
            replace r1 := r1.kept kn (by omega)
            replace r2 := r2.kept kn (by omega)
            replace kw := kw.trans kn
            replace o3 := own_kept o3 kn
            replace o4 := own_kept o4 kn
            replace f0 := kn.loose0 (World.block_lt_of_cell? _ _ q0) f0
            replace f1 := kn.loose0 (World.block_lt_of_cell? _ _ q1) f1
            replace xf0 := kn.loose0 (World.block_lt_of_cell? _ _ x0) xf0
            replace xf1 := kn.loose0 (World.block_lt_of_cell? _ _ x1) xf1
            replace c0 := kn.cell0 c0
            replace c1 := kn.cell0 c1
            replace d0 := kn.cell0 d0
            replace d1 := kn.cell0 d1
            replace q0 := kn.cell0 q0
            replace q1 := kn.cell0 q1
            replace x0 := kn.cell0 x0
            replace x1 := kn.cell0 x1
            replace K := hide ((unhide K).trans kn)
            have z13 := kn.size
            clear kn
            have szy : w10.heap.size < (w10.alloc (.cells #[.slice none 0 0, .bool false] 41)).heap.size := by simp
            have y0 : (w10.alloc (.cells #[.slice none 0 0, .bool false] 41)).cell? ⟨w10.heap.size, 0, none⟩ = some (.slice none 0 0) := new_cell2 _ _ _ _ _ _ rfl rfl
            have yf0 : (w10.alloc (.cells #[.slice none 0 0, .bool false] 41)).frozen? ⟨w10.heap.size, 0, none⟩ = false := new_loose2 _ _ _ _ _ rfl
            have y1 : (w10.alloc (.cells #[.slice none 0 0, .bool false] 41)).cell? ⟨w10.heap.size, 1, none⟩ = some (.bool false) := new_cell2 _ _ _ _ _ _ rfl rfl
            have yf1 : (w10.alloc (.cells #[.slice none 0 0, .bool false] 41)).frozen? ⟨w10.heap.size, 1, none⟩ = false := new_loose2 _ _ _ _ _ rfl
            clear hHeld
            refine hK.out _ _ ?_ (fun hHeld => ?_)
            · exact ⟨c0, c1, d0, d1⟩
            clear hK KK
            try simp only [Act.put, List.getElem_toArray, List.getElem_cons_succ, List.getElem_cons_zero, List.setIfInBounds_toArray, List.set_cons_zero, List.set_cons_succ]
            generalize w10.alloc (.cells #[.slice none 0 0, .bool false] 41) = w12 at *
            refine wpAnyH_ready (rs := [6]) (by kernel_rfl) (by simp) ?_
            refine AllReadyH.cons rfl (fun KK hK => ?_) AllReadyH.nil
            simp only [List.getElem_toArray, List.getElem_cons_succ, List.getElem_cons_zero]
            rw [if_pos (by rfl)]
            go_simp
            clear hHeld
            refine hK.out _ _ ?_ (fun hHeld => ?_)
            · exact ⟨(cell_aside _ (by have := unhide SW; dsimp only; omega) (cell_aside _ (by have := unhide SW; dsimp only; omega) c0)), (cell_aside _ (by have := unhide SW; dsimp only; omega) (cell_aside _ (by have := unhide SW; dsimp only; omega) c1)), (cell_aside _ (by have := unhide SW; dsimp only; omega) (cell_aside _ (by have := unhide SW; dsimp only; omega) d0)), (cell_aside _ (by have := unhide SW; dsimp only; omega) (cell_aside _ (by have := unhide SW; dsimp only; omega) d1))⟩
            clear hK KK
            try simp only [Act.put, List.getElem_toArray, List.getElem_cons_succ, List.getElem_cons_zero, List.setIfInBounds_toArray, List.set_cons_zero, List.set_cons_succ]
            refine wpAnyH_ready (rs := [7]) (by kernel_rfl) (by simp) ?_
            refine AllReadyH.cons rfl (fun KK hK => ?_) AllReadyH.nil
            simp only [List.getElem_toArray, List.getElem_cons_succ, List.getElem_cons_zero]
            rw [if_pos (by rfl)]
            go_simp
            clear hHeld
            refine hK.out _ _ ?_ (fun hHeld => ?_)
            · exact ⟨(cell_aside _ (by have := unhide SW; dsimp only; omega) (cell_aside _ (by have := unhide SW; dsimp only; omega) (cell_aside _ (by have := unhide SW; dsimp only; omega) (cell_aside _ (by have := unhide SW; dsimp only; omega) c0)))), (cell_aside _ (by have := unhide SW; dsimp only; omega) (cell_aside _ (by have := unhide SW; dsimp only; omega) (cell_aside _ (by have := unhide SW; dsimp only; omega) (cell_aside _ (by have := unhide SW; dsimp only; omega) c1)))), (cell_aside _ (by have := unhide SW; dsimp only; omega) (cell_aside _ (by have := unhide SW; dsimp only; omega) (cell_aside _ (by have := unhide SW; dsimp only; omega) (cell_aside _ (by have := unhide SW; dsimp only; omega) d0)))), (cell_aside _ (by have := unhide SW; dsimp only; omega) (cell_aside _ (by have := unhide SW; dsimp only; omega) (cell_aside _ (by have := unhide SW; dsimp only; omega) (cell_aside _ (by have := unhide SW; dsimp only; omega) d1))))⟩
            clear hK KK
            try simp only [Act.put, List.getElem_toArray, List.getElem_cons_succ, List.getElem_cons_zero, List.setIfInBounds_toArray, List.set_cons_zero, List.set_cons_succ]
            refine wpAnyH_done (by kernel_rfl) ?_ _
            clear hHeld
            go_wp2_with fail
            go_meet
            exact ⟨_, _, rfl, rfl, sig_pair s1 s2 kw o3 o4 x0 x1 xf0 xf1 y0 y1 yf0 yf1 (by omega) (by omega) (by omega) (by omega) (by omega) (fun e => by have := l3 _ e; omega) (fun e => by have := l3 _ e; omega) (fun e => by have := l4 _ e; omega) (fun e => by have := l4 _ e; omega) (fun k e1 e2 => by have := l3 _ e1; have := l4 _ e2; omega)⟩
        · simp only [List.getElem_toArray, List.getElem_cons_succ, List.getElem_cons_zero]
          rw [if_pos (by rfl)]
          go_simp
          have kn := (Kept.refl 0 0 w8).alloc (.cells #[.slice none 0 0, .bool false] 41)
          replace r1 := r1.kept kn (by omega)
          replace r2 := r2.kept kn (by omega)
          replace kw := kw.trans kn
          replace o3 := own_kept o3 kn
          replace o4 := own_kept o4 kn
          replace f0 := kn.loose0 (World.block_lt_of_cell? _ _ q0) f0
          replace f1 := kn.loose0 (World.block_lt_of_cell? _ _ q1) f1
          replace c0 := kn.cell0 c0
          replace c1 := kn.cell0 c1
          replace d0 := kn.cell0 d0
          replace d1 := kn.cell0 d1
          replace q0 := kn.cell0 q0
          replace q1 := kn.cell0 q1
          replace K := hide ((unhide K).trans kn)
          have z11 := kn.size
          clear kn
          have szy : w8.heap.size < (w8.alloc (.cells #[.slice none 0 0, .bool false] 41)).heap.size := by simp
          have y0 : (w8.alloc (.cells #[.slice none 0 0, .bool false] 41)).cell? ⟨w8.heap.size, 0, none⟩ = some (.slice none 0 0) := new_cell2 _ _ _ _ _ _ rfl rfl
          have yf0 : (w8.alloc (.cells #[.slice none 0 0, .bool false] 41)).frozen? ⟨w8.heap.size, 0, none⟩ = false := new_loose2 _ _ _ _ _ rfl
          have y1 : (w8.alloc (.cells #[.slice none 0 0, .bool false] 41)).cell? ⟨w8.heap.size, 1, none⟩ = some (.bool false) := new_cell2 _ _ _ _ _ _ rfl rfl
          have yf1 : (w8.alloc (.cells #[.slice none 0 0, .bool false] 41)).frozen? ⟨w8.heap.size, 1, none⟩ = false := new_loose2 _ _ _ _ _ rfl
          clear hHeld
          refine hK.out _ _ ?_ (fun hHeld => ?_)
          · exact ⟨c0, c1, d0, d1⟩
          clear hK KK
          try simp only [Act.put, List.getElem_toArray, List.getElem_cons_succ, List.getElem_cons_zero, List.setIfInBounds_toArray, List.set_cons_zero, List.set_cons_succ]
          generalize w8.alloc (.cells #[.slice none 0 0, .bool false] 41) = w10 at *
          refine wpAnyH_ready (rs := [4]) (by kernel_rfl) (by simp) ?_
          refine AllReadyH.cons rfl (fun KK hK => ?_) AllReadyH.nil
          · simp only [List.getElem_toArray, List.getElem_cons_succ, List.getElem_cons_zero]
            rw [if_pos (by rfl)]
            go_simp
            have kn := (Kept.refl 0 0 w10).alloc (.cells #[.slice none 0 0, .bool false] 41)
            replace r1 := r1.kept kn (by omega)
            replace r2 := r2.kept kn (by omega)
            replace kw := kw.trans kn
            replace o3 := own_kept o3 kn
            replace o4 := own_kept o4 kn
            replace f0 := kn.loose0 (World.block_lt_of_cell? _ _ q0) f0
            replace f1 := kn.loose0 (World.block_lt_of_cell? _ _ q1) f1
            replace yf0 := kn.loose0 (World.block_lt_of_cell? _ _ y0) yf0
            replace yf1 := kn.loose0 (World.block_lt_of_cell? _ _ y1) yf1
            replace c0 := kn.cell0 c0
            replace c1 := kn.cell0 c1
            replace d0 := kn.cell0 d0
            replace d1 := kn.cell0 d1
            replace q0 := kn.cell0 q0
            replace q1 := kn.cell0 q1
            replace y0 := kn.cell0 y0
            replace y1 := kn.cell0 y1
            replace K := hide ((unhide K).trans kn)
            have z13 := kn.size
            clear kn
            have szx : w10.heap.size < (w10.alloc (.cells #[.slice none 0 0, .bool false] 41)).heap.size := by simp
            have x0 : (w10.alloc (.cells #[.slice none 0 0, .bool false] 41)).cell? ⟨w10.heap.size, 0, none⟩ = some (.slice none 0 0) := new_cell2 _ _ _ _ _ _ rfl rfl
            have xf0 : (w10.alloc (.cells #[.slice none 0 0, .bool false] 41)).frozen? ⟨w10.heap.size, 0, none⟩ = false := new_loose2 _ _ _ _ _ rfl
            have x1 : (w10.alloc (.cells #[.slice none 0 0, .bool false] 41)).cell? ⟨w10.heap.size, 1, none⟩ = some (.bool false) := new_cell2 _ _ _ _ _ _ rfl rfl
            have xf1 : (w10.alloc (.cells #[.slice none 0 0, .bool false] 41)).frozen? ⟨w10.heap.size, 1, none⟩ = false := new_loose2 _ _ _ _ _ rfl
            clear hHeld
            refine hK.out _ _ ?_ (fun hHeld => ?_)
            · exact ⟨c0, c1, d0, d1⟩
            clear hK KK
            try simp only [Act.put, List.getElem_toArray, List.getElem_cons_succ, List.getElem_cons_zero, List.setIfInBounds_toArray, List.set_cons_zero, List.set_cons_succ]
            generalize w10.alloc (.cells #[.slice none 0 0, .bool false] 41) = w12 at *
            refine wpAnyH_ready (rs := [6]) (by kernel_rfl) (by simp) ?_
            refine AllReadyH.cons rfl (fun KK hK => ?_) AllReadyH.nil
            simp only [List.getElem_toArray, List.getElem_cons_succ, List.getElem_cons_zero]
            rw [if_pos (by rfl)]
            go_simp
            clear hHeld
            refine hK.out _ _ ?_ (fun hHeld => ?_)
            · exact ⟨(cell_aside _ (by have := unhide SW; dsimp only; omega) (cell_aside _ (by have := unhide SW; dsimp only; omega) c0)), (cell_aside _ (by have := unhide SW; dsimp only; omega) (cell_aside _ (by have := unhide SW; dsimp only; omega) c1)), (cell_aside _ (by have := unhide SW; dsimp only; omega) (cell_aside _ (by have := unhide SW; dsimp only; omega) d0)), (cell_aside _ (by have := unhide SW; dsimp only; omega) (cell_aside _ (by have := unhide SW; dsimp only; omega) d1))⟩
            clear hK KK
            try simp only [Act.put, List.getElem_toArray, List.getElem_cons_succ, List.getElem_cons_zero, List.setIfInBounds_toArray, List.set_cons_zero, List.set_cons_succ]
            refine wpAnyH_ready (rs := [7]) (by kernel_rfl) (by simp) ?_
            refine AllReadyH.cons rfl (fun KK hK => ?_) AllReadyH.nil
            simp only [List.getElem_toArray, List.getElem_cons_succ, List.getElem_cons_zero]
            rw [if_pos (by rfl)]
            go_simp
            clear hHeld
            refine hK.out _ _ ?_ (fun hHeld => ?_)
            · exact ⟨(cell_aside _ (by have := unhide SW; dsimp only; omega) (cell_aside _ (by have := unhide SW; dsimp only; omega) (cell_aside _ (by have := unhide SW; dsimp only; omega) (cell_aside _ (by have := unhide SW; dsimp only; omega) c0)))), (cell_aside _ (by have := unhide SW; dsimp only; omega) (cell_aside _ (by have := unhide SW; dsimp only; omega) (cell_aside _ (by have := unhide SW; dsimp only; omega) (cell_aside _ (by have := unhide SW; dsimp only; omega) c1)))), (cell_aside _ (by have := unhide SW; dsimp only; omega) (cell_aside _ (by have := unhide SW; dsimp only; omega) (cell_aside _ (by have := unhide SW; dsimp only; omega) (cell_aside _ (by have := unhide SW; dsimp only; omega) d0)))), (cell_aside _ (by have := unhide SW; dsimp only; omega) (cell_aside _ (by have := unhide SW; dsimp only; omega) (cell_aside _ (by have := unhide SW; dsimp only; omega) (cell_aside _ (by have := unhide SW; dsimp only; omega) d1))))⟩
            clear hK KK
            try simp only [Act.put, List.getElem_toArray, List.getElem_cons_succ, List.getElem_cons_zero, List.setIfInBounds_toArray, List.set_cons_zero, List.set_cons_succ]
            refine wpAnyH_done (by kernel_rfl) ?_ _
            clear hHeld
            go_wp2_with fail
            go_meet
            exact ⟨_, _, rfl, rfl, sig_pair s1 s2 kw o3 o4 x0 x1 xf0 xf1 y0 y1 yf0 yf1 (by omega) (by omega) (by omega) (by omega) (by omega) (fun e => by have := l3 _ e; omega) (fun e => by have := l3 _ e; omega) (fun e => by have := l4 _ e; omega) (fun e => by have := l4 _ e; omega) (fun k e1 e2 => by have := l3 _ e1; have := l4 _ e2; omega)⟩
      · simp only [List.getElem_toArray, List.getElem_cons_succ, List.getElem_cons_zero]
        rw [if_pos (by rfl)]
        go_simp
        have kn := (Kept.refl 0 0 w6).alloc (.cells #[.slice none 0 0, .bool false] 41)
        replace r1 := r1.kept kn (by omega)
        replace r2 := r2.kept kn (by omega)
        replace kw := kw.trans kn
        replace o3 := own_kept o3 kn
        replace f0 := kn.loose0 (World.block_lt_of_cell? _ _ q0) f0
        replace f1 := kn.loose0 (World.block_lt_of_cell? _ _ q1) f1
        replace c0 := kn.cell0 c0
        replace c1 := kn.cell0 c1
        replace d0 := kn.cell0 d0
        replace d1 := kn.cell0 d1
        replace q0 := kn.cell0 q0
        replace q1 := kn.cell0 q1
        replace K := hide ((unhide K).trans kn)
        have z9 := kn.size
        clear kn
        have szx : w6.heap.size < (w6.alloc (.cells #[.slice none 0 0, .bool false] 41)).heap.size := by simp
        have x0 : (w6.alloc (.cells #[.slice none 0 0, .bool false] 41)).cell? ⟨w6.heap.size, 0, none⟩ = some (.slice none 0 0) := new_cell2 _ _ _ _ _ _ rfl rfl
        have xf0 : (w6.alloc (.cells #[.slice none 0 0, .bool false] 41)).frozen? ⟨w6.heap.size, 0, none⟩ = false := new_loose2 _ _ _ _ _ rfl
        have x1 : (w6.alloc (.cells #[.slice none 0 0, .bool false] 41)).cell? ⟨w6.heap.size, 1, none⟩ = some (.bool false) := new_cell2 _ _ _ _ _ _ rfl rfl
        have xf1 : (w6.alloc (.cells #[.slice none 0 0, .bool false] 41)).frozen? ⟨w6.heap.size, 1, none⟩ = false := new_loose2 _ _ _ _ _ rfl
        clear hHeld
        refine hK.out _ _ ?_ (fun hHeld => ?_)
        · exact ⟨c0, c1, d0, d1⟩
        clear hK KK
        try simp only [Act.put, List.getElem_toArray, List.getElem_cons_succ, List.getElem_cons_zero, List.setIfInBounds_toArray, List.set_cons_zero, List.set_cons_succ]
        generalize w6.alloc (.cells #[.slice none 0 0, .bool false] 41) = w8 at *
        refine wpAnyH_ready (rs := [3, 5]) (by kernel_rfl) (by simp) ?_
        refine AllReadyH.cons rfl (fun KK hK => ?_) (AllReadyH.cons rfl (fun KK hK => ?_) AllReadyH.nil)
        · simp only [List.getElem_toArray, List.getElem_cons_succ, List.getElem_cons_zero]
          rw [if_pos (by rfl)]
          refine wps1 13 (.tmp 32) _ rfl in_signedOf (.agg #[.bool s2, .slice a2 ys.length e2]) rfl (signedOf_impl s2 _ r2 my) ?_
          rintro e w10 ⟨v4, rfl, o4, k10⟩
          refine ⟨_, rfl, ?_⟩
          replace r1 := r1.kept k10 (by omega)
          replace r2 := r2.kept k10 (by omega)
          replace kw := kw.trans k10
          replace o3 := own_kept o3 k10
          replace f0 := k10.loose0 (World.block_lt_of_cell? _ _ q0) f0
          replace f1 := k10.loose0 (World.block_lt_of_cell? _ _ q1) f1
          replace xf0 := k10.loose0 (World.block_lt_of_cell? _ _ x0) xf0
          replace xf1 := k10.loose0 (World.block_lt_of_cell? _ _ x1) xf1
          replace c0 := k10.cell0 c0
          replace c1 := k10.cell0 c1
          replace d0 := k10.cell0 d0
          replace d1 := k10.cell0 d1
          replace q0 := k10.cell0 q0
          replace q1 := k10.cell0 q1
          replace x0 := k10.cell0 x0
          replace x1 := k10.cell0 x1
          replace K := hide ((unhide K).trans k10)
          have z11 := k10.size
          clear k10
          have l4 := o4.lt
          obtain ⟨a4, c4, hv⟩ := own_slice o4
          subst hv
          clear hHeld
          refine hK.out _ _ ?_ (fun hHeld => ?_)
          · exact ⟨c0, c1, d0, d1⟩
          clear hK KK
          try simp only [Act.put, List.getElem_toArray, List.getElem_cons_succ, List.getElem_cons_zero, List.setIfInBounds_toArray, List.set_cons_zero, List.set_cons_succ]
          refine wpAnyH_ready (rs := [5]) (by kernel_rfl) (by simp) ?_
          refine AllReadyH.cons rfl (fun KK hK => ?_) AllReadyH.nil
          · simp only [List.getElem_toArray, List.getElem_cons_succ, List.getElem_cons_zero]
            rw [if_pos (by rfl)]
            go_simp
            have kn := (Kept.refl 0 0 w10).alloc (.cells #[.slice none 0 0, .bool false] 41)
            replace r1 := r1.kept kn (by omega)
            replace r2 := r2.kept kn (by omega)
            replace kw := kw.trans kn
            replace o3 := own_kept o3 kn
            replace o4 := own_kept o4 kn
            replace f0 := kn.loose0 (World.block_lt_of_cell? _ _ q0) f0
            replace f1 := kn.loose0 (World.block_lt_of_cell? _ _ q1) f1
            replace xf0 := kn.loose0 (World.block_lt_of_cell? _ _ x0) xf0
            replace xf1 := kn.loose0 (World.block_lt_of_cell? _ _ x1) xf1
            replace c0 := kn.cell0 c0
            replace c1 := kn.cell0 c1
            replace d0 := kn.cell0 d0
            replace d1 := kn.cell0 d1
            replace q0 := kn.cell0 q0
            replace q1 := kn.cell0 q1
            replace x0 := kn.cell0 x0
            replace x1 := kn.cell0 x1
            replace K := hide ((unhide K).trans kn)
            have z13 := kn.size
            clear kn
            have szy : w10.heap.size < (w10.alloc (.cells #[.slice none 0 0, .bool false] 41)).heap.size := by simp
            have y0 : (w10.alloc (.cells #[.slice none 0 0, .bool false] 41)).cell? ⟨w10.heap.size, 0, none⟩ = some (.slice none 0 0) := new_cell2 _ _ _ _ _ _ rfl rfl
            have yf0 : (w10.alloc (.cells #[.slice none 0 0, .bool false] 41)).frozen? ⟨w10.heap.size, 0, none⟩ = false := new_loose2 _ _ _ _ _ rfl
            have y1 : (w10.alloc (.cells #[.slice none 0 0, .bool false] 41)).cell? ⟨w10.heap.size, 1, none⟩ = some (.bool false) := new_cell2 _ _ _ _ _ _ rfl rfl
            have yf1 : (w10.alloc (.cells #[.slice none 0 0, .bool false] 41)).frozen? ⟨w10.heap.size, 1, none⟩ = false := new_loose2 _ _ _ _ _ rfl
            clear hHeld
            refine hK.out _ _ ?_ (fun hHeld => ?_)
            · exact ⟨c0, c1, d0, d1⟩
            clear hK KK
            try simp only [Act.put, List.getElem_toArray, List.getElem_cons_succ, List.getElem_cons_zero, List.setIfInBounds_toArray, List.set_cons_zero, List.set_cons_succ]
            generalize w10.alloc (.cells #[.slice none 0 0, .bool false] 41) = w12 at *
            refine wpAnyH_ready (rs := [6]) (by kernel_rfl) (by simp) ?_
            refine AllReadyH.cons rfl (fun KK hK => ?_) AllReadyH.nil
            simp only [List.getElem_toArray, List.getElem_cons_succ, List.getElem_cons_zero]
            rw [if_pos (by rfl)]
            go_simp
            clear hHeld
            refine hK.out _ _ ?_ (fun hHeld => ?_)
            · exact ⟨(cell_aside _ (by have := unhide SW; dsimp only; omega) (cell_aside _ (by have := unhide SW; dsimp only; omega) c0)), (cell_aside _ (by have := unhide SW; dsimp only; omega) (cell_aside _ (by have := unhide SW; dsimp only; omega) c1)), (cell_aside _ (by have := unhide SW; dsimp only; omega) (cell_aside _ (by have := unhide SW; dsimp only; omega) d0)), (cell_aside _ (by have := unhide SW; dsimp only; omega) (cell_aside _ (by have := unhide SW; dsimp only; omega) d1))⟩
            clear hK KK
            try simp only [Act.put, List.getElem_toArray, List.getElem_cons_succ, List.getElem_cons_zero, List.setIfInBounds_toArray, List.set_cons_zero, List.set_cons_succ]
            refine wpAnyH_ready (rs := [7]) (by kernel_rfl) (by simp) ?_
            refine AllReadyH.cons rfl (fun KK hK => ?_) AllReadyH.nil
            simp only [List.getElem_toArray, List.getElem_cons_succ, List.getElem_cons_zero]
            rw [if_pos (by rfl)]
            go_simp
            clear hHeld
            refine hK.out _ _ ?_ (fun hHeld => ?_)
            · exact ⟨(cell_aside _ (by have := unhide SW; dsimp only; omega) (cell_aside _ (by have := unhide SW; dsimp only; omega) (cell_aside _ (by have := unhide SW; dsimp only; omega) (cell_aside _ (by have := unhide SW; dsimp only; omega) c0)))), (cell_aside _ (by have := unhide SW; dsimp only; omega) (cell_aside _ (by have := unhide SW; dsimp only; omega) (cell_aside _ (by have := unhide SW; dsimp only; omega) (cell_aside _ (by have := unhide SW; dsimp only; omega) c1)))), (cell_aside _ (by have := unhide SW; dsimp only; omega) (cell_aside _ (by have := unhide SW; dsimp only; omega) (cell_aside _ (by have := unhide SW; dsimp only; omega) (cell_aside _ (by have := unhide SW; dsimp only; omega) d0)))), (cell_aside _ (by have := unhide SW; dsimp only; omega) (cell_aside _ (by have := unhide SW; dsimp only; omega) (cell_aside _ (by have := unhide SW; dsimp only; omega) (cell_aside _ (by have := unhide SW; dsimp only; omega) d1))))⟩
            clear hK KK
            try simp only [Act.put, List.getElem_toArray, List.getElem_cons_succ, List.getElem_cons_zero, List.setIfInBounds_toArray, List.set_cons_zero, List.set_cons_succ]
            refine wpAnyH_done (by kernel_rfl) ?_ _
            clear hHeld
            go_wp2_with fail
            go_meet
            exact ⟨_, _, rfl, rfl, sig_pair s1 s2 kw o3 o4 x0 x1 xf0 xf1 y0 y1 yf0 yf1 (by omega) (by omega) (by omega) (by omega) (by omega) (fun e => by have := l3 _ e; omega) (fun e => by have := l3 _ e; omega) (fun e => by have := l4 _ e; omega) (fun e => by have := l4 _ e; omega) (fun k e1 e2 => by have := l3 _ e1; have := l4 _ e2; omega)⟩
        · simp only [List.getElem_toArray, List.getElem_cons_succ, List.getElem_cons_zero]
          rw [if_pos (by rfl)]
          go_simp
          have kn := (Kept.refl 0 0 w8).alloc (.cells #[.slice none 0 0, .bool false] 41)
          replace r1 := r1.kept kn (by omega)
          replace r2 := r2.kept kn (by omega)
          replace kw := kw.trans kn
          replace o3 := own_kept o3 kn
          replace f0 := kn.loose0 (World.block_lt_of_cell? _ _ q0) f0
          replace f1 := kn.loose0 (World.block_lt_of_cell? _ _ q1) f1
          replace xf0 := kn.loose0 (World.block_lt_of_cell? _ _ x0) xf0
          replace xf1 := kn.loose0 (World.block_lt_of_cell? _ _ x1) xf1
          replace c0 := kn.cell0 c0
          replace c1 := kn.cell0 c1
          replace d0 := kn.cell0 d0
          replace d1 := kn.cell0 d1
          replace q0 := kn.cell0 q0
          replace q1 := kn.cell0 q1
          replace x0 := kn.cell0 x0
          replace x1 := kn.cell0 x1
          replace K := hide ((unhide K).trans kn)
          have z11 := kn.size
          clear kn
          have szy : w8.heap.size < (w8.alloc (.cells #[.slice none 0 0, .bool false] 41)).heap.size := by simp
          have y0 : (w8.alloc (.cells #[.slice none 0 0, .bool false] 41)).cell? ⟨w8.heap.size, 0, none⟩ = some (.slice none 0 0) := new_cell2 _ _ _ _ _ _ rfl rfl
          have yf0 : (w8.alloc (.cells #[.slice none 0 0, .bool false] 41)).frozen? ⟨w8.heap.size, 0, none⟩ = false := new_loose2 _ _ _ _ _ rfl
          have y1 : (w8.alloc (.cells #[.slice none 0 0, .bool false] 41)).cell? ⟨w8.heap.size, 1, none⟩ = some (.bool false) := new_cell2 _ _ _ _ _ _ rfl rfl
          have yf1 : (w8.alloc (.cells #[.slice none 0 0, .bool false] 41)).frozen? ⟨w8.heap.size, 1, none⟩ = false := new_loose2 _ _ _ _ _ rfl
          clear hHeld
          refine hK.out _ _ ?_ (fun hHeld => ?_)
          · exact ⟨c0, c1, d0, d1⟩
          clear hK KK
          try simp only [Act.put, List.getElem_toArray, List.getElem_cons_succ, List.getElem_cons_zero, List.setIfInBounds_toArray, List.set_cons_zero, List.set_cons_succ]
          generalize w8.alloc (.cells #[.slice none 0 0, .bool false] 41) = w10 at *
          refine wpAnyH_ready (rs := [3]) (by kernel_rfl) (by simp) ?_
          refine AllReadyH.cons rfl (fun KK hK => ?_) AllReadyH.nil
          · simp only [List.getElem_toArray, List.getElem_cons_succ, List.getElem_cons_zero]
            rw [if_pos (by rfl)]
            refine wps1 13 (.tmp 32) _ rfl in_signedOf (.agg #[.bool s2, .slice a2 ys.length e2]) rfl (signedOf_impl s2 _ r2 my) ?_
            rintro e w12 ⟨v4, rfl, o4, k12⟩
            refine ⟨_, rfl, ?_⟩
            replace r1 := r1.kept k12 (by omega)
            replace r2 := r2.kept k12 (by omega)
            replace kw := kw.trans k12
            replace o3 := own_kept o3 k12
            replace f0 := k12.loose0 (World.block_lt_of_cell? _ _ q0) f0
            replace f1 := k12.loose0 (World.block_lt_of_cell? _ _ q1) f1
            replace xf0 := k12.loose0 (World.block_lt_of_cell? _ _ x0) xf0
            replace xf1 := k12.loose0 (World.block_lt_of_cell? _ _ x1) xf1
            replace yf0 := k12.loose0 (World.block_lt_of_cell? _ _ y0) yf0
            replace yf1 := k12.loose0 (World.block_lt_of_cell? _ _ y1) yf1
            replace c0 := k12.cell0 c0
            replace c1 := k12.cell0 c1
            replace d0 := k12.cell0 d0
            replace d1 := k12.cell0 d1
            replace q0 := k12.cell0 q0
            replace q1 := k12.cell0 q1
            replace x0 := k12.cell0 x0
            replace x1 := k12.cell0 x1
            replace y0 := k12.cell0 y0
            replace y1 := k12.cell0 y1
            replace K := hide ((unhide K).trans k12)
            have z13 := k12.size
            clear k12
            have l4 := o4.lt
            obtain ⟨a4, c4, hv⟩ := own_slice o4
            subst hv
            clear hHeld
            refine hK.out _ _ ?_ (fun hHeld => ?_)
            · exact ⟨c0, c1, d0, d1⟩
            clear hK KK
            try simp only [Act.put, List.getElem_toArray, List.getElem_cons_succ, List.getElem_cons_zero, List.setIfInBounds_toArray, List.set_cons_zero, List.set_cons_succ]
            refine wpAnyH_ready (rs := [6]) (by kernel_rfl) (by simp) ?_
            refine AllReadyH.cons rfl (fun KK hK => ?_) AllReadyH.nil
            simp only [List.getElem_toArray, List.getElem_cons_succ, List.getElem_cons_zero]
            rw [if_pos (by rfl)]
            go_simp
            clear hHeld
            refine hK.out _ _ ?_ (fun hHeld => ?_)
            · exact ⟨(cell_aside _ (by have := unhide SW; dsimp only; omega) (cell_aside _ (by have := unhide SW; dsimp only; omega) c0)), (cell_aside _ (by have := unhide SW; dsimp only; omega) (cell_aside _ (by have := unhide SW; dsimp only; omega) c1)), (cell_aside _ (by have := unhide SW; dsimp only; omega) (cell_aside _ (by have := unhide SW; dsimp only; omega) d0)), (cell_aside _ (by have := unhide SW; dsimp only; omega) (cell_aside _ (by have := unhide SW; dsimp only; omega) d1))⟩
            clear hK KK
            try simp only [Act.put, List.getElem_toArray, List.getElem_cons_succ, List.getElem_cons_zero, List.setIfInBounds_toArray, List.set_cons_zero, List.set_cons_succ]
            refine wpAnyH_ready (rs := [7]) (by kernel_rfl) (by simp) ?_
            refine AllReadyH.cons rfl (fun KK hK => ?_) AllReadyH.nil
            simp only [List.getElem_toArray, List.getElem_cons_succ, List.getElem_cons_zero]
            rw [if_pos (by rfl)]
            go_simp
            clear hHeld
            refine hK.out _ _ ?_ (fun hHeld => ?_)
            · exact ⟨(cell_aside _ (by have := unhide SW; dsimp only; omega) (cell_aside _ (by have := unhide SW; dsimp only; omega) (cell_aside _ (by have := unhide SW; dsimp only; omega) (cell_aside _ (by have := unhide SW; dsimp only; omega) c0)))), (cell_aside _ (by have := unhide SW; dsimp only; omega) (cell_aside _ (by have := unhide SW; dsimp only; omega) (cell_aside _ (by have := unhide SW; dsimp only; omega) (cell_aside _ (by have := unhide SW; dsimp only; omega) c1)))), (cell_aside _ (by have := unhide SW; dsimp only; omega) (cell_aside _ (by have := unhide SW; dsimp only; omega) (cell_aside _ (by have := unhide SW; dsimp only; omega) (cell_aside _ (by have := unhide SW; dsimp only; omega) d0)))), (cell_aside _ (by have := unhide SW; dsimp only; omega) (cell_aside _ (by have := unhide SW; dsimp only; omega) (cell_aside _ (by have := unhide SW; dsimp only; omega) (cell_aside _ (by have := unhide SW; dsimp only; omega) d1))))⟩
            clear hK KK
            try simp only [Act.put, List.getElem_toArray, List.getElem_cons_succ, List.getElem_cons_zero, List.setIfInBounds_toArray, List.set_cons_zero, List.set_cons_succ]
            refine wpAnyH_done (by kernel_rfl) ?_ _
            clear hHeld
            go_wp2_with fail
            go_meet
            exact ⟨_, _, rfl, rfl, sig_pair s1 s2 kw o3 o4 x0 x1 xf0 xf1 y0 y1 yf0 yf1 (by omega) (by omega) (by omega) (by omega) (by omega) (fun e => by have := l3 _ e; omega) (fun e => by have := l3 _ e; omega) (fun e => by have := l4 _ e; omega) (fun e => by have := l4 _ e; omega) (fun k e1 e2 => by have := l3 _ e1; have := l4 _ e2; omega)⟩
      · simp only [List.getElem_toArray, List.getElem_cons_succ, List.getElem_cons_zero]
        rw [if_pos (by rfl)]
        go_simp
        have kn := (Kept.refl 0 0 w6).alloc (.cells #[.slice none 0 0, .bool false] 41)
        replace r1 := r1.kept kn (by omega)
        replace r2 := r2.kept kn (by omega)
        replace kw := kw.trans kn
        replace o3 := own_kept o3 kn
        replace f0 := kn.loose0 (World.block_lt_of_cell? _ _ q0) f0
        replace f1 := kn.loose0 (World.block_lt_of_cell? _ _ q1) f1
        replace c0 := kn.cell0 c0
        replace c1 := kn.cell0 c1
        replace d0 := kn.cell0 d0
        replace d1 := kn.cell0 d1
        replace q0 := kn.cell0 q0
        replace q1 := kn.cell0 q1
        replace K := hide ((unhide K).trans kn)
        have z9 := kn.size
        clear kn
        have szy : w6.heap.size < (w6.alloc (.cells #[.slice none 0 0, .bool false] 41)).heap.size := by simp
        have y0 : (w6.alloc (.cells #[.slice none 0 0, .bool false] 41)).cell? ⟨w6.heap.size, 0, none⟩ = some (.slice none 0 0) := new_cell2 _ _ _ _ _ _ rfl rfl
        have yf0 : (w6.alloc (.cells #[.slice none 0 0, .bool false] 41)).frozen? ⟨w6.heap.size, 0, none⟩ = false := new_loose2 _ _ _ _ _ rfl
        have y1 : (w6.alloc (.cells #[.slice none 0 0, .bool false] 41)).cell? ⟨w6.heap.size, 1, none⟩ = some (.bool false) := new_cell2 _ _ _ _ _ _ rfl rfl
        have yf1 : (w6.alloc (.cells #[.slice none 0 0, .bool false] 41)).frozen? ⟨w6.heap.size, 1, none⟩ = false := new_loose2 _ _ _ _ _ rfl
        clear hHeld
        refine hK.out _ _ ?_ (fun hHeld => ?_)
        · exact ⟨c0, c1, d0, d1⟩
        clear hK KK
        try simp only [Act.put, List.getElem_toArray, List.getElem_cons_succ, List.getElem_cons_zero, List.setIfInBounds_toArray, List.set_cons_zero, List.set_cons_succ]
        generalize w6.alloc (.cells #[.slice none 0 0, .bool false] 41) = w8 at *
        refine wpAnyH_ready (rs := [3, 4]) (by kernel_rfl) (by simp) ?_
        refine AllReadyH.cons rfl (fun KK hK => ?_) (AllReadyH.cons rfl (fun KK hK => ?_) AllReadyH.nil)
        · simp only [List.getElem_toArray, List.getElem_cons_succ, List.getElem_cons_zero]
          rw [if_pos (by rfl)]
          refine wps1 13 (.tmp 32) _ rfl in_signedOf (.agg #[.bool s2, .slice a2 ys.length e2]) rfl (signedOf_impl s2 _ r2 my) ?_
          rintro e w10 ⟨v4, rfl, o4, k10⟩
          refine ⟨_, rfl, ?_⟩
          replace r1 := r1.kept k10 (by omega)
          replace r2 := r2.kept k10 (by omega)
          replace kw := kw.trans k10
          replace o3 := own_kept o3 k10
          replace f0 := k10.loose0 (World.block_lt_of_cell? _ _ q0) f0
          replace f1 := k10.loose0 (World.block_lt_of_cell? _ _ q1) f1
          replace yf0 := k10.loose0 (World.block_lt_of_cell? _ _ y0) yf0
          replace yf1 := k10.loose0 (World.block_lt_of_cell? _ _ y1) yf1
          replace c0 := k10.cell0 c0
          replace c1 := k10.cell0 c1
          replace d0 := k10.cell0 d0
          replace d1 := k10.cell0 d1
          replace q0 := k10.cell0 q0
          replace q1 := k10.cell0 q1
          replace y0 := k10.cell0 y0
          replace y1 := k10.cell0 y1
          replace K := hide ((unhide K).trans k10)
          have z11 := k10.size
          clear k10
          have l4 := o4.lt
          obtain ⟨a4, c4, hv⟩ := own_slice o4
          subst hv
          clear hHeld
          refine hK.out _ _ ?_ (fun hHeld => ?_)
          · exact ⟨c0, c1, d0, d1⟩
          clear hK KK
          try simp only [Act.put, List.getElem_toArray, List.getElem_cons_succ, List.getElem_cons_zero, List.setIfInBounds_toArray, List.set_cons_zero, List.set_cons_succ]
          refine wpAnyH_ready (rs := [4]) (by kernel_rfl) (by simp) ?_
          refine AllReadyH.cons rfl (fun KK hK => ?_) AllReadyH.nil
          · simp only [List.getElem_toArray, List.getElem_cons_succ, List.getElem_cons_zero]
            rw [if_pos (by rfl)]
            go_simp
            have kn := (Kept.refl 0 0 w10).alloc (.cells #[.slice none 0 0, .bool false] 41)
            replace r1 := r1.kept kn (by omega)
            replace r2 := r2.kept kn (by omega)
            replace kw := kw.trans kn
            replace o3 := own_kept o3 kn
            replace o4 := own_kept o4 kn
            replace f0 := kn.loose0 (World.block_lt_of_cell? _ _ q0) f0
            replace f1 := kn.loose0 (World.block_lt_of_cell? _ _ q1) f1
            replace yf0 := kn.loose0 (World.block_lt_of_cell? _ _ y0) yf0
            replace yf1 := kn.loose0 (World.block_lt_of_cell? _ _ y1) yf1
            replace c0 := kn.cell0 c0
            replace c1 := kn.cell0 c1
            replace d0 := kn.cell0 d0
            replace d1 := kn.cell0 d1
            replace q0 := kn.cell0 q0
            replace q1 := kn.cell0 q1
            replace y0 := kn.cell0 y0
            replace y1 := kn.cell0 y1
            replace K := hide ((unhide K).trans kn)
            have z13 := kn.size
            clear kn
            have szx : w10.heap.size < (w10.alloc (.cells #[.slice none 0 0, .bool false] 41)).heap.size := by simp
            have x0 : (w10.alloc (.cells #[.slice none 0 0, .bool false] 41)).cell? ⟨w10.heap.size, 0, none⟩ = some (.slice none 0 0) := new_cell2 _ _ _ _ _ _ rfl rfl
            have xf0 : (w10.alloc (.cells #[.slice none 0 0, .bool false] 41)).frozen? ⟨w10.heap.size, 0, none⟩ = false := new_loose2 _ _ _ _ _ rfl
            have x1 : (w10.alloc (.cells #[.slice none 0 0, .bool false] 41)).cell? ⟨w10.heap.size, 1, none⟩ = some (.bool false) := new_cell2 _ _ _ _ _ _ rfl rfl
            have xf1 : (w10.alloc (.cells #[.slice none 0 0, .bool false] 41)).frozen? ⟨w10.heap.size, 1, none⟩ = false := new_loose2 _ _ _ _ _ rfl
            clear hHeld
            refine hK.out _ _ ?_ (fun hHeld => ?_)
            · exact ⟨c0, c1, d0, d1⟩
            clear hK KK
            try simp only [Act.put, List.getElem_toArray, List.getElem_cons_succ, List.getElem_cons_zero, List.setIfInBounds_toArray, List.set_cons_zero, List.set_cons_succ]
            generalize w10.alloc (.cells #[.slice none 0 0, .bool false] 41) = w12 at *
            refine wpAnyH_ready (rs := [6]) (by kernel_rfl) (by simp) ?_
            refine AllReadyH.cons rfl (fun KK hK => ?_) AllReadyH.nil
            simp only [List.getElem_toArray, List.getElem_cons_succ, List.getElem_cons_zero]
            rw [if_pos (by rfl)]
            go_simp
            clear hHeld
            refine hK.out _ _ ?_ (fun hHeld => ?_)
            · exact ⟨(cell_aside _ (by have := unhide SW; dsimp only; omega) (cell_aside _ (by have := unhide SW; dsimp only; omega) c0)), (cell_aside _ (by have := unhide SW; dsimp only; omega) (cell_aside _ (by have := unhide SW; dsimp only; omega) c1)), (cell_aside _ (by have := unhide SW; dsimp only; omega) (cell_aside _ (by have := unhide SW; dsimp only; omega) d0)), (cell_aside _ (by have := unhide SW; dsimp only; omega) (cell_aside _ (by have := unhide SW; dsimp only; omega) d1))⟩
            clear hK KK
            try simp only [Act.put, List.getElem_toArray, List.getElem_cons_succ, List.getElem_cons_zero, List.setIfInBounds_toArray, List.set_cons_zero, List.set_cons_succ]
            refine wpAnyH_ready (rs := [7]) (by kernel_rfl) (by simp) ?_
            refine AllReadyH.cons rfl (fun KK hK => ?_) AllReadyH.nil
            simp only [List.getElem_toArray, List.getElem_cons_succ, List.getElem_cons_zero]
            rw [if_pos (by rfl)]
            go_simp
            clear hHeld
            refine hK.out _ _ ?_ (fun hHeld => ?_)
            · exact ⟨(cell_aside _ (by have := unhide SW; dsimp only; omega) (cell_aside _ (by have := unhide SW; dsimp only; omega) (cell_aside _ (by have := unhide SW; dsimp only; omega) (cell_aside _ (by have := unhide SW; dsimp only; omega) c0)))), (cell_aside _ (by have := unhide SW; dsimp only; omega) (cell_aside _ (by have := unhide SW; dsimp only; omega) (cell_aside _ (by have := unhide SW; dsimp only; omega) (cell_aside _ (by have := unhide SW; dsimp only; omega) c1)))), (cell_aside _ (by have := unhide SW; dsimp only; omega) (cell_aside _ (by have := unhide SW; dsimp only; omega) (cell_aside _ (by have := unhide SW; dsimp only; omega) (cell_aside _ (by have := unhide SW; dsimp only; omega) d0)))), (cell_aside _ (by have := unhide SW; dsimp only; omega) (cell_aside _ (by have := unhide SW; dsimp only; omega) (cell_aside _ (by have := unhide SW; dsimp only; omega) (cell_aside _ (by have := unhide SW; dsimp only; omega) d1))))⟩
            clear hK KK
            try simp only [Act.put, List.getElem_toArray, List.getElem_cons_succ, List.getElem_cons_zero, List.setIfInBounds_toArray, List.set_cons_zero, List.set_cons_succ]
            refine wpAnyH_done (by kernel_rfl) ?_ _
            clear hHeld
            go_wp2_with fail
            go_meet
            exact ⟨_, _, rfl, rfl, sig_pair s1 s2 kw o3 o4 x0 x1 xf0 xf1 y0 y1 yf0 yf1 (by omega) (by omega) (by omega) (by omega) (by omega) (fun e => by have := l3 _ e; omega) (fun e => by have := l3 _ e; omega) (fun e => by have := l4 _ e; omega) (fun e => by have := l4 _ e; omega) (fun k e1 e2 => by have := l3 _ e1; have := l4 _ e2; omega)⟩
        · simp only [List.getElem_toArray, List.getElem_cons_succ, List.getElem_cons_zero]
          rw [if_pos (by rfl)]
          go_simp
          have kn := (Kept.refl 0 0 w8).alloc (.cells #[.slice none 0 0, .bool false] 41)
          replace r1 := r1.kept kn (by omega)
          replace r2 := r2.kept kn (by omega)
          replace kw := kw.trans kn
          replace o3 := own_kept o3 kn
          replace f0 := kn.loose0 (World.block_lt_of_cell? _ _ q0) f0
          replace f1 := kn.loose0 (World.block_lt_of_cell? _ _ q1) f1
          replace yf0 := kn.loose0 (World.block_lt_of_cell? _ _ y0) yf0
          replace yf1 := kn.loose0 (World.block_lt_of_cell? _ _ y1) yf1
          replace c0 := kn.cell0 c0
          replace c1 := kn.cell0 c1
          replace d0 := kn.cell0 d0
          replace d1 := kn.cell0 d1
          replace q0 := kn.cell0 q0
          replace q1 := kn.cell0 q1
          replace y0 := kn.cell0 y0
          replace y1 := kn.cell0 y1
          replace K := hide ((unhide K).trans kn)
          have z11 := kn.size
          clear kn
          have szx : w8.heap.size < (w8.alloc (.cells #[.slice none 0 0, .bool false] 41)).heap.size := by simp
          have x0 : (w8.alloc (.cells #[.slice none 0 0, .bool false] 41)).cell? ⟨w8.heap.size, 0, none⟩ = some (.slice none 0 0) := new_cell2 _ _ _ _ _ _ rfl rfl
          have xf0 : (w8.alloc (.cells #[.slice none 0 0, .bool false] 41)).frozen? ⟨w8.heap.size, 0, none⟩ = false := new_loose2 _ _ _ _ _ rfl
          have x1 : (w8.alloc (.cells #[.slice none 0 0, .bool false] 41)).cell? ⟨w8.heap.size, 1, none⟩ = some (.bool false) := new_cell2 _ _ _ _ _ _ rfl rfl
          have xf1 : (w8.alloc (.cells #[.slice none 0 0, .bool false] 41)).frozen? ⟨w8.heap.size, 1, none⟩ = false := new_loose2 _ _ _ _ _ rfl
          clear hHeld
          refine hK.out _ _ ?_ (fun hHeld => ?_)
          · exact ⟨c0, c1, d0, d1⟩
          clear hK KK
          try simp only [Act.put, List.getElem_toArray, List.getElem_cons_succ, List.getElem_cons_zero, List.setIfInBounds_toArray, List.set_cons_zero, List.set_cons_succ]
          generalize w8.alloc (.cells #[.slice none 0 0, .bool false] 41) = w10 at *
          refine wpAnyH_ready (rs := [3]) (by kernel_rfl) (by simp) ?_
          refine AllReadyH.cons rfl (fun KK hK => ?_) AllReadyH.nil
          · simp only [List.getElem_toArray, List.getElem_cons_succ, List.getElem_cons_zero]
            rw [if_pos (by rfl)]
            refine wps1 13 (.tmp 32) _ rfl in_signedOf (.agg #[.bool s2, .slice a2 ys.length e2]) rfl (signedOf_impl s2 _ r2 my) ?_
            rintro e w12 ⟨v4, rfl, o4, k12⟩
            refine ⟨_, rfl, ?_⟩
            replace r1 := r1.kept k12 (by omega)
            replace r2 := r2.kept k12 (by omega)
            replace kw := kw.trans k12
            replace o3 := own_kept o3 k12
            replace f0 := k12.loose0 (World.block_lt_of_cell? _ _ q0) f0
            replace f1 := k12.loose0 (World.block_lt_of_cell? _ _ q1) f1
            replace yf0 := k12.loose0 (World.block_lt_of_cell? _ _ y0) yf0
            replace yf1 := k12.loose0 (World.block_lt_of_cell? _ _ y1) yf1
            replace xf0 := k12.loose0 (World.block_lt_of_cell? _ _ x0) xf0
            replace xf1 := k12.loose0 (World.block_lt_of_cell? _ _ x1) xf1
            replace c0 := k12.cell0 c0
            replace c1 := k12.cell0 c1
            replace d0 := k12.cell0 d0
            replace d1 := k12.cell0 d1
            replace q0 := k12.cell0 q0
            replace q1 := k12.cell0 q1
            replace y0 := k12.cell0 y0
            replace y1 := k12.cell0 y1
            replace x0 := k12.cell0 x0
            replace x1 := k12.cell0 x1
            replace K := hide ((unhide K).trans k12)
            have z13 := k12.size
            clear k12
            have l4 := o4.lt
            obtain ⟨a4, c4, hv⟩ := own_slice o4
            subst hv
            clear hHeld
            refine hK.out _ _ ?_ (fun hHeld => ?_)
            · exact ⟨c0, c1, d0, d1⟩
            clear hK KK
            try simp only [Act.put, List.getElem_toArray, List.getElem_cons_succ, List.getElem_cons_zero, List.setIfInBounds_toArray, List.set_cons_zero, List.set_cons_succ]
            refine wpAnyH_ready (rs := [6]) (by kernel_rfl) (by simp) ?_
            refine AllReadyH.cons rfl (fun KK hK => ?_) AllReadyH.nil
            simp only [List.getElem_toArray, List.getElem_cons_succ, List.getElem_cons_zero]
            rw [if_pos (by rfl)]
            go_simp
            clear hHeld
            refine hK.out _ _ ?_ (fun hHeld => ?_)
            · exact ⟨(cell_aside _ (by have := unhide SW; dsimp only; omega) (cell_aside _ (by have := unhide SW; dsimp only; omega) c0)), (cell_aside _ (by have := unhide SW; dsimp only; omega) (cell_aside _ (by have := unhide SW; dsimp only; omega) c1)), (cell_aside _ (by have := unhide SW; dsimp only; omega) (cell_aside _ (by have := unhide SW; dsimp only; omega) d0)), (cell_aside _ (by have := unhide SW; dsimp only; omega) (cell_aside _ (by have := unhide SW; dsimp only; omega) d1))⟩
            clear hK KK
            try simp only [Act.put, List.getElem_toArray, List.getElem_cons_succ, List.getElem_cons_zero, List.setIfInBounds_toArray, List.set_cons_zero, List.set_cons_succ]
            refine wpAnyH_ready (rs := [7]) (by kernel_rfl) (by simp) ?_
            refine AllReadyH.cons rfl (fun KK hK => ?_) AllReadyH.nil
            simp only [List.getElem_toArray, List.getElem_cons_succ, List.getElem_cons_zero]
            rw [if_pos (by rfl)]
            go_simp
            clear hHeld
            refine hK.out _ _ ?_ (fun hHeld => ?_)
            · exact ⟨(cell_aside _ (by have := unhide SW; dsimp only; omega) (cell_aside _ (by have := unhide SW; dsimp only; omega) (cell_aside _ (by have := unhide SW; dsimp only; omega) (cell_aside _ (by have := unhide SW; dsimp only; omega) c0)))), (cell_aside _ (by have := unhide SW; dsimp only; omega) (cell_aside _ (by have := unhide SW; dsimp only; omega) (cell_aside _ (by have := unhide SW; dsimp only; omega) (cell_aside _ (by have := unhide SW; dsimp only; omega) c1)))), (cell_aside _ (by have := unhide SW; dsimp only; omega) (cell_aside _ (by have := unhide SW; dsimp only; omega) (cell_aside _ (by have := unhide SW; dsimp only; omega) (cell_aside _ (by have := unhide SW; dsimp only; omega) d0)))), (cell_aside _ (by have := unhide SW; dsimp only; omega) (cell_aside _ (by have := unhide SW; dsimp only; omega) (cell_aside _ (by have := unhide SW; dsimp only; omega) (cell_aside _ (by have := unhide SW; dsimp only; omega) d1))))⟩
            clear hK KK
            try simp only [Act.put, List.getElem_toArray, List.getElem_cons_succ, List.getElem_cons_zero, List.setIfInBounds_toArray, List.set_cons_zero, List.set_cons_succ]
            refine wpAnyH_done (by kernel_rfl) ?_ _
            clear hHeld
            go_wp2_with fail
            go_meet
            exact ⟨_, _, rfl, rfl, sig_pair s1 s2 kw o3 o4 x0 x1 xf0 xf1 y0 y1 yf0 yf1 (by omega) (by omega) (by omega) (by omega) (by omega) (fun e => by have := l3 _ e; omega) (fun e => by have := l3 _ e; omega) (fun e => by have := l4 _ e; omega) (fun e => by have := l4 _ e; omega) (fun k e1 e2 => by have := l3 _ e1; have := l4 _ e2; omega)⟩
    · simp only [List.getElem_toArray, List.getElem_cons_succ, List.getElem_cons_zero]
      rw [if_pos (by rfl)]
      go_simp
      have kn := (Kept.refl 0 0 wd).alloc (.cells #[.slice none 0 0, .bool false] 41)
      replace r1 := r1.kept kn (by omega)
      replace r2 := r2.kept kn (by omega)
      replace kw := kw.trans kn
      replace f0 := kn.loose0 (World.block_lt_of_cell? _ _ q0) f0
      replace f1 := kn.loose0 (World.block_lt_of_cell? _ _ q1) f1
      replace c0 := kn.cell0 c0
      replace c1 := kn.cell0 c1
      replace d0 := kn.cell0 d0
      replace d1 := kn.cell0 d1
      replace q0 := kn.cell0 q0
      replace q1 := kn.cell0 q1
      replace K := hide ((unhide K).trans kn)
      have z7 := kn.size
      clear kn
      have szx : wd.heap.size < (wd.alloc (.cells #[.slice none 0 0, .bool false] 41)).heap.size := by simp
      have x0 : (wd.alloc (.cells #[.slice none 0 0, .bool false] 41)).cell? ⟨wd.heap.size, 0, none⟩ = some (.slice none 0 0) := new_cell2 _ _ _ _ _ _ rfl rfl
      have xf0 : (wd.alloc (.cells #[.slice none 0 0, .bool false] 41)).frozen? ⟨wd.heap.size, 0, none⟩ = false := new_loose2 _ _ _ _ _ rfl
      have x1 : (wd.alloc (.cells #[.slice none 0 0, .bool false] 41)).cell? ⟨wd.heap.size, 1, none⟩ = some (.bool false) := new_cell2 _ _ _ _ _ _ rfl rfl
      have xf1 : (wd.alloc (.cells #[.slice none 0 0, .bool false] 41)).frozen? ⟨wd.heap.size, 1, none⟩ = false := new_loose2 _ _ _ _ _ rfl
      clear hHeld
      refine hK.out _ _ ?_ (fun hHeld => ?_)
      · exact ⟨c0, c1, d0, d1⟩
      clear hK KK
      try simp only [Act.put, List.getElem_toArray, List.getElem_cons_succ, List.getElem_cons_zero, List.setIfInBounds_toArray, List.set_cons_zero, List.set_cons_succ]
      generalize wd.alloc (.cells #[.slice none 0 0, .bool false] 41) = w6 at *
      refine wpAnyH_ready (rs := [1, 5]) (by kernel_rfl) (by simp) ?_
      refine AllReadyH.cons rfl (fun KK hK => ?_) (AllReadyH.cons rfl (fun KK hK => ?_) AllReadyH.nil)
      · simp only [List.getElem_toArray, List.getElem_cons_succ, List.getElem_cons_zero]
        rw [if_pos (by rfl)]
        refine wps1 13 (.tmp 30) _ rfl in_signedOf (.agg #[.bool s1, .slice a1 xs.length e1]) rfl (signedOf_impl s1 _ r1 mx) ?_
        rintro e w8 ⟨v3, rfl, o3, k8⟩
        refine ⟨_, rfl, ?_⟩
        replace r1 := r1.kept k8 (by omega)
        replace r2 := r2.kept k8 (by omega)
        replace kw := kw.trans k8
        replace f0 := k8.loose0 (World.block_lt_of_cell? _ _ q0) f0
        replace f1 := k8.loose0 (World.block_lt_of_cell? _ _ q1) f1
        replace xf0 := k8.loose0 (World.block_lt_of_cell? _ _ x0) xf0
        replace xf1 := k8.loose0 (World.block_lt_of_cell? _ _ x1) xf1
        replace c0 := k8.cell0 c0
        replace c1 := k8.cell0 c1
        replace d0 := k8.cell0 d0
        replace d1 := k8.cell0 d1
        replace q0 := k8.cell0 q0
        replace q1 := k8.cell0 q1
        replace x0 := k8.cell0 x0
        replace x1 := k8.cell0 x1
        replace K := hide ((unhide K).trans k8)
        have z9 := k8.size
        clear k8
        have l3 := o3.lt
        obtain ⟨a3, c3, hv⟩ := own_slice o3
        subst hv
        clear hHeld
        refine hK.out _ _ ?_ (fun hHeld => ?_)
        · exact ⟨c0, c1, d0, d1⟩
        clear hK KK
        try simp only [Act.put, List.getElem_toArray, List.getElem_cons_succ, List.getElem_cons_zero, List.setIfInBounds_toArray, List.set_cons_zero, List.set_cons_succ]
        refine wpAnyH_ready (rs := [3, 5]) (by kernel_rfl) (by simp) ?_
        refine AllReadyH.cons rfl (fun KK hK => ?_) (AllReadyH.cons rfl (fun KK hK => ?_) AllReadyH.nil)
        · simp only [List.getElem_toArray, List.getElem_cons_succ, List.getElem_cons_zero]
          rw [if_pos (by rfl)]
          refine wps1 13 (.tmp 32) _ rfl in_signedOf (.agg #[.bool s2, .slice a2 ys.length e2]) rfl (signedOf_impl s2 _ r2 my) ?_
          rintro e w10 ⟨v4, rfl, o4, k10⟩
          refine ⟨_, rfl, ?_⟩
          replace r1 := r1.kept k10 (by omega)
          replace r2 := r2.kept k10 (by omega)
          replace kw := kw.trans k10
          replace o3 := own_kept o3 k10
          replace f0 := k10.loose0 (World.block_lt_of_cell? _ _ q0) f0
          replace f1 := k10.loose0 (World.block_lt_of_cell? _ _ q1) f1
          replace xf0 := k10.loose0 (World.block_lt_of_cell? _ _ x0) xf0
          replace xf1 := k10.loose0 (World.block_lt_of_cell? _ _ x1) xf1
          replace c0 := k10.cell0 c0
          replace c1 := k10.cell0 c1
          replace d0 := k10.cell0 d0
          replace d1 := k10.cell0 d1
          replace q0 := k10.cell0 q0
          replace q1 := k10.cell0 q1
          replace x0 := k10.cell0 x0
          replace x1 := k10.cell0 x1
          replace K := hide ((unhide K).trans k10)
          have z11 := k10.size
          clear k10
          have l4 := o4.lt
          obtain ⟨a4, c4, hv⟩ := own_slice o4
          subst hv
          clear hHeld
          refine hK.out _ _ ?_ (fun hHeld => ?_)
          · exact ⟨c0, c1, d0, d1⟩
          clear hK KK
          try simp only [Act.put, List.getElem_toArray, List.getElem_cons_succ, List.getElem_cons_zero, List.setIfInBounds_toArray, List.set_cons_zero, List.set_cons_succ]
          refine wpAnyH_ready (rs := [5]) (by kernel_rfl) (by simp) ?_
          refine AllReadyH.cons rfl (fun KK hK => ?_) AllReadyH.nil
          · simp only [List.getElem_toArray, List.getElem_cons_succ, List.getElem_cons_zero]
            rw [if_pos (by rfl)]
            go_simp
            have kn := (Kept.refl 0 0 w10).alloc (.cells #[.slice none 0 0, .bool false] 41)
            replace r1 := r1.kept kn (by omega)
            replace r2 := r2.kept kn (by omega)
            replace kw := kw.trans kn
            replace o3 := own_kept o3 kn
            replace o4 := own_kept o4 kn
            replace f0 := kn.loose0 (World.block_lt_of_cell? _ _ q0) f0
            replace f1 := kn.loose0 (World.block_lt_of_cell? _ _ q1) f1
            replace xf0 := kn.loose0 (World.block_lt_of_cell? _ _ x0) xf0
            replace xf1 := kn.loose0 (World.block_lt_of_cell? _ _ x1) xf1
            replace c0 := kn.cell0 c0
            replace c1 := kn.cell0 c1
            replace d0 := kn.cell0 d0
            replace d1 := kn.cell0 d1
            replace q0 := kn.cell0 q0
            replace q1 := kn.cell0 q1
            replace x0 := kn.cell0 x0
            replace x1 := kn.cell0 x1
            replace K := hide ((unhide K).trans kn)
            have z13 := kn.size
            clear kn
            have szy : w10.heap.size < (w10.alloc (.cells #[.slice none 0 0, .bool false] 41)).heap.size := by simp
            have y0 : (w10.alloc (.cells #[.slice none 0 0, .bool false] 41)).cell? ⟨w10.heap.size, 0, none⟩ = some (.slice none 0 0) := new_cell2 _ _ _ _ _ _ rfl rfl
            have yf0 : (w10.alloc (.cells #[.slice none 0 0, .bool false] 41)).frozen? ⟨w10.heap.size, 0, none⟩ = false := new_loose2 _ _ _ _ _ rfl
            have y1 : (w10.alloc (.cells #[.slice none 0 0, .bool false] 41)).cell? ⟨w10.heap.size, 1, none⟩ = some (.bool false) := new_cell2 _ _ _ _ _ _ rfl rfl
            have yf1 : (w10.alloc (.cells #[.slice none 0 0, .bool false] 41)).frozen? ⟨w10.heap.size, 1, none⟩ = false := new_loose2 _ _ _ _ _ rfl
            clear hHeld
            refine hK.out _ _ ?_ (fun hHeld => ?_)
            · exact ⟨c0, c1, d0, d1⟩
            clear hK KK
            try simp only [Act.put, List.getElem_toArray, List.getElem_cons_succ, List.getElem_cons_zero, List.setIfInBounds_toArray, List.set_cons_zero, List.set_cons_succ]
            generalize w10.alloc (.cells #[.slice none 0 0, .bool false] 41) = w12 at *
            refine wpAnyH_ready (rs := [6]) (by kernel_rfl) (by simp) ?_
            refine AllReadyH.cons rfl (fun KK hK => ?_) AllReadyH.nil
            simp only [List.getElem_toArray, List.getElem_cons_succ, List.getElem_cons_zero]
            rw [if_pos (by rfl)]
            go_simp
            clear hHeld
            refine hK.out _ _ ?_ (fun hHeld => ?_)
            · exact ⟨(cell_aside _ (by have := unhide SW; dsimp only; omega) (cell_aside _ (by have := unhide SW; dsimp only; omega) c0)), (cell_aside _ (by have := unhide SW; dsimp only; omega) (cell_aside _ (by have := unhide SW; dsimp only; omega) c1)), (cell_aside _ (by have := unhide SW; dsimp only; omega) (cell_aside _ (by have := unhide SW; dsimp only; omega) d0)), (cell_aside _ (by have := unhide SW; dsimp only; omega) (cell_aside _ (by have := unhide SW; dsimp only; omega) d1))⟩
            clear hK KK
            try simp only [Act.put, List.getElem_toArray, List.getElem_cons_succ, List.getElem_cons_zero, List.setIfInBounds_toArray, List.set_cons_zero, List.set_cons_succ]
            refine wpAnyH_ready (rs := [7]) (by kernel_rfl) (by simp) ?_
            refine AllReadyH.cons rfl (fun KK hK => ?_) AllReadyH.nil
            simp only [List.getElem_toArray, List.getElem_cons_succ, List.getElem_cons_zero]
            rw [if_pos (by rfl)]
            go_simp
            clear hHeld
            refine hK.out _ _ ?_ (fun hHeld => ?_)
            · exact ⟨(cell_aside _ (by have := unhide SW; dsimp only; omega) (cell_aside _ (by have := unhide SW; dsimp only; omega) (cell_aside _ (by have := unhide SW; dsimp only; omega) (cell_aside _ (by have := unhide SW; dsimp only; omega) c0)))), (cell_aside _ (by have := unhide SW; dsimp only; omega) (cell_aside _ (by have := unhide SW; dsimp only; omega) (cell_aside _ (by have := unhide SW; dsimp only; omega) (cell_aside _ (by have := unhide SW; dsimp only; omega) c1)))), (cell_aside _ (by have := unhide SW; dsimp only; omega) (cell_aside _ (by have := unhide SW; dsimp only; omega) (cell_aside _ (by have := unhide SW; dsimp only; omega) (cell_aside _ (by have := unhide SW; dsimp only; omega) d0)))), (cell_aside _ (by have := unhide SW; dsimp only; omega) (cell_aside _ (by have := unhide SW; dsimp only; omega) (cell_aside _ (by have := unhide SW; dsimp only; omega) (cell_aside _ (by have := unhide SW; dsimp only; omega) d1))))⟩
            clear hK KK
            try simp only [Act.put, List.getElem_toArray, List.getElem_cons_succ, List.getElem_cons_zero, List.setIfInBounds_toArray, List.set_cons_zero, List.set_cons_succ]
            refine wpAnyH_done (by kernel_rfl) ?_ _
            clear hHeld
            go_wp2_with fail
            go_meet
            exact ⟨_, _, rfl, rfl, sig_pair s1 s2 kw o3 o4 x0 x1 xf0 xf1 y0 y1 yf0 yf1 (by omega) (by omega) (by omega) (by omega) (by omega) (fun e => by have := l3 _ e; omega) (fun e => by have := l3 _ e; omega) (fun e => by have := l4 _ e; omega) (fun e => by have := l4 _ e; omega) (fun k e1 e2 => by have := l3 _ e1; have := l4 _ e2; omega)⟩
        · simp only [List.getElem_toArray, List.getElem_cons_succ, List.getElem_cons_zero]
          rw [if_pos (by rfl)]
          go_simp
          have kn := (Kept.refl 0 0 w8).alloc (.cells #[.slice none 0 0, .bool false] 41)
          replace r1 := r1.kept kn (by omega)
          replace r2 := r2.kept kn (by omega)
          replace kw := kw.trans kn
          replace o3 := own_kept o3 kn
          replace f0 := kn.loose0 (World.block_lt_of_cell? _ _ q0) f0
          replace f1 := kn.loose0 (World.block_lt_of_cell? _ _ q1) f1
          replace xf0 := kn.loose0 (World.block_lt_of_cell? _ _ x0) xf0
          replace xf1 := kn.loose0 (World.block_lt_of_cell? _ _ x1) xf1
          replace c0 := kn.cell0 c0
          replace c1 := kn.cell0 c1
          replace d0 := kn.cell0 d0
          replace d1 := kn.cell0 d1
          replace q0 := kn.cell0 q0
          replace q1 := kn.cell0 q1
          replace x0 := kn.cell0 x0
          replace x1 := kn.cell0 x1
          replace K := hide ((unhide K).trans kn)
          have z11 := kn.size
          clear kn
          have szy : w8.heap.size < (w8.alloc (.cells #[.slice none 0 0, .bool false] 41)).heap.size := by simp
          have y0 : (w8.alloc (.cells #[.slice none 0 0, .bool false] 41)).cell? ⟨w8.heap.size, 0, none⟩ = some (.slice none 0 0) := new_cell2 _ _ _ _ _ _ rfl rfl
          have yf0 : (w8.alloc (.cells #[.slice none 0 0, .bool false] 41)).frozen? ⟨w8.heap.size, 0, none⟩ = false := new_loose2 _ _ _ _ _ rfl
          have y1 : (w8.alloc (.cells #[.slice none 0 0, .bool false] 41)).cell? ⟨w8.heap.size, 1, none⟩ = some (.bool false) := new_cell2 _ _ _ _ _ _ rfl rfl
          have yf1 : (w8.alloc (.cells #[.slice none 0 0, .bool false] 41)).frozen? ⟨w8.heap.size, 1, none⟩ = false := new_loose2 _ _ _ _ _ rfl
          clear hHeld
          refine hK.out _ _ ?_ (fun hHeld => ?_)
          · exact ⟨c0, c1, d0, d1⟩
          clear hK KK
          try simp only [Act.put, List.getElem_toArray, List.getElem_cons_succ, List.getElem_cons_zero, List.setIfInBounds_toArray, List.set_cons_zero, List.set_cons_succ]
          generalize w8.alloc (.cells #[.slice none 0 0, .bool false] 41) = w10 at *
          refine wpAnyH_ready (rs := [3]) (by kernel_rfl) (by simp) ?_
          refine AllReadyH.cons rfl (fun KK hK => ?_) AllReadyH.nil
          · simp only [List.getElem_toArray, List.getElem_cons_succ, List.getElem_cons_zero]
            rw [if_pos (by rfl)]
            refine wps1 13 (.tmp 32) _ rfl in_signedOf (.agg #[.bool s2, .slice a2 ys.length e2]) rfl (signedOf_impl s2 _ r2 my) ?_
            rintro e w12 ⟨v4, rfl, o4, k12⟩
            refine ⟨_, rfl, ?_⟩
            replace r1 := r1.kept k12 (by omega)
            replace r2 := r2.kept k12 (by omega)
            replace kw := kw.trans k12
            replace o3 := own_kept o3 k12
            replace f0 := k12.loose0 (World.block_lt_of_cell? _ _ q0) f0
            replace f1 := k12.loose0 (World.block_lt_of_cell? _ _ q1) f1
            replace xf0 := k12.loose0 (World.block_lt_of_cell? _ _ x0) xf0
            replace xf1 := k12.loose0 (World.block_lt_of_cell? _ _ x1) xf1
            replace yf0 := k12.loose0 (World.block_lt_of_cell? _ _ y0) yf0
            replace yf1 := k12.loose0 (World.block_lt_of_cell? _ _ y1) yf1
            replace c0 := k12.cell0 c0
            replace c1 := k12.cell0 c1
            replace d0 := k12.cell0 d0
            replace d1 := k12.cell0 d1
            replace q0 := k12.cell0 q0
            replace q1 := k12.cell0 q1
            replace x0 := k12.cell0 x0
            replace x1 := k12.cell0 x1
            replace y0 := k12.cell0 y0
            replace y1 := k12.cell0 y1
            replace K := hide ((unhide K).trans k12)
            have z13 := k12.size
            clear k12
            have l4 := o4.lt
            obtain ⟨a4, c4, hv⟩ := own_slice o4
            subst hv
            clear hHeld
            refine hK.out _ _ ?_ (fun hHeld => ?_)
            · exact ⟨c0, c1, d0, d1⟩
            clear hK KK
            try simp only [Act.put, List.getElem_toArray, List.getElem_cons_succ, List.getElem_cons_zero, List.setIfInBounds_toArray, List.set_cons_zero, List.set_cons_succ]
            refine wpAnyH_ready (rs := [6]) (by kernel_rfl) (by simp) ?_
            refine AllReadyH.cons rfl (fun KK hK => ?_) AllReadyH.nil
            simp only [List.getElem_toArray, List.getElem_cons_succ, List.getElem_cons_zero]
            rw [if_pos (by rfl)]
            go_simp
            clear hHeld
            refine hK.out _ _ ?_ (fun hHeld => ?_)
            · exact ⟨(cell_aside _ (by have := unhide SW; dsimp only; omega) (cell_aside _ (by have := unhide SW; dsimp only; omega) c0)), (cell_aside _ (by have := unhide SW; dsimp only; omega) (cell_aside _ (by have := unhide SW; dsimp only; omega) c1)), (cell_aside _ (by have := unhide SW; dsimp only; omega) (cell_aside _ (by have := unhide SW; dsimp only; omega) d0)), (cell_aside _ (by have := unhide SW; dsimp only; omega) (cell_aside _ (by have := unhide SW; dsimp only; omega) d1))⟩
            clear hK KK
            try simp only [Act.put, List.getElem_toArray, List.getElem_cons_succ, List.getElem_cons_zero, List.setIfInBounds_toArray, List.set_cons_zero, List.set_cons_succ]
            refine wpAnyH_ready (rs := [7]) (by kernel_rfl) (by simp) ?_
            refine AllReadyH.cons rfl (fun KK hK => ?_) AllReadyH.nil
            simp only [List.getElem_toArray, List.getElem_cons_succ, List.getElem_cons_zero]
            rw [if_pos (by rfl)]
            go_simp
            clear hHeld
            refine hK.out _ _ ?_ (fun hHeld => ?_)
            · exact ⟨(cell_aside _ (by have := unhide SW; dsimp only; omega) (cell_aside _ (by have := unhide SW; dsimp only; omega) (cell_aside _ (by have := unhide SW; dsimp only; omega) (cell_aside _ (by have := unhide SW; dsimp only; omega) c0)))), (cell_aside _ (by have := unhide SW; dsimp only; omega) (cell_aside _ (by have := unhide SW; dsimp only; omega) (cell_aside _ (by have := unhide SW; dsimp only; omega) (cell_aside _ (by have := unhide SW; dsimp only; omega) c1)))), (cell_aside _ (by have := unhide SW; dsimp only; omega) (cell_aside _ (by have := unhide SW; dsimp only; omega) (cell_aside _ (by have := unhide SW; dsimp only; omega) (cell_aside _ (by have := unhide SW; dsimp only; omega) d0)))), (cell_aside _ (by have := unhide SW; dsimp only; omega) (cell_aside _ (by have := unhide SW; dsimp only; omega) (cell_aside _ (by have := unhide SW; dsimp only; omega) (cell_aside _ (by have := unhide SW; dsimp only; omega) d1))))⟩
            clear hK KK
            try simp only [Act.put, List.getElem_toArray, List.getElem_cons_succ, List.getElem_cons_zero, List.setIfInBounds_toArray, List.set_cons_zero, List.set_cons_succ]
            refine wpAnyH_done (by kernel_rfl) ?_ _
            clear hHeld
            go_wp2_with fail
            go_meet
            exact ⟨_, _, rfl, rfl, sig_pair s1 s2 kw o3 o4 x0 x1 xf0 xf1 y0 y1 yf0 yf1 (by omega) (by omega) (by omega) (by omega) (by omega) (fun e => by have := l3 _ e; omega) (fun e => by have := l3 _ e; omega) (fun e => by have := l4 _ e; omega) (fun e => by have := l4 _ e; omega) (fun k e1 e2 => by have := l3 _ e1; have := l4 _ e2; omega)⟩
      · simp only [List.getElem_toArray, List.getElem_cons_succ, List.getElem_cons_zero]
        rw [if_pos (by rfl)]
        go_simp
        have kn := (Kept.refl 0 0 w6).alloc (.cells #[.slice none 0 0, .bool false] 41)
        replace r1 := r1.kept kn (by omega)
        replace r2 := r2.kept kn (by omega)
        replace kw := kw.trans kn
        replace f0 := kn.loose0 (World.block_lt_of_cell? _ _ q0) f0
        replace f1 := kn.loose0 (World.block_lt_of_cell? _ _ q1) f1
        replace xf0 := kn.loose0 (World.block_lt_of_cell? _ _ x0) xf0
        replace xf1 := kn.loose0 (World.block_lt_of_cell? _ _ x1) xf1
        replace c0 := kn.cell0 c0
        replace c1 := kn.cell0 c1
        replace d0 := kn.cell0 d0
        replace d1 := kn.cell0 d1
        replace q0 := kn.cell0 q0
        replace q1 := kn.cell0 q1
        replace x0 := kn.cell0 x0
        replace x1 := kn.cell0 x1
        replace K := hide ((unhide K).trans kn)
        have z9 := kn.size
        clear kn
        have szy : w6.heap.size < (w6.alloc (.cells #[.slice none 0 0, .bool false] 41)).heap.size := by simp
        have y0 : (w6.alloc (.cells #[.slice none 0 0, .bool false] 41)).cell? ⟨w6.heap.size, 0, none⟩ = some (.slice none 0 0) := new_cell2 _ _ _ _ _ _ rfl rfl
        have yf0 : (w6.alloc (.cells #[.slice none 0 0, .bool false] 41)).frozen? ⟨w6.heap.size, 0, none⟩ = false := new_loose2 _ _ _ _ _ rfl
        have y1 : (w6.alloc (.cells #[.slice none 0 0, .bool false] 41)).cell? ⟨w6.heap.size, 1, none⟩ = some (.bool false) := new_cell2 _ _ _ _ _ _ rfl rfl
        have yf1 : (w6.alloc (.cells #[.slice none 0 0, .bool false] 41)).frozen? ⟨w6.heap.size, 1, none⟩ = false := new_loose2 _ _ _ _ _ rfl
        clear hHeld
        refine hK.out _ _ ?_ (fun hHeld => ?_)
        · exact ⟨c0, c1, d0, d1⟩
        clear hK KK
        try simp only [Act.put, List.getElem_toArray, List.getElem_cons_succ, List.getElem_cons_zero, List.setIfInBounds_toArray, List.set_cons_zero, List.set_cons_succ]
        generalize w6.alloc (.cells #[.slice none 0 0, .bool false] 41) = w8 at *
        refine wpAnyH_ready (rs := [1]) (by kernel_rfl) (by simp) ?_
        refine AllReadyH.cons rfl (fun KK hK => ?_) AllReadyH.nil
        · simp only [List.getElem_toArray, List.getElem_cons_succ, List.getElem_cons_zero]
          rw [if_pos (by rfl)]
          refine wps1 13 (.tmp 30) _ rfl in_signedOf (.agg #[.bool s1, .slice a1 xs.length e1]) rfl (signedOf_impl s1 _ r1 mx) ?_
          rintro e w10 ⟨v3, rfl, o3, k10⟩
          refine ⟨_, rfl, ?_⟩
          replace r1 := r1.kept k10 (by omega)
          replace r2 := r2.kept k10 (by omega)
          replace kw := kw.trans k10
          replace f0 := k10.loose0 (World.block_lt_of_cell? _ _ q0) f0
          replace f1 := k10.loose0 (World.block_lt_of_cell? _ _ q1) f1
          replace xf0 := k10.loose0 (World.block_lt_of_cell? _ _ x0) xf0
          replace xf1 := k10.loose0 (World.block_lt_of_cell? _ _ x1) xf1
          replace yf0 := k10.loose0 (World.block_lt_of_cell? _ _ y0) yf0
          replace yf1 := k10.loose0 (World.block_lt_of_cell? _ _ y1) yf1
          replace c0 := k10.cell0 c0
          replace c1 := k10.cell0 c1
          replace d0 := k10.cell0 d0
          replace d1 := k10.cell0 d1
          replace q0 := k10.cell0 q0
          replace q1 := k10.cell0 q1
          replace x0 := k10.cell0 x0
          replace x1 := k10.cell0 x1
          replace y0 := k10.cell0 y0
          replace y1 := k10.cell0 y1
          replace K := hide ((unhide K).trans k10)
          have z11 := k10.size
          clear k10
          have l3 := o3.lt
          obtain ⟨a3, c3, hv⟩ := own_slice o3
          subst hv
          clear hHeld
          refine hK.out _ _ ?_ (fun hHeld => ?_)
          · exact ⟨c0, c1, d0, d1⟩
          clear hK KK
          try simp only [Act.put, List.getElem_toArray, List.getElem_cons_succ, List.getElem_cons_zero, List.setIfInBounds_toArray, List.set_cons_zero, List.set_cons_succ]
          refine wpAnyH_ready (rs := [3]) (by kernel_rfl) (by simp) ?_
          refine AllReadyH.cons rfl (fun KK hK => ?_) AllReadyH.nil
          · simp only [List.getElem_toArray, List.getElem_cons_succ, List.getElem_cons_zero]
            rw [if_pos (by rfl)]
            refine wps1 13 (.tmp 32) _ rfl in_signedOf (.agg #[.bool s2, .slice a2 ys.length e2]) rfl (signedOf_impl s2 _ r2 my) ?_
            rintro e w12 ⟨v4, rfl, o4, k12⟩
            refine ⟨_, rfl, ?_⟩
            replace r1 := r1.kept k12 (by omega)
            replace r2 := r2.kept k12 (by omega)
            replace kw := kw.trans k12
            replace o3 := own_kept o3 k12
            replace f0 := k12.loose0 (World.block_lt_of_cell? _ _ q0) f0
            replace f1 := k12.loose0 (World.block_lt_of_cell? _ _ q1) f1
            replace xf0 := k12.loose0 (World.block_lt_of_cell? _ _ x0) xf0
            replace xf1 := k12.loose0 (World.block_lt_of_cell? _ _ x1) xf1
            replace yf0 := k12.loose0 (World.block_lt_of_cell? _ _ y0) yf0
            replace yf1 := k12.loose0 (World.block_lt_of_cell? _ _ y1) yf1
            replace c0 := k12.cell0 c0
            replace c1 := k12.cell0 c1
            replace d0 := k12.cell0 d0
            replace d1 := k12.cell0 d1
            replace q0 := k12.cell0 q0
            replace q1 := k12.cell0 q1
            replace x0 := k12.cell0 x0
            replace x1 := k12.cell0 x1
            replace y0 := k12.cell0 y0
            replace y1 := k12.cell0 y1
            replace K := hide ((unhide K).trans k12)
            have z13 := k12.size
            clear k12
            have l4 := o4.lt
            obtain ⟨a4, c4, hv⟩ := own_slice o4
            subst hv
            clear hHeld
            refine hK.out _ _ ?_ (fun hHeld => ?_)
            · exact ⟨c0, c1, d0, d1⟩
            clear hK KK
            try simp only [Act.put, List.getElem_toArray, List.getElem_cons_succ, List.getElem_cons_zero, List.setIfInBounds_toArray, List.set_cons_zero, List.set_cons_succ]
            refine wpAnyH_ready (rs := [6]) (by kernel_rfl) (by simp) ?_
            refine AllReadyH.cons rfl (fun KK hK => ?_) AllReadyH.nil
            simp only [List.getElem_toArray, List.getElem_cons_succ, List.getElem_cons_zero]
            rw [if_pos (by rfl)]
            go_simp
            clear hHeld
            refine hK.out _ _ ?_ (fun hHeld => ?_)
            · exact ⟨(cell_aside _ (by have := unhide SW; dsimp only; omega) (cell_aside _ (by have := unhide SW; dsimp only; omega) c0)), (cell_aside _ (by have := unhide SW; dsimp only; omega) (cell_aside _ (by have := unhide SW; dsimp only; omega) c1)), (cell_aside _ (by have := unhide SW; dsimp only; omega) (cell_aside _ (by have := unhide SW; dsimp only; omega) d0)), (cell_aside _ (by have := unhide SW; dsimp only; omega) (cell_aside _ (by have := unhide SW; dsimp only; omega) d1))⟩
            clear hK KK
            try simp only [Act.put, List.getElem_toArray, List.getElem_cons_succ, List.getElem_cons_zero, List.setIfInBounds_toArray, List.set_cons_zero, List.set_cons_succ]
            refine wpAnyH_ready (rs := [7]) (by kernel_rfl) (by simp) ?_
            refine AllReadyH.cons rfl (fun KK hK => ?_) AllReadyH.nil
            simp only [List.getElem_toArray, List.getElem_cons_succ, List.getElem_cons_zero]
            rw [if_pos (by rfl)]
            go_simp
            clear hHeld
            refine hK.out _ _ ?_ (fun hHeld => ?_)
            · exact ⟨(cell_aside _ (by have := unhide SW; dsimp only; omega) (cell_aside _ (by have := unhide SW; dsimp only; omega) (cell_aside _ (by have := unhide SW; dsimp only; omega) (cell_aside _ (by have := unhide SW; dsimp only; omega) c0)))), (cell_aside _ (by have := unhide SW; dsimp only; omega) (cell_aside _ (by have := unhide SW; dsimp only; omega) (cell_aside _ (by have := unhide SW; dsimp only; omega) (cell_aside _ (by have := unhide SW; dsimp only; omega) c1)))), (cell_aside _ (by have := unhide SW; dsimp only; omega) (cell_aside _ (by have := unhide SW; dsimp only; omega) (cell_aside _ (by have := unhide SW; dsimp only; omega) (cell_aside _ (by have := unhide SW; dsimp only; omega) d0)))), (cell_aside _ (by have := unhide SW; dsimp only; omega) (cell_aside _ (by have := unhide SW; dsimp only; omega) (cell_aside _ (by have := unhide SW; dsimp only; omega) (cell_aside _ (by have := unhide SW; dsimp only; omega) d1))))⟩
            clear hK KK
            try simp only [Act.put, List.getElem_toArray, List.getElem_cons_succ, List.getElem_cons_zero, List.setIfInBounds_toArray, List.set_cons_zero, List.set_cons_succ]
            refine wpAnyH_done (by kernel_rfl) ?_ _
            clear hHeld
            go_wp2_with fail
            go_meet
            exact ⟨_, _, rfl, rfl, sig_pair s1 s2 kw o3 o4 x0 x1 xf0 xf1 y0 y1 yf0 yf1 (by omega) (by omega) (by omega) (by omega) (by omega) (fun e => by have := l3 _ e; omega) (fun e => by have := l3 _ e; omega) (fun e => by have := l4 _ e; omega) (fun e => by have := l4 _ e; omega) (fun k e1 e2 => by have := l3 _ e1; have := l4 _ e2; omega)⟩
    · simp only [List.getElem_toArray, List.getElem_cons_succ, List.getElem_cons_zero]
      rw [if_pos (by rfl)]
      go_simp
      have kn := (Kept.refl 0 0 wd).alloc (.cells #[.slice none 0 0, .bool false] 41)
      replace r1 := r1.kept kn (by omega)
      replace r2 := r2.kept kn (by omega)
      replace kw := kw.trans kn
      replace f0 := kn.loose0 (World.block_lt_of_cell? _ _ q0) f0
      replace f1 := kn.loose0 (World.block_lt_of_cell? _ _ q1) f1
      replace c0 := kn.cell0 c0
      replace c1 := kn.cell0 c1
      replace d0 := kn.cell0 d0
      replace d1 := kn.cell0 d1
      replace q0 := kn.cell0 q0
      replace q1 := kn.cell0 q1
      replace K := hide ((unhide K).trans kn)
      have z7 := kn.size
      clear kn
      have szy : wd.heap.size < (wd.alloc (.cells #[.slice none 0 0, .bool false] 41)).heap.size := by simp
      have y0 : (wd.alloc (.cells #[.slice none 0 0, .bool false] 41)).cell? ⟨wd.heap.size, 0, none⟩ = some (.slice none 0 0) := new_cell2 _ _ _ _ _ _ rfl rfl
      have yf0 : (wd.alloc (.cells #[.slice none 0 0, .bool false] 41)).frozen? ⟨wd.heap.size, 0, none⟩ = false := new_loose2 _ _ _ _ _ rfl
      have y1 : (wd.alloc (.cells #[.slice none 0 0, .bool false] 41)).cell? ⟨wd.heap.size, 1, none⟩ = some (.bool false) := new_cell2 _ _ _ _ _ _ rfl rfl
      have yf1 : (wd.alloc (.cells #[.slice none 0 0, .bool false] 41)).frozen? ⟨wd.heap.size, 1, none⟩ = false := new_loose2 _ _ _ _ _ rfl
      clear hHeld
      refine hK.out _ _ ?_ (fun hHeld => ?_)
      · exact ⟨c0, c1, d0, d1⟩
      clear hK KK
      try simp only [Act.put, List.getElem_toArray, List.getElem_cons_succ, List.getElem_cons_zero, List.setIfInBounds_toArray, List.set_cons_zero, List.set_cons_succ]
      generalize wd.alloc (.cells #[.slice none 0 0, .bool false] 41) = w6 at *
      refine wpAnyH_ready (rs := [1, 4]) (by kernel_rfl) (by simp) ?_
      refine AllReadyH.cons rfl (fun KK hK => ?_) (AllReadyH.cons rfl (fun KK hK => ?_) AllReadyH.nil)
      · simp only [List.getElem_toArray, List.getElem_cons_succ, List.getElem_cons_zero]
        rw [if_pos (by rfl)]
        refine wps1 13 (.tmp 30) _ rfl in_signedOf (.agg #[.bool s1, .slice a1 xs.length e1]) rfl (signedOf_impl s1 _ r1 mx) ?_
        rintro e w8 ⟨v3, rfl, o3, k8⟩
        refine ⟨_, rfl, ?_⟩
        replace r1 := r1.kept k8 (by omega)
        replace r2 := r2.kept k8 (by omega)
        replace kw := kw.trans k8
        replace f0 := k8.loose0 (World.block_lt_of_cell? _ _ q0) f0
        replace f1 := k8.loose0 (World.block_lt_of_cell? _ _ q1) f1
        replace yf0 := k8.loose0 (World.block_lt_of_cell? _ _ y0) yf0
        replace yf1 := k8.loose0 (World.block_lt_of_cell? _ _ y1) yf1
        replace c0 := k8.cell0 c0
        replace c1 := k8.cell0 c1
        replace d0 := k8.cell0 d0
        replace d1 := k8.cell0 d1
        replace q0 := k8.cell0 q0
        replace q1 := k8.cell0 q1
        replace y0 := k8.cell0 y0
        replace y1 := k8.cell0 y1
        replace K := hide ((unhide K).trans k8)
        have z9 := k8.size
        clear k8
        have l3 := o3.lt
        obtain ⟨a3, c3, hv⟩ := own_slice o3
        subst hv
        clear hHeld
        refine hK.out _ _ ?_ (fun hHeld => ?_)
        · exact ⟨c0, c1, d0, d1⟩
        clear hK KK
        try simp only [Act.put, List.getElem_toArray, List.getElem_cons_succ, List.getElem_cons_zero, List.setIfInBounds_toArray, List.set_cons_zero, List.set_cons_succ]
        refine wpAnyH_ready (rs := [3, 4]) (by kernel_rfl) (by simp) ?_
        refine AllReadyH.cons rfl (fun KK hK => ?_) (AllReadyH.cons rfl (fun KK hK => ?_) AllReadyH.nil)
        · simp only [List.getElem_toArray, List.getElem_cons_succ, List.getElem_cons_zero]
          rw [if_pos (by rfl)]
          refine wps1 13 (.tmp 32) _ rfl in_signedOf (.agg #[.bool s2, .slice a2 ys.length e2]) rfl (signedOf_impl s2 _ r2 my) ?_
          rintro e w10 ⟨v4, rfl, o4, k10⟩
          refine ⟨_, rfl, ?_⟩
          replace r1 := r1.kept k10 (by omega)
          replace r2 := r2.kept k10 (by omega)
          replace kw := kw.trans k10
          replace o3 := own_kept o3 k10
          replace f0 := k10.loose0 (World.block_lt_of_cell? _ _ q0) f0
          replace f1 := k10.loose0 (World.block_lt_of_cell? _ _ q1) f1
          replace yf0 := k10.loose0 (World.block_lt_of_cell? _ _ y0) yf0
          replace yf1 := k10.loose0 (World.block_lt_of_cell? _ _ y1) yf1
          replace c0 := k10.cell0 c0
          replace c1 := k10.cell0 c1
          replace d0 := k10.cell0 d0
          replace d1 := k10.cell0 d1
          replace q0 := k10.cell0 q0
          replace q1 := k10.cell0 q1
          replace y0 := k10.cell0 y0
          replace y1 := k10.cell0 y1
          replace K := hide ((unhide K).trans k10)
          have z11 := k10.size
          clear k10
          have l4 := o4.lt
          obtain ⟨a4, c4, hv⟩ := own_slice o4
          subst hv
          clear hHeld
          refine hK.out _ _ ?_ (fun hHeld => ?_)
          · exact ⟨c0, c1, d0, d1⟩
          clear hK KK
          try simp only [Act.put, List.getElem_toArray, List.getElem_cons_succ, List.getElem_cons_zero, List.setIfInBounds_toArray, List.set_cons_zero, List.set_cons_succ]
          refine wpAnyH_ready (rs := [4]) (by kernel_rfl) (by simp) ?_
          refine AllReadyH.cons rfl (fun KK hK => ?_) AllReadyH.nil
          · simp only [List.getElem_toArray, List.getElem_cons_succ, List.getElem_cons_zero]
            rw [if_pos (by rfl)]
            go_simp
            have kn := (Kept.refl 0 0 w10).alloc (.cells #[.slice none 0 0, .bool false] 41)
            replace r1 := r1.kept kn (by omega)
            replace r2 := r2.kept kn (by omega)
            replace kw := kw.trans kn
            replace o3 := own_kept o3 kn
            replace o4 := own_kept o4 kn
            replace f0 := kn.loose0 (World.block_lt_of_cell? _ _ q0) f0
            replace f1 := kn.loose0 (World.block_lt_of_cell? _ _ q1) f1
            replace yf0 := kn.loose0 (World.block_lt_of_cell? _ _ y0) yf0
            replace yf1 := kn.loose0 (World.block_lt_of_cell? _ _ y1) yf1
            replace c0 := kn.cell0 c0
            replace c1 := kn.cell0 c1
            replace d0 := kn.cell0 d0
            replace d1 := kn.cell0 d1
            replace q0 := kn.cell0 q0
            replace q1 := kn.cell0 q1
            replace y0 := kn.cell0 y0
            replace y1 := kn.cell0 y1
            replace K := hide ((unhide K).trans kn)
            have z13 := kn.size
            clear kn
            have szx : w10.heap.size < (w10.alloc (.cells #[.slice none 0 0, .bool false] 41)).heap.size := by simp
            have x0 : (w10.alloc (.cells #[.slice none 0 0, .bool false] 41)).cell? ⟨w10.heap.size, 0, none⟩ = some (.slice none 0 0) := new_cell2 _ _ _ _ _ _ rfl rfl
            have xf0 : (w10.alloc (.cells #[.slice none 0 0, .bool false] 41)).frozen? ⟨w10.heap.size, 0, none⟩ = false := new_loose2 _ _ _ _ _ rfl
            have x1 : (w10.alloc (.cells #[.slice none 0 0, .bool false] 41)).cell? ⟨w10.heap.size, 1, none⟩ = some (.bool false) := new_cell2 _ _ _ _ _ _ rfl rfl
            have xf1 : (w10.alloc (.cells #[.slice none 0 0, .bool false] 41)).frozen? ⟨w10.heap.size, 1, none⟩ = false := new_loose2 _ _ _ _ _ rfl
            clear hHeld
            refine hK.out _ _ ?_ (fun hHeld => ?_)
            · exact ⟨c0, c1, d0, d1⟩
            clear hK KK
            try simp only [Act.put, List.getElem_toArray, List.getElem_cons_succ, List.getElem_cons_zero, List.setIfInBounds_toArray, List.set_cons_zero, List.set_cons_succ]
            generalize w10.alloc (.cells #[.slice none 0 0, .bool false] 41) = w12 at *
            refine wpAnyH_ready (rs := [6]) (by kernel_rfl) (by simp) ?_
            refine AllReadyH.cons rfl (fun KK hK => ?_) AllReadyH.nil
            simp only [List.getElem_toArray, List.getElem_cons_succ, List.getElem_cons_zero]
            rw [if_pos (by rfl)]
            go_simp
            clear hHeld
            refine hK.out _ _ ?_ (fun hHeld => ?_)
            · exact ⟨(cell_aside _ (by have := unhide SW; dsimp only; omega) (cell_aside _ (by have := unhide SW; dsimp only; omega) c0)), (cell_aside _ (by have := unhide SW; dsimp only; omega) (cell_aside _ (by have := unhide SW; dsimp only; omega) c1)), (cell_aside _ (by have := unhide SW; dsimp only; omega) (cell_aside _ (by have := unhide SW; dsimp only; omega) d0)), (cell_aside _ (by have := unhide SW; dsimp only; omega) (cell_aside _ (by have := unhide SW; dsimp only; omega) d1))⟩
            clear hK KK
            try simp only [Act.put, List.getElem_toArray, List.getElem_cons_succ, List.getElem_cons_zero, List.setIfInBounds_toArray, List.set_cons_zero, List.set_cons_succ]
            refine wpAnyH_ready (rs := [7]) (by kernel_rfl) (by simp) ?_
            refine AllReadyH.cons rfl (fun KK hK => ?_) AllReadyH.nil
            simp only [List.getElem_toArray, List.getElem_cons_succ, List.getElem_cons_zero]
            rw [if_pos (by rfl)]
            go_simp
            clear hHeld
            refine hK.out _ _ ?_ (fun hHeld => ?_)
            · exact ⟨(cell_aside _ (by have := unhide SW; dsimp only; omega) (cell_aside _ (by have := unhide SW; dsimp only; omega) (cell_aside _ (by have := unhide SW; dsimp only; omega) (cell_aside _ (by have := unhide SW; dsimp only; omega) c0)))), (cell_aside _ (by have := unhide SW; dsimp only; omega) (cell_aside _ (by have := unhide SW; dsimp only; omega) (cell_aside _ (by have := unhide SW; dsimp only; omega) (cell_aside _ (by have := unhide SW; dsimp only; omega) c1)))), (cell_aside _ (by have := unhide SW; dsimp only; omega) (cell_aside _ (by have := unhide SW; dsimp only; omega) (cell_aside _ (by have := unhide SW; dsimp only; omega) (cell_aside _ (by have := unhide SW; dsimp only; omega) d0)))), (cell_aside _ (by have := unhide SW; dsimp only; omega) (cell_aside _ (by have := unhide SW; dsimp only; omega) (cell_aside _ (by have := unhide SW; dsimp only; omega) (cell_aside _ (by have := unhide SW; dsimp only; omega) d1))))⟩
            clear hK KK
            try simp only [Act.put, List.getElem_toArray, List.getElem_cons_succ, List.getElem_cons_zero, List.setIfInBounds_toArray, List.set_cons_zero, List.set_cons_succ]
            refine wpAnyH_done (by kernel_rfl) ?_ _
            clear hHeld
            go_wp2_with fail
            go_meet
            exact ⟨_, _, rfl, rfl, sig_pair s1 s2 kw o3 o4 x0 x1 xf0 xf1 y0 y1 yf0 yf1 (by omega) (by omega) (by omega) (by omega) (by omega) (fun e => by have := l3 _ e; omega) (fun e => by have := l3 _ e; omega) (fun e => by have := l4 _ e; omega) (fun e => by have := l4 _ e; omega) (fun k e1 e2 => by have := l3 _ e1; have := l4 _ e2; omega)⟩
        · simp only [List.getElem_toArray, List.getElem_cons_succ, List.getElem_cons_zero]
          rw [if_pos (by rfl)]
          go_simp
          have kn := (Kept.refl 0 0 w8).alloc (.cells #[.slice none 0 0, .bool false] 41)
          replace r1 := r1.kept kn (by omega)
          replace r2 := r2.kept kn (by omega)
          replace kw := kw.trans kn
          replace o3 := own_kept o3 kn
          replace f0 := kn.loose0 (World.block_lt_of_cell? _ _ q0) f0
          replace f1 := kn.loose0 (World.block_lt_of_cell? _ _ q1) f1
          replace yf0 := kn.loose0 (World.block_lt_of_cell? _ _ y0) yf0
          replace yf1 := kn.loose0 (World.block_lt_of_cell? _ _ y1) yf1
          replace c0 := kn.cell0 c0
          replace c1 := kn.cell0 c1
          replace d0 := kn.cell0 d0
          replace d1 := kn.cell0 d1
          replace q0 := kn.cell0 q0
          replace q1 := kn.cell0 q1
          replace y0 := kn.cell0 y0
          replace y1 := kn.cell0 y1
          replace K := hide ((unhide K).trans kn)
          have z11 := kn.size
          clear kn
          have szx : w8.heap.size < (w8.alloc (.cells #[.slice none 0 0, .bool false] 41)).heap.size := by simp
          have x0 : (w8.alloc (.cells #[.slice none 0 0, .bool false] 41)).cell? ⟨w8.heap.size, 0, none⟩ = some (.slice none 0 0) := new_cell2 _ _ _ _ _ _ rfl rfl
          have xf0 : (w8.alloc (.cells #[.slice none 0 0, .bool false] 41)).frozen? ⟨w8.heap.size, 0, none⟩ = false := new_loose2 _ _ _ _ _ rfl
          have x1 : (w8.alloc (.cells #[.slice none 0 0, .bool false] 41)).cell? ⟨w8.heap.size, 1, none⟩ = some (.bool false) := new_cell2 _ _ _ _ _ _ rfl rfl
          have xf1 : (w8.alloc (.cells #[.slice none 0 0, .bool false] 41)).frozen? ⟨w8.heap.size, 1, none⟩ = false := new_loose2 _ _ _ _ _ rfl
          clear hHeld
          refine hK.out _ _ ?_ (fun hHeld => ?_)
          · exact ⟨c0, c1, d0, d1⟩
          clear hK KK
          try simp only [Act.put, List.getElem_toArray, List.getElem_cons_succ, List.getElem_cons_zero, List.setIfInBounds_toArray, List.set_cons_zero, List.set_cons_succ]
          generalize w8.alloc (.cells #[.slice none 0 0, .bool false] 41) = w10 at *
          refine wpAnyH_ready (rs := [3]) (by kernel_rfl) (by simp) ?_
          refine AllReadyH.cons rfl (fun KK hK => ?_) AllReadyH.nil
          · simp only [List.getElem_toArray, List.getElem_cons_succ, List.getElem_cons_zero]
            rw [if_pos (by rfl)]
            refine wps1 13 (.tmp 32) _ rfl in_signedOf (.agg #[.bool s2, .slice a2 ys.length e2]) rfl (signedOf_impl s2 _ r2 my) ?_
            rintro e w12 ⟨v4, rfl, o4, k12⟩
            refine ⟨_, rfl, ?_⟩
            replace r1 := r1.kept k12 (by omega)
            replace r2 := r2.kept k12 (by omega)
            replace kw := kw.trans k12
            replace o3 := own_kept o3 k12
            replace f0 := k12.loose0 (World.block_lt_of_cell? _ _ q0) f0
            replace f1 := k12.loose0 (World.block_lt_of_cell? _ _ q1) f1
            replace yf0 := k12.loose0 (World.block_lt_of_cell? _ _ y0) yf0
            replace yf1 := k12.loose0 (World.block_lt_of_cell? _ _ y1) yf1
            replace xf0 := k12.loose0 (World.block_lt_of_cell? _ _ x0) xf0
            replace xf1 := k12.loose0 (World.block_lt_of_cell? _ _ x1) xf1
            replace c0 := k12.cell0 c0
            replace c1 := k12.cell0 c1
            replace d0 := k12.cell0 d0
            replace d1 := k12.cell0 d1
            replace q0 := k12.cell0 q0
            replace q1 := k12.cell0 q1
            replace y0 := k12.cell0 y0
            replace y1 := k12.cell0 y1
            replace x0 := k12.cell0 x0
            replace x1 := k12.cell0 x1
            replace K := hide ((unhide K).trans k12)
            have z13 := k12.size
            clear k12
            have l4 := o4.lt
            obtain ⟨a4, c4, hv⟩ := own_slice o4
            subst hv
            clear hHeld
            refine hK.out _ _ ?_ (fun hHeld => ?_)
            · exact ⟨c0, c1, d0, d1⟩
            clear hK KK
            try simp only [Act.put, List.getElem_toArray, List.getElem_cons_succ, List.getElem_cons_zero, List.setIfInBounds_toArray, List.set_cons_zero, List.set_cons_succ]
            refine wpAnyH_ready (rs := [6]) (by kernel_rfl) (by simp) ?_
            refine AllReadyH.cons rfl (fun KK hK => ?_) AllReadyH.nil
            simp only [List.getElem_toArray, List.getElem_cons_succ, List.getElem_cons_zero]
            rw [if_pos (by rfl)]
            go_simp
            clear hHeld
            refine hK.out _ _ ?_ (fun hHeld => ?_)
            · exact ⟨(cell_aside _ (by have := unhide SW; dsimp only; omega) (cell_aside _ (by have := unhide SW; dsimp only; omega) c0)), (cell_aside _ (by have := unhide SW; dsimp only; omega) (cell_aside _ (by have := unhide SW; dsimp only; omega) c1)), (cell_aside _ (by have := unhide SW; dsimp only; omega) (cell_aside _ (by have := unhide SW; dsimp only; omega) d0)), (cell_aside _ (by have := unhide SW; dsimp only; omega) (cell_aside _ (by have := unhide SW; dsimp only; omega) d1))⟩
            clear hK KK
            try simp only [Act.put, List.getElem_toArray, List.getElem_cons_succ, List.getElem_cons_zero, List.setIfInBounds_toArray, List.set_cons_zero, List.set_cons_succ]
            refine wpAnyH_ready (rs := [7]) (by kernel_rfl) (by simp) ?_
            refine AllReadyH.cons rfl (fun KK hK => ?_) AllReadyH.nil
            simp only [List.getElem_toArray, List.getElem_cons_succ, List.getElem_cons_zero]
            rw [if_pos (by rfl)]
            go_simp
            clear hHeld
            refine hK.out _ _ ?_ (fun hHeld => ?_)
            · exact ⟨(cell_aside _ (by have := unhide SW; dsimp only; omega) (cell_aside _ (by have := unhide SW; dsimp only; omega) (cell_aside _ (by have := unhide SW; dsimp only; omega) (cell_aside _ (by have := unhide SW; dsimp only; omega) c0)))), (cell_aside _ (by have := unhide SW; dsimp only; omega) (cell_aside _ (by have := unhide SW; dsimp only; omega) (cell_aside _ (by have := unhide SW; dsimp only; omega) (cell_aside _ (by have := unhide SW; dsimp only; omega) c1)))), (cell_aside _ (by have := unhide SW; dsimp only; omega) (cell_aside _ (by have := unhide SW; dsimp only; omega) (cell_aside _ (by have := unhide SW; dsimp only; omega) (cell_aside _ (by have := unhide SW; dsimp only; omega) d0)))), (cell_aside _ (by have := unhide SW; dsimp only; omega) (cell_aside _ (by have := unhide SW; dsimp only; omega) (cell_aside _ (by have := unhide SW; dsimp only; omega) (cell_aside _ (by have := unhide SW; dsimp only; omega) d1))))⟩
            clear hK KK
            try simp only [Act.put, List.getElem_toArray, List.getElem_cons_succ, List.getElem_cons_zero, List.setIfInBounds_toArray, List.set_cons_zero, List.set_cons_succ]
            refine wpAnyH_done (by kernel_rfl) ?_ _
            clear hHeld
            go_wp2_with fail
            go_meet
            exact ⟨_, _, rfl, rfl, sig_pair s1 s2 kw o3 o4 x0 x1 xf0 xf1 y0 y1 yf0 yf1 (by omega) (by omega) (by omega) (by omega) (by omega) (fun e => by have := l3 _ e; omega) (fun e => by have := l3 _ e; omega) (fun e => by have := l4 _ e; omega) (fun e => by have := l4 _ e; omega) (fun k e1 e2 => by have := l3 _ e1; have := l4 _ e2; omega)⟩
      · simp only [List.getElem_toArray, List.getElem_cons_succ, List.getElem_cons_zero]
        rw [if_pos (by rfl)]
        go_simp
        have kn := (Kept.refl 0 0 w6).alloc (.cells #[.slice none 0 0, .bool false] 41)
        replace r1 := r1.kept kn (by omega)
        replace r2 := r2.kept kn (by omega)
        replace kw := kw.trans kn
        replace f0 := kn.loose0 (World.block_lt_of_cell? _ _ q0) f0
        replace f1 := kn.loose0 (World.block_lt_of_cell? _ _ q1) f1
        replace yf0 := kn.loose0 (World.block_lt_of_cell? _ _ y0) yf0
        replace yf1 := kn.loose0 (World.block_lt_of_cell? _ _ y1) yf1
        replace c0 := kn.cell0 c0
        replace c1 := kn.cell0 c1
        replace d0 := kn.cell0 d0
        replace d1 := kn.cell0 d1
        replace q0 := kn.cell0 q0
        replace q1 := kn.cell0 q1
        replace y0 := kn.cell0 y0
        replace y1 := kn.cell0 y1
        replace K := hide ((unhide K).trans kn)
        have z9 := kn.size
        clear kn
        have szx : w6.heap.size < (w6.alloc (.cells #[.slice none 0 0, .bool false] 41)).heap.size := by simp
        have x0 : (w6.alloc (.cells #[.slice none 0 0, .bool false] 41)).cell? ⟨w6.heap.size, 0, none⟩ = some (.slice none 0 0) := new_cell2 _ _ _ _ _ _ rfl rfl
        have xf0 : (w6.alloc (.cells #[.slice none 0 0, .bool false] 41)).frozen? ⟨w6.heap.size, 0, none⟩ = false := new_loose2 _ _ _ _ _ rfl
        have x1 : (w6.alloc (.cells #[.slice none 0 0, .bool false] 41)).cell? ⟨w6.heap.size, 1, none⟩ = some (.bool false) := new_cell2 _ _ _ _ _ _ rfl rfl
        have xf1 : (w6.alloc (.cells #[.slice none 0 0, .bool false] 41)).frozen? ⟨w6.heap.size, 1, none⟩ = false := new_loose2 _ _ _ _ _ rfl
        clear hHeld
        refine hK.out _ _ ?_ (fun hHeld => ?_)
        · exact ⟨c0, c1, d0, d1⟩
        clear hK KK
        try simp only [Act.put, List.getElem_toArray, List.getElem_cons_succ, List.getElem_cons_zero, List.setIfInBounds_toArray, List.set_cons_zero, List.set_cons_succ]
        generalize w6.alloc (.cells #[.slice none 0 0, .bool false] 41) = w8 at *
        refine wpAnyH_ready (rs := [1]) (by kernel_rfl) (by simp) ?_
        refine AllReadyH.cons rfl (fun KK hK => ?_) AllReadyH.nil
        · simp only [List.getElem_toArray, List.getElem_cons_succ, List.getElem_cons_zero]
          rw [if_pos (by rfl)]
          refine wps1 13 (.tmp 30) _ rfl in_signedOf (.agg #[.bool s1, .slice a1 xs.length e1]) rfl (signedOf_impl s1 _ r1 mx) ?_
          rintro e w10 ⟨v3, rfl, o3, k10⟩
          refine ⟨_, rfl, ?_⟩
          replace r1 := r1.kept k10 (by omega)
          replace r2 := r2.kept k10 (by omega)
          replace kw := kw.trans k10
          replace f0 := k10.loose0 (World.block_lt_of_cell? _ _ q0) f0
          replace f1 := k10.loose0 (World.block_lt_of_cell? _ _ q1) f1
          replace yf0 := k10.loose0 (World.block_lt_of_cell? _ _ y0) yf0
          replace yf1 := k10.loose0 (World.block_lt_of_cell? _ _ y1) yf1
          replace xf0 := k10.loose0 (World.block_lt_of_cell? _ _ x0) xf0
          replace xf1 := k10.loose0 (World.block_lt_of_cell? _ _ x1) xf1
          replace c0 := k10.cell0 c0
          replace c1 := k10.cell0 c1
          replace d0 := k10.cell0 d0
          replace d1 := k10.cell0 d1
          replace q0 := k10.cell0 q0
          replace q1 := k10.cell0 q1
          replace y0 := k10.cell0 y0
          replace y1 := k10.cell0 y1
          replace x0 := k10.cell0 x0
          replace x1 := k10.cell0 x1
          replace K := hide ((unhide K).trans k10)
          have z11 := k10.size
          clear k10
          have l3 := o3.lt
          obtain ⟨a3, c3, hv⟩ := own_slice o3
          subst hv
          clear hHeld
          refine hK.out _ _ ?_ (fun hHeld => ?_)
          · exact ⟨c0, c1, d0, d1⟩
          clear hK KK
          try simp only [Act.put, List.getElem_toArray, List.getElem_cons_succ, List.getElem_cons_zero, List.setIfInBounds_toArray, List.set_cons_zero, List.set_cons_succ]
          refine wpAnyH_ready (rs := [3]) (by kernel_rfl) (by simp) ?_
          refine AllReadyH.cons rfl (fun KK hK => ?_) AllReadyH.nil
          · simp only [List.getElem_toArray, List.getElem_cons_succ, List.getElem_cons_zero]
            rw [if_pos (by rfl)]
            refine wps1 13 (.tmp 32) _ rfl in_signedOf (.agg #[.bool s2, .slice a2 ys.length e2]) rfl (signedOf_impl s2 _ r2 my) ?_
            rintro e w12 ⟨v4, rfl, o4, k12⟩
            refine ⟨_, rfl, ?_⟩
            replace r1 := r1.kept k12 (by omega)
            replace r2 := r2.kept k12 (by omega)
            replace kw := kw.trans k12
            replace o3 := own_kept o3 k12
            replace f0 := k12.loose0 (World.block_lt_of_cell? _ _ q0) f0
            replace f1 := k12.loose0 (World.block_lt_of_cell? _ _ q1) f1
            replace yf0 := k12.loose0 (World.block_lt_of_cell? _ _ y0) yf0
            replace yf1 := k12.loose0 (World.block_lt_of_cell? _ _ y1) yf1
            replace xf0 := k12.loose0 (World.block_lt_of_cell? _ _ x0) xf0
            replace xf1 := k12.loose0 (World.block_lt_of_cell? _ _ x1) xf1
            replace c0 := k12.cell0 c0
            replace c1 := k12.cell0 c1
            replace d0 := k12.cell0 d0
            replace d1 := k12.cell0 d1
            replace q0 := k12.cell0 q0
            replace q1 := k12.cell0 q1
            replace y0 := k12.cell0 y0
            replace y1 := k12.cell0 y1
            replace x0 := k12.cell0 x0
            replace x1 := k12.cell0 x1
            replace K := hide ((unhide K).trans k12)
            have z13 := k12.size
            clear k12
            have l4 := o4.lt
            obtain ⟨a4, c4, hv⟩ := own_slice o4
            subst hv
            clear hHeld
            refine hK.out _ _ ?_ (fun hHeld => ?_)
            · exact ⟨c0, c1, d0, d1⟩
            clear hK KK
            try simp only [Act.put, List.getElem_toArray, List.getElem_cons_succ, List.getElem_cons_zero, List.setIfInBounds_toArray, List.set_cons_zero, List.set_cons_succ]
            refine wpAnyH_ready (rs := [6]) (by kernel_rfl) (by simp) ?_
            refine AllReadyH.cons rfl (fun KK hK => ?_) AllReadyH.nil
            simp only [List.getElem_toArray, List.getElem_cons_succ, List.getElem_cons_zero]
            rw [if_pos (by rfl)]
            go_simp
            clear hHeld
            refine hK.out _ _ ?_ (fun hHeld => ?_)
            · exact ⟨(cell_aside _ (by have := unhide SW; dsimp only; omega) (cell_aside _ (by have := unhide SW; dsimp only; omega) c0)), (cell_aside _ (by have := unhide SW; dsimp only; omega) (cell_aside _ (by have := unhide SW; dsimp only; omega) c1)), (cell_aside _ (by have := unhide SW; dsimp only; omega) (cell_aside _ (by have := unhide SW; dsimp only; omega) d0)), (cell_aside _ (by have := unhide SW; dsimp only; omega) (cell_aside _ (by have := unhide SW; dsimp only; omega) d1))⟩
            clear hK KK
            try simp only [Act.put, List.getElem_toArray, List.getElem_cons_succ, List.getElem_cons_zero, List.setIfInBounds_toArray, List.set_cons_zero, List.set_cons_succ]
            refine wpAnyH_ready (rs := [7]) (by kernel_rfl) (by simp) ?_
            refine AllReadyH.cons rfl (fun KK hK => ?_) AllReadyH.nil
            simp only [List.getElem_toArray, List.getElem_cons_succ, List.getElem_cons_zero]
            rw [if_pos (by rfl)]
            go_simp
            clear hHeld
            refine hK.out _ _ ?_ (fun hHeld => ?_)
            · exact ⟨(cell_aside _ (by have := unhide SW; dsimp only; omega) (cell_aside _ (by have := unhide SW; dsimp only; omega) (cell_aside _ (by have := unhide SW; dsimp only; omega) (cell_aside _ (by have := unhide SW; dsimp only; omega) c0)))), (cell_aside _ (by have := unhide SW; dsimp only; omega) (cell_aside _ (by have := unhide SW; dsimp only; omega) (cell_aside _ (by have := unhide SW; dsimp only; omega) (cell_aside _ (by have := unhide SW; dsimp only; omega) c1)))), (cell_aside _ (by have := unhide SW; dsimp only; omega) (cell_aside _ (by have := unhide SW; dsimp only; omega) (cell_aside _ (by have := unhide SW; dsimp only; omega) (cell_aside _ (by have := unhide SW; dsimp only; omega) d0)))), (cell_aside _ (by have := unhide SW; dsimp only; omega) (cell_aside _ (by have := unhide SW; dsimp only; omega) (cell_aside _ (by have := unhide SW; dsimp only; omega) (cell_aside _ (by have := unhide SW; dsimp only; omega) d1))))⟩
            clear hK KK
            try simp only [Act.put, List.getElem_toArray, List.getElem_cons_succ, List.getElem_cons_zero, List.setIfInBounds_toArray, List.set_cons_zero, List.set_cons_succ]
            refine wpAnyH_done (by kernel_rfl) ?_ _
            clear hHeld
            go_wp2_with fail
            go_meet
            exact ⟨_, _, rfl, rfl, sig_pair s1 s2 kw o3 o4 x0 x1 xf0 xf1 y0 y1 yf0 yf1 (by omega) (by omega) (by omega) (by omega) (by omega) (fun e => by have := l3 _ e; omega) (fun e => by have := l3 _ e; omega) (fun e => by have := l4 _ e; omega) (fun e => by have := l4 _ e; omega) (fun k e1 e2 => by have := l3 _ e1; have := l4 _ e2; omega)⟩
  case rest =>
    obtain ⟨X, Y, rfl, rfl, sg⟩ := hcut
    go_wp2_with fail
    obtain ⟨u1, u2, t⟩ := sg.two
    have mk := divideSigned_impl t sg.d1 sg.d2 hx hy lx ly (nrm_pos hy hz)
    have hlr : (wdR s1 xs ys).length ≤ 100 := Nat.le_trans (wdR_len s1 (nrm_pos hy hz) hy) ly
    have hXb := t.b1
    have zc := t.k.size
    obtain ⟨LQ, hLQ⟩ : ∃ q, q = wdQ s1 xs ys := ⟨_, rfl⟩
    obtain ⟨LR, hLR⟩ : ∃ q, q = wdR s1 xs ys := ⟨_, rfl⟩
    obtain ⟨SQ, hSQ⟩ : ∃ q, q = (s1 != s2) := ⟨_, rfl⟩
    rw [← hSQ, ← hLQ, ← hLR] at mk
    rw [← hLR] at hlr
    have HLQ := hide hLQ
    have HLR := hide hLR
    have HSQ := hide hSQ
    have HB : Hid (wvB s1 s2 xs ys = decide (LQ.length ≤ 100)) := by show _ = _; unfold wvB; rw [unhide HO1, unhide HO2, decide_eq_true hz, ← hLQ]; rfl
    clear hLQ hLR hSQ hx hy lx ly mx my hz
    refine mk.mono ?_
    rintro e w6 ⟨vq, u, rfl, oq, nu, du, hqu, k6⟩
    clear mk t sg r1 r2
    obtain ⟨aq, cq, hvq⟩ := own_slice oq
    subst hvq
    replace f0 := k6.loose0 (World.block_lt_of_cell? _ _ q0) f0
    replace f1 := k6.loose0 (World.block_lt_of_cell? _ _ q1) f1
    replace g0 := k6.loose0 (World.block_lt_of_cell? _ _ t0) g0
    replace g1 := k6.loose0 (World.block_lt_of_cell? _ _ t1) g1
    replace c0 := k6.cell0 c0
    replace c1 := k6.cell0 c1
    replace d0 := k6.cell0 d0
    replace d1 := k6.cell0 d1
    replace q0 := k6.cell0 q0
    replace q1 := k6.cell0 q1
    replace t0 := k6.cell0 t0
    replace t1 := k6.cell0 t1
    replace K := hide ((unhide K).trans k6)
    have z6 := k6.size
    clear k6
    have kA := (Kept.refl 0 0 w6).alloc (.cells #[.slice aq LQ.length cq, .bool SQ] 41)
    have bq := oq.lt
    have nq : Num w3.heap.size (w6.alloc (.cells #[.slice aq LQ.length cq, .bool SQ] 41)) w6.heap.size (.slice aq LQ.length cq) LQ := ⟨new_cell2 _ _ _ _ _ _ (by simp) rfl, new_loose2 _ _ _ _ _ (by simp), own_less (own_kept oq kA) (by omega), fun e => by have := bq _ e; omega⟩
    have dq : Sd (w6.alloc (.cells #[.slice aq LQ.length cq, .bool SQ] 41)) w6.heap.size SQ := ⟨new_cell2 _ _ _ _ _ _ (by simp) rfl, new_loose2 _ _ _ _ _ (by simp)⟩
    replace nu := nu.kept kA
    replace du := du.kept kA
    replace f0 := kA.loose0 (World.block_lt_of_cell? _ _ q0) f0
    replace f1 := kA.loose0 (World.block_lt_of_cell? _ _ q1) f1
    replace g0 := kA.loose0 (World.block_lt_of_cell? _ _ t0) g0
    replace g1 := kA.loose0 (World.block_lt_of_cell? _ _ t1) g1
    replace c0 := kA.cell0 c0
    replace c1 := kA.cell0 c1
    replace d0 := kA.cell0 d0
    replace d1 := kA.cell0 d1
    replace q0 := kA.cell0 q0
    replace q1 := kA.cell0 q1
    replace t0 := kA.cell0 t0
    replace t1 := kA.cell0 t1
    replace K := hide ((unhide K).trans kA)
    have z7 := kA.size
    clear kA
    have hb3 : w.heap.size + 4 ≤ w3.heap.size := by have := unhide SW; omega
    go_wp2_with fail
    refine (toldSigned_impl _ nq dq).mono ?_
    rintro e w8 ⟨v8, rfl, r8, k8⟩
    replace f0 := k8.loose0 (World.block_lt_of_cell? _ _ q0) f0
    replace f1 := k8.loose0 (World.block_lt_of_cell? _ _ q1) f1
    replace g0 := k8.loose0 (World.block_lt_of_cell? _ _ t0) g0
    replace g1 := k8.loose0 (World.block_lt_of_cell? _ _ t1) g1
    replace c0 := k8.cell0 c0
    replace c1 := k8.cell0 c1
    replace d0 := k8.cell0 d0
    replace d1 := k8.cell0 d1
    replace q0 := k8.cell0 q0
    replace q1 := k8.cell0 q1
    replace t0 := k8.cell0 t0
    replace t1 := k8.cell0 t1
    replace K := hide ((unhide K).trans k8)
    replace nu := nu.kept k8
    replace du := du.kept k8
    have z8 := k8.size
    clear k8 nq dq
    by_cases hl : LQ.length ≤ 100
    · have ey : Hid (wvB s1 s2 xs ys = true) := by show _ = _; rw [unhide HB]; exact decide_eq_true hl
      have ht : tell LQ = LQ := by unfold tell; rw [if_pos hl]
      rw [ht] at r8
      rw [decide_eq_true hl, Bool.true_and]
      obtain ⟨SB, hSB⟩ : ∃ q, q = (SQ && decide (0 < LQ.length)) := ⟨_, rfl⟩
      rw [← hSB]
      have HSB := hide hSB
      clear hSB ht hl
      obtain ⟨a8, c8, hv8⟩ := Row.form' r8
      subst hv8
      have m0 : (w8.alloc (.cells #[.bool SB, .slice a8 LQ.length c8] 27)).cell? ⟨w8.heap.size, 0, none⟩ = some (.bool SB) := new_cell2 _ _ _ _ _ _ (by simp) rfl
      have m1 : (w8.alloc (.cells #[.bool SB, .slice a8 LQ.length c8] 27)).cell? ⟨w8.heap.size, 1, none⟩ = some (.slice a8 LQ.length c8) := new_cell2 _ _ _ _ _ _ (by simp) rfl
      have kB := (Kept.refl 0 0 w8).alloc (.cells #[.bool SB, .slice a8 LQ.length c8] 27)
      replace f0 := kB.loose0 (World.block_lt_of_cell? _ _ q0) f0
      replace f1 := kB.loose0 (World.block_lt_of_cell? _ _ q1) f1
      replace g0 := kB.loose0 (World.block_lt_of_cell? _ _ t0) g0
      replace g1 := kB.loose0 (World.block_lt_of_cell? _ _ t1) g1
      replace c0 := kB.cell0 c0
      replace c1 := kB.cell0 c1
      replace d0 := kB.cell0 d0
      replace d1 := kB.cell0 d1
      replace q0 := kB.cell0 q0
      replace q1 := kB.cell0 q1
      replace t0 := kB.cell0 t0
      replace t1 := kB.cell0 t1
      replace r8 := r8.kept kB (by omega)
      replace K := hide ((unhide K).trans kB)
      replace nu := nu.kept kB
      replace du := du.kept kB
      have z9 : (w8.alloc (.cells #[.bool SB, .slice a8 LQ.length c8] 27)).heap.size = w8.heap.size + 1 := by simp
      clear kB
      go_wp2_with fail
      refine (toldSigned_impl _ nu du).mono ?_
      rintro e w10 ⟨v10, rfl, r10, k10⟩
      clear nu du
      have ht : tell LR = LR := by unfold tell; rw [if_pos hlr]
      rw [ht] at r10
      rw [decide_eq_true hlr, Bool.true_and, Bool.false_and]
      clear ht hlr
      obtain ⟨a10, c10, hv10⟩ := Row.form' r10
      subst hv10
      replace f0 := k10.loose0 (World.block_lt_of_cell? _ _ q0) f0
      replace f1 := k10.loose0 (World.block_lt_of_cell? _ _ q1) f1
      replace g0 := k10.loose0 (World.block_lt_of_cell? _ _ t0) g0
      replace g1 := k10.loose0 (World.block_lt_of_cell? _ _ t1) g1
      replace c0 := k10.cell0 c0
      replace c1 := k10.cell0 c1
      replace d0 := k10.cell0 d0
      replace d1 := k10.cell0 d1
      replace q0 := k10.cell0 q0
      replace q1 := k10.cell0 q1
      replace t0 := k10.cell0 t0
      replace t1 := k10.cell0 t1
      replace m0 := k10.cell0 m0
      replace m1 := k10.cell0 m1
      replace r8 := r8.kept k10 (by omega)
      replace K := hide ((unhide K).trans k10)
      have z10 := k10.size
      clear k10
      have n0 : (w10.alloc (.cells #[.bool false, .slice a10 LR.length c10] 27)).cell? ⟨w10.heap.size, 0, none⟩ = some (.bool false) := new_cell2 _ _ _ _ _ _ (by simp) rfl
      have n1 : (w10.alloc (.cells #[.bool false, .slice a10 LR.length c10] 27)).cell? ⟨w10.heap.size, 1, none⟩ = some (.slice a10 LR.length c10) := new_cell2 _ _ _ _ _ _ (by simp) rfl
      have kC := (Kept.refl 0 0 w10).alloc (.cells #[.bool false, .slice a10 LR.length c10] 27)
      replace f0 := kC.loose0 (World.block_lt_of_cell? _ _ q0) f0
      replace f1 := kC.loose0 (World.block_lt_of_cell? _ _ q1) f1
      replace g0 := kC.loose0 (World.block_lt_of_cell? _ _ t0) g0
      replace g1 := kC.loose0 (World.block_lt_of_cell? _ _ t1) g1
      replace c0 := kC.cell0 c0
      replace c1 := kC.cell0 c1
      replace d0 := kC.cell0 d0
      replace d1 := kC.cell0 d1
      replace q0 := kC.cell0 q0
      replace q1 := kC.cell0 q1
      replace t0 := kC.cell0 t0
      replace t1 := kC.cell0 t1
      replace m0 := kC.cell0 m0
      replace m1 := kC.cell0 m1
      replace r8 := r8.kept kC (by omega)
      replace r10 := r10.kept kC (by omega)
      replace K := hide ((unhide K).trans kC)
      have z11 : (w10.alloc (.cells #[.bool false, .slice a10 LR.length c10] 27)).heap.size = w10.heap.size + 1 := by simp
      clear kC
      go_wp2_with fail
      generalize (w10.alloc (.cells #[.bool false, .slice a10 LR.length c10] 27)) = w11 at *
      have kd := (Kept.refl 0 0 w11).drew
      replace f0 := kd.loose0 (World.block_lt_of_cell? _ _ q0) f0
      replace f1 := kd.loose0 (World.block_lt_of_cell? _ _ q1) f1
      replace g0 := kd.loose0 (World.block_lt_of_cell? _ _ t0) g0
      replace g1 := kd.loose0 (World.block_lt_of_cell? _ _ t1) g1
      replace c0 := kd.cell0 c0
      replace c1 := kd.cell0 c1
      replace d0 := kd.cell0 d0
      replace d1 := kd.cell0 d1
      replace q0 := kd.cell0 q0
      replace q1 := kd.cell0 q1
      replace t0 := kd.cell0 t0
      replace t1 := kd.cell0 t1
      replace m0 := kd.cell0 m0
      replace m1 := kd.cell0 m1
      replace n0 := kd.cell0 n0
      replace n1 := kd.cell0 n1
      replace r8 := r8.kept kd (by omega)
      replace r10 := r10.kept kd (by omega)
      replace K := hide ((unhide K).trans kd)
      have z12 : w11.drew.heap.size = w10.heap.size + 1 := z11
      clear kd z11 c0 c1 d0 d1
      refine wp_region_held_drew (S := (fun w' => w'.cell? ⟨w8.heap.size, 0, none⟩ = some (.bool SB) ∧ w'.cell? ⟨w8.heap.size, 1, none⟩ = some (.slice a8 LQ.length c8) ∧ w'.cell? ⟨w10.heap.size, 0, none⟩ = some (.bool false) ∧ w'.cell? ⟨w10.heap.size, 1, none⟩ = some (.slice a10 LR.length c10))) (by kernel_rfl) ?_ (fun hHeld => ?_)
      · exact ⟨m0, m1, n0, n1⟩
      generalize w11.drew = w9 at *
      refine wpAnyH_take (i := 0) (oi := _) (v := .agg #[.bool SB, .slice a8 LQ.length c8]) rfl (by kernel_rfl) (by kernel_rfl) (by kernel_rfl) (fun _ _ _ h => h) (Or.inl ⟨by rfl, ?_⟩) hHeld ?_
      · intro wq hSw
        try dsimp only at hSw
        go_simp
      try simp only [Act.put, List.getElem_toArray, List.getElem_cons_succ, List.getElem_cons_zero, List.setIfInBounds_toArray, List.set_cons_zero, List.set_cons_succ]
      refine wpAnyH_take (i := 1) (oi := _) (v := .agg #[.bool false, .slice a10 LR.length c10]) rfl (by kernel_rfl) (by kernel_rfl) (by kernel_rfl) (fun _ _ _ h => h) (Or.inl ⟨by rfl, ?_⟩) hHeld ?_
      · intro wq hSw
        try dsimp only at hSw
        go_simp
      try simp only [Act.put, List.getElem_toArray, List.getElem_cons_succ, List.getElem_cons_zero, List.setIfInBounds_toArray, List.set_cons_zero, List.set_cons_succ]
      refine wpAnyH_take (i := 2) (oi := _) (v := .bool true) rfl (by kernel_rfl) (by kernel_rfl) (by kernel_rfl) (fun _ _ _ h => h) (Or.inl ⟨by rfl, ?_⟩) hHeld ?_
      · intro wq hSw
        try dsimp only at hSw
        go_simp
      try simp only [Act.put, List.getElem_toArray, List.getElem_cons_succ, List.getElem_cons_zero, List.setIfInBounds_toArray, List.set_cons_zero, List.set_cons_succ]
      refine wpAnyH_ready (rs := [3]) (by kernel_rfl) (by simp) ?_
      refine AllReadyH.cons rfl (fun KK hK => ?_) AllReadyH.nil
      simp only [List.getElem_toArray, List.getElem_cons_succ, List.getElem_cons_zero]
      rw [if_pos (by rfl)]
      go_simp
      have T0 : ((w9.setCell ⟨w.heap.size + 2, 0, none⟩ (.bool SB)).setCell ⟨w.heap.size + 2, 1, none⟩ (.slice a8 LQ.length c8)).cell? ⟨w.heap.size + 3, 0, none⟩ = some (.bool false) := (cell_aside _ (by dsimp only; omega) (cell_aside _ (by dsimp only; omega) t0))
      have T1 : ((w9.setCell ⟨w.heap.size + 2, 0, none⟩ (.bool SB)).setCell ⟨w.heap.size + 2, 1, none⟩ (.slice a8 LQ.length c8)).cell? ⟨w.heap.size + 3, 1, none⟩ = some (.slice none 0 0) := (cell_aside _ (by dsimp only; omega) (cell_aside _ (by dsimp only; omega) t1))
      have G0' : ((w9.setCell ⟨w.heap.size + 2, 0, none⟩ (.bool SB)).setCell ⟨w.heap.size + 2, 1, none⟩ (.slice a8 LQ.length c8)).frozen? ⟨w.heap.size + 3, 0, none⟩ = false := by rw [frozen_set, frozen_set]; exact g0
      have G1' : ((w9.setCell ⟨w.heap.size + 2, 0, none⟩ (.bool SB)).setCell ⟨w.heap.size + 2, 1, none⟩ (.slice a8 LQ.length c8)).frozen? ⟨w.heap.size + 3, 1, none⟩ = false := by rw [frozen_set, frozen_set]; exact g1
      have m0' : ((w9.setCell ⟨w.heap.size + 2, 0, none⟩ (.bool SB)).setCell ⟨w.heap.size + 2, 1, none⟩ (.slice a8 LQ.length c8)).cell? ⟨w8.heap.size, 0, none⟩ = some (.bool SB) := (cell_aside _ (by dsimp only; omega) (cell_aside _ (by dsimp only; omega) m0))
      have m1' : ((w9.setCell ⟨w.heap.size + 2, 0, none⟩ (.bool SB)).setCell ⟨w.heap.size + 2, 1, none⟩ (.slice a8 LQ.length c8)).cell? ⟨w8.heap.size, 1, none⟩ = some (.slice a8 LQ.length c8) := (cell_aside _ (by dsimp only; omega) (cell_aside _ (by dsimp only; omega) m1))
      have n0' : ((w9.setCell ⟨w.heap.size + 2, 0, none⟩ (.bool SB)).setCell ⟨w.heap.size + 2, 1, none⟩ (.slice a8 LQ.length c8)).cell? ⟨w10.heap.size, 0, none⟩ = some (.bool false) := (cell_aside _ (by dsimp only; omega) (cell_aside _ (by dsimp only; omega) n0))
      have n1' : ((w9.setCell ⟨w.heap.size + 2, 0, none⟩ (.bool SB)).setCell ⟨w.heap.size + 2, 1, none⟩ (.slice a8 LQ.length c8)).cell? ⟨w10.heap.size, 1, none⟩ = some (.slice a10 LR.length c10) := (cell_aside _ (by dsimp only; omega) (cell_aside _ (by dsimp only; omega) n1))
      obtain ⟨A0, A1, B0, B1, ks, hs⟩ := four_set (.bool SB) (.slice a8 LQ.length c8) (.bool false) (.slice a10 LR.length c10) q0 q1 t0 t1
      have A0 := hide A0
      have A1 := hide A1
      have B0 := hide B0
      have B1 := hide B1
      clear q0 q1 t0 t1 f0 f1 g0 g1
      clear hHeld
      refine hK.out _ _ ?_ (fun hHeld => ?_)
      · exact ⟨m0', m1', n0', n1'⟩
      clear hK KK
      try simp only [Act.put, List.getElem_toArray, List.getElem_cons_succ, List.getElem_cons_zero, List.setIfInBounds_toArray, List.set_cons_zero, List.set_cons_succ]
      refine wpAnyH_ready (rs := [4]) (by kernel_rfl) (by simp) ?_
      refine AllReadyH.cons rfl (fun KK hK => ?_) AllReadyH.nil
      simp only [List.getElem_toArray, List.getElem_cons_succ, List.getElem_cons_zero]
      rw [if_pos (by rfl)]
      go_simp
      clear hHeld
      refine hK.out _ _ ?_ (fun hHeld => ?_)
      · exact ⟨(cell_aside _ (by dsimp only; omega) (cell_aside _ (by dsimp only; omega) m0')), (cell_aside _ (by dsimp only; omega) (cell_aside _ (by dsimp only; omega) m1')), (cell_aside _ (by dsimp only; omega) (cell_aside _ (by dsimp only; omega) n0')), (cell_aside _ (by dsimp only; omega) (cell_aside _ (by dsimp only; omega) n1'))⟩
      clear hK KK
      try simp only [Act.put, List.getElem_toArray, List.getElem_cons_succ, List.getElem_cons_zero, List.setIfInBounds_toArray, List.set_cons_zero, List.set_cons_succ]
      refine wpAnyH_take (i := 5) (oi := _) (v := .bool true) rfl (by kernel_rfl) (by kernel_rfl) (by kernel_rfl) (fun _ _ _ h => h) (Or.inl ⟨by rfl, ?_⟩) hHeld ?_
      · intro wq hSw
        try dsimp only at hSw
        go_simp
      try simp only [Act.put, List.getElem_toArray, List.getElem_cons_succ, List.getElem_cons_zero, List.setIfInBounds_toArray, List.set_cons_zero, List.set_cons_succ]
      refine wpAnyH_done (by kernel_rfl) ?_ _
      have E3 := hide ((r8.kept ks (by omega)).wider (lo' := w.heap.size) (hi' := w8.heap.size) (by omega) (by omega))
      have E4 := hide ((r10.kept ks (by omega)).wider (lo' := w8.heap.size) (hi' := ((((w9.setCell ⟨w.heap.size + 2, 0, none⟩ (.bool SB)).setCell ⟨w.heap.size + 2, 1, none⟩ (.slice a8 LQ.length c8)).setCell ⟨w.heap.size + 3, 0, none⟩ (.bool false)).setCell ⟨w.heap.size + 3, 1, none⟩ (.slice a10 LR.length c10)).heap.size) (by omega) (by rw [size_set, size_set, size_set, size_set]; omega))
      have hm1 : Hid (w.heap.size ≤ w8.heap.size) := by show _ ≤ _; omega
      have hm2 : Hid (w8.heap.size ≤ ((((w9.setCell ⟨w.heap.size + 2, 0, none⟩ (.bool SB)).setCell ⟨w.heap.size + 2, 1, none⟩ (.slice a8 LQ.length c8)).setCell ⟨w.heap.size + 3, 0, none⟩ (.bool false)).setCell ⟨w.heap.size + 3, 1, none⟩ (.slice a10 LR.length c10)).heap.size) := by show _ ≤ _; rw [size_set, size_set, size_set, size_set]; omega
      clear hHeld
      have K7 := hide ((unhide K).wide ks (by omega))
      clear ks hs r8 r10 K T0 T1 G0' G1' m0 m1 n0 n1 m0' m1' n0' n1'
      replace A0 := unhide A0
      replace A1 := unhide A1
      replace B0 := unhide B0
      replace B1 := unhide B1
      go_wp2_with fail
      exact bodyPost_ret (v := .tuple #[.agg #[.bool SB, .slice a8 LQ.length c8], .agg #[.bool false, .slice a10 LR.length c10], .bool true]) (by simp [results, Try.results5, go_sem, A0, A1, B0, B1]) rfl ⟨_, _, w8.heap.size, by rw [(wv_yes (unhide ey)).1, unhide ey, ← unhide HSQ, ← unhide HLQ, ← unhide HSB], by rw [(wv_yes (unhide ey)).2.1, ← unhide HLQ]; exact unhide E3, by rw [(wv_yes (unhide ey)).2.2, ← unhide HLR]; exact unhide E4, unhide hm1, unhide hm2, unhide K7⟩
    · have e0 : Hid (wvB s1 s2 xs ys = false) := by show _ = _; rw [unhide HB]; exact decide_eq_false hl
      rw [decide_eq_false hl, Bool.false_and]
      obtain ⟨a8, c8, hv8⟩ := Row.form' r8
      subst hv8
      have kB := (Kept.refl 0 0 w8).alloc (.cells #[.bool false, .slice a8 (tell LQ).length c8] 27)
      replace f0 := kB.loose0 (World.block_lt_of_cell? _ _ q0) f0
      replace f1 := kB.loose0 (World.block_lt_of_cell? _ _ q1) f1
      replace g0 := kB.loose0 (World.block_lt_of_cell? _ _ t0) g0
      replace g1 := kB.loose0 (World.block_lt_of_cell? _ _ t1) g1
      replace c0 := kB.cell0 c0
      replace c1 := kB.cell0 c1
      replace d0 := kB.cell0 d0
      replace d1 := kB.cell0 d1
      replace q0 := kB.cell0 q0
      replace q1 := kB.cell0 q1
      replace t0 := kB.cell0 t0
      replace t1 := kB.cell0 t1
      replace K := hide ((unhide K).trans kB)
      clear kB hl
      obtain ⟨A0, A1, B0, B1, ks, hs⟩ := four_set (.bool false) (.slice none 0 0) (.bool false) (.slice none 0 0) q0 q1 t0 t1
      have K7 := hide ((unhide K).wide ks (by omega))
      clear ks hs K r8 nu du
      go_wp2_with fail
      exact bodyPost_ret (v := .tuple #[.agg #[.bool false, .slice none 0 0], .agg #[.bool false, .slice none 0 0], .bool false]) (by simp [results, Try.results5, go_sem, A0, A1, B0, B1]) rfl ⟨_, _, w.heap.size, by rw [(wv_no (unhide e0)).1, unhide e0], by rw [(wv_no (unhide e0)).2.1]; exact Row.nil _ _ _ _ _, by rw [(wv_no (unhide e0)).2.2]; exact Row.nil _ _ _ _ _, Nat.le_refl _, (unhide K7).size, unhide K7⟩

end Go.Proofs.Ytpeaghaojfbbnaa
