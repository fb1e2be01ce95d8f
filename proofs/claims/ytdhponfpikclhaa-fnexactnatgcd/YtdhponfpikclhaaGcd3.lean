/-
  The contract of the program's NatGcd.
-/
import Derived.Test.YtdhponfpikclhaaGcd2
import Derived.Test.YtdhponfpikclhaaStep
import Derived.Deep.DeepCutAuto
namespace Go.Proofs.Ytdhponfpikclhaa
open Go.RowKit
set_option linter.unusedVariables false
set_option maxRecDepth 8000
set_option linter.unusedSimpArgs false

theorem in_limbsOf' : ∀ (w : World) (args : Array Value), (callFunc 87 args).run Try.prog w = .ok (.enter 87 args) w := enters Try.func87 (by decide) (fun h => by cases h)

theorem in_commonDivisor : ∀ (w : World) (args : Array Value), (callFunc 103 args).run Try.prog w = .ok (.enter 103 args) w := enters Try.func103 (by decide) (fun h => by cases h)

set_option maxHeartbeats 8000000 in
theorem natGcd_impl {b1 b2 : Bool} {l1 h1 l2 h2 : Nat} {v1 v2 : Value} {xs ys : List Int} (w : World) (r1 : Row .i64 b1 l1 h1 w v1 xs) (r2 : Row .i64 b2 l2 h2 w v2 ys) :
    Calls Try.prog 40 #[.agg #[v1], .agg #[v2]] w fun e w' => ∃ v', e = .returned (.agg #[v']) ∧ Row .i64 true w.heap.size w'.heap.size w' v' (gcdL xs ys) ∧ Kept 0 0 w w' := by
  have k0 : Kept 0 0 w (((w.alloc (.cells #[v1] 26)).alloc (.cells #[v2] 26)).alloc (.cells #[.slice none 0 0] 26)) := ((((Kept.refl 0 0 w).alloc (.cells #[v1] 26)).alloc (.cells #[v2] 26)).alloc (.cells #[.slice none 0 0] 26))
  have p0 : (((w.alloc (.cells #[v1] 26)).alloc (.cells #[v2] 26)).alloc (.cells #[.slice none 0 0] 26)).cell? ⟨w.heap.size, 0, none⟩ = some (v1) := old_cell _ (old_cell _ (new_cell2 _ _ _ _ _ _ (by simp) rfl))
  have t0 : (((w.alloc (.cells #[v1] 26)).alloc (.cells #[v2] 26)).alloc (.cells #[.slice none 0 0] 26)).cell? ⟨w.heap.size + 1, 0, none⟩ = some (v2) := old_cell _ (new_cell2 _ _ _ _ _ _ (by simp) rfl)
  have q0 : (((w.alloc (.cells #[v1] 26)).alloc (.cells #[v2] 26)).alloc (.cells #[.slice none 0 0] 26)).cell? ⟨w.heap.size + 2, 0, none⟩ = some (.slice none 0 0) := new_cell2 _ _ _ _ _ _ (by simp) rfl
  have qf0 : (((w.alloc (.cells #[v1] 26)).alloc (.cells #[v2] 26)).alloc (.cells #[.slice none 0 0] 26)).frozen? ⟨w.heap.size + 2, 0, none⟩ = false := new_loose2 _ _ _ _ _ (by simp)
  replace r1 := r1.kept k0 (by omega)
  replace r2 := r2.kept k0 (by omega)
  have s0 : (((w.alloc (.cells #[v1] 26)).alloc (.cells #[v2] 26)).alloc (.cells #[.slice none 0 0] 26)).heap.size = w.heap.size + 3 := by simp
  obtain ⟨a1, c1, hv⟩ := Row.form' r1
  subst hv
  obtain ⟨a2, c2, hv⟩ := Row.form' r2
  subst hv
  have K := hide (k0)
  clear k0
  have S0 := hide s0
  clear s0
  go_enter Try.func40, Try.ntmps40
  go_wp2_with fail
  generalize (((w.alloc (.cells #[.slice a1 xs.length c1] 26)).alloc (.cells #[.slice a2 ys.length c2] 26)).alloc (.cells #[.slice none 0 0] 26)) = W at *
  refine (ok_impl _ r1).mono ?_
  rintro e w1 ⟨rfl, k1⟩
  replace r1 := r1.kept k1 (by omega)
  replace r2 := r2.kept k1 (by omega)
  replace qf0 := k1.loose0 (World.block_lt_of_cell? _ _ q0) qf0
  replace p0 := k1.cell0 p0
  replace t0 := k1.cell0 t0
  replace q0 := k1.cell0 q0
  replace K := hide ((unhide K).trans k1)
  have z2 := k1.size
  clear k1
  cases ho1 : okB xs
  · have HO := hide ho1
    clear ho1
    have e0 : Hid ((okB xs && okB ys) = false) := by show _ = _; simp [unhide HO]
    have K' := hide ((unhide K).setNew (p := ⟨w.heap.size + 2, 0, none⟩) (by simp) (.slice none 0 0))
    clear r1 r2 K
    go_wp2_with fail
    exact bodyPost_ret (v := .agg #[.slice none 0 0]) (by simp [results, Try.results40, go_sem, q0]) rfl ⟨_, rfl, by rw [gcdL_no (unhide e0)]; exact Row.nil _ _ _ _ _, unhide K'⟩
  have HO1 := hide ho1
  clear ho1
  go_wp2_with fail
  refine (ok_impl _ r2).mono ?_
  rintro e w3 ⟨rfl, k3⟩
  replace r1 := r1.kept k3 (by omega)
  replace r2 := r2.kept k3 (by omega)
  replace qf0 := k3.loose0 (World.block_lt_of_cell? _ _ q0) qf0
  replace p0 := k3.cell0 p0
  replace t0 := k3.cell0 t0
  replace q0 := k3.cell0 q0
  replace K := hide ((unhide K).trans k3)
  have z4 := k3.size
  clear k3
  cases ho2 : okB ys
  · have HO := hide ho2
    clear ho2
    have e0 : Hid ((okB xs && okB ys) = false) := by show _ = _; simp [unhide HO]
    have K' := hide ((unhide K).setNew (p := ⟨w.heap.size + 2, 0, none⟩) (by simp) (.slice none 0 0))
    clear r1 r2 K
    go_wp2_with fail
    exact bodyPost_ret (v := .agg #[.slice none 0 0]) (by simp [results, Try.results40, go_sem, q0]) rfl ⟨_, rfl, by rw [gcdL_no (unhide e0)]; exact Row.nil _ _ _ _ _, unhide K'⟩
  have HO2 := hide ho2
  clear ho2
  obtain ⟨lx, hx⟩ := (okB_iff xs).1 (unhide HO1)
  obtain ⟨ly, hy⟩ := (okB_iff ys).1 (unhide HO2)
  obtain ⟨zg, hzg⟩ : ∃ z, gcdL xs ys = z := ⟨_, rfl⟩
  have lg := gcdL_len xs ys
  rw [hzg] at lg
  have EG : Hid (limbs (Nat.gcd (val xs).toNat (val ys).toNat) = zg) := by show _ = _; rw [← hzg, gcdL_yes (unhide HO1) (unhide HO2)]
  have HZ := hide hzg
  clear hzg
  have mx : xs.length ≤ 1000000 := by omega
  have my : ys.length ≤ 1000000 := by omega
  go_wp2_with fail
  have kd := (Kept.refl 0 0 w3).drew
  replace r1 := r1.kept kd (by omega)
  replace r2 := r2.kept kd (by omega)
  replace qf0 := kd.loose0 (World.block_lt_of_cell? _ _ q0) qf0
  replace p0 := kd.cell0 p0
  replace t0 := kd.cell0 t0
  replace q0 := kd.cell0 q0
  replace K := hide ((unhide K).trans kd)
  have z5 := kd.size
  clear kd
  refine wp_region_held_drew (S := (fun w' => w'.cell? ⟨w.heap.size, 0, none⟩ = some (.slice a1 xs.length c1) ∧ w'.cell? ⟨w.heap.size + 1, 0, none⟩ = some (.slice a2 ys.length c2))) (by kernel_rfl) ?_ (fun hHeld => ?_)
  · exact ⟨p0, t0⟩
  generalize w3.drew = wd at *
  have kw := Kept.refl 0 0 wd
  have K0 := K
  refine wpAnyH_take (i := 0) (oi := _) (v := .agg #[.slice a1 xs.length c1]) rfl (by kernel_rfl) (by kernel_rfl) (by kernel_rfl) (fun _ _ _ h => h) (Or.inl ⟨by rfl, ?_⟩) hHeld ?_
  · intro wq hSw
    try dsimp only at hSw
    go_simp
  try simp only [Act.put, List.getElem_toArray, List.getElem_cons_succ, List.getElem_cons_zero, List.setIfInBounds_toArray, List.set_cons_zero, List.set_cons_succ]
  refine wpAnyH_take (i := 2) (oi := _) (v := .agg #[.slice a2 ys.length c2]) rfl (by kernel_rfl) (by kernel_rfl) (by kernel_rfl) (fun _ _ _ h => h) (Or.inl ⟨by rfl, ?_⟩) hHeld ?_
  · intro wq hSw
    try dsimp only at hSw
    go_simp
  try simp only [Act.put, List.getElem_toArray, List.getElem_cons_succ, List.getElem_cons_zero, List.setIfInBounds_toArray, List.set_cons_zero, List.set_cons_succ]
  refine wpAnyH_ready (rs := [1, 5]) (by kernel_rfl) (by simp) ?_
  refine AllReadyH.cons rfl (fun KK hK => ?_) (AllReadyH.cons rfl (fun KK hK => ?_) AllReadyH.nil)
  · simp only [List.getElem_toArray, List.getElem_cons_succ, List.getElem_cons_zero]
    rw [if_pos (by rfl)]
    refine wps1 87 (.tmp 17) _ rfl in_limbsOf' (.agg #[.slice a1 xs.length c1]) rfl (limbsOf_impl _ r1 mx) ?_
    rintro e w6 ⟨v3, rfl, o3, k6⟩
    refine ⟨_, rfl, ?_⟩
    replace r1 := r1.kept k6 (by omega)
    replace r2 := r2.kept k6 (by omega)
    replace kw := kw.trans k6
    replace qf0 := k6.loose0 (World.block_lt_of_cell? _ _ q0) qf0
    replace p0 := k6.cell0 p0
    replace t0 := k6.cell0 t0
    replace q0 := k6.cell0 q0
    replace K := hide ((unhide K).trans k6)
    have z7 := k6.size
    clear k6
    have l3 := o3.lt
    clear hHeld
    refine hK.out _ _ ?_ (fun hHeld => ?_)
    · exact ⟨p0, t0⟩
    clear hK KK
    try simp only [Act.put, List.getElem_toArray, List.getElem_cons_succ, List.getElem_cons_zero, List.setIfInBounds_toArray, List.set_cons_zero, List.set_cons_succ]
    refine wpAnyH_ready (rs := [3, 5]) (by kernel_rfl) (by simp) ?_
    refine AllReadyH.cons rfl (fun KK hK => ?_) (AllReadyH.cons rfl (fun KK hK => ?_) AllReadyH.nil)
    · simp only [List.getElem_toArray, List.getElem_cons_succ, List.getElem_cons_zero]
      rw [if_pos (by rfl)]
      refine wps1 87 (.tmp 19) _ rfl in_limbsOf' (.agg #[.slice a2 ys.length c2]) rfl (limbsOf_impl _ r2 my) ?_
      rintro e w8 ⟨v4, rfl, o4, k8⟩
      refine ⟨_, rfl, ?_⟩
      replace r1 := r1.kept k8 (by omega)
      replace r2 := r2.kept k8 (by omega)
      replace kw := kw.trans k8
      replace o3 := own_kept o3 k8
      replace qf0 := k8.loose0 (World.block_lt_of_cell? _ _ q0) qf0
      replace p0 := k8.cell0 p0
      replace t0 := k8.cell0 t0
      replace q0 := k8.cell0 q0
      replace K := hide ((unhide K).trans k8)
      have z9 := k8.size
      clear k8
      have l4 := o4.lt
      clear hHeld
      refine hK.out _ _ ?_ (fun hHeld => ?_)
      · exact ⟨p0, t0⟩
      clear hK KK
      try simp only [Act.put, List.getElem_toArray, List.getElem_cons_succ, List.getElem_cons_zero, List.setIfInBounds_toArray, List.set_cons_zero, List.set_cons_succ]
      refine wpAnyH_ready (rs := [4, 5]) (by kernel_rfl) (by simp) ?_
      refine AllReadyH.cons rfl (fun KK hK => ?_) (AllReadyH.cons rfl (fun KK hK => ?_) AllReadyH.nil)
      · simp only [List.getElem_toArray, List.getElem_cons_succ, List.getElem_cons_zero]
        rw [if_pos (by rfl)]
        have mk := commonDivisor_impl (w0 := wd) _ kw o3 o4 (by omega) (by omega) (fun k e1 e2 => by have := l3 _ e1; have := l4 _ e2; omega) hx hy (by omega) (by omega)
        rw [unhide EG] at mk
        refine wps2 103 (.tmp 18) (.tmp 20) _ rfl in_commonDivisor (.agg #[v3]) (.agg #[v4]) rfl rfl mk ?_
        rintro e w10 ⟨v5, rfl, o5, g5, m5⟩
        refine ⟨_, rfl, ?_⟩
        clear mk
        obtain ⟨a5, c5, hv⟩ := own_slice o5
        subst hv
        replace qf0 := m5.looseAt (g := w.heap.size + 2) (o := 0) (fun e => by have := unhide S0; rcases e with e | e <;> first | (have := l3 _ e; omega) | (have := l4 _ e; omega)) (World.block_lt_of_cell? _ _ q0) qf0
        replace p0 := m5.cellAt (g := w.heap.size) (o := 0) (fun e => by have := unhide S0; rcases e with e | e <;> first | (have := l3 _ e; omega) | (have := l4 _ e; omega)) p0
        replace t0 := m5.cellAt (g := w.heap.size + 1) (o := 0) (fun e => by have := unhide S0; rcases e with e | e <;> first | (have := l3 _ e; omega) | (have := l4 _ e; omega)) t0
        replace q0 := m5.cellAt (g := w.heap.size + 2) (o := 0) (fun e => by have := unhide S0; rcases e with e | e <;> first | (have := l3 _ e; omega) | (have := l4 _ e; omega)) q0
        replace r1 := r1
        have kw' := kw.mod m5 (fun i e => by rcases e with e | e <;> first | (have := l3 _ e; omega) | (have := l4 _ e; omega))
        clear kw
        have kw := kw'
        clear kw'
        have z10 := m5.size
        have l5 := o5.lt
        clear m5 g5 o3 o4 r1 r2
        have r1 : True := trivial
        have r2 : True := trivial
        have o3 : True := trivial
        have o4 : True := trivial
        replace K := hide ((unhide K0).trans kw)
        clear hHeld
        refine hK.out _ _ ?_ (fun hHeld => ?_)
        · exact ⟨p0, t0⟩
        clear hK KK
        try simp only [Act.put, List.getElem_toArray, List.getElem_cons_succ, List.getElem_cons_zero, List.setIfInBounds_toArray, List.set_cons_zero, List.set_cons_succ]
        refine wpAnyH_ready (rs := [5]) (by kernel_rfl) (by simp) ?_
        refine AllReadyH.cons rfl (fun KK hK => ?_) AllReadyH.nil
        simp only [List.getElem_toArray, List.getElem_cons_succ, List.getElem_cons_zero]
        rw [if_pos (by rfl)]
        go_simp
        have kn := (Kept.refl 0 0 w10).alloc (.cells #[.slice none 0 0] 76)
        replace kw := kw.trans kn
        replace o5 := own_kept o5 kn
        replace qf0 := kn.loose0 (World.block_lt_of_cell? _ _ q0) qf0
        replace p0 := kn.cell0 p0
        replace t0 := kn.cell0 t0
        replace q0 := kn.cell0 q0
        replace K := hide ((unhide K).trans kn)
        have z12 := kn.size
        clear kn
        have szx : w10.heap.size < (w10.alloc (.cells #[.slice none 0 0] 76)).heap.size := by simp
        have x0 : (w10.alloc (.cells #[.slice none 0 0] 76)).cell? ⟨w10.heap.size, 0, none⟩ = some (.slice none 0 0) := new_cell2 _ _ _ _ _ _ rfl rfl
        have xf0 : (w10.alloc (.cells #[.slice none 0 0] 76)).frozen? ⟨w10.heap.size, 0, none⟩ = false := new_loose2 _ _ _ _ _ rfl
        clear hHeld
        refine hK.out _ _ ?_ (fun hHeld => ?_)
        · exact ⟨p0, t0⟩
        clear hK KK
        try simp only [Act.put, List.getElem_toArray, List.getElem_cons_succ, List.getElem_cons_zero, List.setIfInBounds_toArray, List.set_cons_zero, List.set_cons_succ]
        generalize w10.alloc (.cells #[.slice none 0 0] 76) = w11 at *
        have h5 : (Value.slice a5 zg.length c5).ownBlock ≠ some (w10.heap.size) := fun e => by have := l5 _ e; omega
        refine wpAnyH_ready (rs := [6]) (by kernel_rfl) (by simp) ?_
        refine AllReadyH.cons rfl (fun KK hK => ?_) AllReadyH.nil
        simp only [List.getElem_toArray, List.getElem_cons_succ, List.getElem_cons_zero]
        rw [if_pos (by rfl)]
        go_simp
        clear hHeld
        refine hK.out _ _ ?_ (fun hHeld => ?_)
        · exact ⟨cell_aside _ (by have := unhide S0; dsimp only; omega) p0, cell_aside _ (by have := unhide S0; dsimp only; omega) t0⟩
        clear hK KK
        try simp only [Act.put, List.getElem_toArray, List.getElem_cons_succ, List.getElem_cons_zero, List.setIfInBounds_toArray, List.set_cons_zero, List.set_cons_succ]
        refine wpAnyH_done (by kernel_rfl) ?_ _
        clear hHeld r1 r2
        have mX : Mod (fun i => i = w10.heap.size) w11 (w11.setCell ⟨w10.heap.size, 0, none⟩ (.slice a5 zg.length c5)) := Mod.set (S := fun i => i = w10.heap.size) (Mod.refl _ _) (p := ⟨w10.heap.size, 0, none⟩) (.inl rfl) _
        have nX : Num wd.heap.size (w11.setCell ⟨w10.heap.size, 0, none⟩ (.slice a5 zg.length c5)) w10.heap.size (.slice a5 zg.length c5) zg := ⟨cell_on _ _ _ _ _ x0, by rw [frozen_set]; exact xf0, own_apart o5 (p := ⟨w10.heap.size, 0, none⟩) h5 _, h5⟩
        have q0' := mX.cellAt (g := w.heap.size + 2) (o := 0) (fun e => by have := unhide S0; omega) q0
        have qf0' := mX.looseAt (g := w.heap.size + 2) (o := 0) (fun e => by have := unhide S0; omega) (World.block_lt_of_cell? _ _ q0) qf0
        replace K := hide ((unhide K0).trans (kw.mod mX (fun i e => by omega)))
        have zX := mX.size
        clear p0 t0 q0 qf0 x0 xf0 o5 mX kw K0 h5 o3 o4
        have q0 := q0'
        have qf0 := qf0'
        clear q0' qf0'
        go_wp2_with fail
        generalize w11.setCell ⟨w10.heap.size, 0, none⟩ (.slice a5 zg.length c5) = wx at *
        refine (told_impl _ nX).mono ?_
        rintro e w13 ⟨v3', rfl, r3, k13⟩
        replace nX := nX.kept k13
        replace qf0 := k13.loose0 (World.block_lt_of_cell? _ _ q0) qf0
        replace q0 := k13.cell0 q0
        replace K := hide ((unhide K).trans k13)
        have z14 := k13.size
        clear k13
        clear nX
        have tq : tell zg = zg := by unfold tell; rw [if_pos lg]
        rw [tq] at r3
        rw [decide_eq_true lg]
        clear tq
        obtain ⟨a3', c3', hv⟩ := Row.form' r3
        subst hv
        have kn := (Kept.refl 0 0 w13).alloc (.cells #[.slice a3' zg.length c3'] 26)
        have m0 : (w13.alloc (.cells #[.slice a3' zg.length c3'] 26)).cell? ⟨w13.heap.size, 0, none⟩ = some (.slice a3' zg.length c3') := new_cell2 _ _ _ _ _ _ (by simp) rfl
        have sz15 : w13.heap.size + 1 = (w13.alloc (.cells #[.slice a3' zg.length c3'] 26)).heap.size := by simp
        have SZ15 := hide sz15
        replace sz15 := Nat.le_of_eq sz15
        replace r3 := r3.kept kn (by omega)
        replace qf0 := kn.loose0 (World.block_lt_of_cell? _ _ q0) qf0
        replace q0 := kn.cell0 q0
        replace K := hide ((unhide K).trans kn)
        have z16 := kn.size
        clear kn
        go_wp2_with fail
        generalize (w13.alloc (.cells #[.slice a3' zg.length c3'] 26)) = wn17 at *
        have hm1 : w.heap.size + 3 ≤ wx.heap.size := by have := unhide S0; omega
        have R := hide (((r3.set_other (p := ⟨w.heap.size + 2, 0, none⟩) (.inl (by have := unhide S0; dsimp only; omega)) (.slice a3' zg.length c3'))).tight.wider (lo' := w.heap.size) (by have := unhide S0; omega) (Nat.le_refl _))
        have K7 := hide ((unhide K).setNew (p := ⟨w.heap.size + 2, 0, none⟩) (by simp) (.slice a3' zg.length c3'))
        clear r3 K
        go_wp2_with fail
        exact bodyPost_ret (v := .agg #[.slice a3' zg.length c3']) (by simp [results, Try.results40, go_sem, q0]) rfl ⟨_, rfl, by rw [unhide HZ]; exact unhide R, unhide K7⟩
      · simp only [List.getElem_toArray, List.getElem_cons_succ, List.getElem_cons_zero]
        rw [if_pos (by rfl)]
        go_simp
        have kn := (Kept.refl 0 0 w8).alloc (.cells #[.slice none 0 0] 76)
        replace r1 := r1.kept kn (by omega)
        replace r2 := r2.kept kn (by omega)
        replace kw := kw.trans kn
        replace o3 := own_kept o3 kn
        replace o4 := own_kept o4 kn
        replace qf0 := kn.loose0 (World.block_lt_of_cell? _ _ q0) qf0
        replace p0 := kn.cell0 p0
        replace t0 := kn.cell0 t0
        replace q0 := kn.cell0 q0
        replace K := hide ((unhide K).trans kn)
        have z11 := kn.size
        clear kn
        have szx : w8.heap.size < (w8.alloc (.cells #[.slice none 0 0] 76)).heap.size := by simp
        have x0 : (w8.alloc (.cells #[.slice none 0 0] 76)).cell? ⟨w8.heap.size, 0, none⟩ = some (.slice none 0 0) := new_cell2 _ _ _ _ _ _ rfl rfl
        have xf0 : (w8.alloc (.cells #[.slice none 0 0] 76)).frozen? ⟨w8.heap.size, 0, none⟩ = false := new_loose2 _ _ _ _ _ rfl
        clear hHeld
        refine hK.out _ _ ?_ (fun hHeld => ?_)
        · exact ⟨p0, t0⟩
        clear hK KK
        try simp only [Act.put, List.getElem_toArray, List.getElem_cons_succ, List.getElem_cons_zero, List.setIfInBounds_toArray, List.set_cons_zero, List.set_cons_succ]
        generalize w8.alloc (.cells #[.slice none 0 0] 76) = w10 at *
        refine wpAnyH_ready (rs := [4]) (by kernel_rfl) (by simp) ?_
        refine AllReadyH.cons rfl (fun KK hK => ?_) AllReadyH.nil
        simp only [List.getElem_toArray, List.getElem_cons_succ, List.getElem_cons_zero]
        rw [if_pos (by rfl)]
        have mk := commonDivisor_impl (w0 := wd) _ kw o3 o4 (by omega) (by omega) (fun k e1 e2 => by have := l3 _ e1; have := l4 _ e2; omega) hx hy (by omega) (by omega)
        rw [unhide EG] at mk
        refine wps2 103 (.tmp 18) (.tmp 20) _ rfl in_commonDivisor (.agg #[v3]) (.agg #[v4]) rfl rfl mk ?_
        rintro e w12 ⟨v5, rfl, o5, g5, m5⟩
        refine ⟨_, rfl, ?_⟩
        clear mk
        obtain ⟨a5, c5, hv⟩ := own_slice o5
        subst hv
        replace qf0 := m5.looseAt (g := w.heap.size + 2) (o := 0) (fun e => by have := unhide S0; rcases e with e | e <;> first | (have := l3 _ e; omega) | (have := l4 _ e; omega)) (World.block_lt_of_cell? _ _ q0) qf0
        replace xf0 := m5.looseAt (g := w8.heap.size) (o := 0) (fun e => by have := unhide S0; rcases e with e | e <;> first | (have := l3 _ e; omega) | (have := l4 _ e; omega)) (World.block_lt_of_cell? _ _ x0) xf0
        replace p0 := m5.cellAt (g := w.heap.size) (o := 0) (fun e => by have := unhide S0; rcases e with e | e <;> first | (have := l3 _ e; omega) | (have := l4 _ e; omega)) p0
        replace t0 := m5.cellAt (g := w.heap.size + 1) (o := 0) (fun e => by have := unhide S0; rcases e with e | e <;> first | (have := l3 _ e; omega) | (have := l4 _ e; omega)) t0
        replace q0 := m5.cellAt (g := w.heap.size + 2) (o := 0) (fun e => by have := unhide S0; rcases e with e | e <;> first | (have := l3 _ e; omega) | (have := l4 _ e; omega)) q0
        replace x0 := m5.cellAt (g := w8.heap.size) (o := 0) (fun e => by have := unhide S0; rcases e with e | e <;> first | (have := l3 _ e; omega) | (have := l4 _ e; omega)) x0
        replace r1 := r1
        have kw' := kw.mod m5 (fun i e => by rcases e with e | e <;> first | (have := l3 _ e; omega) | (have := l4 _ e; omega))
        clear kw
        have kw := kw'
        clear kw'
        have z12 := m5.size
        have h5 : (Value.slice a5 zg.length c5).ownBlock ≠ some (w8.heap.size) := fun e => by rcases g5 _ e with (h | h) | h <;> first | omega | (have := l3 _ h; omega) | (have := l4 _ h; omega)
        have l5 := o5.lt
        clear m5 g5 o3 o4 r1 r2
        have r1 : True := trivial
        have r2 : True := trivial
        have o3 : True := trivial
        have o4 : True := trivial
        replace K := hide ((unhide K0).trans kw)
        clear hHeld
        refine hK.out _ _ ?_ (fun hHeld => ?_)
        · exact ⟨p0, t0⟩
        clear hK KK
        try simp only [Act.put, List.getElem_toArray, List.getElem_cons_succ, List.getElem_cons_zero, List.setIfInBounds_toArray, List.set_cons_zero, List.set_cons_succ]
        refine wpAnyH_ready (rs := [6]) (by kernel_rfl) (by simp) ?_
        refine AllReadyH.cons rfl (fun KK hK => ?_) AllReadyH.nil
        simp only [List.getElem_toArray, List.getElem_cons_succ, List.getElem_cons_zero]
        rw [if_pos (by rfl)]
        go_simp
        clear hHeld
        refine hK.out _ _ ?_ (fun hHeld => ?_)
        · exact ⟨cell_aside _ (by have := unhide S0; dsimp only; omega) p0, cell_aside _ (by have := unhide S0; dsimp only; omega) t0⟩
        clear hK KK
        try simp only [Act.put, List.getElem_toArray, List.getElem_cons_succ, List.getElem_cons_zero, List.setIfInBounds_toArray, List.set_cons_zero, List.set_cons_succ]
        refine wpAnyH_done (by kernel_rfl) ?_ _
        clear hHeld r1 r2
        have mX : Mod (fun i => i = w8.heap.size) w12 (w12.setCell ⟨w8.heap.size, 0, none⟩ (.slice a5 zg.length c5)) := Mod.set (S := fun i => i = w8.heap.size) (Mod.refl _ _) (p := ⟨w8.heap.size, 0, none⟩) (.inl rfl) _
        have nX : Num wd.heap.size (w12.setCell ⟨w8.heap.size, 0, none⟩ (.slice a5 zg.length c5)) w8.heap.size (.slice a5 zg.length c5) zg := ⟨cell_on _ _ _ _ _ x0, by rw [frozen_set]; exact xf0, own_apart o5 (p := ⟨w8.heap.size, 0, none⟩) h5 _, h5⟩
        have q0' := mX.cellAt (g := w.heap.size + 2) (o := 0) (fun e => by have := unhide S0; omega) q0
        have qf0' := mX.looseAt (g := w.heap.size + 2) (o := 0) (fun e => by have := unhide S0; omega) (World.block_lt_of_cell? _ _ q0) qf0
        replace K := hide ((unhide K0).trans (kw.mod mX (fun i e => by omega)))
        have zX := mX.size
        clear p0 t0 q0 qf0 x0 xf0 o5 mX kw K0 h5 o3 o4
        have q0 := q0'
        have qf0 := qf0'
        clear q0' qf0'
        go_wp2_with fail
        generalize w12.setCell ⟨w8.heap.size, 0, none⟩ (.slice a5 zg.length c5) = wx at *
        refine (told_impl _ nX).mono ?_
        rintro e w13 ⟨v3', rfl, r3, k13⟩
        replace nX := nX.kept k13
        replace qf0 := k13.loose0 (World.block_lt_of_cell? _ _ q0) qf0
        replace q0 := k13.cell0 q0
        replace K := hide ((unhide K).trans k13)
        have z14 := k13.size
        clear k13
        clear nX
        have tq : tell zg = zg := by unfold tell; rw [if_pos lg]
        rw [tq] at r3
        rw [decide_eq_true lg]
        clear tq
        obtain ⟨a3', c3', hv⟩ := Row.form' r3
        subst hv
        have kn := (Kept.refl 0 0 w13).alloc (.cells #[.slice a3' zg.length c3'] 26)
        have m0 : (w13.alloc (.cells #[.slice a3' zg.length c3'] 26)).cell? ⟨w13.heap.size, 0, none⟩ = some (.slice a3' zg.length c3') := new_cell2 _ _ _ _ _ _ (by simp) rfl
        have sz15 : w13.heap.size + 1 = (w13.alloc (.cells #[.slice a3' zg.length c3'] 26)).heap.size := by simp
        have SZ15 := hide sz15
        replace sz15 := Nat.le_of_eq sz15
        replace r3 := r3.kept kn (by omega)
        replace qf0 := kn.loose0 (World.block_lt_of_cell? _ _ q0) qf0
        replace q0 := kn.cell0 q0
        replace K := hide ((unhide K).trans kn)
        have z16 := kn.size
        clear kn
        go_wp2_with fail
        generalize (w13.alloc (.cells #[.slice a3' zg.length c3'] 26)) = wn17 at *
        have hm1 : w.heap.size + 3 ≤ wx.heap.size := by have := unhide S0; omega
        have R := hide (((r3.set_other (p := ⟨w.heap.size + 2, 0, none⟩) (.inl (by have := unhide S0; dsimp only; omega)) (.slice a3' zg.length c3'))).tight.wider (lo' := w.heap.size) (by have := unhide S0; omega) (Nat.le_refl _))
        have K7 := hide ((unhide K).setNew (p := ⟨w.heap.size + 2, 0, none⟩) (by simp) (.slice a3' zg.length c3'))
        clear r3 K
        go_wp2_with fail
        exact bodyPost_ret (v := .agg #[.slice a3' zg.length c3']) (by simp [results, Try.results40, go_sem, q0]) rfl ⟨_, rfl, by rw [unhide HZ]; exact unhide R, unhide K7⟩
    · simp only [List.getElem_toArray, List.getElem_cons_succ, List.getElem_cons_zero]
      rw [if_pos (by rfl)]
      go_simp
      have kn := (Kept.refl 0 0 w6).alloc (.cells #[.slice none 0 0] 76)
      replace r1 := r1.kept kn (by omega)
      replace r2 := r2.kept kn (by omega)
      replace kw := kw.trans kn
      replace o3 := own_kept o3 kn
      replace qf0 := kn.loose0 (World.block_lt_of_cell? _ _ q0) qf0
      replace p0 := kn.cell0 p0
      replace t0 := kn.cell0 t0
      replace q0 := kn.cell0 q0
      replace K := hide ((unhide K).trans kn)
      have z9 := kn.size
      clear kn
      have szx : w6.heap.size < (w6.alloc (.cells #[.slice none 0 0] 76)).heap.size := by simp
      have x0 : (w6.alloc (.cells #[.slice none 0 0] 76)).cell? ⟨w6.heap.size, 0, none⟩ = some (.slice none 0 0) := new_cell2 _ _ _ _ _ _ rfl rfl
      have xf0 : (w6.alloc (.cells #[.slice none 0 0] 76)).frozen? ⟨w6.heap.size, 0, none⟩ = false := new_loose2 _ _ _ _ _ rfl
      clear hHeld
      refine hK.out _ _ ?_ (fun hHeld => ?_)
      · exact ⟨p0, t0⟩
      clear hK KK
      try simp only [Act.put, List.getElem_toArray, List.getElem_cons_succ, List.getElem_cons_zero, List.setIfInBounds_toArray, List.set_cons_zero, List.set_cons_succ]
      generalize w6.alloc (.cells #[.slice none 0 0] 76) = w8 at *
      refine wpAnyH_ready (rs := [3]) (by kernel_rfl) (by simp) ?_
      refine AllReadyH.cons rfl (fun KK hK => ?_) AllReadyH.nil
      simp only [List.getElem_toArray, List.getElem_cons_succ, List.getElem_cons_zero]
      rw [if_pos (by rfl)]
      refine wps1 87 (.tmp 19) _ rfl in_limbsOf' (.agg #[.slice a2 ys.length c2]) rfl (limbsOf_impl _ r2 my) ?_
      rintro e w10 ⟨v4, rfl, o4, k10⟩
      refine ⟨_, rfl, ?_⟩
      replace r1 := r1.kept k10 (by omega)
      replace r2 := r2.kept k10 (by omega)
      replace kw := kw.trans k10
      replace o3 := own_kept o3 k10
      replace qf0 := k10.loose0 (World.block_lt_of_cell? _ _ q0) qf0
      replace xf0 := k10.loose0 (World.block_lt_of_cell? _ _ x0) xf0
      replace p0 := k10.cell0 p0
      replace t0 := k10.cell0 t0
      replace q0 := k10.cell0 q0
      replace x0 := k10.cell0 x0
      replace K := hide ((unhide K).trans k10)
      have z11 := k10.size
      clear k10
      have l4 := o4.lt
      clear hHeld
      refine hK.out _ _ ?_ (fun hHeld => ?_)
      · exact ⟨p0, t0⟩
      clear hK KK
      try simp only [Act.put, List.getElem_toArray, List.getElem_cons_succ, List.getElem_cons_zero, List.setIfInBounds_toArray, List.set_cons_zero, List.set_cons_succ]
      refine wpAnyH_ready (rs := [4]) (by kernel_rfl) (by simp) ?_
      refine AllReadyH.cons rfl (fun KK hK => ?_) AllReadyH.nil
      simp only [List.getElem_toArray, List.getElem_cons_succ, List.getElem_cons_zero]
      rw [if_pos (by rfl)]
      have mk := commonDivisor_impl (w0 := wd) _ kw o3 o4 (by omega) (by omega) (fun k e1 e2 => by have := l3 _ e1; have := l4 _ e2; omega) hx hy (by omega) (by omega)
      rw [unhide EG] at mk
      refine wps2 103 (.tmp 18) (.tmp 20) _ rfl in_commonDivisor (.agg #[v3]) (.agg #[v4]) rfl rfl mk ?_
      rintro e w12 ⟨v5, rfl, o5, g5, m5⟩
      refine ⟨_, rfl, ?_⟩
      clear mk
      obtain ⟨a5, c5, hv⟩ := own_slice o5
      subst hv
      replace qf0 := m5.looseAt (g := w.heap.size + 2) (o := 0) (fun e => by have := unhide S0; rcases e with e | e <;> first | (have := l3 _ e; omega) | (have := l4 _ e; omega)) (World.block_lt_of_cell? _ _ q0) qf0
      replace xf0 := m5.looseAt (g := w6.heap.size) (o := 0) (fun e => by have := unhide S0; rcases e with e | e <;> first | (have := l3 _ e; omega) | (have := l4 _ e; omega)) (World.block_lt_of_cell? _ _ x0) xf0
      replace p0 := m5.cellAt (g := w.heap.size) (o := 0) (fun e => by have := unhide S0; rcases e with e | e <;> first | (have := l3 _ e; omega) | (have := l4 _ e; omega)) p0
      replace t0 := m5.cellAt (g := w.heap.size + 1) (o := 0) (fun e => by have := unhide S0; rcases e with e | e <;> first | (have := l3 _ e; omega) | (have := l4 _ e; omega)) t0
      replace q0 := m5.cellAt (g := w.heap.size + 2) (o := 0) (fun e => by have := unhide S0; rcases e with e | e <;> first | (have := l3 _ e; omega) | (have := l4 _ e; omega)) q0
      replace x0 := m5.cellAt (g := w6.heap.size) (o := 0) (fun e => by have := unhide S0; rcases e with e | e <;> first | (have := l3 _ e; omega) | (have := l4 _ e; omega)) x0
      replace r1 := r1
      have kw' := kw.mod m5 (fun i e => by rcases e with e | e <;> first | (have := l3 _ e; omega) | (have := l4 _ e; omega))
      clear kw
      have kw := kw'
      clear kw'
      have z12 := m5.size
      have h5 : (Value.slice a5 zg.length c5).ownBlock ≠ some (w6.heap.size) := fun e => by rcases g5 _ e with (h | h) | h <;> first | omega | (have := l3 _ h; omega) | (have := l4 _ h; omega)
      have l5 := o5.lt
      clear m5 g5 o3 o4 r1 r2
      have r1 : True := trivial
      have r2 : True := trivial
      have o3 : True := trivial
      have o4 : True := trivial
      replace K := hide ((unhide K0).trans kw)
      clear hHeld
      refine hK.out _ _ ?_ (fun hHeld => ?_)
      · exact ⟨p0, t0⟩
      clear hK KK
      try simp only [Act.put, List.getElem_toArray, List.getElem_cons_succ, List.getElem_cons_zero, List.setIfInBounds_toArray, List.set_cons_zero, List.set_cons_succ]
      refine wpAnyH_ready (rs := [6]) (by kernel_rfl) (by simp) ?_
      refine AllReadyH.cons rfl (fun KK hK => ?_) AllReadyH.nil
      simp only [List.getElem_toArray, List.getElem_cons_succ, List.getElem_cons_zero]
      rw [if_pos (by rfl)]
      go_simp
      clear hHeld
      refine hK.out _ _ ?_ (fun hHeld => ?_)
      · exact ⟨cell_aside _ (by have := unhide S0; dsimp only; omega) p0, cell_aside _ (by have := unhide S0; dsimp only; omega) t0⟩
      clear hK KK
      try simp only [Act.put, List.getElem_toArray, List.getElem_cons_succ, List.getElem_cons_zero, List.setIfInBounds_toArray, List.set_cons_zero, List.set_cons_succ]
      refine wpAnyH_done (by kernel_rfl) ?_ _
      clear hHeld r1 r2
      have mX : Mod (fun i => i = w6.heap.size) w12 (w12.setCell ⟨w6.heap.size, 0, none⟩ (.slice a5 zg.length c5)) := Mod.set (S := fun i => i = w6.heap.size) (Mod.refl _ _) (p := ⟨w6.heap.size, 0, none⟩) (.inl rfl) _
      have nX : Num wd.heap.size (w12.setCell ⟨w6.heap.size, 0, none⟩ (.slice a5 zg.length c5)) w6.heap.size (.slice a5 zg.length c5) zg := ⟨cell_on _ _ _ _ _ x0, by rw [frozen_set]; exact xf0, own_apart o5 (p := ⟨w6.heap.size, 0, none⟩) h5 _, h5⟩
      have q0' := mX.cellAt (g := w.heap.size + 2) (o := 0) (fun e => by have := unhide S0; omega) q0
      have qf0' := mX.looseAt (g := w.heap.size + 2) (o := 0) (fun e => by have := unhide S0; omega) (World.block_lt_of_cell? _ _ q0) qf0
      replace K := hide ((unhide K0).trans (kw.mod mX (fun i e => by omega)))
      have zX := mX.size
      clear p0 t0 q0 qf0 x0 xf0 o5 mX kw K0 h5 o3 o4
      have q0 := q0'
      have qf0 := qf0'
      clear q0' qf0'
      go_wp2_with fail
      generalize w12.setCell ⟨w6.heap.size, 0, none⟩ (.slice a5 zg.length c5) = wx at *
      refine (told_impl _ nX).mono ?_
      rintro e w13 ⟨v3', rfl, r3, k13⟩
      replace nX := nX.kept k13
      replace qf0 := k13.loose0 (World.block_lt_of_cell? _ _ q0) qf0
      replace q0 := k13.cell0 q0
      replace K := hide ((unhide K).trans k13)
      have z14 := k13.size
      clear k13
      clear nX
      have tq : tell zg = zg := by unfold tell; rw [if_pos lg]
      rw [tq] at r3
      rw [decide_eq_true lg]
      clear tq
      obtain ⟨a3', c3', hv⟩ := Row.form' r3
      subst hv
      have kn := (Kept.refl 0 0 w13).alloc (.cells #[.slice a3' zg.length c3'] 26)
      have m0 : (w13.alloc (.cells #[.slice a3' zg.length c3'] 26)).cell? ⟨w13.heap.size, 0, none⟩ = some (.slice a3' zg.length c3') := new_cell2 _ _ _ _ _ _ (by simp) rfl
      have sz15 : w13.heap.size + 1 = (w13.alloc (.cells #[.slice a3' zg.length c3'] 26)).heap.size := by simp
      have SZ15 := hide sz15
      replace sz15 := Nat.le_of_eq sz15
      replace r3 := r3.kept kn (by omega)
      replace qf0 := kn.loose0 (World.block_lt_of_cell? _ _ q0) qf0
      replace q0 := kn.cell0 q0
      replace K := hide ((unhide K).trans kn)
      have z16 := kn.size
      clear kn
      go_wp2_with fail
      generalize (w13.alloc (.cells #[.slice a3' zg.length c3'] 26)) = wn17 at *
      have hm1 : w.heap.size + 3 ≤ wx.heap.size := by have := unhide S0; omega
      have R := hide (((r3.set_other (p := ⟨w.heap.size + 2, 0, none⟩) (.inl (by have := unhide S0; dsimp only; omega)) (.slice a3' zg.length c3'))).tight.wider (lo' := w.heap.size) (by have := unhide S0; omega) (Nat.le_refl _))
      have K7 := hide ((unhide K).setNew (p := ⟨w.heap.size + 2, 0, none⟩) (by simp) (.slice a3' zg.length c3'))
      clear r3 K
      go_wp2_with fail
      exact bodyPost_ret (v := .agg #[.slice a3' zg.length c3']) (by simp [results, Try.results40, go_sem, q0]) rfl ⟨_, rfl, by rw [unhide HZ]; exact unhide R, unhide K7⟩
  · simp only [List.getElem_toArray, List.getElem_cons_succ, List.getElem_cons_zero]
    rw [if_pos (by rfl)]
    go_simp
    have kn := (Kept.refl 0 0 wd).alloc (.cells #[.slice none 0 0] 76)
    replace r1 := r1.kept kn (by omega)
    replace r2 := r2.kept kn (by omega)
    replace kw := kw.trans kn
    replace qf0 := kn.loose0 (World.block_lt_of_cell? _ _ q0) qf0
    replace p0 := kn.cell0 p0
    replace t0 := kn.cell0 t0
    replace q0 := kn.cell0 q0
    replace K := hide ((unhide K).trans kn)
    have z7 := kn.size
    clear kn
    have szx : wd.heap.size < (wd.alloc (.cells #[.slice none 0 0] 76)).heap.size := by simp
    have x0 : (wd.alloc (.cells #[.slice none 0 0] 76)).cell? ⟨wd.heap.size, 0, none⟩ = some (.slice none 0 0) := new_cell2 _ _ _ _ _ _ rfl rfl
    have xf0 : (wd.alloc (.cells #[.slice none 0 0] 76)).frozen? ⟨wd.heap.size, 0, none⟩ = false := new_loose2 _ _ _ _ _ rfl
    clear hHeld
    refine hK.out _ _ ?_ (fun hHeld => ?_)
    · exact ⟨p0, t0⟩
    clear hK KK
    try simp only [Act.put, List.getElem_toArray, List.getElem_cons_succ, List.getElem_cons_zero, List.setIfInBounds_toArray, List.set_cons_zero, List.set_cons_succ]
    generalize wd.alloc (.cells #[.slice none 0 0] 76) = w6 at *
    refine wpAnyH_ready (rs := [1]) (by kernel_rfl) (by simp) ?_
    refine AllReadyH.cons rfl (fun KK hK => ?_) AllReadyH.nil
    simp only [List.getElem_toArray, List.getElem_cons_succ, List.getElem_cons_zero]
    rw [if_pos (by rfl)]
    refine wps1 87 (.tmp 17) _ rfl in_limbsOf' (.agg #[.slice a1 xs.length c1]) rfl (limbsOf_impl _ r1 mx) ?_
    rintro e w8 ⟨v3, rfl, o3, k8⟩
    refine ⟨_, rfl, ?_⟩
    replace r1 := r1.kept k8 (by omega)
    replace r2 := r2.kept k8 (by omega)
    replace kw := kw.trans k8
    replace qf0 := k8.loose0 (World.block_lt_of_cell? _ _ q0) qf0
    replace xf0 := k8.loose0 (World.block_lt_of_cell? _ _ x0) xf0
    replace p0 := k8.cell0 p0
    replace t0 := k8.cell0 t0
    replace q0 := k8.cell0 q0
    replace x0 := k8.cell0 x0
    replace K := hide ((unhide K).trans k8)
    have z9 := k8.size
    clear k8
    have l3 := o3.lt
    clear hHeld
    refine hK.out _ _ ?_ (fun hHeld => ?_)
    · exact ⟨p0, t0⟩
    clear hK KK
    try simp only [Act.put, List.getElem_toArray, List.getElem_cons_succ, List.getElem_cons_zero, List.setIfInBounds_toArray, List.set_cons_zero, List.set_cons_succ]
    refine wpAnyH_ready (rs := [3]) (by kernel_rfl) (by simp) ?_
    refine AllReadyH.cons rfl (fun KK hK => ?_) AllReadyH.nil
    simp only [List.getElem_toArray, List.getElem_cons_succ, List.getElem_cons_zero]
    rw [if_pos (by rfl)]
    refine wps1 87 (.tmp 19) _ rfl in_limbsOf' (.agg #[.slice a2 ys.length c2]) rfl (limbsOf_impl _ r2 my) ?_
    rintro e w10 ⟨v4, rfl, o4, k10⟩
    refine ⟨_, rfl, ?_⟩
    replace r1 := r1.kept k10 (by omega)
    replace r2 := r2.kept k10 (by omega)
    replace kw := kw.trans k10
    replace o3 := own_kept o3 k10
    replace qf0 := k10.loose0 (World.block_lt_of_cell? _ _ q0) qf0
    replace xf0 := k10.loose0 (World.block_lt_of_cell? _ _ x0) xf0
    replace p0 := k10.cell0 p0
    replace t0 := k10.cell0 t0
    replace q0 := k10.cell0 q0
    replace x0 := k10.cell0 x0
    replace K := hide ((unhide K).trans k10)
    have z11 := k10.size
    clear k10
    have l4 := o4.lt
    clear hHeld
    refine hK.out _ _ ?_ (fun hHeld => ?_)
    · exact ⟨p0, t0⟩
    clear hK KK
    try simp only [Act.put, List.getElem_toArray, List.getElem_cons_succ, List.getElem_cons_zero, List.setIfInBounds_toArray, List.set_cons_zero, List.set_cons_succ]
    refine wpAnyH_ready (rs := [4]) (by kernel_rfl) (by simp) ?_
    refine AllReadyH.cons rfl (fun KK hK => ?_) AllReadyH.nil
    simp only [List.getElem_toArray, List.getElem_cons_succ, List.getElem_cons_zero]
    rw [if_pos (by rfl)]
    have mk := commonDivisor_impl (w0 := wd) _ kw o3 o4 (by omega) (by omega) (fun k e1 e2 => by have := l3 _ e1; have := l4 _ e2; omega) hx hy (by omega) (by omega)
    rw [unhide EG] at mk
    refine wps2 103 (.tmp 18) (.tmp 20) _ rfl in_commonDivisor (.agg #[v3]) (.agg #[v4]) rfl rfl mk ?_
    rintro e w12 ⟨v5, rfl, o5, g5, m5⟩
    refine ⟨_, rfl, ?_⟩
    clear mk
    obtain ⟨a5, c5, hv⟩ := own_slice o5
    subst hv
    replace qf0 := m5.looseAt (g := w.heap.size + 2) (o := 0) (fun e => by have := unhide S0; rcases e with e | e <;> first | (have := l3 _ e; omega) | (have := l4 _ e; omega)) (World.block_lt_of_cell? _ _ q0) qf0
    replace xf0 := m5.looseAt (g := wd.heap.size) (o := 0) (fun e => by have := unhide S0; rcases e with e | e <;> first | (have := l3 _ e; omega) | (have := l4 _ e; omega)) (World.block_lt_of_cell? _ _ x0) xf0
    replace p0 := m5.cellAt (g := w.heap.size) (o := 0) (fun e => by have := unhide S0; rcases e with e | e <;> first | (have := l3 _ e; omega) | (have := l4 _ e; omega)) p0
    replace t0 := m5.cellAt (g := w.heap.size + 1) (o := 0) (fun e => by have := unhide S0; rcases e with e | e <;> first | (have := l3 _ e; omega) | (have := l4 _ e; omega)) t0
    replace q0 := m5.cellAt (g := w.heap.size + 2) (o := 0) (fun e => by have := unhide S0; rcases e with e | e <;> first | (have := l3 _ e; omega) | (have := l4 _ e; omega)) q0
    replace x0 := m5.cellAt (g := wd.heap.size) (o := 0) (fun e => by have := unhide S0; rcases e with e | e <;> first | (have := l3 _ e; omega) | (have := l4 _ e; omega)) x0
    replace r1 := r1
    have kw' := kw.mod m5 (fun i e => by rcases e with e | e <;> first | (have := l3 _ e; omega) | (have := l4 _ e; omega))
    clear kw
    have kw := kw'
    clear kw'
    have z12 := m5.size
    have h5 : (Value.slice a5 zg.length c5).ownBlock ≠ some (wd.heap.size) := fun e => by rcases g5 _ e with (h | h) | h <;> first | omega | (have := l3 _ h; omega) | (have := l4 _ h; omega)
    have l5 := o5.lt
    clear m5 g5 o3 o4 r1 r2
    have r1 : True := trivial
    have r2 : True := trivial
    have o3 : True := trivial
    have o4 : True := trivial
    replace K := hide ((unhide K0).trans kw)
    clear hHeld
    refine hK.out _ _ ?_ (fun hHeld => ?_)
    · exact ⟨p0, t0⟩
    clear hK KK
    try simp only [Act.put, List.getElem_toArray, List.getElem_cons_succ, List.getElem_cons_zero, List.setIfInBounds_toArray, List.set_cons_zero, List.set_cons_succ]
    refine wpAnyH_ready (rs := [6]) (by kernel_rfl) (by simp) ?_
    refine AllReadyH.cons rfl (fun KK hK => ?_) AllReadyH.nil
    simp only [List.getElem_toArray, List.getElem_cons_succ, List.getElem_cons_zero]
    rw [if_pos (by rfl)]
    go_simp
    clear hHeld
    refine hK.out _ _ ?_ (fun hHeld => ?_)
    · exact ⟨cell_aside _ (by have := unhide S0; dsimp only; omega) p0, cell_aside _ (by have := unhide S0; dsimp only; omega) t0⟩
    clear hK KK
    try simp only [Act.put, List.getElem_toArray, List.getElem_cons_succ, List.getElem_cons_zero, List.setIfInBounds_toArray, List.set_cons_zero, List.set_cons_succ]
    refine wpAnyH_done (by kernel_rfl) ?_ _
    clear hHeld r1 r2
    have mX : Mod (fun i => i = wd.heap.size) w12 (w12.setCell ⟨wd.heap.size, 0, none⟩ (.slice a5 zg.length c5)) := Mod.set (S := fun i => i = wd.heap.size) (Mod.refl _ _) (p := ⟨wd.heap.size, 0, none⟩) (.inl rfl) _
    have nX : Num wd.heap.size (w12.setCell ⟨wd.heap.size, 0, none⟩ (.slice a5 zg.length c5)) wd.heap.size (.slice a5 zg.length c5) zg := ⟨cell_on _ _ _ _ _ x0, by rw [frozen_set]; exact xf0, own_apart o5 (p := ⟨wd.heap.size, 0, none⟩) h5 _, h5⟩
    have q0' := mX.cellAt (g := w.heap.size + 2) (o := 0) (fun e => by have := unhide S0; omega) q0
    have qf0' := mX.looseAt (g := w.heap.size + 2) (o := 0) (fun e => by have := unhide S0; omega) (World.block_lt_of_cell? _ _ q0) qf0
    replace K := hide ((unhide K0).trans (kw.mod mX (fun i e => by omega)))
    have zX := mX.size
    clear p0 t0 q0 qf0 x0 xf0 o5 mX kw K0 h5 o3 o4
    have q0 := q0'
    have qf0 := qf0'
    clear q0' qf0'
    go_wp2_with fail
    generalize w12.setCell ⟨wd.heap.size, 0, none⟩ (.slice a5 zg.length c5) = wx at *
    refine (told_impl _ nX).mono ?_
    rintro e w13 ⟨v3', rfl, r3, k13⟩
    replace nX := nX.kept k13
    replace qf0 := k13.loose0 (World.block_lt_of_cell? _ _ q0) qf0
    replace q0 := k13.cell0 q0
    replace K := hide ((unhide K).trans k13)
    have z14 := k13.size
    clear k13
    clear nX
    have tq : tell zg = zg := by unfold tell; rw [if_pos lg]
    rw [tq] at r3
    rw [decide_eq_true lg]
    clear tq
    obtain ⟨a3', c3', hv⟩ := Row.form' r3
    subst hv
    have kn := (Kept.refl 0 0 w13).alloc (.cells #[.slice a3' zg.length c3'] 26)
    have m0 : (w13.alloc (.cells #[.slice a3' zg.length c3'] 26)).cell? ⟨w13.heap.size, 0, none⟩ = some (.slice a3' zg.length c3') := new_cell2 _ _ _ _ _ _ (by simp) rfl
    have sz15 : w13.heap.size + 1 = (w13.alloc (.cells #[.slice a3' zg.length c3'] 26)).heap.size := by simp
    have SZ15 := hide sz15
    replace sz15 := Nat.le_of_eq sz15
    replace r3 := r3.kept kn (by omega)
    replace qf0 := kn.loose0 (World.block_lt_of_cell? _ _ q0) qf0
    replace q0 := kn.cell0 q0
    replace K := hide ((unhide K).trans kn)
    have z16 := kn.size
    clear kn
    go_wp2_with fail
    generalize (w13.alloc (.cells #[.slice a3' zg.length c3'] 26)) = wn17 at *
    have hm1 : w.heap.size + 3 ≤ wx.heap.size := by have := unhide S0; omega
    have R := hide (((r3.set_other (p := ⟨w.heap.size + 2, 0, none⟩) (.inl (by have := unhide S0; dsimp only; omega)) (.slice a3' zg.length c3'))).tight.wider (lo' := w.heap.size) (by have := unhide S0; omega) (Nat.le_refl _))
    have K7 := hide ((unhide K).setNew (p := ⟨w.heap.size + 2, 0, none⟩) (by simp) (.slice a3' zg.length c3'))
    clear r3 K
    go_wp2_with fail
    exact bodyPost_ret (v := .agg #[.slice a3' zg.length c3']) (by simp [results, Try.results40, go_sem, q0]) rfl ⟨_, rfl, by rw [unhide HZ]; exact unhide R, unhide K7⟩

end Go.Proofs.Ytdhponfpikclhaa
