/-
  The contract of the program's NatRoot.
-/
import Derived.Test.YtdhponfpikclhaaRoot2
import Derived.Deep.DeepCutAuto
namespace Go.Proofs.Ytdhponfpikclhaa
open Go.RowKit
set_option linter.unusedVariables false
set_option maxRecDepth 8000
set_option linter.unusedSimpArgs false

set_option maxHeartbeats 4000000 in
theorem natRoot_impl {b1 : Bool} {l1 h1 : Nat} {v1 : Value} {xs : List Int} (w : World) (r1 : Row .i64 b1 l1 h1 w v1 xs) :
    Calls Try.prog 37 #[.agg #[v1]] w fun e w' => ∃ v', e = .returned (.agg #[v']) ∧ Row .i64 true w.heap.size w'.heap.size w' v' (rootL xs) ∧ Kept 0 0 w w' := by
  have k0 : Kept 0 0 w ((w.alloc (.cells #[v1] 26)).alloc (.cells #[.slice none 0 0] 26)) := (((Kept.refl 0 0 w).alloc (.cells #[v1] 26)).alloc (.cells #[.slice none 0 0] 26))
  have p0 : ((w.alloc (.cells #[v1] 26)).alloc (.cells #[.slice none 0 0] 26)).cell? ⟨w.heap.size, 0, none⟩ = some (v1) := old_cell _ (new_cell2 _ _ _ _ _ _ (by simp) rfl)
  have q0 : ((w.alloc (.cells #[v1] 26)).alloc (.cells #[.slice none 0 0] 26)).cell? ⟨w.heap.size + 1, 0, none⟩ = some (.slice none 0 0) := new_cell2 _ _ _ _ _ _ (by simp) rfl
  have qf0 : ((w.alloc (.cells #[v1] 26)).alloc (.cells #[.slice none 0 0] 26)).frozen? ⟨w.heap.size + 1, 0, none⟩ = false := new_loose2 _ _ _ _ _ (by simp)
  replace r1 := r1.kept k0 (by omega)
  have s0 : ((w.alloc (.cells #[v1] 26)).alloc (.cells #[.slice none 0 0] 26)).heap.size = w.heap.size + 2 := by simp
  obtain ⟨a1, c1, hv⟩ := Row.form' r1
  subst hv
  have K := hide (k0)
  clear k0
  have S0 := hide s0
  clear s0
  go_enter Try.func37, Try.ntmps37
  go_wp2_with fail
  generalize ((w.alloc (.cells #[.slice a1 xs.length c1] 26)).alloc (.cells #[.slice none 0 0] 26)) = W at *
  refine (ok_impl _ r1).mono ?_
  rintro e w1 ⟨rfl, k1⟩
  replace r1 := r1.kept k1 (by omega)
  replace qf0 := k1.loose0 (World.block_lt_of_cell? _ _ q0) qf0
  replace p0 := k1.cell0 p0
  replace q0 := k1.cell0 q0
  replace K := hide ((unhide K).trans k1)
  have z2 := k1.size
  clear k1
  cases ho1 : okB xs
  · have e0 := hide ho1
    clear ho1
    have K' := hide ((unhide K).setNew (p := ⟨w.heap.size + 1, 0, none⟩) (by simp) (.slice none 0 0))
    clear r1 K
    go_wp2_with fail
    exact bodyPost_ret (v := .agg #[.slice none 0 0]) (by simp [results, Try.results37, go_sem, q0]) rfl ⟨_, rfl, by rw [rootL_no (unhide e0)]; exact Row.nil _ _ _ _ _, unhide K'⟩
  have HO1 := hide ho1
  clear ho1
  obtain ⟨lx, hx⟩ := (okB_iff xs).1 (unhide HO1)
  obtain ⟨zg, hzg⟩ : ∃ z, rootL xs = z := ⟨_, rfl⟩
  have lg := rootL_len xs
  rw [hzg] at lg
  have EG : Hid (limbs (rootN (val xs).toNat) = zg) := by show _ = _; rw [← hzg, rootL_yes (unhide HO1)]
  have HZ := hide hzg
  clear hzg
  go_wp2_with fail
  have mk := limbsOf_impl w1 r1 (by omega)
  refine (mk).mono ?_
  rintro e w3 ⟨v3, rfl, o3, k3⟩
  replace r1 := r1.kept k3 (by omega)
  replace qf0 := k3.loose0 (World.block_lt_of_cell? _ _ q0) qf0
  replace p0 := k3.cell0 p0
  replace q0 := k3.cell0 q0
  replace K := hide ((unhide K).trans k3)
  have z4 := k3.size
  clear k3
  clear mk
  obtain ⟨a3, c3, hv⟩ := own_slice o3
  subst hv
  have n3 := Num.new 76 o3
  clear o3
  clear r1
  have kn := (Kept.refl 0 0 w3).alloc (.cells #[.slice a3 xs.length c3] 76)
  have j0 : (w3.alloc (.cells #[.slice a3 xs.length c3] 76)).cell? ⟨w3.heap.size, 0, none⟩ = some (.slice a3 xs.length c3) := new_cell2 _ _ _ _ _ _ (by simp) rfl
  have sz5 : w3.heap.size + 1 = (w3.alloc (.cells #[.slice a3 xs.length c3] 76)).heap.size := by simp
  have SZ5 := hide sz5
  replace sz5 := Nat.le_of_eq sz5
  replace qf0 := kn.loose0 (World.block_lt_of_cell? _ _ q0) qf0
  replace p0 := kn.cell0 p0
  replace q0 := kn.cell0 q0
  replace K := hide ((unhide K).trans kn)
  have z6 := kn.size
  clear kn
  clear j0
  go_wp2_with fail
  generalize (w3.alloc (.cells #[.slice a3 xs.length c3] 76)) = wn7 at *
  have mk := root_impl wn7 n3 hx lx
  rw [unhide EG] at mk
  refine (mk).mono ?_
  rintro e w8 ⟨v4, rfl, o4, k8⟩
  replace n3 := n3.kept k8
  replace qf0 := k8.loose0 (World.block_lt_of_cell? _ _ q0) qf0
  replace p0 := k8.cell0 p0
  replace q0 := k8.cell0 q0
  replace K := hide ((unhide K).trans k8)
  have z9 := k8.size
  clear k8
  clear mk n3
  obtain ⟨a4, c4, hv⟩ := own_slice o4
  subst hv
  have n4 := Num.new 76 o4
  clear o4
  have kn := (Kept.refl 0 0 w8).alloc (.cells #[.slice a4 zg.length c4] 76)
  have l0 : (w8.alloc (.cells #[.slice a4 zg.length c4] 76)).cell? ⟨w8.heap.size, 0, none⟩ = some (.slice a4 zg.length c4) := new_cell2 _ _ _ _ _ _ (by simp) rfl
  have sz10 : w8.heap.size + 1 = (w8.alloc (.cells #[.slice a4 zg.length c4] 76)).heap.size := by simp
  have SZ10 := hide sz10
  replace sz10 := Nat.le_of_eq sz10
  replace qf0 := kn.loose0 (World.block_lt_of_cell? _ _ q0) qf0
  replace p0 := kn.cell0 p0
  replace q0 := kn.cell0 q0
  replace K := hide ((unhide K).trans kn)
  have z11 := kn.size
  clear kn
  clear l0
  go_wp2_with fail
  generalize (w8.alloc (.cells #[.slice a4 zg.length c4] 76)) = wn12 at *
  refine (told_impl _ n4).mono ?_
  rintro e w13 ⟨v5, rfl, r5, k13⟩
  replace n4 := n4.kept k13
  replace qf0 := k13.loose0 (World.block_lt_of_cell? _ _ q0) qf0
  replace p0 := k13.cell0 p0
  replace q0 := k13.cell0 q0
  replace K := hide ((unhide K).trans k13)
  have z14 := k13.size
  clear k13
  clear n4
  have tq : tell zg = zg := by unfold tell; rw [if_pos lg]
  rw [tq] at r5
  rw [decide_eq_true lg]
  clear tq
  obtain ⟨a5, c5, hv⟩ := Row.form' r5
  subst hv
  have kn := (Kept.refl 0 0 w13).alloc (.cells #[.slice a5 zg.length c5] 26)
  have m0 : (w13.alloc (.cells #[.slice a5 zg.length c5] 26)).cell? ⟨w13.heap.size, 0, none⟩ = some (.slice a5 zg.length c5) := new_cell2 _ _ _ _ _ _ (by simp) rfl
  have sz15 : w13.heap.size + 1 = (w13.alloc (.cells #[.slice a5 zg.length c5] 26)).heap.size := by simp
  have SZ15 := hide sz15
  replace sz15 := Nat.le_of_eq sz15
  replace r5 := r5.kept kn (by omega)
  replace qf0 := kn.loose0 (World.block_lt_of_cell? _ _ q0) qf0
  replace p0 := kn.cell0 p0
  replace q0 := kn.cell0 q0
  replace K := hide ((unhide K).trans kn)
  have z16 := kn.size
  clear kn
  go_wp2_with fail
  generalize (w13.alloc (.cells #[.slice a5 zg.length c5] 26)) = wn17 at *
  have R := hide (((r5.set_other (p := ⟨w.heap.size + 1, 0, none⟩) (.inl (by have := unhide S0; dsimp only; omega)) (.slice a5 zg.length c5))).tight.wider (lo' := w.heap.size) (by have := unhide S0; omega) (Nat.le_refl _))
  have K7 := hide ((unhide K).setNew (p := ⟨w.heap.size + 1, 0, none⟩) (by simp) (.slice a5 zg.length c5))
  clear r5 K
  go_wp2_with fail
  exact bodyPost_ret (v := .agg #[.slice a5 zg.length c5]) (by simp [results, Try.results37, go_sem, q0]) rfl ⟨_, rfl, by rw [unhide HZ]; exact unhide R, unhide K7⟩

end Go.Proofs.Ytdhponfpikclhaa
