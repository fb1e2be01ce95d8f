/-
  The contracts of the program's WholeNeg and WholeOf.
-/
import Derived.Test.YthglchilgjcloaaDoorIWh3
namespace Go.Proofs.YthglchilgjcloaaDoor
open Go.RowKit
set_option linter.unusedVariables false
set_option maxRecDepth 8000
set_option linter.unusedSimpArgs false

theorem wlm_small (n : Int) (hn1 : n ≤ 9223372036854775807) (hn0 : -9223372036854775808 ≤ n) : (wlm n).length ≤ 100 := by
  have h := (limbs_length_le n.natAbs 4).2 (by
    have : (65536 : Int) ^ 4 = 18446744073709551616 := by decide
    omega)
  unfold wlm; omega
/-- A number with a sign in a new block. -/
theorem new_sig {w : World} {b : Nat} {u : Value} {xs : List Int} (s : Bool) (t : TypeId) (O : w.ownsRow b 3 1 u xs.length (xs.map (Value.int .i64))) :
    Num b (w.alloc (.cells #[u, .bool s] t)) w.heap.size u xs ∧ Sd (w.alloc (.cells #[u, .bool s] t)) w.heap.size s :=
  ⟨⟨new_cell2 _ _ _ _ _ _ rfl rfl, new_loose2 _ _ _ _ _ rfl, own_kept O ((Kept.refl 0 0 w).alloc _), fun e => by have := (O.lt _ e).2; omega⟩, new_cell2 _ _ _ _ _ _ rfl rfl, new_loose2 _ _ _ _ _ rfl⟩
theorem told_int {s : Bool} {x : Int} {zs : List Int} (hn : Nrm zs) (he : wval s zs = x) (hl : zs.length ≤ 100) :
    (decide (zs.length ≤ 100) && (s && decide (0 < zs.length))) = wsg x ∧ decide (zs.length ≤ 100) = true ∧ tell zs = wlm x := by
  have e1 : wlm x = zs := by rw [← he, wlm_wval s hn.1, ← nrm_limbs hn]
  have e2 : wsg x = (s && decide (0 < zs.length)) := by
    have := wsg_wval s (val zs).toNat
    rw [← nrm_limbs hn, he] at this
    exact this
  rw [e1, e2, decide_eq_true hl]
  exact ⟨rfl, rfl, by unfold tell; rw [if_pos hl]⟩

set_option maxHeartbeats 2000000 in
theorem wOf_impl (n : Int) (hn1 : n ≤ 9223372036854775807) (hn0 : -9223372036854775808 ≤ n) (w : World) :
    Calls Tryd.prog 16 #[.int .i64 n] w fun e w' => ∃ v', e = .returned (.agg #[.bool (wsg n), v']) ∧ Row .i64 true w.heap.size w'.heap.size w' v' (wlm n) ∧ Kept 0 0 w w' := by
  obtain ⟨zz, hzz⟩ : ∃ zz, zz = wlm n := ⟨_, rfl⟩
  obtain ⟨ss, hss⟩ : ∃ ss, ss = wsg n := ⟨_, rfl⟩
  rw [← hzz, ← hss]
  have HZ := hide hzz
  have HS := hide hss
  clear hzz hss
  have k0 : Kept 0 0 w (w.alloc (.cells #[.bool false, .slice none 0 0] 27)) := ((Kept.refl 0 0 w).alloc (.cells #[.bool false, .slice none 0 0] 27))
  have q0 : (w.alloc (.cells #[.bool false, .slice none 0 0] 27)).cell? ⟨w.heap.size, 0, none⟩ = some (.bool false) := new_cell2 _ _ _ _ _ _ (by simp) rfl
  have qf0 : (w.alloc (.cells #[.bool false, .slice none 0 0] 27)).frozen? ⟨w.heap.size, 0, none⟩ = false := new_loose2 _ _ _ _ _ (by simp)
  have q1 : (w.alloc (.cells #[.bool false, .slice none 0 0] 27)).cell? ⟨w.heap.size, 1, none⟩ = some (.slice none 0 0) := new_cell2 _ _ _ _ _ _ (by simp) rfl
  have qf1 : (w.alloc (.cells #[.bool false, .slice none 0 0] 27)).frozen? ⟨w.heap.size, 1, none⟩ = false := new_loose2 _ _ _ _ _ (by simp)
  have s0 : (w.alloc (.cells #[.bool false, .slice none 0 0] 27)).heap.size = w.heap.size + 1 := by simp
  have K := hide (k0)
  clear k0
  have S0 := hide s0
  clear s0
  go_enter Tryd.func16, Tryd.ntmps16
  go_wp2_with fail
  generalize (w.alloc (.cells #[.bool false, .slice none 0 0] 27)) = W at *
  have mk := signedOfInt_impl n hn1 hn0 W
  have hl := wlm_small n hn1 hn0
  have hz := wlm_nrm n
  have he := wval_int n
  generalize wlm n = zs at mk hl hz he
  generalize wsg n = sx at mk he
  refine (mk).mono ?_
  rintro e w1 ⟨v3, rfl, o3, k1⟩
  replace qf0 := k1.loose0 (World.block_lt_of_cell? _ _ q0) qf0
  replace qf1 := k1.loose0 (World.block_lt_of_cell? _ _ q1) qf1
  replace q0 := k1.cell0 q0
  replace q1 := k1.cell0 q1
  replace K := hide ((unhide K).trans k1)
  have z2 := k1.size
  clear k1
  clear mk
  obtain ⟨a3, c3, hv⟩ := own_slice o3
  subst hv
  obtain ⟨n3, d3⟩ := new_sig sx 46 o3
  have kn := (Kept.refl 0 0 w1).alloc (.cells #[.slice a3 zs.length c3, .bool sx] 46)
  replace qf0 := kn.loose0 (World.block_lt_of_cell? _ _ q0) qf0
  replace qf1 := kn.loose0 (World.block_lt_of_cell? _ _ q1) qf1
  replace q0 := kn.cell0 q0
  replace q1 := kn.cell0 q1
  replace K := hide ((unhide K).trans kn)
  have z3 := kn.size
  clear kn o3
  go_wp2_with fail
  generalize w1.alloc (.cells #[.slice a3 zs.length c3, .bool sx] 46) = W4 at *
  refine (toldSigned_impl _ n3 d3).mono ?_
  rintro e w4 ⟨v7, rfl, r7, k4⟩
  replace n3 := n3.kept k4
  replace d3 := d3.kept k4
  replace qf0 := k4.loose0 (World.block_lt_of_cell? _ _ q0) qf0
  replace qf1 := k4.loose0 (World.block_lt_of_cell? _ _ q1) qf1
  replace q0 := k4.cell0 q0
  replace q1 := k4.cell0 q1
  replace K := hide ((unhide K).trans k4)
  have z5 := k4.size
  clear k4
  obtain ⟨hs7, hb7, hl7⟩ := told_int hz he hl
  rw [hl7] at r7
  rw [hs7, hb7]
  clear hs7 hb7 hl7 n3 d3 hz he
  rw [← unhide HZ] at r7
  rw [← unhide HS]
  obtain ⟨a7, c7, hv⟩ := Row.form' r7
  subst hv
  have kn := (Kept.refl 0 0 w4).alloc (.cells #[.bool ss, .slice a7 zz.length c7] 27)
  have y0 : (w4.alloc (.cells #[.bool ss, .slice a7 zz.length c7] 27)).cell? ⟨w4.heap.size, 0, none⟩ = some (.bool ss) := new_cell2 _ _ _ _ _ _ rfl rfl
  have y1 : (w4.alloc (.cells #[.bool ss, .slice a7 zz.length c7] 27)).cell? ⟨w4.heap.size, 1, none⟩ = some (.slice a7 zz.length c7) := new_cell2 _ _ _ _ _ _ rfl rfl
  have hX1 : w4.heap.size ≠ w.heap.size := by have := unhide S0; omega
  have hX2 : w.heap.size ≠ w4.heap.size := by have := unhide S0; omega
  replace r7 := r7.kept kn (by omega)
  replace qf0 := kn.loose0 (World.block_lt_of_cell? _ _ q0) qf0
  replace qf1 := kn.loose0 (World.block_lt_of_cell? _ _ q1) qf1
  replace q0 := kn.cell0 q0
  replace q1 := kn.cell0 q1
  replace K := hide ((unhide K).trans kn)
  have z6 := kn.size
  clear kn
  have bX : w.heap.size < (w4.alloc (.cells #[.bool ss, .slice a7 zz.length c7] 27)).heap.size := World.block_lt_of_cell? _ _ q0
  have R := hide (((r7.set_other (p := ⟨w.heap.size, 0, none⟩) (.inl (by have := unhide S0; dsimp only; omega)) (.bool ss)).set_other (p := ⟨w.heap.size, 1, none⟩) (.inl (by have := unhide S0; dsimp only; omega)) (.slice a7 zz.length c7)).tight.wider (lo' := w.heap.size) (by have := unhide S0; omega) (Nat.le_refl _))
  have K7 := hide (((unhide K).setNew (p := ⟨w.heap.size, 0, none⟩) (by simp) (.bool ss)).setNew (p := ⟨w.heap.size, 1, none⟩) (by simp) (.slice a7 zz.length c7))
  clear r7 K
  go_wp2_with fail
  exact bodyPost_ret (v := .agg #[.bool ss, .slice a7 zz.length c7]) (by simp [results, Tryd.results16, go_sem, q0, q1]) rfl ⟨_, rfl, unhide R, unhide K7⟩

end Go.Proofs.YthglchilgjcloaaDoor
