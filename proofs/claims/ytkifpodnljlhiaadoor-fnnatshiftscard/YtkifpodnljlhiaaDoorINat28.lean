/-
  Contracts of NatPow, the model's and the program's.
-/
import Derived.Test.YtkifpodnljlhiaaDoorINat27
import Derived.Test.YtkifpodnljlhiaaDoorBG
import Derived.Test.YtkifpodnljlhiaaDoorBN
import Derived.Test.YtkifpodnljlhiaaDoorBF
namespace Go.Proofs.YtkifpodnljlhiaaDoor
open Go.RowKit
set_option linter.unusedVariables false
set_option maxRecDepth 8000
set_option linter.unusedSimpArgs false

/-- May a power be reckoned? -/
def powOk (xs : List Int) (k : Int) : Bool := okB xs && decide (0 ≤ k) && decide (k ≤ 1600)
theorem powOk_bad {xs : List Int} {k : Int} (h : okB xs = false) : powOk xs k = false := by unfold powOk; rw [h]; rfl
theorem powOk_neg {xs : List Int} {k : Int} (h : k < 0) : powOk xs k = false := by unfold powOk; rw [decide_eq_false (show ¬ 0 ≤ k by omega), Bool.and_false]; rfl
theorem powOk_big {xs : List Int} {k : Int} (h : 1600 < k) : powOk xs k = false := by unfold powOk; rw [decide_eq_false (show ¬ k ≤ 1600 by omega), Bool.and_false]
theorem powOk_yes {xs : List Int} {k : Int} (h : okB xs = true) (h0 : 0 ≤ k) (h1 : k ≤ 1600) : powOk xs k = true := by unfold powOk; rw [h, decide_eq_true h0, decide_eq_true h1]; rfl
theorem okB_bits {xs : List Int} (h : okB xs = true) : bitsN (val xs).toNat ≤ 1600 := by
  have h1 := (okB_iff xs).1 h
  refine (bitsN_le _ _).2 ?_
  have := (limbs_len_two (val xs).toNat 100).1 (by rw [← nrm_limbs h1.2]; exact h1.1)
  obtain ⟨E, hE⟩ : ∃ E : Nat, E = 16 * 100 := ⟨_, rfl⟩
  rw [← hE] at this
  rw [show (1600 : Nat) = E by omega]
  exact this

set_option maxHeartbeats 4000000 in
theorem natPow_impl {b1 : Bool} {l1 h1 : Nat} {v1 : Value} {xs : List Int} (w : World) (r1 : Row .i64 b1 l1 h1 w v1 xs) (k : Int) (hk1 : k ≤ 9223372036854775807) (hk0 : -9223372036854775808 ≤ k) :
    Calls Tryd.prog 10 #[.agg #[v1], .int .i64 k] w fun e w' => ∃ v', e = .returned (.tuple #[.agg #[v'], .bool (ansB (powOk xs k) ((val xs).toNat ^ k.toNat))]) ∧ Row .i64 true w.heap.size w'.heap.size w' v' (ansL (powOk xs k) ((val xs).toNat ^ k.toNat)) ∧ Kept 0 0 w w' := by
  have k0 := ((Kept.refl 0 0 w).alloc (.cells #[v1] 25)).alloc (.cells #[.slice none 0 0] 25)
  have q1 := r1.kept k0 (by omega)
  have c1 : ((w.alloc (.cells #[v1] 25)).alloc (.cells #[.slice none 0 0] 25)).cell? ⟨w.heap.size, 0, none⟩ = some v1 := old_cell _ (new_cell_at _ _ _ _ rfl)
  have c3 : ((w.alloc (.cells #[v1] 25)).alloc (.cells #[.slice none 0 0] 25)).cell? ⟨w.heap.size + 1, 0, none⟩ = some (.slice none 0 0) := new_cell_at _ _ _ _ (by simp)
  have f3 : ((w.alloc (.cells #[v1] 25)).alloc (.cells #[.slice none 0 0] 25)).frozen? ⟨w.heap.size + 1, 0, none⟩ = false := new_loose _ _ _ _ (by simp)
  obtain ⟨a1, d1, rfl⟩ := Row.form' r1
  clear r1
  go_enter Tryd.func10, Tryd.ntmps10
  go_wp2_with fail
  generalize (w.alloc (.cells #[.slice a1 xs.length d1] 25)).alloc (.cells #[.slice none 0 0] 25) = W at *
  refine (ok_impl _ q1).mono ?_
  rintro e w1 ⟨rfl, k1⟩
  replace f3 := k1.loose0 (World.block_lt_of_cell? _ _ c3) f3
  replace c3 := k1.cell0 c3
  replace c1 := k1.cell0 c1
  replace q1 := q1.kept k1 (by omega)
  have K := hide (k0.trans k1)
  clear k0 k1
  cases hok1 : okB xs
  · have HK := hide hok1
    clear q1 hok1
    have E0 := hide (powOk_bad (k := k) (unhide HK))
    have K' := hide ((unhide K).setNew (p := ⟨w.heap.size + 1, 0, none⟩) (by simp) (.slice none 0 0))
    go_wp2_with fail
    exact bodyPost_ret (v := .tuple #[.agg #[.slice none 0 0], .bool false]) (by simp [results, Tryd.results10, go_sem, c3]) rfl ⟨_, by rw [ansB_no (unhide E0)], by rw [ansL_no (unhide E0)]; exact Row.nil _ _ _ _ _, unhide K'⟩
  have HK1 := hide hok1
  clear hok1
  have hn1 := ((okB_iff xs).1 (unhide HK1)).2
  have hl0 := ((okB_iff xs).1 (unhide HK1)).1
  have hl1 : xs.length ≤ 100000 := by omega
  by_cases hneg : k < 0
  · clear q1
    have E0 := hide (powOk_neg (xs := xs) hneg)
    have K' := hide ((unhide K).setNew (p := ⟨w.heap.size + 1, 0, none⟩) (by simp) (.slice none 0 0))
    go_wp2_with fail
    exact bodyPost_ret (v := .tuple #[.agg #[.slice none 0 0], .bool false]) (by simp [results, Tryd.results10, go_sem, c3]) rfl ⟨_, by rw [ansB_no (unhide E0)], by rw [ansL_no (unhide E0)]; exact Row.nil _ _ _ _ _, unhide K'⟩
  by_cases hbig : 1600 < k
  · clear q1
    have E0 := hide (powOk_big (xs := xs) hbig)
    have K' := hide ((unhide K).setNew (p := ⟨w.heap.size + 1, 0, none⟩) (by simp) (.slice none 0 0))
    go_wp2_with fail
    exact bodyPost_ret (v := .tuple #[.agg #[.slice none 0 0], .bool false]) (by simp [results, Tryd.results10, go_sem, c3]) rfl ⟨_, by rw [ansB_no (unhide E0)], by rw [ansL_no (unhide E0)]; exact Row.nil _ _ _ _ _, unhide K'⟩
  obtain ⟨K0, hK0⟩ : ∃ K0 : Nat, k = (K0 : Int) := ⟨k.toNat, by omega⟩
  subst hK0
  have E1 := hide (powOk_yes (k := (K0 : Int)) (unhide HK1) (by omega) (by omega))
  have hbit := okB_bits (unhide HK1)
  have HXS : Hid (xs = limbs (val xs).toNat) := nrm_limbs hn1
  obtain ⟨X, hX⟩ : ∃ X, X = (val xs).toNat := ⟨_, rfl⟩
  rw [← hX] at HXS hbit
  go_wp2_with fail
  refine (limbsOf_impl _ q1 (by omega)).mono ?_
  rintro e w2 ⟨v2, rfl, o2, k2⟩
  have n2 := Num.new 45 o2
  replace k2 := k2.alloc (.cells #[v2] 45)
  obtain ⟨a2, d2, rfl⟩ := own_slice o2
  replace f3 := k2.loose0 (World.block_lt_of_cell? _ _ c3) f3
  replace c3 := k2.cell0 c3
  replace K := hide ((unhide K).trans k2)
  clear o2 q1 k2
  go_wp2_with fail
  generalize w2.alloc (.cells #[.slice a2 xs.length d2] 45) = w3 at *
  refine (bitsM_impl _ n2 hn1 (by omega)).mono ?_
  rintro e w4 ⟨rfl, k4⟩
  rw [← hX]
  have HX := hide hX
  clear hX
  obtain ⟨P, hP⟩ : ∃ P : Int, P = ((bitsN X : Int) - 1) * (K0 : Int) := ⟨_, rfl⟩
  have hPb : P ≤ 2560000 ∧ -1600 ≤ P := by
    have e1 : ((bitsN X : Int) - 1) * (K0 : Int) ≤ 1600 * (K0 : Int) := Int.mul_le_mul_of_nonneg_right (by omega) (by omega)
    have e2 : (-1) * (K0 : Int) ≤ ((bitsN X : Int) - 1) * (K0 : Int) := Int.mul_le_mul_of_nonneg_right (by omega) (by omega)
    omega
  have HP := hide hP
  replace f3 := k4.loose0 (World.block_lt_of_cell? _ _ c3) f3
  replace c3 := k4.cell0 c3
  replace K := hide ((unhide K).trans k4)
  replace n2 := n2.kept k4
  have hPe : ((bitsN X : Int) - 1) * (K0 : Int) = P := hP.symm
  clear k4 hP
  by_cases hbg : 1600 ≤ P
  · have hlong := pow_big (X := X) (k := K0) (by rw [← unhide HP]; exact hbg)
    have HB : Hid (ansB (powOk xs (K0 : Int)) ((val xs).toNat ^ (K0 : Int).toNat) = false) := by show _ = _; rw [ansB_yes (unhide E1), ← unhide HX, Int.toNat_natCast]; exact decide_eq_false (by omega)
    have HZ : Hid (ansL (powOk xs (K0 : Int)) ((val xs).toNat ^ (K0 : Int).toNat) = []) := by show _ = _; rw [ansL_yes (unhide E1), ← unhide HX, Int.toNat_natCast]; unfold tell; rw [if_neg (by omega)]
    have K' := hide ((unhide K).setNew (p := ⟨w.heap.size + 1, 0, none⟩) (by simp) (.slice none 0 0))
    clear n2 hlong
    go_wp2_with fail
    exact bodyPost_ret (v := .tuple #[.agg #[.slice none 0 0], .bool false]) (by simp [results, Tryd.results10, go_sem, c3]) rfl ⟨_, by rw [unhide HB], by rw [unhide HZ]; exact Row.nil _ _ _ _ _, unhide K'⟩
  · have hsm := pow_small (X := X) (k := K0) (by rw [← unhide HP]; omega)
    go_wp2_with fail
    refine (power_impl _ n2 X (unhide HXS) K0 (by omega) hsm (by omega)).mono ?_
    rintro e w5 ⟨u5, rfl, o5, k5⟩
    have n5 := Num.new 45 o5
    replace k5 := k5.alloc (.cells #[u5] 45)
    generalize hzz : limbs (X ^ K0) = ZZ at *
    obtain ⟨a5, d5, e5⟩ := own_slice o5
    subst e5
    replace f3 := k5.loose0 (World.block_lt_of_cell? _ _ c3) f3
    replace c3 := k5.cell0 c3
    replace K := hide ((unhide K).trans k5)
    clear o5 n2 k5 hsm
    go_wp2_with fail
    generalize w5.alloc (.cells #[.slice a5 ZZ.length d5] 45) = w6 at *
    refine (told_impl _ n5).mono ?_
    rintro e w7 ⟨v7, rfl, r7, k7⟩
    generalize hz7 : tell ZZ = zz at *
    generalize hbb : decide (ZZ.length ≤ 100) = bb at *
    have HZ : Hid (ansL (powOk xs (K0 : Int)) ((val xs).toNat ^ (K0 : Int).toNat) = zz) := by show _ = _; rw [ansL_yes (unhide E1), ← unhide HX, Int.toNat_natCast, hzz, hz7]
    have HB : Hid (ansB (powOk xs (K0 : Int)) ((val xs).toNat ^ (K0 : Int).toNat) = bb) := by show _ = _; rw [ansB_yes (unhide E1), ← unhide HX, Int.toNat_natCast, hzz, hbb]
    have b6 := World.block_lt_of_cell? _ _ c3
    dsimp only at b6
    replace f3 := k7.loose0 (World.block_lt_of_cell? _ _ c3) f3
    replace c3 := k7.cell0 c3
    replace K := hide ((unhide K).trans k7)
    obtain ⟨a7, d7, rfl⟩ := Row.form' r7
    have R := hide ((r7.set_other (p := ⟨w.heap.size + 1, 0, none⟩) (.inl b6) (.slice a7 zz.length d7)).tight.wider (lo' := w.heap.size) (by omega) (Nat.le_refl _))
    have K7 := hide ((unhide K).setNew (p := ⟨w.heap.size + 1, 0, none⟩) (by simp) (.slice a7 zz.length d7))
    clear r7 k7 n5 hzz hz7 hbb
    go_wp2_with fail
    exact bodyPost_ret (v := .tuple #[.agg #[.slice a7 zz.length d7], .bool bb]) (by simp [results, Tryd.results10, go_sem, c3]) rfl ⟨_, by rw [unhide HB], by rw [unhide HZ]; exact unhide R, unhide K7⟩

end Go.Proofs.YtkifpodnljlhiaaDoor
