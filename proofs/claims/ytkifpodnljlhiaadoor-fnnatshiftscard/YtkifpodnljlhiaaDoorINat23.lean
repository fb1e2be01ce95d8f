/-
  Contracts of NatShl, the model's and the program's.
-/
import Derived.Test.YtkifpodnljlhiaaDoorINat22
import Derived.Test.YtkifpodnljlhiaaDoorBG
import Derived.Test.YtkifpodnljlhiaaDoorNat13
import Derived.Test.YtkifpodnljlhiaaDoorBC
namespace Go.Proofs.YtkifpodnljlhiaaDoor
open Go.RowKit
set_option linter.unusedVariables false
set_option maxRecDepth 8000
set_option linter.unusedSimpArgs false

set_option maxHeartbeats 4000000 in
theorem natShl_impl {b1 : Bool} {l1 h1 : Nat} {v1 : Value} {xs : List Int} (w : World) (r1 : Row .i64 b1 l1 h1 w v1 xs) (k : Int) (hk1 : k ≤ 9223372036854775807) (hk0 : -9223372036854775808 ≤ k) :
    Calls Tryd.prog 5 #[.agg #[v1], .int .i64 k] w fun e w' => ∃ v', e = .returned (.tuple #[.agg #[v'], .bool (ansB (okB xs && decide (0 ≤ k) && (decide (xs.length = 0) || decide (k ≤ 1600))) ((val xs).toNat * 2 ^ k.toNat))]) ∧ Row .i64 true w.heap.size w'.heap.size w' v' (ansL (okB xs && decide (0 ≤ k) && (decide (xs.length = 0) || decide (k ≤ 1600))) ((val xs).toNat * 2 ^ k.toNat)) ∧ Kept 0 0 w w' := by
  have k0 := ((Kept.refl 0 0 w).alloc (.cells #[v1] 25)).alloc (.cells #[.slice none 0 0] 25)
  have q1 := r1.kept k0 (by omega)
  have c1 : ((w.alloc (.cells #[v1] 25)).alloc (.cells #[.slice none 0 0] 25)).cell? ⟨w.heap.size, 0, none⟩ = some v1 := old_cell _ (new_cell_at _ _ _ _ rfl)
  have c3 : ((w.alloc (.cells #[v1] 25)).alloc (.cells #[.slice none 0 0] 25)).cell? ⟨w.heap.size + 1, 0, none⟩ = some (.slice none 0 0) := new_cell_at _ _ _ _ (by simp)
  have f3 : ((w.alloc (.cells #[v1] 25)).alloc (.cells #[.slice none 0 0] 25)).frozen? ⟨w.heap.size + 1, 0, none⟩ = false := new_loose _ _ _ _ (by simp)
  obtain ⟨a1, d1, rfl⟩ := Row.form' r1
  clear r1
  go_enter Tryd.func5, Tryd.ntmps5
  go_wp2_with fail
  generalize (w.alloc (.cells #[.slice a1 xs.length d1] 25)).alloc (.cells #[.slice none 0 0] 25) = W at *
  refine (ok_impl _ q1).mono ?_
  rintro e w1 ⟨rfl, k1⟩
  replace f3 := k1.loose0 (World.block_lt_of_cell? _ _ c3) f3
  replace c3 := k1.cell0 c3
  replace c1 := k1.cell0 c1
  replace q1 := q1.kept k1 (by omega)
  have K := hide (k0.trans k1)
  clear k0 k1
  cases hok1 : okB xs
  · have HK := hide hok1
    clear q1 hok1
    have K' := hide ((unhide K).setNew (p := ⟨w.heap.size + 1, 0, none⟩) (by simp) (.slice none 0 0))
    go_wp2_with fail
    have e0 : (okB xs && decide (0 ≤ k) && (decide (xs.length = 0) || decide (k ≤ 1600))) = false := by simp [unhide HK]
    exact bodyPost_ret (v := .tuple #[.agg #[.slice none 0 0], .bool false]) (by simp [results, Tryd.results5, go_sem, c3]) rfl ⟨_, by rw [ansB_no e0], by rw [ansL_no e0]; exact Row.nil _ _ _ _ _, unhide K'⟩
  have HK1 := hide hok1
  clear hok1
  have hn1 := ((okB_iff xs).1 (unhide HK1)).2
  have hl0 := ((okB_iff xs).1 (unhide HK1)).1
  have hl1 : xs.length ≤ 100000 := by omega
  by_cases hneg : k < 0
  · clear q1
    have K' := hide ((unhide K).setNew (p := ⟨w.heap.size + 1, 0, none⟩) (by simp) (.slice none 0 0))
    go_wp2_with fail
    have e0 : (okB xs && decide (0 ≤ k) && (decide (xs.length = 0) || decide (k ≤ 1600))) = false := by simp [show ¬ (0 ≤ k) by omega]
    exact bodyPost_ret (v := .tuple #[.agg #[.slice none 0 0], .bool false]) (by simp [results, Tryd.results5, go_sem, c3]) rfl ⟨_, by rw [ansB_no e0], by rw [ansL_no e0]; exact Row.nil _ _ _ _ _, unhide K'⟩
  have hneg' : 0 ≤ k := by omega
  by_cases hz : xs.length = 0
  · have hx0 : xs = [] := List.length_eq_zero_iff.1 hz
    subst hx0
    clear hz
    have hor : (decide (([] : List Int).length = 0) || decide (k ≤ 1600)) = true := rfl
    have hnum : ((val []).toNat * 2 ^ k.toNat) = 0 := by simp [val]
    by_cases hbig : 1600 < k
    · have h1 : ([] : List Int).length ≤ 1000000 := by simp
      go_wp2_with fail
      refine (limbsOf_impl _ q1 h1).mono ?_
      rintro e w2 ⟨v2, rfl, o2, k2⟩
      have n2 := Num.new 45 o2
      have hg2 := k2.size
      replace k2 := k2.alloc (.cells #[v2] 45)
      obtain ⟨a2, d2, rfl⟩ := own_slice o2
      have f5 := k2.loose0 (World.block_lt_of_cell? _ _ c3) f3
      have c5 := k2.cell0 c3
      clear o2 q1
      go_wp2_with fail
      generalize w2.alloc (.cells #[.slice a2 ([] : List Int).length d2] 45) = w3 at *
      refine (shiftUp_zero _ n2 k).mono ?_
      rintro e w4 ⟨⟨r4, rfl⟩, rfl⟩
      replace f3 := k2.loose0 (World.block_lt_of_cell? _ _ c3) f3
      replace c3 := k2.cell0 c3
      replace K := hide ((unhide K).trans k2)
      clear k2 f5 c5
      go_wp2_with fail
      refine (told_impl _ n2).mono ?_
      rintro e w5 ⟨v5, rfl, r5, k5⟩
      have ht : tell (limbs ((val ([] : List Int)).toNat * 2 ^ k.toNat)) = tell [] := by rw [hnum, limbs_zero]
      have hd : decide ((limbs ((val ([] : List Int)).toNat * 2 ^ k.toNat)).length ≤ 100) = decide (([] : List Int).length ≤ 100) := by rw [hnum, limbs_zero]
      rw [← ht] at r5
      rw [← hd]
      generalize hzz : tell (limbs ((val ([] : List Int)).toNat * 2 ^ k.toNat)) = zz at *
      generalize hbb : decide ((limbs ((val ([] : List Int)).toNat * 2 ^ k.toNat)).length ≤ 100) = bb at *
      have HZ : Hid (ansL (okB ([] : List Int) && decide (0 ≤ k) && (decide (([] : List Int).length = 0) || decide (k ≤ 1600))) ((val ([] : List Int)).toNat * 2 ^ k.toNat) = zz) := by show _ = _; rw [ansL_yes (by rw [unhide HK1, decide_eq_true hneg', hor]; rfl), hzz]
      have HB : Hid (ansB (okB ([] : List Int) && decide (0 ≤ k) && (decide (([] : List Int).length = 0) || decide (k ≤ 1600))) ((val ([] : List Int)).toNat * 2 ^ k.toNat) = bb) := by show _ = _; rw [ansB_yes (by rw [unhide HK1, decide_eq_true hneg', hor]; rfl), hbb]
      have b4 := World.block_lt_of_cell? _ _ c3
      dsimp only at b4
      replace f3 := k5.loose0 (World.block_lt_of_cell? _ _ c3) f3
      replace c3 := k5.cell0 c3
      replace K := hide ((unhide K).trans k5)
      clear k5 n2 ht hd hnum
      obtain ⟨a7, d7, rfl⟩ := Row.form' r5
      have R := hide ((r5.set_other (p := ⟨w.heap.size + 1, 0, none⟩) (.inl b4) (.slice a7 zz.length d7)).tight.wider (lo' := w.heap.size) (by omega) (Nat.le_refl _))
      have K7 := hide ((unhide K).setNew (p := ⟨w.heap.size + 1, 0, none⟩) (by simp) (.slice a7 zz.length d7))
      clear r5 hzz hbb
      go_wp2_with fail
      exact bodyPost_ret (v := .tuple #[.agg #[.slice a7 zz.length d7], .bool bb]) (by simp [results, Tryd.results5, go_sem, c3]) rfl ⟨_, by rw [unhide HB], by rw [unhide HZ]; exact unhide R, unhide K7⟩
    · have h1 : ([] : List Int).length ≤ 1000000 := by simp
      go_wp2_with fail
      refine (limbsOf_impl _ q1 h1).mono ?_
      rintro e w2 ⟨v2, rfl, o2, k2⟩
      have n2 := Num.new 45 o2
      have hg2 := k2.size
      replace k2 := k2.alloc (.cells #[v2] 45)
      obtain ⟨a2, d2, rfl⟩ := own_slice o2
      have f5 := k2.loose0 (World.block_lt_of_cell? _ _ c3) f3
      have c5 := k2.cell0 c3
      clear o2 q1
      go_wp2_with fail
      generalize w2.alloc (.cells #[.slice a2 ([] : List Int).length d2] 45) = w3 at *
      refine (shiftUp_zero _ n2 k).mono ?_
      rintro e w4 ⟨⟨r4, rfl⟩, rfl⟩
      replace f3 := k2.loose0 (World.block_lt_of_cell? _ _ c3) f3
      replace c3 := k2.cell0 c3
      replace K := hide ((unhide K).trans k2)
      clear k2 f5 c5
      go_wp2_with fail
      refine (told_impl _ n2).mono ?_
      rintro e w5 ⟨v5, rfl, r5, k5⟩
      have ht : tell (limbs ((val ([] : List Int)).toNat * 2 ^ k.toNat)) = tell [] := by rw [hnum, limbs_zero]
      have hd : decide ((limbs ((val ([] : List Int)).toNat * 2 ^ k.toNat)).length ≤ 100) = decide (([] : List Int).length ≤ 100) := by rw [hnum, limbs_zero]
      rw [← ht] at r5
      rw [← hd]
      generalize hzz : tell (limbs ((val ([] : List Int)).toNat * 2 ^ k.toNat)) = zz at *
      generalize hbb : decide ((limbs ((val ([] : List Int)).toNat * 2 ^ k.toNat)).length ≤ 100) = bb at *
      have HZ : Hid (ansL (okB ([] : List Int) && decide (0 ≤ k) && (decide (([] : List Int).length = 0) || decide (k ≤ 1600))) ((val ([] : List Int)).toNat * 2 ^ k.toNat) = zz) := by show _ = _; rw [ansL_yes (by rw [unhide HK1, decide_eq_true hneg', hor]; rfl), hzz]
      have HB : Hid (ansB (okB ([] : List Int) && decide (0 ≤ k) && (decide (([] : List Int).length = 0) || decide (k ≤ 1600))) ((val ([] : List Int)).toNat * 2 ^ k.toNat) = bb) := by show _ = _; rw [ansB_yes (by rw [unhide HK1, decide_eq_true hneg', hor]; rfl), hbb]
      have b4 := World.block_lt_of_cell? _ _ c3
      dsimp only at b4
      replace f3 := k5.loose0 (World.block_lt_of_cell? _ _ c3) f3
      replace c3 := k5.cell0 c3
      replace K := hide ((unhide K).trans k5)
      clear k5 n2 ht hd hnum
      obtain ⟨a7, d7, rfl⟩ := Row.form' r5
      have R := hide ((r5.set_other (p := ⟨w.heap.size + 1, 0, none⟩) (.inl b4) (.slice a7 zz.length d7)).tight.wider (lo' := w.heap.size) (by omega) (Nat.le_refl _))
      have K7 := hide ((unhide K).setNew (p := ⟨w.heap.size + 1, 0, none⟩) (by simp) (.slice a7 zz.length d7))
      clear r5 hzz hbb
      go_wp2_with fail
      exact bodyPost_ret (v := .tuple #[.agg #[.slice a7 zz.length d7], .bool bb]) (by simp [results, Tryd.results5, go_sem, c3]) rfl ⟨_, by rw [unhide HB], by rw [unhide HZ]; exact unhide R, unhide K7⟩
  · by_cases hbig : 1600 < k
    · have hgt0 : (0 : Int) < (xs.length : Int) := by omega
      have hgt1 : 0 < xs.length := by omega
      clear q1
      have K' := hide ((unhide K).setNew (p := ⟨w.heap.size + 1, 0, none⟩) (by simp) (.slice none 0 0))
      go_wp2_with fail
      have e0 : (okB xs && decide (0 ≤ k) && (decide (xs.length = 0) || decide (k ≤ 1600))) = false := by simp [hz, show ¬ (k ≤ 1600) by omega]
      exact bodyPost_ret (v := .tuple #[.agg #[.slice none 0 0], .bool false]) (by simp [results, Tryd.results5, go_sem, c3]) rfl ⟨_, by rw [ansB_no e0], by rw [ansL_no e0]; exact Row.nil _ _ _ _ _, unhide K'⟩
    · have hor : (decide (xs.length = 0) || decide (k ≤ 1600)) = true := by simp; omega
      obtain ⟨K0, hK0⟩ : ∃ K0 : Nat, k = (K0 : Int) := ⟨k.toNat, by omega⟩
      subst hK0
      have hne : xs ≠ [] := fun e => hz (by rw [e]; rfl)
      go_wp2_with fail
      refine (limbsOf_impl _ q1 (by omega)).mono ?_
      rintro e w2 ⟨v2, rfl, o2, k2⟩
      have n2 := Num.new 45 o2
      have hg2 := k2.size
      replace k2 := k2.alloc (.cells #[v2] 45)
      obtain ⟨a2, d2, rfl⟩ := own_slice o2
      have f5 := k2.loose0 (World.block_lt_of_cell? _ _ c3) f3
      have c5 := k2.cell0 c3
      clear o2 q1
      go_wp2_with fail
      generalize w2.alloc (.cells #[.slice a2 xs.length d2] 45) = w3 at *
      refine (shiftUp_impl _ n2 hn1.1 hne (by omega) K0 (by omega)).mono ?_
      rintro e w4 ⟨⟨r4, rfl⟩, u4, n4, m4⟩
      have k4 := k2.mod m4 (fun i e => by rw [e]; exact hg2)
      replace f3 := k4.loose0 (World.block_lt_of_cell? _ _ c3) f3
      replace c3 := k4.cell0 c3
      replace K := hide ((unhide K).trans k4)
      clear k2 f5 c5 n2 m4 k4
      go_wp2_with fail
      refine (told_impl _ n4).mono ?_
      rintro e w5 ⟨v5, rfl, r5, k5⟩
      generalize hzz : tell (limbs ((val xs).toNat * 2 ^ K0)) = zz at *
      generalize hbb : decide ((limbs ((val xs).toNat * 2 ^ K0)).length ≤ 100) = bb at *
      have HZ : Hid (ansL (okB xs && decide (0 ≤ (K0 : Int)) && (decide (xs.length = 0) || decide ((K0 : Int) ≤ 1600))) ((val xs).toNat * 2 ^ (K0 : Int).toNat) = zz) := by show _ = _; rw [ansL_yes (by rw [unhide HK1, decide_eq_true hneg', hor]; rfl), Int.toNat_natCast, hzz]
      have HB : Hid (ansB (okB xs && decide (0 ≤ (K0 : Int)) && (decide (xs.length = 0) || decide ((K0 : Int) ≤ 1600))) ((val xs).toNat * 2 ^ (K0 : Int).toNat) = bb) := by show _ = _; rw [ansB_yes (by rw [unhide HK1, decide_eq_true hneg', hor]; rfl), Int.toNat_natCast, hbb]
      have b4 := World.block_lt_of_cell? _ _ c3
      dsimp only at b4
      replace f3 := k5.loose0 (World.block_lt_of_cell? _ _ c3) f3
      replace c3 := k5.cell0 c3
      replace K := hide ((unhide K).trans k5)
      clear k5 n4
      obtain ⟨a7, d7, rfl⟩ := Row.form' r5
      have R := hide ((r5.set_other (p := ⟨w.heap.size + 1, 0, none⟩) (.inl b4) (.slice a7 zz.length d7)).tight.wider (lo' := w.heap.size) (by omega) (Nat.le_refl _))
      have K7 := hide ((unhide K).setNew (p := ⟨w.heap.size + 1, 0, none⟩) (by simp) (.slice a7 zz.length d7))
      clear r5 hzz hbb
      go_wp2_with fail
      exact bodyPost_ret (v := .tuple #[.agg #[.slice a7 zz.length d7], .bool bb]) (by simp [results, Tryd.results5, go_sem, c3]) rfl ⟨_, by rw [unhide HB], by rw [unhide HZ]; exact unhide R, unhide K7⟩

end Go.Proofs.YtkifpodnljlhiaaDoor
