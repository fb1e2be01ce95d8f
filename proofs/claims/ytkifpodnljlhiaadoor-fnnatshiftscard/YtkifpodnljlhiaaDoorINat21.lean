/-
  Contracts of NatShr, the model's and the program's.
-/
import Derived.Test.YtkifpodnljlhiaaDoorBG
import Derived.Test.YtkifpodnljlhiaaDoorNat12
import Derived.Test.YtkifpodnljlhiaaDoorBC
namespace Go.Proofs.YtkifpodnljlhiaaDoor
open Go.RowKit
set_option linter.unusedVariables false
set_option maxRecDepth 8000
set_option linter.unusedSimpArgs false

theorem shr_short {xs : List Int} (hx : Lim xs) (h : xs.length ≤ 100) (n : Nat) : (limbs ((val xs).toNat / n)).length ≤ 100 := by
  refine (limbs_length_le _ _).2 ?_
  have e1 := val_lt hx
  have e3 := val_nonneg hx
  have e4 := pow_mono h
  have e5 := Nat.div_le_self (val xs).toNat n
  generalize (65536 : Int) ^ 100 = P at *
  omega

set_option maxHeartbeats 4000000 in
theorem natShr_impl {b1 : Bool} {l1 h1 : Nat} {v1 : Value} {xs : List Int} (w : World) (r1 : Row .i64 b1 l1 h1 w v1 xs) (k : Int) (hk1 : k ≤ 9223372036854775807) (hk0 : -9223372036854775808 ≤ k) :
    Calls Tryd.prog 9 #[.agg #[v1], .int .i64 k] w fun e w' => ∃ v', e = .returned (.agg #[v']) ∧ Row .i64 true w.heap.size w'.heap.size w' v' (ansL (okB xs && decide (0 ≤ k)) ((val xs).toNat / 2 ^ k.toNat)) ∧ Kept 0 0 w w' := by
  have k0 := ((Kept.refl 0 0 w).alloc (.cells #[v1] 25)).alloc (.cells #[.slice none 0 0] 25)
  have q1 := r1.kept k0 (by omega)
  have c1 : ((w.alloc (.cells #[v1] 25)).alloc (.cells #[.slice none 0 0] 25)).cell? ⟨w.heap.size, 0, none⟩ = some v1 := old_cell _ (new_cell_at _ _ _ _ rfl)
  have c3 : ((w.alloc (.cells #[v1] 25)).alloc (.cells #[.slice none 0 0] 25)).cell? ⟨w.heap.size + 1, 0, none⟩ = some (.slice none 0 0) := new_cell_at _ _ _ _ (by simp)
  have f3 : ((w.alloc (.cells #[v1] 25)).alloc (.cells #[.slice none 0 0] 25)).frozen? ⟨w.heap.size + 1, 0, none⟩ = false := new_loose _ _ _ _ (by simp)
  obtain ⟨a1, d1, rfl⟩ := Row.form' r1
  clear r1
  go_enter Tryd.func9, Tryd.ntmps9
  go_wp2_with fail
  generalize (w.alloc (.cells #[.slice a1 xs.length d1] 25)).alloc (.cells #[.slice none 0 0] 25) = W at *
  refine (ok_impl _ q1).mono ?_
  rintro e w1 ⟨rfl, k1⟩
  replace f3 := k1.loose0 (World.block_lt_of_cell? _ _ c3) f3
  replace c3 := k1.cell0 c3
  replace c1 := k1.cell0 c1
  replace q1 := q1.kept k1 (by omega)
  have K := hide (k0.trans k1)
  clear k0 k1
  cases hok1 : okB xs
  · have HK := hide hok1
    clear q1 hok1
    have K' := hide ((unhide K).setNew (p := ⟨w.heap.size + 1, 0, none⟩) (by simp) (.slice none 0 0))
    go_wp2_with fail
    have e0 : (okB xs && decide (0 ≤ k)) = false := by simp [unhide HK]
    exact bodyPost_ret (v := .agg #[.slice none 0 0]) (by simp [results, Tryd.results9, go_sem, c3]) rfl ⟨_, rfl, by rw [ansL_no e0]; exact Row.nil _ _ _ _ _, unhide K'⟩
  have HK1 := hide hok1
  clear hok1
  have hn1 := ((okB_iff xs).1 (unhide HK1)).2
  have hl0 := ((okB_iff xs).1 (unhide HK1)).1
  have hl1 : xs.length ≤ 100000 := by omega
  by_cases hneg : k < 0
  · clear q1
    have K' := hide ((unhide K).setNew (p := ⟨w.heap.size + 1, 0, none⟩) (by simp) (.slice none 0 0))
    go_wp2_with fail
    have e0 : (okB xs && decide (0 ≤ k)) = false := by simp [hneg]
    exact bodyPost_ret (v := .agg #[.slice none 0 0]) (by simp [results, Tryd.results9, go_sem, c3]) rfl ⟨_, rfl, by rw [ansL_no e0]; exact Row.nil _ _ _ _ _, unhide K'⟩
  obtain ⟨K0, hK0⟩ : ∃ K0 : Nat, k = (K0 : Int) := ⟨k.toNat, by omega⟩
  subst hK0
  have h100 := shr_short hn1.1 hl0 (2 ^ K0)
  go_wp2_with fail
  refine (limbsOf_impl _ q1 (by omega)).mono ?_
  rintro e w2 ⟨v2, rfl, o2, k2⟩
  have n2 := Num.new 45 o2
  have hg2 := k2.size
  replace k2 := k2.alloc (.cells #[v2] 45)
  obtain ⟨a2, d2, rfl⟩ := own_slice o2
  have k2' := k2
  have f5 := k2.loose0 (World.block_lt_of_cell? _ _ c3) f3
  have c5 := k2.cell0 c3
  have K5 := hide ((unhide K).trans k2)
  clear k2 o2 q1
  go_wp2_with fail
  have hsz : w2.heap.size < (w2.alloc (.cells #[.slice a2 xs.length d2] 45)).heap.size := by simp
  generalize w2.alloc (.cells #[.slice a2 xs.length d2] 45) = w3 at *
  refine (shiftDown_work _ n2 hn1.1 hl1 K0 hk1).mono ?_
  rintro e w4 ⟨⟨r4, rfl⟩, u4, n4, m4⟩
  have k4 := k2'.mod m4 (fun i e => e.elim (fun e => by rw [e]; exact hg2) (fun e => (n2.own.lt i e).1))
  replace f5 := k4.loose0 (World.block_lt_of_cell? _ _ c3) f3
  replace c5 := k4.cell0 c3
  replace K5 := hide ((unhide K).trans k4)
  have b4 := World.block_lt_of_cell? _ _ c5
  dsimp only at b4
  clear n2 m4 k2' k4
  go_wp2_with fail
  refine (told_work _ n4).mono ?_
  rintro e w5 ⟨v5, rfl, r5, k5⟩
  rw [tell_short h100] at r5
  have HZ : Hid (ansL (okB xs && decide (0 ≤ (K0 : Int))) ((val xs).toNat / 2 ^ (K0 : Int).toNat) = limbs ((val xs).toNat / 2 ^ K0)) := by show _ = _; rw [ansL_yes (by simp [unhide HK1]), Int.toNat_natCast, tell_short h100]
  generalize limbs ((val xs).toNat / 2 ^ K0) = zz at *
  replace f5 := k5.loose0 b4 f5
  replace c5 := k5.cell0 c5
  replace K5 := hide ((unhide K5).trans k5)
  obtain ⟨a7, d7, rfl⟩ := Row.form' r5
  replace r5 := r5.kept ((Kept.refl 0 0 w5).alloc (.cells #[.slice a7 zz.length d7] 25)) (by omega)
  replace f5 := loose_old (o := .cells #[.slice a7 zz.length d7] 25) (World.block_lt_of_cell? _ _ c5) f5
  replace c5 := old_cell (.cells #[.slice a7 zz.length d7] 25) c5
  replace K5 := hide ((unhide K5).alloc (.cells #[.slice a7 zz.length d7] 25))
  have c7 : (w5.alloc (.cells #[.slice a7 zz.length d7] 25)).cell? ⟨w5.heap.size, 0, none⟩ = some (.slice a7 zz.length d7) := new_cell_at _ _ _ _ rfl
  have R := hide ((r5.set_other (p := ⟨w.heap.size + 1, 0, none⟩) (.inl b4) (.slice a7 zz.length d7)).tight.wider (lo' := w.heap.size) (by omega) (Nat.le_refl _))
  have K7 := hide ((unhide K5).setNew (p := ⟨w.heap.size + 1, 0, none⟩) (by simp) (.slice a7 zz.length d7))
  clear r5 k5 n4
  go_wp2_with fail
  exact bodyPost_ret (v := .agg #[.slice a7 zz.length d7]) (by simp [results, Tryd.results9, go_sem, c5, c7]) rfl ⟨_, rfl, by rw [unhide HZ]; exact unhide R, unhide K7⟩

end Go.Proofs.YtkifpodnljlhiaaDoor
