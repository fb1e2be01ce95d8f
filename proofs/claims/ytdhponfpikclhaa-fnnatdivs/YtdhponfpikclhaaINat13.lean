/-
  Contracts of the model's NatAdd and NatMul.
-/
import Derived.Test.YtdhponfpikclhaaINat12
import Derived.Test.YtdhponfpikclhaaNat10
import Derived.Test.YtdhponfpikclhaaINat4
namespace Go.Proofs.Ytdhponfpikclhaa
open Go.RowKit
set_option linter.unusedVariables false
set_option maxRecDepth 8000
set_option linter.unusedSimpArgs false

set_option maxHeartbeats 1000000 in
theorem natMul_spec {b1 b2 : Bool} {l1 h1 l2 h2 : Nat} {v1 v2 : Value} {xs ys : List Int} (w : World) (r1 : Row .i64 b1 l1 h1 w v1 xs) (r2 : Row .i64 b2 l2 h2 w v2 ys) :
    Calls Try.prog 96 #[.agg #[v1], .agg #[v2]] w fun e w' => ∃ v', e = .returned (.tuple #[.agg #[v'], .bool (ansB (okB xs && okB ys) (val xs * val ys).toNat)]) ∧ Row .i64 true w.heap.size w'.heap.size w' v' (ansL (okB xs && okB ys) (val xs * val ys).toNat) ∧ Kept 0 0 w w' := by
  have k0 := (((Kept.refl 0 0 w).alloc (.cells #[v1] 26)).alloc (.cells #[v2] 26)).alloc (.cells #[.slice none 0 0] 26)
  have q1 := r1.kept k0 (by omega)
  have q2 := r2.kept k0 (by omega)
  have c1 : (((w.alloc (.cells #[v1] 26)).alloc (.cells #[v2] 26)).alloc (.cells #[.slice none 0 0] 26)).cell? ⟨w.heap.size, 0, none⟩ = some (v1) := old_cell _ (old_cell _ (new_cell_at _ _ _ _ (by simp)))
  have c2 : (((w.alloc (.cells #[v1] 26)).alloc (.cells #[v2] 26)).alloc (.cells #[.slice none 0 0] 26)).cell? ⟨w.heap.size + 1, 0, none⟩ = some (v2) := old_cell _ (new_cell_at _ _ _ _ (by simp))
  have c3 : (((w.alloc (.cells #[v1] 26)).alloc (.cells #[v2] 26)).alloc (.cells #[.slice none 0 0] 26)).cell? ⟨w.heap.size + 2, 0, none⟩ = some (.slice none 0 0) := new_cell_at _ _ _ _ (by simp)
  have f3 : (((w.alloc (.cells #[v1] 26)).alloc (.cells #[v2] 26)).alloc (.cells #[.slice none 0 0] 26)).frozen? ⟨w.heap.size + 2, 0, none⟩ = false := new_loose _ _ _ _ (by simp)
  obtain ⟨a1, d1, rfl⟩ := Row.form' r1
  obtain ⟨a2, d2, rfl⟩ := Row.form' r2
  clear r1 r2
  go_enter Try.func96, Try.ntmps96
  go_wp2_with fail
  generalize ((w.alloc (.cells #[.slice a1 xs.length d1] 26)).alloc (.cells #[.slice a2 ys.length d2] 26)).alloc (.cells #[.slice none 0 0] 26) = W at *
  refine (ok_spec _ q1).mono ?_
  rintro e w1 ⟨rfl, k1⟩
  replace c1 := k1.cell0 c1
  replace c2 := k1.cell0 c2
  replace f3 := k1.loose0 (World.block_lt_of_cell? _ _ c3) f3
  replace c3 := k1.cell0 c3
  replace q1 := q1.kept k1 (by omega)
  replace q2 := q2.kept k1 (by omega)
  have K := hide (k0.trans k1)
  clear k0 k1
  cases hok1 : okB xs
  · have HK := hide hok1
    clear q1 q2 hok1
    have K' := hide ((unhide K).setNew (p := ⟨w.heap.size + 2, 0, none⟩) (by simp) (.slice none 0 0))
    go_wp2_with fail
    have e0 : (okB xs && okB ys) = false := by simp [unhide HK]
    exact bodyPost_ret (v := .tuple #[.agg #[.slice none 0 0], .bool false]) (by simp [results, Try.results96, go_sem, c3]) rfl ⟨_, by rw [ansB_no e0], by rw [ansL_no e0]; exact Row.nil _ _ _ _ _, unhide K'⟩
  have HK1 := hide hok1
  clear hok1
  go_wp2_with fail
  refine (ok_spec _ q2).mono ?_
  rintro e w2 ⟨rfl, k2⟩
  replace c1 := k2.cell0 c1
  replace c2 := k2.cell0 c2
  replace f3 := k2.loose0 (World.block_lt_of_cell? _ _ c3) f3
  replace c3 := k2.cell0 c3
  replace q1 := q1.kept k2 (by omega)
  replace q2 := q2.kept k2 (by omega)
  replace K := hide ((unhide K).trans k2)
  clear k2
  cases hok2 : okB ys
  · have HK := hide hok2
    clear q1 q2 hok2
    have K' := hide ((unhide K).setNew (p := ⟨w.heap.size + 2, 0, none⟩) (by simp) (.slice none 0 0))
    go_wp2_with fail
    have e0 : (okB xs && okB ys) = false := by simp [unhide HK]
    exact bodyPost_ret (v := .tuple #[.agg #[.slice none 0 0], .bool false]) (by simp [results, Try.results96, go_sem, c3]) rfl ⟨_, by rw [ansB_no e0], by rw [ansL_no e0]; exact Row.nil _ _ _ _ _, unhide K'⟩
  have HK2 := hide hok2
  clear hok2
  have hn1 := ((okB_iff xs).1 (unhide HK1)).2
  have hn2 := ((okB_iff ys).1 (unhide HK2)).2
  have hl1 : xs.length ≤ 100000 := by have := ((okB_iff xs).1 (unhide HK1)).1; omega
  have hl2 : ys.length ≤ 100000 := by have := ((okB_iff ys).1 (unhide HK2)).1; omega
  go_wp2_with fail
  refine (mul_spec _ q1 q2 hn1.1 hn2.1 hl1 hl2).mono ?_
  rintro e w6 ⟨v6, rfl, r6, k6⟩
  have b2 := World.block_lt_of_cell? _ _ c3
  dsimp only at b2
  replace f3 := k6.loose0 b2 f3
  replace c3 := k6.cell0 c3
  replace K := hide ((unhide K).trans k6)
  have b6 := World.block_lt_of_cell? _ _ c3
  dsimp only at b6
  clear q1 q2 k6 hn1 hn2
  go_wp2_with fail
  refine (fits_spec _ r6).mono ?_
  rintro e w7 ⟨rfl, k7⟩
  replace r6 := r6.kept k7 (by omega)
  replace f3 := k7.loose0 b6 f3
  replace c3 := k7.cell0 c3
  replace K := hide ((unhide K).trans k7)
  clear k7
  obtain ⟨v7, zz, hv7, hz7, R7⟩ : ∃ v7 zz, (if (limbs (val xs * val ys).toNat).length ≤ 100 then v6 else .slice none 0 0) = v7 ∧ tell (limbs (val xs * val ys).toNat) = zz ∧ Row .i64 true w2.heap.size w7.heap.size w7 v7 zz := by
    by_cases h : (limbs (val xs * val ys).toNat).length ≤ 100
    · exact ⟨v6, limbs (val xs * val ys).toNat, by rw [if_pos h], tell_short h, r6.tight⟩
    · exact ⟨_, [], by rw [if_neg h], by unfold tell; rw [if_neg h], Row.nil _ _ _ _ _⟩
  generalize hbb : decide ((limbs (val xs * val ys).toNat).length ≤ 100) = bb at *
  rw [hv7]
  have HZ : Hid (ansL (okB xs && okB ys) (val xs * val ys).toNat = zz) := by show _ = _; rw [ansL_yes (by simp [unhide HK1, unhide HK2]), hz7]
  have HB : Hid (ansB (okB xs && okB ys) (val xs * val ys).toNat = bb) := by show _ = _; rw [ansB_yes (by simp [unhide HK1, unhide HK2]), hbb]
  obtain ⟨a7, d7, rfl⟩ := Row.form' R7
  have R := hide ((R7.set_other (p := ⟨w.heap.size + 2, 0, none⟩) (.inl b2) (.slice a7 zz.length d7)).tight.wider (lo' := w.heap.size) (by omega) (Nat.le_refl _))
  have K7 := hide ((unhide K).setNew (p := ⟨w.heap.size + 2, 0, none⟩) (by simp) (.slice a7 zz.length d7))
  clear R7 r6 hz7 hv7 hbb
  go_wp2_with fail
  exact bodyPost_ret (v := .tuple #[.agg #[.slice a7 zz.length d7], .bool bb]) (by simp [results, Try.results96, go_sem, c3]) rfl ⟨_, by rw [unhide HB], by rw [unhide HZ]; exact unhide R, unhide K7⟩

end Go.Proofs.Ytdhponfpikclhaa
