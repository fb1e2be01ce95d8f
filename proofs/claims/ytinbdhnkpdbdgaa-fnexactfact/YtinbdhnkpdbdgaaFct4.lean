/-
  Factorials: what Fact of the program and of the model answer, whatever is asked.
-/
import Derived.Test.YtinbdhnkpdbdgaaFct3
namespace Go.Proofs.Ytinbdhnkpdbdgaa
open Go.RowKit
set_option linter.unusedVariables false
set_option maxRecDepth 8000

/-- Whether it is told, and what. -/
def faB (n : Int) : Bool := decide (0 ≤ n ∧ n ≤ 200) && decide ((limbs (fct n.toNat)).length ≤ 100)
def faL (n : Int) : List Int := if 0 ≤ n ∧ n ≤ 200 then tell (limbs (fct n.toNat)) else []
theorem tell_len (zs : List Int) : (tell zs).length ≤ 100 := by
  unfold tell
  split
  · assumption
  · simp
theorem faL_len (n : Int) : (faL n).length ≤ 100 := by
  unfold faL
  split
  · exact tell_len _
  · simp

set_option maxHeartbeats 4000000 in
theorem fact_impl_any (n : Int) (w : World) :
    Calls Try.prog 6 #[.int .i64 n] w fun e w' => ∃ v', e = .returned (.tuple #[.agg #[v'], .bool (faB n)]) ∧ Row .i64 true w.heap.size w'.heap.size w' v' (faL n) ∧ Kept 0 0 w w' := by
  by_cases h : 0 ≤ n ∧ n ≤ 200
  · obtain ⟨N, rfl⟩ : ∃ N : Nat, n = (N : Int) := ⟨n.toNat, by omega⟩
    have e1 : faB (N : Int) = decide ((limbs (fct N)).length ≤ 100) := by unfold faB; rw [decide_eq_true h, Int.toNat_natCast]; rfl
    have e2 : faL (N : Int) = tell (limbs (fct N)) := by unfold faL; rw [if_pos h, Int.toNat_natCast]
    rw [e1, e2]
    exact fact_impl N (by omega) w
  · have e1 : faB n = false := by unfold faB; rw [decide_eq_false h]; rfl
    have e2 : faL n = [] := by unfold faL; rw [if_neg h]
    rw [e1, e2]
    have c3 : (w.alloc (.cells #[.slice none 0 0] 24)).cell? ⟨w.heap.size, 0, none⟩ = some (.slice none 0 0) := new_cell_at _ _ _ _ rfl
    have K7 := hide ((Kept.refl 0 0 w).alloc (.cells #[.slice none 0 0] 24))
    by_cases h0 : n < 0
    · clear h
      go_enter Try.func6, Try.ntmps6
      go_wp2
      exact bodyPost_ret (v := .tuple #[.agg #[.slice none 0 0], .bool false]) (by simp [results, Try.results6, go_sem]) rfl ⟨_, rfl, Row.nil _ _ _ _ _, unhide K7⟩
    · have h2 : 200 < n := by omega
      clear h
      go_enter Try.func6, Try.ntmps6
      go_wp2
      exact bodyPost_ret (v := .tuple #[.agg #[.slice none 0 0], .bool false]) (by simp [results, Try.results6, go_sem]) rfl ⟨_, rfl, Row.nil _ _ _ _ _, unhide K7⟩

set_option maxHeartbeats 4000000 in
theorem fact_spec_any (n : Int) (w : World) :
    Calls Try.prog 5 #[.int .i64 n] w fun e w' => ∃ v', e = .returned (.tuple #[.agg #[v'], .bool (faB n)]) ∧ Row .i64 true w.heap.size w'.heap.size w' v' (faL n) ∧ Kept 0 0 w w' := by
  have c3 : (w.alloc (.cells #[.slice none 0 0] 24)).cell? ⟨w.heap.size, 0, none⟩ = some (.slice none 0 0) := new_cell_at _ _ _ _ rfl
  have f3 : (w.alloc (.cells #[.slice none 0 0] 24)).frozen? ⟨w.heap.size, 0, none⟩ = false := new_loose _ _ _ _ rfl
  by_cases h : 0 ≤ n ∧ n ≤ 200
  · obtain ⟨N, rfl⟩ : ∃ N : Nat, n = (N : Int) := ⟨n.toNat, by omega⟩
    have e1 : faB (N : Int) = decide ((limbs (fct N)).length ≤ 100) := by unfold faB; rw [decide_eq_true h, Int.toNat_natCast]; rfl
    have e2 : faL (N : Int) = tell (limbs (fct N)) := by unfold faL; rw [if_pos h, Int.toNat_natCast]
    rw [e1, e2]
    have h1 : ¬ (N : Int) < 0 := by omega
    have h2 : ¬ 200 < (N : Int) := by omega
    have k0 := (Kept.refl 0 0 w).alloc (.cells #[.slice none 0 0] 24)
    have ms := fun w => fact_spec N (by omega) w
    have hfl : (limbs (fct N)).length ≤ 1000 := by have := fct_len N (by omega); omega
    obtain ⟨LF, hLF⟩ : ∃ L, L = limbs (fct N) := ⟨_, rfl⟩
    rw [← hLF] at hfl ⊢
    simp only [← hLF] at ms
    clear hLF h e1 e2
    obtain ⟨TL, hTL⟩ : ∃ y, tell LF = y := ⟨_, rfl⟩
    obtain ⟨DB, hDB⟩ : ∃ y, decide (LF.length ≤ 100) = y := ⟨_, rfl⟩
    rw [hTL, hDB]
    have HTL := hide hTL
    have HDB := hide hDB
    clear hTL hDB
    go_enter Try.func5, Try.ntmps5
    go_wp2_with fail
    generalize w.alloc (.cells #[.slice none 0 0] 24) = W at *
    refine (ms _).mono ?_
    rintro e w1 ⟨v1, rfl, r1, k1⟩
    have b0 := World.block_lt_of_cell? _ _ c3
    dsimp only at b0
    replace f3 := k1.loose0 (World.block_lt_of_cell? _ _ c3) f3
    replace c3 := k1.cell0 c3
    obtain ⟨a1, d1, rfl⟩ := Row.form' r1
    have mf := fits_spec _ r1
    have s1 := k1.size
    have s0 := k0.size
    by_cases hl : LF.length ≤ 100
    · rw [if_pos hl, decide_eq_true hl] at mf
      have ET : Hid (TL = LF) := by show _ = _; rw [← unhide HTL]; exact tell_short hl
      have EB : Hid (DB = true) := by show _ = _; rw [← unhide HDB]; exact decide_eq_true hl
      go_wp2_with fail
      refine mf.mono ?_
      rintro e w2 ⟨rfl, k2⟩
      replace f3 := k2.loose0 (World.block_lt_of_cell? _ _ c3) f3
      replace c3 := k2.cell0 c3
      replace r1 := r1.kept k2 (by omega)
      have hb := World.block_lt_of_cell? _ _ c3
      have K9 := hide (((k0.trans k1).trans k2).setNew (p := ⟨w.heap.size, 0, none⟩) (by simp) (.slice a1 LF.length d1))
      have R9 := hide ((r1.set_other (p := ⟨w.heap.size, 0, none⟩) (.inl (by dsimp only; omega)) (.slice a1 LF.length d1)).tight.wider (lo' := w.heap.size) (by omega) (Nat.le_refl _))
      have C9 := hide (cell_on _ _ _ (.slice a1 LF.length d1) _ c3)
      clear r1 k1 k2 k0
      go_wp2_with fail
      have c9 := unhide C9
      exact bodyPost_ret (v := .tuple #[.agg #[.slice a1 LF.length d1], .bool true]) (by simp [results, Try.results5, go_sem, c9]) rfl ⟨_, by rw [unhide EB], by rw [unhide ET]; exact unhide R9, unhide K9⟩
    · rw [if_neg hl, decide_eq_false hl] at mf
      have ET : Hid (TL = []) := by show _ = _; rw [← unhide HTL]; unfold tell; rw [if_neg hl]
      have EB : Hid (DB = false) := by show _ = _; rw [← unhide HDB]; exact decide_eq_false hl
      go_wp2_with fail
      refine mf.mono ?_
      rintro e w2 ⟨rfl, k2⟩
      replace f3 := k2.loose0 (World.block_lt_of_cell? _ _ c3) f3
      replace c3 := k2.cell0 c3
      have K9 := hide (((k0.trans k1).trans k2).setNew (p := ⟨w.heap.size, 0, none⟩) (by simp) (.slice none 0 0))
      have R9 := hide (Row.nil .i64 true w.heap.size (w2.setCell ⟨w.heap.size, 0, none⟩ (.slice none 0 0)).heap.size (w2.setCell ⟨w.heap.size, 0, none⟩ (.slice none 0 0)))
      have C9 := hide (cell_on _ _ _ (.slice none 0 0) _ c3)
      clear r1 k1 k2 k0
      go_wp2_with fail
      have c9 := unhide C9
      exact bodyPost_ret (v := .tuple #[.agg #[.slice none 0 0], .bool false]) (by simp [results, Try.results5, go_sem, c9]) rfl ⟨_, by rw [unhide EB], by rw [unhide ET]; exact unhide R9, unhide K9⟩
  · have e1 : faB n = false := by unfold faB; rw [decide_eq_false h]; rfl
    have e2 : faL n = [] := by unfold faL; rw [if_neg h]
    rw [e1, e2]
    have K7 := hide ((Kept.refl 0 0 w).alloc (.cells #[.slice none 0 0] 24))
    by_cases h0 : n < 0
    · clear h
      go_enter Try.func5, Try.ntmps5
      go_wp2
      exact bodyPost_ret (v := .tuple #[.agg #[.slice none 0 0], .bool false]) (by simp [results, Try.results5, go_sem]) rfl ⟨_, rfl, Row.nil _ _ _ _ _, unhide K7⟩
    · have h2 : 200 < n := by omega
      clear h
      go_enter Try.func5, Try.ntmps5
      go_wp2
      exact bodyPost_ret (v := .tuple #[.agg #[.slice none 0 0], .bool false]) (by simp [results, Try.results5, go_sem]) rfl ⟨_, rfl, Row.nil _ _ _ _ _, unhide K7⟩

end Go.Proofs.Ytinbdhnkpdbdgaa
