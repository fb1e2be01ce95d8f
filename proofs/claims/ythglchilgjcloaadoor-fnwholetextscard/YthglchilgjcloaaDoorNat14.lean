/-
  Contracts of the model's l2isDigits and l2digits.
-/
import Derived.Test.YthglchilgjcloaaDoorNat13
namespace Go.Proofs.YthglchilgjcloaaDoor
open Go.RowKit
set_option linter.unusedVariables false
set_option maxRecDepth 8000
set_option linter.unusedSimpArgs false

/-- The number that decimal digits are. -/
def digN (bs : List Int) : Nat := bs.foldl (fun n b => 10 * n + (b - 48).toNat) 0
def isDig (bs : List Int) : Bool := decide (bs ≠ []) && bs.all (fun b => decide (48 ≤ b) && decide (b ≤ 57))
theorem take_succ_getD (bs : List Int) (i : Nat) (h : i < bs.length) : bs.take (i + 1) = bs.take i ++ [bs.getD i 0] := by
  rw [List.take_succ_eq_append_getElem h]; simp [List.getD, h]
theorem digN_step (bs : List Int) (i : Nat) (h : i < bs.length) : digN (bs.take (i + 1)) = 10 * digN (bs.take i) + (bs.getD i 0 - 48).toNat := by
  rw [take_succ_getD bs i h]; unfold digN; rw [List.foldl_append]; rfl
theorem isDig_at {bs : List Int} (h : isDig bs = true) (i : Nat) (hi : i < bs.length) : 48 ≤ bs.getD i 0 ∧ bs.getD i 0 ≤ 57 := by
  unfold isDig at h
  rw [Bool.and_eq_true] at h
  have := (List.all_eq_true.1 h.2) (bs[i]) (List.getElem_mem hi)
  simpa [List.getD, hi] using this
theorem isDig_of {bs : List Int} (hne : bs.length ≠ 0) (h : ∀ i, i < bs.length → 48 ≤ bs.getD i 0 ∧ bs.getD i 0 ≤ 57) : isDig bs = true := by
  unfold isDig
  rw [Bool.and_eq_true]
  refine ⟨decide_eq_true (fun e => hne (by rw [e]; rfl)), List.all_eq_true.2 fun b hb => ?_⟩
  obtain ⟨i, hi, rfl⟩ := List.getElem_of_mem hb
  have := h i hi
  simpa [List.getD, hi] using this
theorem isDig_not {bs : List Int} (i : Nat) (hi : i < bs.length) (h : ¬ (48 ≤ bs.getD i 0 ∧ bs.getD i 0 ≤ 57)) : isDig bs = false := by
  cases e : isDig bs
  · rfl
  · exact absurd (isDig_at e i hi) h
theorem isDig_nil {bs : List Int} (h : bs.length = 0) : isDig bs = false := by rw [List.length_eq_zero_iff.1 h]; rfl
theorem limbs_ten (n k d : Nat) (h : (limbs n).length ≤ k) (hd : d ≤ 9) : (limbs (10 * n + d)).length ≤ k + 1 := by
  refine (limbs_length_le _ _).2 ?_
  have := (limbs_length_le n k).1 h
  rw [Int.pow_succ]
  generalize (65536 : Int) ^ k = P at *
  omega
theorem digN_len (bs : List Int) (h : ∀ i, i < bs.length → 48 ≤ bs.getD i 0 ∧ bs.getD i 0 ≤ 57) : ∀ i, i ≤ bs.length → (limbs (digN (bs.take i))).length ≤ i
  | 0, _ => by simp [digN, limbs_zero]
  | i + 1, hi => by
    rw [digN_step bs i (by omega)]
    have := h i (by omega)
    exact limbs_ten _ _ _ (digN_len bs h i (by omega)) (by omega)

set_option maxHeartbeats 2000000 in
theorem isDigits_spec {bw : Bool} {lo hi : Nat} {v : Value} {bs : List Int} (w : World) (r : Row .u8 bw lo hi w v bs) :
    Calls Tryd.prog 19 #[v] w fun e w' => e = .returned (.bool (isDig bs)) ∧ w' = w := by
  obtain ⟨a, c, rfl⟩ := Row.form' r
  have hm := r.len
  unfold maxLen at hm
  have HAT := hide ((row_cell r).2.2.2)
  clear r
  go_enter Tryd.func19, Tryd.ntmps19
  go_wp2
  go_loop [3] (fun ii => ∃ i : Nat, ii = .int .i64 (i : Int) ∧ i ≤ bs.length ∧ Hid (∀ j, j < i → 48 ≤ bs.getD j 0 ∧ bs.getD j 0 ≤ 57)) (fun ii => bs.length - (intOf ii).toNat)
  case atStart => exact ⟨0, rfl, Nat.zero_le _, hide (fun j h => by omega)⟩
  case round =>
    obtain ⟨i, rfl, hi, hp⟩ := hrel
    by_cases hA : i < bs.length
    · have hi1 : (i : Int) < (bs.length : Int) := by omega
      obtain ⟨g, off, rfl, x1⟩ := unhide HAT i hA
      by_cases hd : 48 ≤ bs.getD i 0 ∧ bs.getD i 0 ≤ 57
      · have HP2 : Hid (∀ j, j < i + 1 → 48 ≤ bs.getD j 0 ∧ bs.getD j 0 ≤ 57) := fun j h => by
          by_cases e : j = i
          · subst e; exact hd
          · exact unhide hp j (by omega)
        have h1 : ¬ bs.getD i 0 < 48 := by omega
        have h2 : ¬ 57 < bs.getD i 0 := by omega
        generalize bs.getD i 0 = z at *
        clear hp HAT
        go_wp2
        go_round
        case rel => exact ⟨i + 1, by go_num, by omega, HP2⟩
        case measure => simp [intOf]; omega
      · have hf := isDig_not i hA hd
        have HF := hide hf
        by_cases h1 : bs.getD i 0 < 48
        · generalize bs.getD i 0 = z at *
          clear hp HAT hf
          go_wp2
          go_ret
          exact ⟨by rw [unhide HF]; rfl, rfl⟩
        · have h2 : 57 < bs.getD i 0 := by omega
          generalize bs.getD i 0 = z at *
          clear hp HAT hf
          go_wp2
          go_ret
          exact ⟨by rw [unhide HF]; rfl, rfl⟩
    · have hi1 : ¬ (i : Int) < (bs.length : Int) := by omega
      have hiN : i = bs.length := by omega
      by_cases h0 : bs.length = 0
      · have HF := hide (isDig_nil h0)
        have hz : (bs.length : Int) = 0 := by omega
        clear HAT hp
        go_wp2
        go_ret
        exact ⟨by rw [unhide HF]; rfl, rfl⟩
      · have HF := hide (isDig_of h0 (fun j hj => unhide hp j (by omega)))
        have hz : (0 : Int) < (bs.length : Int) := by omega
        have hz' : 0 < bs.length := by omega
        clear HAT hp hiN
        go_wp2
        go_ret
        exact ⟨by rw [unhide HF]; rfl, rfl⟩

theorem l2add_enter (w : World) (args : Array Value) : (callFunc 45 args).run Tryd.prog w = .ok (.enter 45 args) w := callFunc_enters Tryd.func45 (by decide) (fun h => by cases h) w args

set_option maxHeartbeats 8000000 in
theorem digits_spec {bw : Bool} {lo hi : Nat} {v : Value} {bs : List Int} (w : World) (r : Row .u8 bw lo hi w v bs) (hd : isDig bs = true) (hlen : bs.length ≤ 400) :
    Calls Tryd.prog 22 #[v] w fun e w' => ∃ v', e = .returned (.agg #[v']) ∧ Row .i64 true w.heap.size w'.heap.size w' v' (limbs (digN bs)) ∧ Kept 0 0 w w' := by
  obtain ⟨a, c, rfl⟩ := Row.form' r
  have HAT := hide ((row_cell r).2.2.2)
  have hdi := isDig_at hd
  have hdl := digN_len bs hdi
  have HDI := hide hdi
  have HDL := hide hdl
  have hk0 := ((Kept.refl 0 0 w).alloc (.cells #[.slice none 0 0] 25)).alloc (.cells #[.slice none 0 0] 25)
  have hR : ((w.alloc (.cells #[.slice none 0 0] 25)).alloc (.cells #[.slice none 0 0] 25)).cell? ⟨w.heap.size, 0, none⟩ = some (.slice none 0 0) := old_cell _ (new_cell_at _ _ _ _ rfl)
  have fR : ((w.alloc (.cells #[.slice none 0 0] 25)).alloc (.cells #[.slice none 0 0] 25)).frozen? ⟨w.heap.size, 0, none⟩ = false := loose_old (by simp) (new_loose _ _ _ _ rfl)
  have hN : ((w.alloc (.cells #[.slice none 0 0] 25)).alloc (.cells #[.slice none 0 0] 25)).cell? ⟨w.heap.size + 1, 0, none⟩ = some (.slice none 0 0) := new_cell_at _ _ _ _ (by simp)
  have fN : ((w.alloc (.cells #[.slice none 0 0] 25)).alloc (.cells #[.slice none 0 0] 25)).frozen? ⟨w.heap.size + 1, 0, none⟩ = false := new_loose _ _ _ _ (by simp)
  clear r hd hdi hdl
  go_enter Tryd.func22, Tryd.ntmps22
  go_wp2
  generalize (w.alloc (.cells #[.slice none 0 0] 25)).alloc (.cells #[.slice none 0 0] 25) = W at *
  go_loopw [4] (fun ii wr => ∃ (i : Nat) (u : Value), ii = .int .i64 (i : Int) ∧ i ≤ bs.length ∧ wr.cell? ⟨w.heap.size + 1, 0, none⟩ = some u ∧ wr.frozen? ⟨w.heap.size + 1, 0, none⟩ = false ∧ wr.cell? ⟨w.heap.size, 0, none⟩ = some (.slice none 0 0) ∧ wr.frozen? ⟨w.heap.size, 0, none⟩ = false ∧ Row .i64 true (w.heap.size + 2) wr.heap.size wr u (limbs (digN (bs.take i))) ∧ Kept 0 0 w wr) (fun ii _ => bs.length - (intOf ii).toNat)
  case atStart => exact ⟨0, _, rfl, Nat.zero_le _, hN, fN, hR, fR, by simpa [digN, limbs_zero] using Row.nil _ _ _ _ _, hk0⟩
  case round =>
    clear hN fN hR fR hk0
    obtain ⟨i, u, rfl, hi, cN, fN, cR, fR, rn, kk⟩ := hrel
    obtain ⟨an, dn, hvn⟩ := Row.form' rn
    by_cases hA : i < bs.length
    · have hi1 : (i : Int) < (bs.length : Int) := by omega
      obtain ⟨gB, oB, rfl, xb⟩ := unhide HAT i hA
      replace xb := kk.cell0 xb
      have hdg := unhide HDI i hA
      have hstep := digN_step bs i hA
      have hln := unhide HDL i (by omega)
      obtain ⟨n, hn⟩ : ∃ n, n = digN (bs.take i) := ⟨_, rfl⟩
      rw [← hn] at rn hln hvn hstep
      obtain ⟨D, hD⟩ : ∃ D : Nat, D = (bs.getD i 0 - 48).toNat := ⟨_, rfl⟩
      rw [← hD] at hstep
      generalize hz : bs.getD i 0 = z at *
      have hzD : z - 48 = (D : Int) := by omega
      have hD9 : D ≤ 9 := by omega
      have hw8 : IntKind.u8.wrap (D : Int) = (D : Int) := by rw [IntKind.wrap_u8]; omega
      have hw64 : IntKind.i64.wrap (D : Int) = (D : Int) := wrap_small _ (by omega) (by omega)
      have hl10 : (limbs (10 : Int).toNat).length ≤ 100000 := by decide
      have hlD : (limbs (D : Int).toNat).length ≤ 100000 := by
        have := (limbs_length_le D 1).2 (by omega)
        simpa using Nat.le_trans this (by decide)
      have hln2 : (limbs n).length ≤ 100000 := by omega
      have e10 : (val (limbs n) * val (limbs (10 : Int).toNat)).toNat = 10 * n := by rw [limbs_val, limbs_val, show (10 : Int).toNat = 10 from rfl]; omega
      have hlm : (limbs (10 * n)).length ≤ 100000 := by have := limbs_ten n i 0 hln (by omega); simp at this; omega
      have hsum : (val (limbs (10 * n)) + val (limbs (D : Int).toNat)).toNat = 10 * n + D := by rw [limbs_val, limbs_val]; omega
      obtain ⟨S, hS⟩ : ∃ S, S = 10 * n + D := ⟨_, rfl⟩
      rw [← hS] at hsum hstep
      have HSTEP := hide hstep
      have b1 : w.heap.size + 1 < wr.heap.size := World.block_lt_of_cell? _ _ cN
      have b0 : w.heap.size < wr.heap.size := World.block_lt_of_cell? _ _ cR
      have hLn : Lim (limbs n) := limbs_lim n
      obtain ⟨Ln, hLe⟩ : ∃ Ln, Ln = limbs n := ⟨_, rfl⟩
      rw [← hLe] at rn hvn hln2 e10 hLn
      subst hvn
      have hten : (10 : Int) ≤ 9223372036854775807 := by decide
      have hD63 : (D : Int) ≤ 9223372036854775807 := by omega
      clear hS hD hz hn hLe hstep hln
      go_wp2
      go_region_law (first
        | (refine step_call1 rfl 47 (.const (.int .i64 10)) _ rfl (l2of_enter _) (.int .i64 10) rfl (of_spec _ 10 hten) ?_
           rintro e w5 ⟨v5, rfl, r5, k5⟩
           refine ⟨_, rfl, ?_⟩
           have xb5 := k5.cell0 xb
           have cN5 := k5.cell0 cN)
        | (refine step_call2 rfl 46 (.tmp 11) (.tmp 12) _ rfl (l2mul_enter _) (.agg #[.slice an Ln.length dn]) (.agg #[v5]) rfl rfl (mul_spec _ (rn.kept ((Kept.refl 0 0 wr).drew.trans k5) (Or.inr (Or.inr (Nat.le_refl _)))) r5 hLn (limbs_lim _) hln2 hl10) ?_
           rintro e w6 ⟨v6, rfl, r6, k6⟩
           refine ⟨_, rfl, ?_⟩
           rw [e10] at r6
           have xb6 := k6.cell0 xb5)
        | (refine step_call1 rfl 47 (.tmp 19) _ rfl (l2of_enter _) (.int .i64 (D : Int)) rfl (of_spec _ (D : Int) hD63) ?_
           rintro e w7 ⟨v7, rfl, r7, k7⟩
           refine ⟨_, rfl, ?_⟩)
        | (refine step_call2 rfl 45 (.tmp 13) (.tmp 20) _ rfl (l2add_enter _) (.agg #[v6]) (.agg #[v7]) rfl rfl (add_spec _ (r6.kept k7 (Or.inr (Or.inr (Nat.le_refl _)))) r7 (limbs_lim _) (limbs_lim _) hlm hlD) ?_
           rintro e w8 ⟨v8, rfl, r8, k8⟩
           refine ⟨_, rfl, ?_⟩
           rw [hsum] at r8
           have ka := (((Kept.refl 0 0 wr).drew.trans k5).trans k6).trans (k7.trans k8)
           have cN8 := ka.cell0 cN
           have fN8 := ka.loose0 (World.block_lt_of_cell? _ _ cN) fN
           have hv8 := Row.form' r8
           obtain ⟨a8, d8, e8⟩ := hv8
           subst e8))
      all_goals
        have K8 := hide ((kk.trans ka).setNew (p := ⟨w.heap.size + 1, 0, none⟩) (by simp) (.slice a8 (limbs S).length d8))
        have s5 := k5.size
        have s6 := k6.size
        have s7 := k7.size
        have R8 := hide ((r8.set_other (p := ⟨w.heap.size + 1, 0, none⟩) (.inl (show w.heap.size + 1 < w7.heap.size by simp at s5; omega)) (.slice a8 (limbs S).length d8)).tight.wider (lo' := w.heap.size + 2) (by simp at s5; omega) (Nat.le_refl _))
        have C1 := hide (cell_on _ _ _ (.slice a8 (limbs S).length d8) _ cN8)
        have F1 : Hid ((w8.setCell ⟨w.heap.size + 1, 0, none⟩ (.slice a8 (limbs S).length d8)).frozen? ⟨w.heap.size + 1, 0, none⟩ = false) := by show _ = _; rw [frozen_set]; exact fN8
        have C0 := hide (cell_aside (.slice a8 (limbs S).length d8) (p := ⟨w.heap.size, 0, none⟩) (r := ⟨w.heap.size + 1, 0, none⟩) (by simp) (ka.cell0 cR))
        have F0 : Hid ((w8.setCell ⟨w.heap.size + 1, 0, none⟩ (.slice a8 (limbs S).length d8)).frozen? ⟨w.heap.size, 0, none⟩ = false) := by show _ = _; rw [frozen_set]; exact ka.loose0 b0 fR
        clear ka k5 k6 k7 k8 r5 r6 r7 r8 rn kk cR fR
        go_wp2
        go_roundw
        case rel => exact ⟨i + 1, _, by go_num, by omega, unhide C1, unhide F1, unhide C0, unhide F0, by rw [unhide HSTEP]; exact unhide R8, unhide K8⟩
        case measure => simp [intOf]; omega
    · have hi1 : ¬ (i : Int) < (bs.length : Int) := by omega
      rw [List.take_of_length_le (by omega)] at rn hvn
      obtain ⟨zz, hzz⟩ : ∃ zz, zz = limbs (digN bs) := ⟨_, rfl⟩
      rw [← hzz] at rn hvn
      have HZ := hide hzz
      clear hzz
      subst hvn
      have b0 : w.heap.size < wr.heap.size := World.block_lt_of_cell? _ _ cR
      have K8 := hide (kk.setNew (p := ⟨w.heap.size, 0, none⟩) (Nat.le_refl _) (.slice an zz.length dn))
      have R8 := hide ((rn.set_other (p := ⟨w.heap.size, 0, none⟩) (.inl (by simp)) (.slice an zz.length dn)).tight.wider (lo' := w.heap.size) (by omega) (Nat.le_refl _))
      clear rn kk HAT HDI HDL
      go_wp2
      exact bodyPost_ret (v := .agg #[.slice an zz.length dn]) (by simp [results, Tryd.results22, go_sem, cR]) rfl ⟨_, rfl, by rw [← unhide HZ]; exact unhide R8, unhide K8⟩

end Go.Proofs.YthglchilgjcloaaDoor
