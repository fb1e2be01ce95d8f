/-
  The contract of the model's NatPow.
-/
import Derived.Test.YtolciidbkhkfgaaINat28
import Derived.Test.YtolciidbkhkfgaaNat9
namespace Go.Proofs.Ytolciidbkhkfgaa
open Go.RowKit
set_option linter.unusedVariables false
set_option maxRecDepth 8000
set_option linter.unusedSimpArgs false

theorem Kept.newer {lo hi : Nat} {a b c : World} (h : Kept 0 0 a b) (k : Kept lo hi b c) (hl : a.heap.size ≤ lo) : Kept 0 0 a c :=
  ⟨k.os.trans h.os, k.tape.trans h.tape, k.output.trans h.output, Nat.le_trans h.size k.size, fun i hi' ho => (k.block i (Nat.lt_of_lt_of_le hi' h.size) (.inl (by omega))).trans (h.block i hi' ho)⟩
theorem Kept.looseOut {lo hi : Nat} {W w' : World} (k : Kept lo hi W w') {a : Addr} (ho : a.block < lo ∨ hi ≤ a.block) (hb : a.block < W.heap.size) (h : W.frozen? a = false) : w'.frozen? a = false := by
  rw [← h]; exact World.frozen?_of_block (k.block _ hb ho)

set_option maxHeartbeats 4000000 in
theorem natPow_spec {b1 : Bool} {l1 h1 : Nat} {v1 : Value} {xs : List Int} (w : World) (r1 : Row .i64 b1 l1 h1 w v1 xs) (k : Int) (hk1 : k ≤ 9223372036854775807) (hk0 : -9223372036854775808 ≤ k) :
    Calls Try.prog 77 #[.agg #[v1], .int .i64 k] w fun e w' => ∃ v', e = .returned (.tuple #[.agg #[v'], .bool (ansB (powOk xs k) ((val xs).toNat ^ k.toNat))]) ∧ Row .i64 true w.heap.size w'.heap.size w' v' (ansL (powOk xs k) ((val xs).toNat ^ k.toNat)) ∧ Kept 0 0 w w' := by
  have k0 := ((Kept.refl 0 0 w).alloc (.cells #[v1] 26)).alloc (.cells #[.slice none 0 0] 26)
  have q1 := r1.kept k0 (by omega)
  have c1 : ((w.alloc (.cells #[v1] 26)).alloc (.cells #[.slice none 0 0] 26)).cell? ⟨w.heap.size, 0, none⟩ = some v1 := old_cell _ (new_cell_at _ _ _ _ rfl)
  have c3 : ((w.alloc (.cells #[v1] 26)).alloc (.cells #[.slice none 0 0] 26)).cell? ⟨w.heap.size + 1, 0, none⟩ = some (.slice none 0 0) := new_cell_at _ _ _ _ (by simp)
  have f3 : ((w.alloc (.cells #[v1] 26)).alloc (.cells #[.slice none 0 0] 26)).frozen? ⟨w.heap.size + 1, 0, none⟩ = false := new_loose _ _ _ _ (by simp)
  obtain ⟨a1, d1, rfl⟩ := Row.form' r1
  clear r1
  go_enter Try.func77, Try.ntmps77
  go_wp2_with fail
  generalize (w.alloc (.cells #[.slice a1 xs.length d1] 26)).alloc (.cells #[.slice none 0 0] 26) = W at *
  refine (ok_spec _ q1).mono ?_
  rintro e w1 ⟨rfl, k1⟩
  replace f3 := k1.loose0 (World.block_lt_of_cell? _ _ c3) f3
  replace c3 := k1.cell0 c3
  replace c1 := k1.cell0 c1
  replace q1 := q1.kept k1 (by omega)
  have K := hide (k0.trans k1)
  clear k0 k1
  cases hok1 : okB xs
  · have HK := hide hok1
    clear q1 hok1
    have E0 := hide (powOk_bad (k := k) (unhide HK))
    have K' := hide ((unhide K).setNew (p := ⟨w.heap.size + 1, 0, none⟩) (by simp) (.slice none 0 0))
    go_wp2_with fail
    exact bodyPost_ret (v := .tuple #[.agg #[.slice none 0 0], .bool false]) (by simp [results, Try.results77, go_sem, c3]) rfl ⟨_, by rw [ansB_no (unhide E0)], by rw [ansL_no (unhide E0)]; exact Row.nil _ _ _ _ _, unhide K'⟩
  have HK1 := hide hok1
  clear hok1
  have hn1 := ((okB_iff xs).1 (unhide HK1)).2
  have hl0 := ((okB_iff xs).1 (unhide HK1)).1
  have hl1 : xs.length ≤ 100000 := by omega
  by_cases hneg : k < 0
  · clear q1
    have E0 := hide (powOk_neg (xs := xs) hneg)
    have K' := hide ((unhide K).setNew (p := ⟨w.heap.size + 1, 0, none⟩) (by simp) (.slice none 0 0))
    go_wp2_with fail
    exact bodyPost_ret (v := .tuple #[.agg #[.slice none 0 0], .bool false]) (by simp [results, Try.results77, go_sem, c3]) rfl ⟨_, by rw [ansB_no (unhide E0)], by rw [ansL_no (unhide E0)]; exact Row.nil _ _ _ _ _, unhide K'⟩
  by_cases hbig : 1600 < k
  · clear q1
    have E0 := hide (powOk_big (xs := xs) hbig)
    have K' := hide ((unhide K).setNew (p := ⟨w.heap.size + 1, 0, none⟩) (by simp) (.slice none 0 0))
    go_wp2_with fail
    exact bodyPost_ret (v := .tuple #[.agg #[.slice none 0 0], .bool false]) (by simp [results, Try.results77, go_sem, c3]) rfl ⟨_, by rw [ansB_no (unhide E0)], by rw [ansL_no (unhide E0)]; exact Row.nil _ _ _ _ _, unhide K'⟩
  obtain ⟨K0, hK0⟩ : ∃ K0 : Nat, k = (K0 : Int) := ⟨k.toNat, by omega⟩
  subst hK0
  have E1 := hide (powOk_yes (k := (K0 : Int)) (unhide HK1) (by omega) (by omega))
  have HXV : Hid (val xs = ((val xs).toNat : Int)) := by show _ = _; have := val_nonneg hn1.1; omega
  obtain ⟨X, hX⟩ : ∃ X, X = (val xs).toNat := ⟨_, rfl⟩
  rw [← hX] at HXV
  have HX := hide hX
  clear hX
  have b1' := World.block_lt_of_cell? _ _ c3
  dsimp only at b1'
  replace q1 := q1.tight
  go_wp2_with fail
  refine (of_spec _ 1 (by decide)).mono ?_
  rintro e w2 ⟨v2, rfl, r2, k2⟩
  have s2 := k2.size
  generalize hL : limbs (1 : Int).toNat = L1 at *
  have HL : Hid (L1 = limbs (X ^ 0)) := by show _ = _; rw [← hL, Nat.pow_zero]; rfl
  have hL1 : L1.length ≤ 100 := by rw [← hL]; decide
  clear hL
  obtain ⟨a2, d2, e2⟩ := Row.form' r2
  subst e2
  replace k2 := k2.alloc (.cells #[.slice a2 L1.length d2] 26)
  replace c1 := k2.cell0 c1
  replace f3 := k2.loose0 b1' f3
  replace c3 := k2.cell0 c3
  replace K := hide ((unhide K).trans k2)
  replace q1 := q1.kept k2 (by omega)
  replace r2 := r2.kept ((Kept.refl 0 0 w2).alloc (.cells #[.slice a2 L1.length d2] 26)) (by omega)
  have co : (w2.alloc (.cells #[.slice a2 L1.length d2] 26)).cell? ⟨w2.heap.size, 0, none⟩ = some (.slice a2 L1.length d2) := new_cell_at _ _ _ _ rfl
  have fo : (w2.alloc (.cells #[.slice a2 L1.length d2] 26)).frozen? ⟨w2.heap.size, 0, none⟩ = false := new_loose _ _ _ _ rfl
  clear k2
  go_wp2_with fail
  generalize w2.alloc (.cells #[.slice a2 L1.length d2] 26) = w3 at *
  generalize w2.heap.size = go at *
  have R2 := hide r2
  have Q1 := hide q1
  have C1 := hide c1
  have C3 := hide c3
  have F3 := hide f3
  have CO := hide co
  have FO := hide fo
  clear r2 q1 c1 c3 f3 co fo
  go_loopw [7] (fun ii wr => ∃ (i : Nat) (u : Value) (lo hi : Nat), ii = .int .i64 (i : Int) ∧ i ≤ K0 ∧ wr.cell? ⟨go, 0, none⟩ = some u ∧ wr.frozen? ⟨go, 0, none⟩ = false ∧ Row .i64 true lo hi wr u (limbs (X ^ i)) ∧ (hi ≤ go ∨ go + 1 ≤ lo) ∧ w1.heap.size ≤ lo ∧ (limbs (X ^ i)).length ≤ 100 ∧ Kept go (go + 1) w3 wr) (fun ii _ => K0 - (intOf ii).toNat)
  case atStart => exact ⟨0, _, w1.heap.size, go, rfl, Nat.zero_le _, unhide CO, unhide FO, by rw [← unhide HL]; exact unhide R2, .inl (Nat.le_refl _), Nat.le_refl _, by rw [← unhide HL]; exact hL1, Kept.refl _ _ _⟩
  case round =>
    clear CO FO R2
    obtain ⟨i, u, lo, hi, rfl, hi', co, fo, ro, hr, hlo, hl, kk⟩ := hrel
    have c1 := kk.cellOut (.inl (show w.heap.size < go by omega)) (unhide C1)
    have c3 := kk.cellOut (.inl (show w.heap.size + 1 < go by omega)) (unhide C3)
    have f3 := kk.looseOut (.inl (show w.heap.size + 1 < go by omega)) (World.block_lt_of_cell? _ _ (unhide C3)) (unhide F3)
    have q1 := (unhide Q1).kept kk (by omega)
    have b5 := World.block_lt_of_cell? _ _ co
    dsimp only at b5
    have ne1 : ¬ go = w.heap.size + 1 := by omega
    have ne2 : ¬ w.heap.size + 1 = go := by omega
    have ne3 : ¬ go = w.heap.size := by omega
    have ne4 : ¬ w.heap.size = go := by omega
    obtain ⟨au, du, eu⟩ := Row.form' ro
    by_cases hA : i < K0
    · have hi1 : (i : Int) < (K0 : Int) := by omega
      have e1 : (val (limbs (X ^ i)) * val xs).toNat = X ^ (i + 1) := by rw [limbs_val, unhide HXV, ← Int.natCast_mul, Int.toNat_natCast, Nat.pow_succ]
      obtain ⟨LI, hLI⟩ : ∃ LI, LI = limbs (X ^ i) := ⟨_, rfl⟩
      have hLl : Lim LI := by rw [hLI]; exact limbs_lim _
      rw [← hLI] at ro eu hl e1
      subst eu
      clear hLI
      go_wp2_with fail
      refine (mul_spec _ ro q1 hLl hn1.1 (by omega) hl1).mono ?_
      rintro e w5 ⟨v5, rfl, r5, k5⟩
      rw [e1] at r5
      obtain ⟨ZN, hZN⟩ : ∃ ZN, ZN = limbs (X ^ (i + 1)) := ⟨_, rfl⟩
      rw [← hZN] at r5
      have HZN := hide hZN
      obtain ⟨a5, d5, e5⟩ := Row.form' r5
      subst e5
      replace co := k5.cell0 co
      replace fo := k5.loose0 b5 fo
      have f35 := k5.loose0 (World.block_lt_of_cell? _ _ c3) f3
      have c35 := k5.cell0 c3
      have k6 := (kk.trans k5.any).setCell (p := ⟨go, 0, none⟩) (Nat.le_refl _) (Nat.lt_succ_self _) (.slice a5 ZN.length d5)
      have R6 := hide (r5.set_other (p := ⟨go, 0, none⟩) (.inl b5) (.slice a5 ZN.length d5))
      have K6 := hide k6
      have CO6 := hide (cell_on _ _ _ (.slice a5 ZN.length d5) _ co)
      have FO6 : Hid ((w5.setCell ⟨go, 0, none⟩ (.slice a5 ZN.length d5)).frozen? ⟨go, 0, none⟩ = false) := by show _ = _; rw [frozen_set]; exact fo
      have s5 := k5.size
      have sk := kk.size
      clear r5 k5 k6 kk ro q1 hZN c3 f3 c1
      by_cases hlong : 100 < ZN.length
      · have hlong' : (100 : Int) < (ZN.length : Int) := by omega
        have hLg := pow_long (X := X) (i := i + 1) (k := K0) (by omega) (by omega) (by rw [← unhide HZN]; exact hlong)
        have HB : Hid (ansB (powOk xs (K0 : Int)) ((val xs).toNat ^ (K0 : Int).toNat) = false) := by show _ = _; rw [ansB_yes (unhide E1), ← unhide HX, Int.toNat_natCast]; exact decide_eq_false (by omega)
        have HZ : Hid (ansL (powOk xs (K0 : Int)) ((val xs).toNat ^ (K0 : Int).toNat) = []) := by show _ = _; rw [ansL_yes (unhide E1), ← unhide HX, Int.toNat_natCast]; unfold tell; rw [if_neg (by omega)]
        have K' := hide (((unhide K).newer (unhide K6) (by omega)).setNew (p := ⟨w.heap.size + 1, 0, none⟩) (by simp) (.slice none 0 0))
        have c36 := cell_aside (.slice a5 ZN.length d5) (p := ⟨w.heap.size + 1, 0, none⟩) (r := ⟨go, 0, none⟩) (by exact ne1) c35
        clear hLg
        go_wp2_with fail
        exact bodyPost_ret (v := .tuple #[.agg #[.slice none 0 0], .bool false]) (by simp [results, Try.results77, go_sem, c36]) rfl ⟨_, by rw [unhide HB], by rw [unhide HZ]; exact Row.nil _ _ _ _ _, unhide K'⟩
      · have hlong' : ¬ (100 : Int) < (ZN.length : Int) := by omega
        go_wp2
        go_roundw
        case rel => exact ⟨i + 1, _, wr.heap.size, _, by go_num, by omega, unhide CO6, unhide FO6, by rw [← unhide HZN]; exact unhide R6, .inr (by omega), by omega, by rw [← unhide HZN]; omega, unhide K6⟩
        case measure => simp [intOf]; omega
    · have hi1 : ¬ (i : Int) < (K0 : Int) := by omega
      have hiK : i = K0 := by omega
      subst hiK
      have HB : Hid (ansB (powOk xs (i : Int)) ((val xs).toNat ^ i) = true) := by show _ = _; rw [ansB_yes (unhide E1), ← unhide HX]; exact decide_eq_true hl
      have HZ : Hid (ansL (powOk xs (i : Int)) ((val xs).toNat ^ i) = limbs (X ^ i)) := by show _ = _; rw [ansL_yes (unhide E1), ← unhide HX]; exact tell_short hl
      generalize limbs (X ^ i) = zz at *
      subst eu
      have R := hide ((ro.set_other (p := ⟨w.heap.size + 1, 0, none⟩) (.inl (by show w.heap.size + 1 < lo; omega)) (.slice au zz.length du)).tight.wider (lo' := w.heap.size) (by omega) (Nat.le_refl _))
      have K7 := hide (((unhide K).newer kk (by omega)).setNew (p := ⟨w.heap.size + 1, 0, none⟩) (by simp) (.slice au zz.length du))
      clear ro kk q1 c1
      go_wp2_with fail
      exact bodyPost_ret (v := .tuple #[.agg #[.slice au zz.length du], .bool true]) (by simp [results, Try.results77, go_sem, c3]) rfl ⟨_, by rw [unhide HB], by rw [unhide HZ]; exact unhide R, unhide K7⟩

end Go.Proofs.Ytolciidbkhkfgaa
