/-
  The model's DyText.
-/
import Derived.Test.YtfikfmkhmojpfaaDyt2
namespace Go.Proofs.Ytfikfmkhmojpfaa
open Go.RowKit
set_option linter.unusedVariables false
set_option maxRecDepth 8000
set_option linter.unusedSimpArgs false

theorem l4dec_spec {bw : Bool} {lo hi : Nat} {v : Value} {zs : List Int} (b : Bool) (x : Int) (w : World) (r : Row .i64 bw lo hi w v zs) (hn : Nrm zs) (nx : zs.length ≤ 100) (x0 : -100 ≤ x) (x1 : x ≤ 1000) :
    Calls Try.prog 36 #[.agg #[.bool b, v, .int .i64 x]] w fun e w' => ∃ v', e = .returned v' ∧ Row .u8 true w.heap.size w'.heap.size w' v' (sgnT b (dszT (val zs).toNat x)) ∧ Kept 0 0 w w' := by
  have h2 := val_two hn nx
  by_cases h0 : 0 ≤ x
  · obtain ⟨k, rfl⟩ := Int.eq_ofNat_of_zero_le h0
    have hU : Hid ((limbs ((val zs).toNat * 2 ^ k)).length ≤ 100000 ∧ (decText ((val zs).toNat * 2 ^ k)).length ≤ 2000000) := by
      have h3 := limbs_lt (k := e26) (Nat.lt_of_lt_of_le (up_two h2 (show k ≤ 1000 by omega)) (Nat.pow_le_pow_right (n := 2) (by decide) (show e26 ≤ 16 * e26 by omega)))
      have h4 := dec_len (up_two h2 (show k ≤ 1000 by omega)) (by decide)
      unfold e26 at h3 h4
      exact ⟨by omega, by omega⟩
    have e : dszT (val zs).toNat (k : Int) = decText ((val zs).toNat * 2 ^ k) := by unfold dszT; rw [if_pos h0, Int.toNat_natCast]
    rw [e]
    cases b
    · exact l4dec_up_false k w r hn nx (by omega) hU
    · exact l4dec_up_true k w r hn nx (by omega) hU
  · obtain ⟨K, hK⟩ : ∃ K : Nat, -x = (K : Int) := ⟨(-x).toNat, by omega⟩
    have hw : IntKind.i64.wrap (-x) = (K : Int) := by rw [IntKind.wrap_i64]; omega
    have hL : Hid (∀ i, i ≤ K → (limbs ((val zs).toNat * 5 ^ i)).length ≤ 200) := fun i hi => by
      have h3 := limbs_lt (k := e12) (Nat.lt_of_lt_of_le (down_two h2 (show i ≤ 100 by omega)) (Nat.pow_le_pow_right (n := 2) (by decide) (show e19 ≤ 16 * e12 by unfold e19 e12; omega)))
      unfold e12 at h3
      omega
    have hU : Hid (True ∧ (decText ((val zs).toNat * 5 ^ K)).length ≤ 2000) := by
      have h4 := dec_len (down_two h2 (show K ≤ 100 by omega)) (by decide)
      unfold e19 at h4
      exact ⟨trivial, by omega⟩
    have e : dszT (val zs).toNat x = dpText ((val zs).toNat * 5 ^ K) K := by unfold dszT; rw [if_neg h0, hK, Int.toNat_natCast]
    rw [e]
    cases b
    · exact l4dec_down_false x K w r hn nx (by omega) hw (by omega) (by omega) hL hU
    · exact l4dec_down_true x K w r hn nx (by omega) hw (by omega) (by omega) hL hU

set_option maxHeartbeats 4000000 in
theorem dyText_spec {bw : Bool} {lo hi : Nat} {v : Value} {zs : List Int} (b : Bool) (x : Int) (hx1 : x ≤ 9223372036854775807) (hx0 : -9223372036854775808 ≤ x) (w : World) (r : Row .i64 bw lo hi w v zs) :
    Calls Try.prog 8 #[.agg #[.bool b, v, .int .i64 x]] w fun e w' => ∃ v', e = .returned (.tuple #[v', .bool (dtB b zs x)]) ∧ Row .u8 true w.heap.size w'.heap.size w' v' (dtT b zs x) ∧ Kept 0 0 w w' := by
  have k0 : Kept 0 0 w (w.alloc (.cells #[.bool b, v, .int .i64 x] 37)) := (Kept.refl 0 0 w).alloc _
  have p0 : (w.alloc (.cells #[.bool b, v, .int .i64 x] 37)).cell? ⟨w.heap.size, 0, none⟩ = some (.bool b) := new_cell2 _ _ _ _ _ _ rfl rfl
  have p1 : (w.alloc (.cells #[.bool b, v, .int .i64 x] 37)).cell? ⟨w.heap.size, 1, none⟩ = some (v) := new_cell2 _ _ _ _ _ _ rfl rfl
  have p2 : (w.alloc (.cells #[.bool b, v, .int .i64 x] 37)).cell? ⟨w.heap.size, 2, none⟩ = some (.int .i64 x) := new_cell2 _ _ _ _ _ _ rfl rfl
  have S0W : Hid ((w.alloc (.cells #[.bool b, v, .int .i64 x] 37)).heap.size = w.heap.size + 1) := by (show _ = _; simp)
  replace r := r.kept k0 (by omega)
  obtain ⟨a, c, hv⟩ := Row.form' r
  subst hv
  go_enter Try.func8, Try.ntmps8
  go_wp2_with fail
  generalize (w.alloc (.cells #[.bool b, .slice a zs.length c, .int .i64 x] 37)) = W at *
  refine (dok_spec b x hx1 hx0 _ r).mono ?_
  rintro e w1 ⟨rfl, k1⟩
  replace p0 := k1.cell0 p0
  replace p1 := k1.cell0 p1
  replace p2 := k1.cell0 p2
  replace r := r.kept k1 (by omega)
  have K1 := hide (k0.trans k1)
  clear k0 k1
  cases hd : dokB b zs x
  · have HB := hide (dt_no (dt_dok hd))
    clear hd
    clear r
    go_wp2
    exact bodyPost_ret (v := .tuple #[.slice none 0 0, .bool false]) (by simp [results, Try.results8, go_sem]) rfl ⟨.slice none 0 0, by rw [(unhide HB).1], by rw [(unhide HB).2]; exact Row.nil _ _ _ _ _, unhide K1⟩
  by_cases h0 : x < -100
  · have HB := hide (dt_no (b := b) (zs := zs) (dt_lo h0))
    clear hd
    clear r
    go_wp2
    exact bodyPost_ret (v := .tuple #[.slice none 0 0, .bool false]) (by simp [results, Try.results8, go_sem]) rfl ⟨.slice none 0 0, by rw [(unhide HB).1], by rw [(unhide HB).2]; exact Row.nil _ _ _ _ _, unhide K1⟩
  by_cases h1 : x > 1000
  · have HB := hide (dt_no (b := b) (zs := zs) (dt_hi h1))
    clear hd
    clear r
    go_wp2
    exact bodyPost_ret (v := .tuple #[.slice none 0 0, .bool false]) (by simp [results, Try.results8, go_sem]) rfl ⟨.slice none 0 0, by rw [(unhide HB).1], by rw [(unhide HB).2]; exact Row.nil _ _ _ _ _, unhide K1⟩
  have HB : Hid (dtB b zs x = true ∧ dtT b zs x = sgnT b (dszT (val zs).toNat x)) := ⟨dt_yes hd h0 h1, by unfold dtT; rw [dt_yes hd h0 h1]; rfl⟩
  have hwk := (dok_parts hd).1
  obtain ⟨hl, hn⟩ := (okB_iff zs).1 (wok_ok hwk)
  have hdec := l4dec_spec b x _ r hn hl (by omega) (by omega)
  clear r hn hl hx1 hx0 hd hwk
  go_wp2_with fail
  refine hdec.mono ?_
  rintro e w2 ⟨v2, rfl, r2, k2⟩
  have z1 := (unhide K1).size
  have K2 := hide ((unhide K1).trans k2)
  obtain ⟨TT, hTT⟩ : ∃ TT, sgnT b (dszT (val zs).toNat x) = TT := ⟨_, rfl⟩
  rw [hTT] at HB r2
  obtain ⟨a2, c2, hv2⟩ := Row.form' r2
  subst hv2
  have R2 := hide (r2.wider (lo' := w.heap.size) z1 (Nat.le_refl _))
  clear hdec r2 k2 hTT p0 p1 p2
  go_wp2
  exact bodyPost_ret (v := .tuple #[.slice a2 TT.length c2, .bool true]) (by simp [results, Try.results8, go_sem]) rfl ⟨_, by rw [(unhide HB).1], by rw [(unhide HB).2]; exact unhide R2, unhide K2⟩

end Go.Proofs.Ytfikfmkhmojpfaa
