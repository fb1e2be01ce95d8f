/-
  Contracts of NatInt, the model's and the program's.
-/
import Derived.Test.YtdlpkppkmfjdiaaINat7
import Derived.Test.YtdlpkppkmfjdiaaBC
namespace Go.Proofs.Ytdlpkppkmfjdiaa
open Go.RowKit
set_option linter.unusedVariables false
set_option maxRecDepth 8000

/-- What NatInt tells: a number, and whether it is one. -/
def fitsI (zs : List Int) : Bool := okB zs && decide (val zs ≤ 4611686018427387903)
def intN (zs : List Int) : Int := if fitsI zs = true then val zs else 0
theorem intN_bad {zs : List Int} (h : fitsI zs = false) : intN zs = 0 := by unfold intN; rw [if_neg (by simp [h])]
theorem intN_ok {zs : List Int} (h : fitsI zs = true) : intN zs = val zs := by unfold intN; rw [if_pos h]
theorem fitsI_bad {zs : List Int} (h : okB zs = false) : fitsI zs = false := by unfold fitsI; rw [h]; rfl
theorem fitsI_bits {zs : List Int} (h : okB zs = true) : fitsI zs = decide (bitsN (val zs).toNat ≤ 62) := by
  have h0 := val_nonneg ((okB_iff zs).1 h).2.1
  unfold fitsI
  rw [h, Bool.true_and]
  congr 1
  rw [bitsN_le]
  have : (2 : Nat) ^ 62 = 4611686018427387904 := by decide
  rw [this]
  exact propext ⟨fun h => by omega, fun h => by omega⟩

set_option maxHeartbeats 1000000 in
theorem natInt_spec {bw : Bool} {lo hi : Nat} {v : Value} {zs : List Int} (w : World) (r : Row .i64 bw lo hi w v zs) :
    Calls Try.prog 38 #[.agg #[v]] w fun e w' => e = .returned (.tuple #[.int .i64 (intN zs), .bool (fitsI zs)]) ∧ Kept 0 0 w w' := by
  have k0 := (Kept.refl 0 0 w).alloc (.cells #[v] 26)
  have r0 := r.kept k0 (by omega)
  have c0 : (w.alloc (.cells #[v] 26)).cell? ⟨w.heap.size, 0, none⟩ = some v := new_cell_at _ _ _ _ rfl
  obtain ⟨a, c, rfl⟩ := Row.form' r
  clear r
  go_enter Try.func38, Try.ntmps38
  go_wp2_with fail
  generalize w.alloc (.cells #[.slice a zs.length c] 26) = W at *
  refine (ok_spec _ r0).mono ?_
  rintro e w1 ⟨rfl, k1⟩
  replace c0 := k1.cell0 c0
  replace r0 := r0.kept k1 (by omega)
  have K1 := hide (k0.trans k1)
  clear k0 k1
  cases hok : okB zs
  · have HK := hide hok
    clear r0 hok
    go_wp2_with fail
    exact bodyPost_ret (v := .tuple #[.int .i64 0, .bool false]) (by simp [results, Try.results38, go_sem]) rfl ⟨by rw [intN_bad (fitsI_bad (unhide HK)), fitsI_bad (unhide HK)], unhide K1⟩
  · have HK := hide hok
    have hN := (okB_iff zs).1 hok
    have HO := hide hN
    clear hN hok
    go_wp2_with fail
    refine (bits_spec _ r0 (unhide HO).2 (by have := (unhide HO).1; omega)).mono ?_
    rintro e w2 ⟨rfl, k2⟩
    replace c0 := k2.cell0 c0
    replace r0 := r0.kept k2 (by omega)
    have K2 := hide ((unhide K1).trans k2)
    have hf := fitsI_bits (unhide HK)
    clear k2 K1
    by_cases hb : 62 < ((bitsN (val zs).toNat : Nat) : Int)
    · rw [decide_eq_false (by omega)] at hf
      have HF := hide hf
      clear r0 hf
      go_wp2_with fail
      exact bodyPost_ret (v := .tuple #[.int .i64 0, .bool false]) (by simp [results, Try.results38, go_sem]) rfl ⟨by rw [intN_bad (unhide HF), unhide HF], unhide K2⟩
    · rw [decide_eq_true (by omega)] at hf
      have HF := hide hf
      have hv : val zs < 9223372036854775808 := by
        have h1 : (val zs).toNat < 2 ^ 62 := (bitsN_le _ 62).1 (by omega)
        have : (2 : Nat) ^ 62 = 4611686018427387904 := by decide
        omega
      clear hf
      go_wp2_with fail
      refine (int_spec _ r0 (unhide HO).2.1 hv).mono ?_
      rintro e w3 ⟨rfl, k3⟩
      have K3 := hide ((unhide K2).trans k3)
      clear r0 k3 K2 HO hv
      go_wp2_with fail
      exact bodyPost_ret (v := .tuple #[.int .i64 (val zs), .bool true]) (by simp [results, Try.results38, go_sem]) rfl ⟨by rw [intN_ok (unhide HF), unhide HF], unhide K3⟩

theorem nrm_len4 {zs : List Int} (h : Nrm zs) (hv : val zs ≤ 4611686018427387903) : zs.length ≤ 4 := by
  rw [nrm_limbs h, limbs_length_le]
  have : (65536 : Int) ^ 4 = 18446744073709551616 := by decide
  have := val_nonneg h.1
  omega
theorem val_take_le {zs : List Int} (h : Lim zs) (k : Nat) (hk : k ≤ zs.length) : val (zs.take k) ≤ val zs := by
  have e := val_take_drop zs k hk
  have h2 := val_nonneg (h.drop k)
  have h3 : 0 ≤ (65536 : Int) ^ k * val (zs.drop k) := Int.mul_nonneg (Int.le_of_lt (Int.pow_pos (by decide))) h2
  omega

set_option maxHeartbeats 2000000 in
theorem small_impl {b g : Nat} {v : Value} {zs : List Int} (w : World) (n : Num b w g v zs) (hn : Nrm zs) (hbb : val zs ≤ 4611686018427387903) :
    Calls Try.prog 64 #[.pointer (some ⟨g, 0, none⟩)] w fun e w' => e = .returned (.int .i64 (val zs)) ∧ w' = w := by
  have hc := n.cell
  have m1 := n.row.len
  unfold maxLen at m1
  have h4 := nrm_len4 hn hbb
  have hlim := hn.1
  obtain ⟨a, c, rfl⟩ := n.form
  have hat := (row_cell n.row).2.2.2
  clear n hn
  go_enter Try.func64, Try.ntmps64
  go_wp2_with fail
  go_loop [3, 11] (fun s i => ∃ k : Nat, k ≤ zs.length ∧ i = .int .i64 k ∧ s = .int .i64 (val (zs.take k))) (fun s i => zs.length - (intOf i).toNat)
  case atStart => exact ⟨0, Nat.zero_le _, rfl, rfl⟩
  case round =>
    obtain ⟨k, hk, rfl, rfl⟩ := hrel
    by_cases hlt : k < zs.length
    · obtain ⟨g, off, rfl, hx⟩ := hat k hlt
      have e1 := val_take_succ zs k hlt
      have e2 := val_take_le hlim (k + 1) (by omega)
      have e3 := val_nonneg (hlim.take k)
      have e4 := hlim.at k
      generalize hz : zs.getD k 0 = z at *
      have hlt' : (k : Int) < (zs.length : Int) := by omega
      have hb' : val zs ≤ 4611686018427387903 := by omega
      clear hat hz
      have hk4 : k = 0 ∨ k = 1 ∨ k = 2 ∨ k = 3 := by omega
      have hrel2 : ∀ m : Nat, m = k + 1 → val (zs.take m) = val (zs.take k) + 65536 ^ k * z := fun m hm => by rw [hm, e1]
      rw [e1] at e2
      have HR := hide hrel2
      generalize hS : val (zs.take k) = S0 at e2 e3 HR ⊢
      clear e1 hrel2 hS
      rcases hk4 with rfl | rfl | rfl | rfl
      all_goals
        simp only [Int.reducePow, Nat.add_zero] at e2 hx
        go_wp2
        go_round
        case rel => exact ⟨_, hlt, by go_num, congrArg (Value.int .i64) (by rw [unhide HR _ rfl]; simp only [Int.reducePow]; (try simp only [wrap64]); omega)⟩
        case measure => simp [intOf]; omega
    · have hlt' : ¬ (k : Int) < (zs.length : Int) := by omega
      have ek : zs.take k = zs := List.take_of_length_le (by omega)
      rw [ek]
      clear hat
      go_wp2
      go_ret
      exact ⟨rfl, rfl⟩

set_option maxHeartbeats 2000000 in
theorem natInt_impl {bw : Bool} {lo hi : Nat} {v : Value} {zs : List Int} (w : World) (r : Row .i64 bw lo hi w v zs) :
    Calls Try.prog 24 #[.agg #[v]] w fun e w' => e = .returned (.tuple #[.int .i64 (intN zs), .bool (fitsI zs)]) ∧ Kept 0 0 w w' := by
  have k0 := (Kept.refl 0 0 w).alloc (.cells #[v] 26)
  have r0 := r.kept k0 (by omega)
  have c0 : (w.alloc (.cells #[v] 26)).cell? ⟨w.heap.size, 0, none⟩ = some v := new_cell_at _ _ _ _ rfl
  obtain ⟨a, c, rfl⟩ := Row.form' r
  clear r
  go_enter Try.func24, Try.ntmps24
  go_wp2_with fail
  generalize w.alloc (.cells #[.slice a zs.length c] 26) = W at *
  refine (ok_impl _ r0).mono ?_
  rintro e w1 ⟨rfl, k1⟩
  replace c0 := k1.cell0 c0
  replace r0 := r0.kept k1 (by omega)
  have K1 := hide (k0.trans k1)
  clear k0 k1
  cases hok : okB zs
  · have HK := hide hok
    clear r0 hok
    go_wp2_with fail
    exact bodyPost_ret (v := .tuple #[.int .i64 0, .bool false]) (by simp [results, Try.results24, go_sem]) rfl ⟨by rw [intN_bad (fitsI_bad (unhide HK)), fitsI_bad (unhide HK)], unhide K1⟩
  · have HK := hide hok
    have hN := (okB_iff zs).1 hok
    have hf : fitsI zs = decide (val zs ≤ 4611686018427387903) := by unfold fitsI; rw [hok, Bool.true_and]
    have HO := hide hN
    clear hN hok
    go_wp2_with fail
    refine (limbsOfInt_impl _ 4611686018427387903 (by omega)).mono ?_
    rintro e w2 ⟨v2, rfl, o2, k2⟩
    generalize hL : limbs (Int.toNat 4611686018427387903) = L at o2
    have HL := hide hL
    clear hL
    have n2 := Num.new 71 o2
    replace k2 := k2.alloc (.cells #[v2] 71)
    replace c0 := k2.cell0 c0
    replace r0 := r0.kept k2 (by omega)
    have K2 := hide ((unhide K1).trans k2)
    obtain ⟨a2, c2, rfl⟩ := own_slice o2
    clear k2 o2 K1
    go_wp2_with fail
    generalize w2.alloc (.cells #[.slice a2 L.length c2] 71) = w3 at *
    refine (limbsOf_impl _ r0 (by have := (unhide HO).1; omega)).mono ?_
    rintro e w4 ⟨v4, rfl, o4, k4⟩
    have n4 := Num.new 71 o4
    replace k4 := k4.alloc (.cells #[v4] 71)
    replace c0 := k4.cell0 c0
    replace r0 := r0.kept k4 (by omega)
    replace n2 := n2.kept k4
    have K4 := hide ((unhide K2).trans k4)
    obtain ⟨a4, c4, rfl⟩ := own_slice o4
    clear k4 o4 K2
    go_wp2_with fail
    generalize w4.alloc (.cells #[.slice a4 zs.length c4] 71) = w5 at *
    have hLn : Nrm L ∧ val L = 4611686018427387903 := by rw [← unhide HL]; exact ⟨limbs_nrm _, limbs_val _⟩
    refine (compare_impl _ n4 n2 (unhide HO).2 hLn.1).mono ?_
    rintro e w6 ⟨rfl, k6⟩
    rw [hLn.2]
    replace c0 := k6.cell0 c0
    replace r0 := r0.kept k6 (by omega)
    have K6 := hide ((unhide K4).trans k6)
    replace n4 := n4.kept k6
    clear k6 K4 n2 hLn HL
    by_cases hb : 4611686018427387903 < val zs
    · rw [decide_eq_false (by omega)] at hf
      have HF := hide hf
      rw [cmpI_gt hb]
      clear r0 hf n4
      go_wp2_with fail
      exact bodyPost_ret (v := .tuple #[.int .i64 0, .bool false]) (by simp [results, Try.results24, go_sem]) rfl ⟨by rw [intN_bad (unhide HF), unhide HF], unhide K6⟩
    · rw [decide_eq_true (by omega)] at hf
      have HF := hide hf
      have hcp : ¬ 0 < cmpI (val zs) 4611686018427387903 := by unfold cmpI; split <;> (try split) <;> omega
      have hno := hide (unhide HO).2
      have hvb := hide (show val zs ≤ 4611686018427387903 by omega)
      generalize cmpI (val zs) 4611686018427387903 = C at *
      clear hf r0 HO hb
      go_wp2_with fail
      refine (small_impl _ n4 (unhide hno) (unhide hvb)).mono ?_
      rintro e w7 ⟨rfl, rfl⟩
      clear n4 hno hvb
      go_wp2_with fail
      exact bodyPost_ret (v := .tuple #[.int .i64 (val zs), .bool true]) (by simp [results, Try.results24, go_sem]) rfl ⟨by rw [intN_ok (unhide HF), unhide HF], unhide K6⟩

end Go.Proofs.Ytdlpkppkmfjdiaa
