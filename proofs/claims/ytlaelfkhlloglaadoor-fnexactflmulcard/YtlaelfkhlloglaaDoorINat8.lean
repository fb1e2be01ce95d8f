/-
  Contracts of NatInt, the model's and the program's.
-/
import Derived.Test.YtlaelfkhlloglaaDoorINat7
import Derived.Test.YtlaelfkhlloglaaDoorBC
namespace Go.Proofs.YtlaelfkhlloglaaDoor
open Go.RowKit
set_option linter.unusedVariables false
set_option maxRecDepth 8000

/-- What NatInt tells: a number, and whether it is one. -/
def fitsI (zs : List Int) : Bool := okB zs && decide (val zs ≤ 4611686018427387903)
def intN (zs : List Int) : Int := if fitsI zs = true then val zs else 0
theorem intN_bad {zs : List Int} (h : fitsI zs = false) : intN zs = 0 := by unfold intN; rw [if_neg (by simp [h])]
theorem intN_ok {zs : List Int} (h : fitsI zs = true) : intN zs = val zs := by unfold intN; rw [if_pos h]
theorem fitsI_bad {zs : List Int} (h : okB zs = false) : fitsI zs = false := by unfold fitsI; rw [h]; rfl
theorem fitsI_bits {zs : List Int} (h : okB zs = true) : fitsI zs = decide (bitsN (val zs).toNat ≤ 62) := by
  have h0 := val_nonneg ((okB_iff zs).1 h).2.1
  unfold fitsI
  rw [h, Bool.true_and]
  congr 1
  rw [bitsN_le]
  have : (2 : Nat) ^ 62 = 4611686018427387904 := by decide
  rw [this]
  exact propext ⟨fun h => by omega, fun h => by omega⟩

theorem nrm_len4 {zs : List Int} (h : Nrm zs) (hv : val zs ≤ 4611686018427387903) : zs.length ≤ 4 := by
  rw [nrm_limbs h, limbs_length_le]
  have : (65536 : Int) ^ 4 = 18446744073709551616 := by decide
  have := val_nonneg h.1
  omega
theorem val_take_le {zs : List Int} (h : Lim zs) (k : Nat) (hk : k ≤ zs.length) : val (zs.take k) ≤ val zs := by
  have e := val_take_drop zs k hk
  have h2 := val_nonneg (h.drop k)
  have h3 : 0 ≤ (65536 : Int) ^ k * val (zs.drop k) := Int.mul_nonneg (Int.le_of_lt (Int.pow_pos (by decide))) h2
  omega

set_option maxHeartbeats 2000000 in
theorem small_impl {b g : Nat} {v : Value} {zs : List Int} (w : World) (n : Num b w g v zs) (hn : Nrm zs) (hbb : val zs ≤ 4611686018427387903) :
    Calls Tryd.prog 79 #[.pointer (some ⟨g, 0, none⟩)] w fun e w' => e = .returned (.int .i64 (val zs)) ∧ w' = w := by
  have hc := n.cell
  have m1 := n.row.len
  unfold maxLen at m1
  have h4 := nrm_len4 hn hbb
  have hlim := hn.1
  obtain ⟨a, c, rfl⟩ := n.form
  have hat := (row_cell n.row).2.2.2
  clear n hn
  go_enter Tryd.func79, Tryd.ntmps79
  go_wp2_with fail
  go_loop [3, 11] (fun s i => ∃ k : Nat, k ≤ zs.length ∧ i = .int .i64 k ∧ s = .int .i64 (val (zs.take k))) (fun s i => zs.length - (intOf i).toNat)
  case atStart => exact ⟨0, Nat.zero_le _, rfl, rfl⟩
  case round =>
    obtain ⟨k, hk, rfl, rfl⟩ := hrel
    by_cases hlt : k < zs.length
    · obtain ⟨g, off, rfl, hx⟩ := hat k hlt
      have e1 := val_take_succ zs k hlt
      have e2 := val_take_le hlim (k + 1) (by omega)
      have e3 := val_nonneg (hlim.take k)
      have e4 := hlim.at k
      generalize hz : zs.getD k 0 = z at *
      have hlt' : (k : Int) < (zs.length : Int) := by omega
      have hb' : val zs ≤ 4611686018427387903 := by omega
      clear hat hz
      have hk4 : k = 0 ∨ k = 1 ∨ k = 2 ∨ k = 3 := by omega
      have hrel2 : ∀ m : Nat, m = k + 1 → val (zs.take m) = val (zs.take k) + 65536 ^ k * z := fun m hm => by rw [hm, e1]
      rw [e1] at e2
      have HR := hide hrel2
      generalize hS : val (zs.take k) = S0 at e2 e3 HR ⊢
      clear e1 hrel2 hS
      rcases hk4 with rfl | rfl | rfl | rfl
      all_goals
        simp only [Int.reducePow, Nat.add_zero] at e2 hx
        go_wp2
        go_round
        case rel => exact ⟨_, hlt, by go_num, congrArg (Value.int .i64) (by rw [unhide HR _ rfl]; simp only [Int.reducePow]; (try simp only [wrap64]); omega)⟩
        case measure => simp [intOf]; omega
    · have hlt' : ¬ (k : Int) < (zs.length : Int) := by omega
      have ek : zs.take k = zs := List.take_of_length_le (by omega)
      rw [ek]
      clear hat
      go_wp2
      go_ret
      exact ⟨rfl, rfl⟩

end Go.Proofs.YtlaelfkhlloglaaDoor
