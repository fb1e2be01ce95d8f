/-
  Contracts of what tells bits: bits.Len of a limb, the program's methods bits, at and bit, and NatBits and NatBit, the model's and the program's.
-/
import Derived.Test.YtlaelfkhlloglaaDoorBC
import Derived.Test.YtlaelfkhlloglaaDoorNat10
import Derived.Lib.Strings
import Derived.Lib.Slices
import Derived.Lib.Small
import Derived.Lib.Walk
import Derived.Lib.BitFns
namespace Go.Proofs.YtlaelfkhlloglaaDoor
open Go.RowKit
set_option linter.unusedVariables false
set_option maxRecDepth 8000

theorem bitLen_eq : ∀ n : Nat, n < 65536 → Lib.bitLen n = bitsN n := by
  intro n
  induction n using Nat.strongRecOn with
  | ind n ih =>
    intro h
    by_cases h0 : n = 0
    · subst h0; rfl
    · rw [Lib.bitLen_half n h0 (by omega), bitsN_half n (by omega), ih (n / 2) (by omega) (by omega)]
      omega

theorem wrap64_id (n : Int) (h0 : -9223372036854775808 ≤ n) (h1 : n ≤ 9223372036854775807) : wrap64 n = n := by
  unfold wrap64
  omega
theorem tab_all : ∀ n : Fin 256, (Lib.len8tab.data.toList.getD n.val 0).toNat = bitsN n.val := by decide +kernel
theorem tab_size : Lib.len8tab.size = 256 := by decide +kernel
theorem tab_at (k : Nat) (h : k < Lib.len8tab.size) : (Lib.len8tab[k]'h).toNat = bitsN k := by
  have h' : k < 256 := by rw [← tab_size]; exact h
  have := tab_all ⟨k, h'⟩
  rw [← this]
  have hk : k < Lib.len8tab.data.size := h
  show (Lib.len8tab.data[k]'hk).toNat = _
  simp [List.getD, Array.getElem?_eq_getElem hk]

set_option maxRecDepth 100000 in
set_option maxHeartbeats 4000000 in
theorem len64_impl (x : Int) (w : World) (h0 : 0 ≤ x) (h1 : x ≤ 65535) :
    Calls Tryd.prog 99 #[.int .u64 x] w fun e w' => e = .returned (.int .i64 (bitsN x.toNat)) ∧ w' = w := by
  have n1 : ¬ (4294967296 ≤ x) := by omega
  have n2 : ¬ (65536 ≤ x) := by omega
  have hz := tab_size
  have HZ := hide hz
  by_cases hb : 256 ≤ x
  · have i1 : x / 256 < (Lib.len8tab.size : Int) := by omega
    have i2 : 0 ≤ x / 256 := by omega
    clear hz
    go_enter Tryd.func99, Tryd.ntmps99
    go_wp2
    go_ret
    refine ⟨congrArg Ending.returned (congrArg (Value.int IntKind.i64) ?_), rfl⟩
    rw [tab_at]
    have e : (x / 256).toNat = x.toNat / 256 := by omega
    have l : bitsN (x.toNat / 256) ≤ 8 := (bitsN_le _ 8).2 (by omega)
    have s := Lib.bitLen_shift8 x.toNat (by omega) (by omega)
    rw [bitLen_eq _ (by omega), bitLen_eq _ (by omega)] at s
    rw [e]
    have w1 : wrap64 ((bitsN (x.toNat / 256) : Nat) : Int) = (bitsN (x.toNat / 256) : Nat) := wrap64_id _ (by omega) (by omega)
    rw [w1, s]
    rw [wrap64_id _ (by omega) (by omega)]
    omega
  · have i1 : x < (Lib.len8tab.size : Int) := by omega
    clear hz
    go_enter Tryd.func99, Tryd.ntmps99
    go_wp2
    go_ret
    refine ⟨congrArg Ending.returned (congrArg (Value.int IntKind.i64) ?_), rfl⟩
    rw [tab_at]
    have l : bitsN x.toNat ≤ 8 := (bitsN_le _ 8).2 (by omega)
    have w1 : wrap64 ((bitsN x.toNat : Nat) : Int) = (bitsN x.toNat : Nat) := wrap64_id _ (by omega) (by omega)
    rw [w1, w1]

set_option maxHeartbeats 1000000 in
theorem len_impl (x : Int) (w : World) (h0 : 0 ≤ x) (h1 : x ≤ 65535) :
    Calls Tryd.prog 87 #[.int .u64 x] w fun e w' => e = .returned (.int .i64 (bitsN x.toNat)) ∧ w' = w := by
  go_enter Tryd.func87, Tryd.ntmps87
  go_wp2_with (go_at_call 99; refine (len64_impl _ _ (by omega) (by omega)).mono ?_; rintro e w' ⟨rfl, rfl⟩)
  go_ret
  exact ⟨rfl, rfl⟩

end Go.Proofs.YtlaelfkhlloglaaDoor
