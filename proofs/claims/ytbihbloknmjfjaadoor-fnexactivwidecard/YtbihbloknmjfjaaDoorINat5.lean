/-
  Contracts of what tells bits: bits.Len of a limb, the program's methods bits, at and bit, and NatBits and NatBit, the model's and the program's.
-/
import Derived.Test.YtbihbloknmjfjaaDoorBC
import Derived.Test.YtbihbloknmjfjaaDoorNat10
import Derived.Lib.Strings
import Derived.Lib.Slices
import Derived.Lib.Small
import Derived.Lib.Walk
import Derived.Lib.BitFns
namespace Go.Proofs.YtbihbloknmjfjaaDoor
open Go.RowKit
set_option linter.unusedVariables false
set_option maxRecDepth 8000

theorem bitLen_eq : ∀ n : Nat, n < 65536 → Lib.bitLen n = bitsN n := by
  intro n
  induction n using Nat.strongRecOn with
  | ind n ih =>
    intro h
    by_cases h0 : n = 0
    · subst h0; rfl
    · rw [Lib.bitLen_half n h0 (by omega), bitsN_half n (by omega), ih (n / 2) (by omega) (by omega)]
      omega

theorem wrap64_id (n : Int) (h0 : -9223372036854775808 ≤ n) (h1 : n ≤ 9223372036854775807) : wrap64 n = n := by
  unfold wrap64
  omega
theorem tab_all : ∀ n : Fin 256, (Lib.len8tab.data.toList.getD n.val 0).toNat = bitsN n.val := by decide +kernel
theorem tab_size : Lib.len8tab.size = 256 := by decide +kernel
theorem tab_at (k : Nat) (h : k < Lib.len8tab.size) : (Lib.len8tab[k]'h).toNat = bitsN k := by
  have h' : k < 256 := by rw [← tab_size]; exact h
  have := tab_all ⟨k, h'⟩
  rw [← this]
  have hk : k < Lib.len8tab.data.size := h
  show (Lib.len8tab.data[k]'hk).toNat = _
  simp [List.getD, Array.getElem?_eq_getElem hk]

end Go.Proofs.YtbihbloknmjfjaaDoor
