/-
  Dyadic numbers: the model's l4top and DyTop; the program's dyadicOf, top and DyTop.
-/
import Derived.Test.YtpeaghaojfbbnaaDy1
import Derived.Test.YtpeaghaojfbbnaaIShS
import Derived.Test.YtpeaghaojfbbnaaBI
namespace Go.Proofs.Ytpeaghaojfbbnaa
open Go.RowKit
set_option linter.unusedVariables false
set_option maxRecDepth 8000
set_option linter.unusedSimpArgs false

theorem w64 (n : Int) (h0 : -9223372036854775808 ≤ n) (h1 : n ≤ 9223372036854775807) : IntKind.i64.wrap n = n := by rw [IntKind.wrap_i64]; omega
/-- The power of two behind the highest bit. -/
def topI (zs : List Int) (x : Int) : Int := if zs.length = 0 then 0 else x + (bitsN (val zs).toNat : Int)
def topD (b : Bool) (zs : List Int) (x : Int) : Int := if dokB b zs x = true then topI zs x else 0
theorem bitsN_limbs {zs : List Int} (hn : Nrm zs) : bitsN (val zs).toNat ≤ 16 * zs.length := by
  by_cases h0 : (val zs).toNat = 0
  · rw [h0]; exact Nat.zero_le _
  · unfold bitsN
    rw [if_neg h0]
    have h1 := val_lt hn.1
    have h2 := val_nonneg hn.1
    rw [pow_limb] at h1
    have h3 : (val zs).toNat < 2 ^ (16 * zs.length) := by omega
    have := (Nat.log2_lt h0).2 h3
    omega

theorem in_bits : ∀ (w : World) (args : Array Value), (callFunc 41 args).run Try.prog w = .ok (.enter 41 args) w := enters Try.func41 (by decide) (fun h => by cases h)

/-- A dyadic number's power of two, in the third cell of its block. -/
def Ex (w : World) (g : Nat) (x : Int) : Prop := w.cell? ⟨g, 2, none⟩ = some (.int .i64 x) ∧ w.frozen? ⟨g, 2, none⟩ = false
theorem Ex.tail {w w' : World} {g : Nat} {x : Int} (h : Ex w g x) (k : SameTail g w w') : Ex w' g x := ⟨(k 2 (Nat.le_refl 2)).1.trans h.1, (k 2 (Nat.le_refl 2)).2.trans h.2⟩
theorem Ex.lt {w : World} {g : Nat} {x : Int} (h : Ex w g x) : g < w.heap.size := World.block_lt_of_cell? _ ⟨g, 2, none⟩ h.1
theorem Ex.kept {w w' : World} {g : Nat} {x : Int} (h : Ex w g x) (k : Kept 0 0 w w') : Ex w' g x := h.tail (k.side h.lt).tail
theorem new_dya {w : World} {b : Nat} {u : Value} {xs : List Int} (s : Bool) (x : Int) (t : TypeId) (O : w.ownsRow b 3 1 u xs.length (xs.map (Value.int .i64))) :
    Num b (w.alloc (.cells #[u, .bool s, .int .i64 x] t)) w.heap.size u xs ∧ Sd (w.alloc (.cells #[u, .bool s, .int .i64 x] t)) w.heap.size s ∧ Ex (w.alloc (.cells #[u, .bool s, .int .i64 x] t)) w.heap.size x :=
  ⟨⟨new_cell2 _ _ _ _ _ _ rfl rfl, new_loose2 _ _ _ _ _ rfl, own_kept O ((Kept.refl 0 0 w).alloc _), fun e => by have := (O.lt _ e).2; omega⟩, ⟨new_cell2 _ _ _ _ _ _ rfl rfl, new_loose2 _ _ _ _ _ rfl⟩, ⟨new_cell2 _ _ _ _ _ _ rfl rfl, new_loose2 _ _ _ _ _ rfl⟩⟩

end Go.Proofs.Ytpeaghaojfbbnaa
