/-
  The decimal digits of a number; the model's l2text.
-/
import Derived.Test.YthglchilgjcloaaDoorBB
import Derived.Test.YthglchilgjcloaaDoorBC
import Derived.Lib.SlBytesConst
namespace Go.Proofs.YthglchilgjcloaaDoor
open Go.RowKit
set_option linter.unusedVariables false
set_option maxRecDepth 8000
set_option linter.unusedSimpArgs false

def tdigF : Nat → Nat → List Int
  | 0, _ => []
  | f + 1, n => if n = 0 then [] else (48 + (n % 10 : Nat) : Int) :: tdigF f (n / 10)
/-- The decimal digits, as bytes, the lowest first; none of nought. -/
def tdig (n : Nat) : List Int := tdigF n n
theorem tdigF_more : ∀ (f g n : Nat), n ≤ f → n ≤ g → tdigF f n = tdigF g n
  | 0, 0, n, h1, h2 => rfl
  | 0, g + 1, n, h1, h2 => by have : n = 0 := by omega
                              subst this; simp [tdigF]
  | f + 1, 0, n, h1, h2 => by have : n = 0 := by omega
                              subst this; simp [tdigF]
  | f + 1, g + 1, n, h1, h2 => by
    unfold tdigF
    by_cases h : n = 0
    · rw [if_pos h, if_pos h]
    · rw [if_neg h, if_neg h, tdigF_more f g (n / 10) (by omega) (by omega)]
theorem tdig_zero : tdig 0 = [] := rfl
theorem tdig_step {n : Nat} (h : n ≠ 0) : tdig n = (48 + (n % 10 : Nat) : Int) :: tdig (n / 10) := by
  unfold tdig
  obtain ⟨m, rfl⟩ : ∃ m, n = m + 1 := ⟨n - 1, by omega⟩
  show (if m + 1 = 0 then [] else _ :: tdigF m ((m + 1) / 10)) = _
  rw [if_neg h, tdigF_more m ((m + 1) / 10) _ (by omega) (Nat.le_refl _)]
theorem tdig_len : ∀ (k n : Nat), n < 2 ^ k → (tdig n).length ≤ k
  | 0, n, h => by have : n = 0 := by simpa using h
                  subst this; simp [tdig_zero]
  | k + 1, n, h => by
    by_cases h0 : n = 0
    · subst h0; simp [tdig_zero]
    · rw [tdig_step h0]
      have := tdig_len k (n / 10) (by rw [Nat.pow_succ] at h; omega)
      simp
      exact this
def lenV : Value → Nat
  | .slice _ n _ => n
  | _ => 0
/-- A number's text. -/
def decText (n : Nat) : List Int := if n = 0 then [48] else (tdig n).reverse
theorem tdig_at : ∀ (f n : Nat), n ≤ f → ∀ z ∈ tdig n, 48 ≤ z ∧ z ≤ 57
  | 0, n, h, z, hz => by have : n = 0 := by omega
                         subst this; simp [tdig_zero] at hz
  | f + 1, n, h, z, hz => by
    by_cases h0 : n = 0
    · subst h0; simp [tdig_zero] at hz
    · rw [tdig_step h0] at hz
      rcases List.mem_cons.1 hz with e | e
      · omega
      · exact tdig_at f (n / 10) (by omega) z e
/-- One byte more at the end of a row of the call's own. -/
theorem wpList_byte {ops : Array Oper} {rest : List Oper} {o : Oper} {a : Act} {Q : Exit → Act → World → Prop} {b : Nat} {wr : World} {v : Value} {zs : List Int} (hgd : o.guard = none) (s x : Operand)
    (ho : o.op = .call { callee := .builtin .append, args := #[s, x], argTypes := #[22, 22] }) (hs : a.eval s = v) (ad : Addr) (hx : a.eval x = .slice (some ad) 1 1) (z : Int)
    (hc : wr.cell? ad = some (.int .u8 z)) (hown : wr.ownsRow b 5 1 v zs.length (zs.map (Value.int .u8))) (hb : b ≤ wr.heap.size) (hn : zs.length ≤ 2000000)
    (h : ∀ v' w', w'.ownsRow b 5 1 v' (zs ++ [z]).length ((zs ++ [z]).map (Value.int .u8)) → wr.grownBy w' v.ownBlock → wpList Tryd.prog ops Q rest (a.put o.dst v') w') : wpList Tryd.prog ops Q (o :: rest) a wr := by
  obtain ⟨i0, hi0, hz0, hz1, hz2⟩ := info_parts Tryd.info5
  refine wpList_append_own _ hgd _ _ 22 ho b 5 i0 (.int .u8 0) 1 1 Tryd.underlying22 hi0 hz0 hz1 hz2 rfl (by decide) _ _ _ hs hown ad 1 1 [.int .u8 z] hx rfl (lit_cell hc) ?_ ?_ ?_ ?_ ?_
  · intro u hu; simp at hu; subst hu; rfl
  · unfold maxLen; omega
  · omega
  · omega
  · intro v' w' hown' hgrow _
    exact h v' w' (by simpa using hown') hgrow

theorem limbs_pos' (n : Nat) (h : n ≠ 0) : 0 < (limbs n).length := List.length_pos_iff.2 (fun e => h (limbs_eq_nil.1 e))

theorem Row.marked (w : World) (t : TypeId) (z : Int) : Row .u8 true w.heap.size (w.alloc (.cells #[.int .u8 z] t (1, 2))).heap.size (w.alloc (.cells #[.int .u8 z] t (1, 2))) (.slice (some ⟨w.heap.size, 0, none⟩) 1 1) [z] := by
  have hg : (w.alloc (.cells #[.int .u8 z] t (1, 2))).heap[w.heap.size]? = some (.cells #[.int .u8 z] t (1, 2)) := heap_alloc_new w _
  refine ⟨_, _, rfl, Nat.le_refl _, by simp [maxLen], fun _ => ⟨w.heap.size, 0, rfl, Nat.le_refl _, by simp, by simp, fun i hi => ?_, fun _ i hi => ?_⟩⟩
  · have : i = 0 := by simpa using hi
    subst this
    simp only [World.cell?, hg]
    rfl
  · have : i = 0 := by simpa using hi
    subst this
    simp only [World.frozen?, hg]
    rfl
theorem byte_small {z : Int} (h0 : 0 ≤ z) (h1 : z ≤ 255) : IntKind.u8.wrap z = z := by simp [IntKind.wrap, IntKind.signed, IntKind.bits]; omega
theorem tdig_more {n m : Nat} {bs : List Int} (h : tdig n = bs ++ tdig m) (hm : m ≠ 0) : tdig n = (bs ++ [(48 + (m % 10 : Nat) : Int)]) ++ tdig (m / 10) ∧ bs.length < (tdig n).length := by
  rw [tdig_step hm] at h
  refine ⟨by rw [h]; simp, by rw [h]; simp⟩
theorem rev_step (bs : List Int) (j : Nat) (h : j < bs.length) : bs.reverse.take j ++ [bs.getD (bs.length - 1 - j) 0] = bs.reverse.take (j + 1) := by
  rw [List.take_succ_eq_append_getElem (by simpa using h)]
  congr 2
  rw [List.getElem_reverse]
  simp [List.getD, show bs.length - 1 - j < bs.length by omega]

end Go.Proofs.YthglchilgjcloaaDoor
