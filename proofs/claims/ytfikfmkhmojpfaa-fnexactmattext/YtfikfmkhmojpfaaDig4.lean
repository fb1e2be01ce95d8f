/-
  WholeText of the model and of the program: a sign ahead where the number is below nought, then its digits.
-/
import Derived.Test.YtfikfmkhmojpfaaDig3
import Derived.Test.YtfikfmkhmojpfaaBH
import Derived.Test.YtfikfmkhmojpfaaBE
namespace Go.Proofs.Ytfikfmkhmojpfaa
open Go.RowKit
set_option linter.unusedVariables false
set_option maxRecDepth 8000

/-- The text of a sign and a size. -/
def sgt (b : Bool) (n : Nat) : List Int := if b then 45 :: decText n else decText n
/-- The text of what is a whole number; nothing of what is none. -/
def wtx (b : Bool) (zs : List Int) : List Int := if wokB b zs then sgt b (val zs).toNat else []
theorem wok_ok {b : Bool} {zs : List Int} (h : wokB b zs = true) : okB zs = true := by
  unfold wokB at h
  cases ho : okB zs
  · rw [ho] at h; cases h
  · rfl
theorem wok_pos {zs : List Int} (h : wokB true zs = true) : 0 < zs.length := by
  unfold wokB at h
  simp at h
  omega
theorem wtx_len (b : Bool) (zs : List Int) : (wtx b zs).length ≤ 1601 := by
  unfold wtx
  cases h : wokB b zs
  · simp
  · rw [if_pos rfl]
    have := decText_len (wok_ok h)
    unfold sgt
    cases b <;> simp <;> omega
theorem decText_ne (n : Nat) : decText n ≠ [] := by
  unfold decText
  by_cases h : n = 0
  · rw [if_pos h]; simp
  · rw [if_neg h, tdig_step h]; simp

/-- What lies behind an append of a text to a sign. -/
theorem wpList_signed {ops : Array Oper} {rest : List Oper} {o : Oper} {a : Act} {Q : Exit → Act → World → Prop} {b lo hi : Nat} {wr : World} {v1 v2 : Value} {zs ts : List Int} (hgd : o.guard = none) (s x : Operand)
    (ho : o.op = .call { callee := .builtin .append, args := #[s, x], argTypes := #[30, 30] }) (hs : a.eval s = v1) (hx : a.eval x = v2)
    (hown : wr.ownsRow b 5 1 v1 zs.length (zs.map (Value.int .u8))) (r : Row .u8 true lo hi wr v2 ts) (hz : ts ≠ []) (hb : b ≤ wr.heap.size) (hn : zs.length ≤ 2000000) (hm : ts.length ≤ 2000000)
    (h : ∀ v' w', Row .u8 true b w'.heap.size w' v' (zs ++ ts) → wr.grownBy w' v1.ownBlock → wpList Try.prog ops Q rest (a.put o.dst v') w') : wpList Try.prog ops Q (o :: rest) a wr := by
  obtain ⟨i0, hi0, hz0, hz1, hz2⟩ := info_parts Try.info5
  obtain ⟨g, off, c, hv, -, -, hnews⟩ := r.news hz
  refine wpList_append_own _ hgd _ _ 30 ho b 5 i0 (.int .u8 0) 1 1 Try.underlying30 hi0 hz0 hz1 hz2 rfl (by decide) _ _ _ hs hown ⟨g, off, none⟩ ts.length c (ts.map (Value.int .u8)) (by rw [hx, hv]) (by simp) hnews (ints_one _ _) ?_ ?_ hb ?_
  · unfold maxLen; omega
  · omega
  · intro v' w' hown' hgrow _
    rw [← List.map_append, ← List.length_append] at hown'
    exact h v' w' (Row.own hown') hgrow

end Go.Proofs.Ytfikfmkhmojpfaa
