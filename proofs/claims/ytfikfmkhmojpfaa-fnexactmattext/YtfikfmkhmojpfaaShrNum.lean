/-
  A number that is shifted down inside its limbs.
-/
import Derived.Test.YtfikfmkhmojpfaaNat11
namespace Go.Proofs.Ytfikfmkhmojpfaa
open Go.RowKit
set_option linter.unusedVariables false

/-- Each limb takes the low bits of the next one in. -/
def sdn (d : Int) : List Int → List Int
  | [] => []
  | y :: t => ((t.getD 0 0 * 65536 + y) / d % 65536) :: sdn d t
theorem sdn_length (d : Int) : ∀ ys : List Int, (sdn d ys).length = ys.length
  | [] => rfl
  | y :: t => by simp [sdn, sdn_length d t]
theorem sdn_at (d : Int) : ∀ (ys : List Int) (i : Nat), i < ys.length → (sdn d ys).getD i 0 = (ys.getD (i + 1) 0 * 65536 + ys.getD i 0) / d % 65536
  | [], i, h => by simp at h
  | y :: t, 0, h => by simp [sdn, List.getD]
  | y :: t, i + 1, h => by
    have := sdn_at d t i (by simpa using h)
    simpa [sdn, List.getD] using this
theorem sdn_lim (d : Int) : ∀ ys : List Int, Lim (sdn d ys)
  | [] => Lim.nil
  | y :: t => fun z hz => by
    simp only [sdn, List.mem_cons] at hz
    rcases hz with rfl | hz
    · omega
    · exact sdn_lim d t z hz
theorem sdn_step (d e y t0 V V' : Int) (hd : 0 < d) (he : e * d = 65536) (hy : 0 ≤ y ∧ y ≤ 65535) (ht : 0 ≤ t0 ∧ t0 ≤ 65535) (hV : V = t0 + 65536 * V') :
    (t0 * 65536 + y) / d % 65536 + 65536 * (V / d) = (y + 65536 * V) / d := by
  have he0 : 0 < e := by
    rcases Int.lt_or_le 0 e with h | h
    · exact h
    · have : e * d ≤ 0 := Int.mul_nonpos_of_nonpos_of_nonneg h (by omega)
      omega
  have e1 : (t0 * 65536 + y) / d = t0 * e + y / d := by
    rw [← he, ← Int.mul_assoc, Int.add_comm, Int.add_mul_ediv_right _ _ (by omega), Int.add_comm]
  have e2 : (y + 65536 * V) / d = y / d + e * V := by
    rw [← he, Int.mul_right_comm, Int.add_mul_ediv_right _ _ (by omega)]
  have e3 : V % d = t0 % d := by
    rw [hV, ← he, Int.mul_assoc, Int.mul_left_comm, Int.add_mul_emod_self_left]
  have e4 := Int.mul_ediv_add_emod V d
  have e5 := Int.mul_ediv_add_emod t0 d
  have e6 : e * V = 65536 * (V / d) + e * (t0 % d) := by
    have : e * V = e * (d * (V / d) + V % d) := by rw [e4]
    rw [this, Int.mul_add, ← Int.mul_assoc, he, e3]
  have e7 : t0 * e = 65536 * (t0 / d) + e * (t0 % d) := by
    have : t0 * e = e * (d * (t0 / d) + t0 % d) := by rw [e5, Int.mul_comm]
    rw [this, Int.mul_add, ← Int.mul_assoc, he]
  have h1 : y / d < e := by
    refine Int.ediv_lt_of_lt_mul hd ?_
    omega
  have h2 : 0 ≤ y / d := Int.ediv_nonneg hy.1 (by omega)
  have h3 : t0 % d ≤ d - 1 := by have := Int.emod_lt_of_pos t0 hd; omega
  have h4 : 0 ≤ t0 % d := Int.emod_nonneg _ (by omega)
  have h5 : e * (t0 % d) ≤ e * (d - 1) := Int.mul_le_mul_of_nonneg_left h3 (by omega)
  have h6 : e * (d - 1) = 65536 - e := by rw [Int.mul_sub, he, Int.mul_one]
  have h7 : 0 ≤ e * (t0 % d) := Int.mul_nonneg (by omega) h4
  rw [e1, e2, e6, e7]
  omega
theorem sdn_val (s : Nat) (hs : s ≤ 16) : ∀ {ys : List Int}, Lim ys → val (sdn ((2 ^ s : Nat) : Int) ys) = val ys / ((2 ^ s : Nat) : Int)
  | [], _ => by simp [sdn, val]
  | y :: t, h => by
    have ht : Lim t := fun z hz => h z (List.mem_cons_of_mem _ hz)
    have hy := h y (List.mem_cons_self)
    have ih := sdn_val s hs ht
    have h0 := ht.at 0
    have hd : (0 : Int) < ((2 ^ s : Nat) : Int) := by have := Nat.pow_pos (n := s) (show 0 < 2 by decide); omega
    have he : ((2 ^ (16 - s) : Nat) : Int) * ((2 ^ s : Nat) : Int) = 65536 := by
      rw [← Int.natCast_mul, ← Nat.pow_add, Nat.sub_add_cancel hs]; rfl
    have hv := val_drop t 0
    simp only [List.drop_zero] at hv
    have := sdn_step _ _ y _ (val t) _ hd he hy h0 hv
    simp only [sdn, val]
    rw [ih]
    exact this
theorem sdn_put (d : Int) (ys : List Int) (i : Nat) (h : i < ys.length) : ((sdn d ys).take i ++ ys.drop i).set i ((sdn d ys).getD i 0) = (sdn d ys).take (i + 1) ++ ys.drop (i + 1) := by
  have hl := sdn_length d ys
  have e1 : ((sdn d ys).take i).length = i := by simp; omega
  rw [List.set_append_right _ _ (by omega), e1, Nat.sub_self, List.drop_eq_getElem_cons h, List.set_cons_zero, List.take_succ_eq_append_getElem (by omega), List.append_assoc]
  simp [List.getD, show i < (sdn d ys).length by omega]
theorem sdn_len (d : Int) (ys : List Int) (i : Nat) (hj : i ≤ ys.length) : ((sdn d ys).take i ++ ys.drop i).length = ys.length := by
  have := sdn_length d ys
  rw [List.length_append, List.length_take, List.length_drop]
  omega
theorem sdn_mix (d : Int) (ys : List Int) (i j : Nat) (hi : i ≤ j) (hj : i ≤ ys.length) : ((sdn d ys).take i ++ ys.drop i).getD j 0 = ys.getD j 0 := by
  have e1 : ((sdn d ys).take i).length = i := by have := sdn_length d ys; simp; omega
  simp only [List.getD]
  rw [List.getElem?_append_right (by omega), e1, List.getElem?_drop, show i + (j - i) = j by omega]

end Go.Proofs.Ytfikfmkhmojpfaa
