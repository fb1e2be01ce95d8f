/-
  Contracts of NatRead, the model's and the program's.
-/
import Derived.Test.YtckolgaalkohlaaDoorINat24
import Derived.Test.YtckolgaalkohlaaDoorINat12
import Derived.Test.YtckolgaalkohlaaDoorNat14
import Derived.Test.YtckolgaalkohlaaDoorBC
namespace Go.Proofs.YtckolgaalkohlaaDoor
open Go.RowKit
set_option linter.unusedVariables false
set_option maxRecDepth 8000
set_option linter.unusedSimpArgs false

/-- May the text be read? -/
def readOk (bs : List Int) : Bool := decide (bs.length ≤ 400) && isDig bs && !(decide (1 < bs.length) && decide (bs.getD 0 0 = 48))
theorem readOk_long {bs : List Int} (h : 400 < bs.length) : readOk bs = false := by unfold readOk; rw [decide_eq_false (by omega)]; rfl
theorem readOk_dig {bs : List Int} (h : isDig bs = false) : readOk bs = false := by unfold readOk; rw [h, Bool.and_false]; rfl
theorem readOk_nought {bs : List Int} (h : 1 < bs.length) (h0 : bs.getD 0 0 = 48) : readOk bs = false := by unfold readOk; rw [decide_eq_true h, decide_eq_true h0]; simp
theorem readOk_yes {bs : List Int} (h : bs.length ≤ 400) (hd : isDig bs = true) (h0 : ¬ (1 < bs.length ∧ bs.getD 0 0 = 48)) : readOk bs = true := by
  unfold readOk
  rw [decide_eq_true h, hd, ← Bool.decide_and, decide_eq_false h0]; rfl

theorem dig_fold (bs : List Int) (i : Nat) (h : i < bs.length) (hd : 48 ≤ bs.getD i 0 ∧ bs.getD i 0 ≤ 57) : (10 * val (limbs (digN (bs.take i))) + (bs.getD i 0 - 48)).toNat = digN (bs.take (i + 1)) := by
  rw [limbs_val, digN_step bs i h]
  omega

/-- Where the digits are good, the number is there. -/
def DigOk (D : Bool) (b : Nat) (w : World) (g : Nat) (zs : List Int) : Prop := D = true → ∃ u, Num b w g u zs

set_option maxHeartbeats 8000000 in
theorem readDigits_impl {w0 w : World} {b g : Nat} {bw : Bool} {lo hi : Nat} {v u : Value} {bs : List Int} (r : Row .u8 bw lo hi w0 v bs) (k : Kept 0 0 w0 w) (n : Num b w g u []) (hg : w0.heap.size ≤ g) (hb : w0.heap.size ≤ b) (hsz : b ≤ w.heap.size) (hlen : bs.length ≤ 400) :
    Calls Tryd.prog 23 #[.pointer (some ⟨g, 0, none⟩), v] w fun e w' => e = .returned (.bool (isDig bs)) ∧ DigOk (isDig bs) b w' g (limbs (digN bs)) ∧ Kept 0 0 w0 w' := by
  obtain ⟨a, c, rfl⟩ := Row.form' r
  have hm := r.len
  unfold maxLen at hm
  have HAT0 := hide ((row_cell r).2.2.2)
  obtain ⟨D, hD⟩ : ∃ D, isDig bs = D := ⟨_, rfl⟩
  rw [hD]
  have HD := hide hD
  have N0 := hide n
  have HK0 := hide k
  clear r n k hD
  go_enter Tryd.func23, Tryd.ntmps23
  go_wp2_with fail
  go_loopw [9] (fun ii wr => ∃ (i : Nat) (u : Value), ii = .int .i64 (i : Int) ∧ i ≤ bs.length ∧ Hid (∀ j, j < i → 48 ≤ bs.getD j 0 ∧ bs.getD j 0 ≤ 57) ∧ Num b wr g u (limbs (digN (bs.take i))) ∧ (limbs (digN (bs.take i))).length ≤ i ∧ b ≤ wr.heap.size ∧ Kept 0 0 w0 wr) (fun ii _ => bs.length - (intOf ii).toNat)
  case atStart => exact ⟨0, _, rfl, Nat.zero_le _, hide (fun j h => by omega), by simpa [digN, limbs_zero] using unhide N0, by simp [digN, limbs_zero], hsz, unhide HK0⟩
  case round =>
    clear N0 HK0
    obtain ⟨i, u, rfl, hi, hp, n, hln, hsz, kk⟩ := hrel
    by_cases hA : i < bs.length
    · have hi1 : (i : Int) < (bs.length : Int) := by omega
      obtain ⟨gB, oB, rfl, xb⟩ := unhide HAT0 i hA
      replace xb := kk.cell0 xb
      by_cases hd : 48 ≤ bs.getD i 0 ∧ bs.getD i 0 ≤ 57
      · have hfold := dig_fold bs i hA hd
        have hln2 := limbs_ten (digN (bs.take i)) i (bs.getD i 0 - 48).toNat hln (by omega)
        rw [← digN_step bs i hA] at hln2
        have HP2 : Hid (∀ j, j < i + 1 → 48 ≤ bs.getD j 0 ∧ bs.getD j 0 ≤ 57) := fun j h => by
          by_cases e : j = i
          · subst e; exact hd
          · exact unhide hp j (by omega)
        have HLN2 := hide hln2
        generalize hz : bs.getD i 0 = z at *
        have h1 : ¬ z < 48 := by omega
        have h2 : ¬ 57 < z := by omega
        have hw8 : IntKind.u8.wrap (z - 48) = z - 48 := by rw [IntKind.wrap_u8]; omega
        have hw6 : IntKind.i64.wrap (z - 48) = z - 48 := wrap_small _ (by omega) (by omega)
        have N1 := hide n
        clear hz hln2 hp n
        go_wp2_with fail
        refine (appendDigit_impl _ (unhide N1) hsz (limbs_nrm _) (by omega) (z - 48) (by omega)).mono ?_
        rintro e w5 ⟨⟨r5, rfl⟩, u5, n5, m5⟩
        rw [hfold] at n5
        have k5 := kk.mod m5 (fun i e => e.elim (fun e => by omega) (fun e => by have := ((unhide N1).own.lt i e).1; omega))
        have z5 := m5.size
        clear m5 kk N1
        go_wp2
        go_roundw
        case rel => exact ⟨i + 1, u5, by go_num, by omega, HP2, n5, unhide HLN2, by omega, k5⟩
        case measure => simp [intOf]; omega
      · have hF : D = false := by rw [← unhide HD]; exact isDig_not i hA hd
        subst hF
        have K0 := hide kk
        by_cases h1 : bs.getD i 0 < 48
        · generalize bs.getD i 0 = z at *
          clear hp n kk
          go_wp2_with fail
          go_ret
          exact ⟨rfl, (fun h => by cases h), unhide K0⟩
        · have h2 : 57 < bs.getD i 0 := by omega
          generalize bs.getD i 0 = z at *
          clear hp n kk
          go_wp2_with fail
          go_ret
          exact ⟨rfl, (fun h => by cases h), unhide K0⟩
    · have hi1 : ¬ (i : Int) < (bs.length : Int) := by omega
      rw [List.take_of_length_le (by omega)] at n hln
      by_cases hne : bs.length = 0
      · have hF : D = false := by rw [← unhide HD]; exact isDig_nil hne
        subst hF
        have hbs : bs = [] := List.length_eq_zero_iff.1 hne
        subst hbs
        have K0 := hide kk
        clear hp n kk HAT0 hne
        go_wp2_with fail
        go_ret
        exact ⟨rfl, (fun h => by cases h), unhide K0⟩
      · have hT : D = true := by rw [← unhide HD]; exact isDig_of hne (fun j hj => unhide hp j (by omega))
        subst hT
        have hpos : (0 : Int) < (bs.length : Int) := by omega
        have K0 := hide kk
        have N1 := hide n
        clear hp n kk HAT0
        go_wp2_with fail
        go_ret
        exact ⟨by simp; omega, (fun _ => ⟨u, unhide N1⟩), unhide K0⟩

end Go.Proofs.YtckolgaalkohlaaDoor
