/-
  The walk of the law FnNatShifts: it returns true at every code.
-/
import Derived.Test.YtkifpodnljlhiaaDoorDrawS
import Derived.Test.YtkifpodnljlhiaaDoorLawN
import Derived.Test.YtkifpodnljlhiaaDoorNTrail
import Derived.Test.YtkifpodnljlhiaaDoorIDiv7
import Derived.Test.YtkifpodnljlhiaaDoorINat18
import Derived.Test.YtkifpodnljlhiaaDoorINat21
import Derived.Test.YtkifpodnljlhiaaDoorINat23
import Derived.Test.YtkifpodnljlhiaaDoorINat28
namespace Go.Proofs.YtkifpodnljlhiaaDoor
open Go.RowKit
set_option linter.unusedVariables false
set_option maxRecDepth 8000
set_option linter.unusedSimpArgs false
set_option exponentiation.threshold 2000

def shC (xs : List Int) (k : Int) : Bool := okB xs && decide (0 ≤ k) && (decide (xs.length = 0) || decide (k ≤ 1600))

theorem ans_full {c : Bool} {n : Nat} (h : ansB c n = true) : c = true ∧ ansL c n = limbs n ∧ okB (limbs n) = true ∧ val (limbs n) = n := by
  cases hc : c
  · rw [hc] at h; unfold ansB at h; cases h
  · rw [hc, ansB_yes rfl] at h
    have hl := of_decide_eq_true h
    exact ⟨rfl, by rw [ansL_yes rfl]; exact tell_short hl, (okB_iff _).2 ⟨hl, limbs_nrm _⟩, limbs_val _⟩

theorem sh_bad {xs : List Int} {k : Int} {n : Nat} (h : ansB (shC xs k) n = true) (hb : okB xs = false ∨ k < 0 ∨ 1600 < k) : xs.length = 0 := by
  have hc := (ans_full h).1
  unfold shC at hc
  simp only [Bool.and_eq_true, Bool.or_eq_true, decide_eq_true_eq] at hc
  rcases hb with hb | hb | hb
  · rw [hb] at hc; cases hc.1.1
  · omega
  · omega

theorem sh_c {xs : List Int} {k : Int} (o : okB xs = true) (h0 : 0 ≤ k) (h1 : k ≤ 1600) : shC xs k = true := by
  unfold shC
  rw [o, decide_eq_true h0, decide_eq_true h1, Bool.or_true]
  rfl

theorem sh_less {xs : List Int} (o : okB xs = true) (d : Nat) : (limbs ((val xs).toNat / d)).length ≤ 100 := by
  obtain ⟨l1, n1⟩ := (okB_iff xs).1 o
  have := limbs_len_mono (Nat.div_le_self (val xs).toNat d)
  rw [← nrm_limbs n1] at this
  omega

theorem sh_shr {xs : List Int} {k : Int} (o : okB xs = true) (h0 : 0 ≤ k) : ansL (okB xs && decide (0 ≤ k)) ((val xs).toNat / 2 ^ k.toNat) = limbs ((val xs).toNat / 2 ^ k.toNat) := by
  rw [o, decide_eq_true h0, ansL_yes (show (true && true) = true from rfl)]
  exact tell_short (sh_less o _)

theorem sh_pow {k : Int} (h0 : 0 ≤ k) (h1 : k ≤ 1600) : powOk [2] k = true := by
  unfold powOk
  rw [show okB [2] = true by decide, decide_eq_true h0, decide_eq_true h1]
  rfl

theorem sh_base : (65536 : Int) ^ 100 = ((2 ^ 1600 : Nat) : Int) := by
  rw [show (65536 : Int) = ((2 ^ 16 : Nat) : Int) by decide, ← Int.natCast_pow, ← Nat.pow_mul]

theorem sh_two_no {k : Int} {c : Bool} (hc : c = true) (h0 : 0 ≤ k) (h : ansB c (2 ^ k.toNat) = false) : 1600 ≤ k := by
  rw [ansB_yes hc] at h
  have hl := of_decide_eq_false h
  rcases Int.lt_or_le k 1600 with hk | hk
  · exfalso
    apply hl
    refine (limbs_length_le _ 100).2 ?_
    rw [sh_base]
    have : (2 : Nat) ^ k.toNat < 2 ^ 1600 := Nat.pow_lt_pow_right (by decide) (by omega)
    exact Int.ofNat_lt.2 this
  · exact hk

theorem sh_div {xs : List Int} {K : Nat} (o : okB xs = true) (ot : okB (limbs (2 ^ K)) = true) : divQ xs (limbs (2 ^ K)) = limbs ((val xs).toNat / 2 ^ K) := by
  obtain ⟨l1, n1⟩ := (okB_iff xs).1 o
  have hx := val_nonneg n1.1
  have hp : 0 < 2 ^ K := Nat.pow_pos (by decide)
  have hne : limbs (2 ^ K) ≠ [] := fun e => by have := limbs_eq_nil.1 e; omega
  have hb : divB xs (limbs (2 ^ K)) = true := by
    unfold divB
    rw [o, ot, decide_eq_true (List.length_pos_iff.2 hne)]
    rfl
  rw [divQ_yes hb, limbs_val]
  congr 1
  have e : val xs = ((val xs).toNat : Int) := by omega
  conv => lhs; rw [e]
  rw [← Int.natCast_ediv]
  exact Int.toNat_natCast _

theorem sh_mul {xs : List Int} {k : Int} (o : okB xs = true) (h0 : 0 ≤ k) (h1 : k ≤ 1600) (ot : okB (limbs (2 ^ k.toNat)) = true) :
    ansB (okB xs && okB (limbs (2 ^ k.toNat))) (val xs * val (limbs (2 ^ k.toNat))).toNat = ansB (shC xs k) ((val xs).toNat * 2 ^ k.toNat) ∧ ansL (okB xs && okB (limbs (2 ^ k.toNat))) (val xs * val (limbs (2 ^ k.toNat))).toNat = ansL (shC xs k) ((val xs).toNat * 2 ^ k.toNat) := by
  have hx := val_nonneg ((okB_iff xs).1 o).2.1
  have e : (val xs * val (limbs (2 ^ k.toNat))).toNat = (val xs).toNat * 2 ^ k.toNat := by
    rw [limbs_val, Int.toNat_mul hx (Int.natCast_nonneg _), Int.toNat_natCast]
  rw [e, sh_c o h0 h1, o, ot]
  exact ⟨rfl, rfl⟩

theorem sh_back {xs : List Int} {k : Int} (o : okB xs = true) (h0 : 0 ≤ k) {XL : List Int} (hb : ansB (shC xs k) ((val xs).toNat * 2 ^ k.toNat) = true) (hl : ansL (shC xs k) ((val xs).toNat * 2 ^ k.toNat) = XL) :
    okB XL = true ∧ (val XL).toNat = (val xs).toNat * 2 ^ k.toNat ∧ ansL (okB XL && decide (0 ≤ k)) ((val XL).toNat / 2 ^ k.toNat) = xs := by
  obtain ⟨-, e, ok, ev⟩ := ans_full hb
  obtain ⟨l1, n1⟩ := (okB_iff xs).1 o
  rw [e] at hl
  subst hl
  have ex : limbs (val xs).toNat = xs := (nrm_limbs n1).symm
  refine ⟨ok, by rw [ev]; omega, ?_⟩
  rw [ok, decide_eq_true h0, ansL_yes (show (true && true) = true from rfl), ev, Int.toNat_natCast, Nat.mul_div_cancel _ (Nat.pow_pos (by decide)), ex]
  exact tell_short l1

theorem sh_bits {V : Nat} (h : V ≠ 0) (k : Nat) : bitsN (V * 2 ^ k) = bitsN V + k := by
  refine bitsN_unique ?_ (.inr ?_)
  · rw [Nat.pow_add]
    exact Nat.mul_lt_mul_of_pos_right ((bitsN_le V _).1 (Nat.le_refl _)) (Nat.pow_pos (by decide))
  · have h1 : 0 < bitsN V := by unfold bitsN; rw [if_neg h]; omega
    have h2 := bits_low (X := V) rfl h1
    rw [show bitsN V + k - 1 = (bitsN V - 1) + k by omega, Nat.pow_add]
    exact Nat.mul_le_mul_right _ h2

theorem sh_facts {xs XL : List Int} {k : Int} (o : okB xs = true) (h0 : 0 ≤ k) (h1 : k ≤ 1600) (ox : okB XL = true) (ev : (val XL).toNat = (val xs).toNat * 2 ^ k.toNat) (hne : xs.length ≠ 0) :
    ∃ B T b : Int, (bitsN (numOf xs) : Int) = B ∧ (bitsN (numOf XL) : Int) = B + k ∧ trailN xs = T ∧ trailN XL = T + k ∧ bitAt (numOf xs) 0 = b ∧ bitAt (numOf XL) k = b ∧ IntKind.i64.wrap (B + k) = B + k ∧ IntKind.i64.wrap (T + k) = T + k := by
  obtain ⟨l1, n1⟩ := (okB_iff xs).1 o
  have hp : 0 < val xs := div_pos o (by omega)
  have hv : (val xs).toNat ≠ 0 := by omega
  have eb := sh_bits hv k.toNat
  have et := (tz_shift hv k.toNat).1
  have hb : bitsN (val xs).toNat ≤ 1600 := okB_bits o
  have ht : tz (val xs).toNat < 1600 := tz_lt hv ((bitsN_le _ _).1 hb)
  refine ⟨_, _, _, rfl, ?_, rfl, ?_, rfl, ?_, ?_, ?_⟩
  · rw [numOf_ok ox, numOf_ok o, ev, eb]; omega
  · rw [trailN_yes ox, trailN_yes o, ev, et]; omega
  · rw [numOf_ok ox, numOf_ok o, ev]
    unfold bitAt
    rw [if_neg (by omega), if_neg (by decide), Nat.mul_div_cancel _ (Nat.pow_pos (by decide)), show (0 : Int).toNat = 0 from rfl, Nat.pow_zero, Nat.div_one]
  · rw [numOf_ok o]; rw [IntKind.wrap_i64]; omega
  · rw [trailN_yes o]; rw [IntKind.wrap_i64]; omega

theorem in_sameNat_c : ∀ (w : World) (args : Array Value), (callFunc 12 args).run Tryd.prog w = .ok (.enter 12 args) w := enters Tryd.func12 (by decide) (fun h => by cases h)

theorem in_NatShr_c : ∀ (w : World) (args : Array Value), (callFunc 9 args).run Tryd.prog w = .ok (.enter 9 args) w := enters Tryd.func9 (by decide) (fun h => by cases h)

theorem in_NatBits_c : ∀ (w : World) (args : Array Value), (callFunc 7 args).run Tryd.prog w = .ok (.enter 7 args) w := enters Tryd.func7 (by decide) (fun h => by cases h)

theorem in_NatTrail_c : ∀ (w : World) (args : Array Value), (callFunc 14 args).run Tryd.prog w = .ok (.enter 14 args) w := enters Tryd.func14 (by decide) (fun h => by cases h)

theorem in_NatBit_c : ∀ (w : World) (args : Array Value), (callFunc 15 args).run Tryd.prog w = .ok (.enter 15 args) w := enters Tryd.func15 (by decide) (fun h => by cases h)

theorem same_same {b1 b2 : Bool} {l1 h1 l2 h2 : Nat} {v1 v2 : Value} {xs : List Int} (w : World) (r1 : Row .i64 b1 l1 h1 w v1 xs) (r2 : Row .i64 b2 l2 h2 w v2 xs) :
    Calls Tryd.prog 12 #[.agg #[v1], .agg #[v2]] w fun e w' => e = .returned (.bool true) ∧ Kept 0 0 w w' := by
  have mk := sameNat_any w r1 r2
  rw [show sameL xs xs = true from decide_eq_true rfl] at mk
  exact mk

set_option maxHeartbeats 8000000 in
theorem law_NatShifts {v : Value} {zs : List Int} {w : World} (r : Row .u8 false 0 w.heap.size w v zs) (hb0 : ∀ z ∈ zs, (Lit.int .u8 z).wf = true) (T : TabB w) :
    Calls Tryd.prog 3 #[v] w fun e w' => e = .returned (.bool true) ∧ Below w.heap.size w w' := by
  have hb := bytes_of_wf hb0
  clear hb0
  have hB := hide hb
  clear hb
  have HT := hide T
  clear T
  have s0 : w.heap.size = w.heap.size := rfl
  obtain ⟨a0, c0, hv⟩ := r.form'
  subst hv
  have K := hide (Kept.refl 0 0 w)
  have S0 := hide s0
  clear s0
  go_enter Tryd.func3, Tryd.ntmps3
  go_wp2_with fail
  refine (drawShl_any _ r (unhide hB)).mono ?_
  rintro e w1 ⟨v1, k, rfl, ⟨hk0, hk1⟩, ⟨xs, r1⟩, k1⟩
  replace r := r.kept k1 (.inr (.inr (Nat.le_refl 0)))
  replace K := hide ((unhide K).trans k1)
  have z2 := k1.size
  clear k1
  clear r
  obtain ⟨a1, c1, hv⟩ := Row.form' r1
  subst hv
  have kn := (Kept.refl 0 0 w1).alloc (.cells #[.slice a1 xs.length c1] 25)
  have ca0 : (w1.alloc (.cells #[.slice a1 xs.length c1] 25)).cell? ⟨w1.heap.size, 0, none⟩ = some (.slice a1 xs.length c1) := new_cell2 _ _ _ _ _ _ (by simp) rfl
  have sz3 : w1.heap.size + 1 ≤ (w1.alloc (.cells #[.slice a1 xs.length c1] 25)).heap.size := by simp
  replace r1 := r1.kept kn (.inr (.inr (Nat.le_refl 0)))
  replace K := hide ((unhide K).trans kn)
  have z4 := kn.size
  clear kn
  go_wp2_with fail
  obtain ⟨Bca, hBca⟩ : ∃ y, w1.heap.size = y := ⟨_, rfl⟩
  generalize (w1.alloc (.cells #[.slice a1 xs.length c1] 25)) = wn5 at *
  clear hBca
  have mk := natShl_impl wn5 r1 k (by omega) (by omega)
  change Calls _ _ _ _ (fun e w' => ∃ v', e = .returned (.tuple #[.agg #[v'], .bool (ansB (shC xs k) ((val xs).toNat * 2 ^ k.toNat))]) ∧ Row .i64 true _ w'.heap.size w' v' (ansL (shC xs k) ((val xs).toNat * 2 ^ k.toNat)) ∧ Kept 0 0 _ w') at mk
  obtain ⟨XB, hXB⟩ : ∃ y, ansB (shC xs k) ((val xs).toNat * 2 ^ k.toNat) = y := ⟨_, rfl⟩
  obtain ⟨XL, hXL⟩ : ∃ y, ansL (shC xs k) ((val xs).toNat * 2 ^ k.toNat) = y := ⟨_, rfl⟩
  rw [hXB, hXL] at mk
  have HX := hide (And.intro hXB hXL)
  clear hXB hXL
  refine (mk).mono ?_
  rintro e w6 ⟨v2, rfl, r2, k6⟩
  replace r1 := r1.kept k6 (.inr (.inr (Nat.le_refl 0)))
  replace ca0 := k6.cell0 ca0
  replace K := hide ((unhide K).trans k6)
  have z7 := k6.size
  clear k6
  clear mk
  obtain ⟨a2, c2, hv⟩ := Row.form' r2
  subst hv
  have kn := (Kept.refl 0 0 w6).alloc (.cells #[.slice a2 XL.length c2] 25)
  have cx0 : (w6.alloc (.cells #[.slice a2 XL.length c2] 25)).cell? ⟨w6.heap.size, 0, none⟩ = some (.slice a2 XL.length c2) := new_cell2 _ _ _ _ _ _ (by simp) rfl
  have sz8 : w6.heap.size + 1 ≤ (w6.alloc (.cells #[.slice a2 XL.length c2] 25)).heap.size := by simp
  replace r1 := r1.kept kn (.inr (.inr (Nat.le_refl 0)))
  replace r2 := r2.kept kn (.inr (.inr (Nat.le_refl 0)))
  replace ca0 := kn.cell0 ca0
  replace K := hide ((unhide K).trans kn)
  have z9 := kn.size
  clear kn
  go_wp2_with fail
  obtain ⟨Bcx, hBcx⟩ : ∃ y, w6.heap.size = y := ⟨_, rfl⟩
  generalize (w6.alloc (.cells #[.slice a2 XL.length c2] 25)) = wn10 at *
  clear hBcx
  have mo := ok_spec wn10 r1
  refine (mo).mono ?_
  rintro e w11 ⟨rfl, k11⟩
  replace r1 := r1.kept k11 (.inr (.inr (Nat.le_refl 0)))
  replace r2 := r2.kept k11 (.inr (.inr (Nat.le_refl 0)))
  replace ca0 := k11.cell0 ca0
  replace cx0 := k11.cell0 cx0
  replace K := hide ((unhide K).trans k11)
  have z12 := k11.size
  clear k11
  clear mo
  cases ho1 : okB xs
  · have hz : XB = true → xs.length = 0 := fun e => sh_bad (e ▸ (unhide HX).1) (.inl ho1)
    have HZ := hide hz
    clear hz
    clear ho1
    cases XB
    · clear HZ
      go_wp2_with fail
      have mo := nat_any w11 8 (by decide)
      refine (mo).mono ?_
      rintro e w13 ⟨v3, rfl, r3, k13⟩
      replace r1 := r1.kept k13 (.inr (.inr (Nat.le_refl 0)))
      replace r2 := r2.kept k13 (.inr (.inr (Nat.le_refl 0)))
      replace ca0 := k13.cell0 ca0
      replace cx0 := k13.cell0 cx0
      replace K := hide ((unhide K).trans k13)
      have z14 := k13.size
      clear k13
      clear mo
      go_wp2_with fail
      have mo := natBits_impl w13 r3
      rw [show ((bitsN (numOf (limbs (8 : Int).toNat)) : Nat) : Int) = 4 by decide] at mo
      refine (mo).mono ?_
      rintro e w15 ⟨rfl, k15⟩
      replace r1 := r1.kept k15 (.inr (.inr (Nat.le_refl 0)))
      replace r2 := r2.kept k15 (.inr (.inr (Nat.le_refl 0)))
      replace r3 := r3.kept k15 (.inr (.inr (Nat.le_refl 0)))
      replace ca0 := k15.cell0 ca0
      replace cx0 := k15.cell0 cx0
      replace K := hide ((unhide K).trans k15)
      have z16 := k15.size
      clear k15
      clear mo
      try go_wp2_with fail
      go_ret
      exact ⟨rfl, (unhide K).toBelow⟩
    · have hl : ((xs.length : Int) == 0) = true := beq_iff_eq.2 (by have := unhide HZ rfl; omega)
      clear HZ
      go_wp2_with fail
      have mo := nat_any w11 8 (by decide)
      refine (mo).mono ?_
      rintro e w13 ⟨v3, rfl, r3, k13⟩
      replace r1 := r1.kept k13 (.inr (.inr (Nat.le_refl 0)))
      replace r2 := r2.kept k13 (.inr (.inr (Nat.le_refl 0)))
      replace ca0 := k13.cell0 ca0
      replace cx0 := k13.cell0 cx0
      replace K := hide ((unhide K).trans k13)
      have z14 := k13.size
      clear k13
      clear mo
      go_wp2_with fail
      have mo := natBits_impl w13 r3
      rw [show ((bitsN (numOf (limbs (8 : Int).toNat)) : Nat) : Int) = 4 by decide] at mo
      refine (mo).mono ?_
      rintro e w15 ⟨rfl, k15⟩
      replace r1 := r1.kept k15 (.inr (.inr (Nat.le_refl 0)))
      replace r2 := r2.kept k15 (.inr (.inr (Nat.le_refl 0)))
      replace r3 := r3.kept k15 (.inr (.inr (Nat.le_refl 0)))
      replace ca0 := k15.cell0 ca0
      replace cx0 := k15.cell0 cx0
      replace K := hide ((unhide K).trans k15)
      have z16 := k15.size
      clear k15
      clear mo
      try go_wp2_with fail
      go_ret
      exact ⟨rfl, (unhide K).toBelow⟩
  have HO1 := hide ho1
  clear ho1
  by_cases h0 : k < 0
  · have hz : XB = true → xs.length = 0 := fun e => sh_bad (e ▸ (unhide HX).1) (.inr (.inl h0))
    have HZ := hide hz
    clear hz
    cases XB
    · clear HZ
      go_wp2_with fail
      have mo := nat_any w11 8 (by decide)
      refine (mo).mono ?_
      rintro e w13 ⟨v3, rfl, r3, k13⟩
      replace r1 := r1.kept k13 (.inr (.inr (Nat.le_refl 0)))
      replace r2 := r2.kept k13 (.inr (.inr (Nat.le_refl 0)))
      replace ca0 := k13.cell0 ca0
      replace cx0 := k13.cell0 cx0
      replace K := hide ((unhide K).trans k13)
      have z14 := k13.size
      clear k13
      clear mo
      go_wp2_with fail
      have mo := natBits_impl w13 r3
      rw [show ((bitsN (numOf (limbs (8 : Int).toNat)) : Nat) : Int) = 4 by decide] at mo
      refine (mo).mono ?_
      rintro e w15 ⟨rfl, k15⟩
      replace r1 := r1.kept k15 (.inr (.inr (Nat.le_refl 0)))
      replace r2 := r2.kept k15 (.inr (.inr (Nat.le_refl 0)))
      replace r3 := r3.kept k15 (.inr (.inr (Nat.le_refl 0)))
      replace ca0 := k15.cell0 ca0
      replace cx0 := k15.cell0 cx0
      replace K := hide ((unhide K).trans k15)
      have z16 := k15.size
      clear k15
      clear mo
      try go_wp2_with fail
      go_ret
      exact ⟨rfl, (unhide K).toBelow⟩
    · have hl : ((xs.length : Int) == 0) = true := beq_iff_eq.2 (by have := unhide HZ rfl; omega)
      clear HZ
      go_wp2_with fail
      have mo := nat_any w11 8 (by decide)
      refine (mo).mono ?_
      rintro e w13 ⟨v3, rfl, r3, k13⟩
      replace r1 := r1.kept k13 (.inr (.inr (Nat.le_refl 0)))
      replace r2 := r2.kept k13 (.inr (.inr (Nat.le_refl 0)))
      replace ca0 := k13.cell0 ca0
      replace cx0 := k13.cell0 cx0
      replace K := hide ((unhide K).trans k13)
      have z14 := k13.size
      clear k13
      clear mo
      go_wp2_with fail
      have mo := natBits_impl w13 r3
      rw [show ((bitsN (numOf (limbs (8 : Int).toNat)) : Nat) : Int) = 4 by decide] at mo
      refine (mo).mono ?_
      rintro e w15 ⟨rfl, k15⟩
      replace r1 := r1.kept k15 (.inr (.inr (Nat.le_refl 0)))
      replace r2 := r2.kept k15 (.inr (.inr (Nat.le_refl 0)))
      replace r3 := r3.kept k15 (.inr (.inr (Nat.le_refl 0)))
      replace ca0 := k15.cell0 ca0
      replace cx0 := k15.cell0 cx0
      replace K := hide ((unhide K).trans k15)
      have z16 := k15.size
      clear k15
      clear mo
      try go_wp2_with fail
      go_ret
      exact ⟨rfl, (unhide K).toBelow⟩
  by_cases h1 : 1600 < k
  · have hz : XB = true → xs.length = 0 := fun e => sh_bad (e ▸ (unhide HX).1) (.inr (.inr h1))
    have HZ := hide hz
    clear hz
    cases XB
    · clear HZ
      go_wp2_with fail
      have mo := nat_any w11 8 (by decide)
      refine (mo).mono ?_
      rintro e w13 ⟨v3, rfl, r3, k13⟩
      replace r1 := r1.kept k13 (.inr (.inr (Nat.le_refl 0)))
      replace r2 := r2.kept k13 (.inr (.inr (Nat.le_refl 0)))
      replace ca0 := k13.cell0 ca0
      replace cx0 := k13.cell0 cx0
      replace K := hide ((unhide K).trans k13)
      have z14 := k13.size
      clear k13
      clear mo
      go_wp2_with fail
      have mo := natBits_impl w13 r3
      rw [show ((bitsN (numOf (limbs (8 : Int).toNat)) : Nat) : Int) = 4 by decide] at mo
      refine (mo).mono ?_
      rintro e w15 ⟨rfl, k15⟩
      replace r1 := r1.kept k15 (.inr (.inr (Nat.le_refl 0)))
      replace r2 := r2.kept k15 (.inr (.inr (Nat.le_refl 0)))
      replace r3 := r3.kept k15 (.inr (.inr (Nat.le_refl 0)))
      replace ca0 := k15.cell0 ca0
      replace cx0 := k15.cell0 cx0
      replace K := hide ((unhide K).trans k15)
      have z16 := k15.size
      clear k15
      clear mo
      try go_wp2_with fail
      go_ret
      exact ⟨rfl, (unhide K).toBelow⟩
    · have hl : ((xs.length : Int) == 0) = true := beq_iff_eq.2 (by have := unhide HZ rfl; omega)
      clear HZ
      go_wp2_with fail
      have mo := nat_any w11 8 (by decide)
      refine (mo).mono ?_
      rintro e w13 ⟨v3, rfl, r3, k13⟩
      replace r1 := r1.kept k13 (.inr (.inr (Nat.le_refl 0)))
      replace r2 := r2.kept k13 (.inr (.inr (Nat.le_refl 0)))
      replace ca0 := k13.cell0 ca0
      replace cx0 := k13.cell0 cx0
      replace K := hide ((unhide K).trans k13)
      have z14 := k13.size
      clear k13
      clear mo
      go_wp2_with fail
      have mo := natBits_impl w13 r3
      rw [show ((bitsN (numOf (limbs (8 : Int).toNat)) : Nat) : Int) = 4 by decide] at mo
      refine (mo).mono ?_
      rintro e w15 ⟨rfl, k15⟩
      replace r1 := r1.kept k15 (.inr (.inr (Nat.le_refl 0)))
      replace r2 := r2.kept k15 (.inr (.inr (Nat.le_refl 0)))
      replace r3 := r3.kept k15 (.inr (.inr (Nat.le_refl 0)))
      replace ca0 := k15.cell0 ca0
      replace cx0 := k15.cell0 cx0
      replace K := hide ((unhide K).trans k15)
      have z16 := k15.size
      clear k15
      clear mo
      try go_wp2_with fail
      go_ret
      exact ⟨rfl, (unhide K).toBelow⟩
  have g0 : 0 ≤ k := by omega
  have g1 : k ≤ 1600 := by omega
  clear hk0 hk1
  go_wp2_with fail
  have mk := natShr_impl w11 r1 k (by omega) (by omega)
  rw [sh_shr (unhide HO1) g0] at mk
  obtain ⟨YL, hYL⟩ : ∃ y, limbs ((val xs).toNat / 2 ^ k.toNat) = y := ⟨_, rfl⟩
  rw [hYL] at mk
  have HY := hide hYL
  clear hYL
  refine (mk).mono ?_
  rintro e w13 ⟨v3, rfl, r3, k13⟩
  replace r1 := r1.kept k13 (.inr (.inr (Nat.le_refl 0)))
  replace r2 := r2.kept k13 (.inr (.inr (Nat.le_refl 0)))
  replace ca0 := k13.cell0 ca0
  replace cx0 := k13.cell0 cx0
  replace K := hide ((unhide K).trans k13)
  have z14 := k13.size
  clear k13
  clear mk
  obtain ⟨a3, c3, hv⟩ := Row.form' r3
  subst hv
  have kn := (Kept.refl 0 0 w13).alloc (.cells #[.slice a3 YL.length c3] 25)
  have cy0 : (w13.alloc (.cells #[.slice a3 YL.length c3] 25)).cell? ⟨w13.heap.size, 0, none⟩ = some (.slice a3 YL.length c3) := new_cell2 _ _ _ _ _ _ (by simp) rfl
  have sz15 : w13.heap.size + 1 ≤ (w13.alloc (.cells #[.slice a3 YL.length c3] 25)).heap.size := by simp
  replace r1 := r1.kept kn (.inr (.inr (Nat.le_refl 0)))
  replace r2 := r2.kept kn (.inr (.inr (Nat.le_refl 0)))
  replace r3 := r3.kept kn (.inr (.inr (Nat.le_refl 0)))
  replace ca0 := kn.cell0 ca0
  replace cx0 := kn.cell0 cx0
  replace K := hide ((unhide K).trans kn)
  have z16 := kn.size
  clear kn
  go_wp2_with fail
  obtain ⟨Bcy, hBcy⟩ : ∃ y, w13.heap.size = y := ⟨_, rfl⟩
  generalize (w13.alloc (.cells #[.slice a3 YL.length c3] 25)) = wn17 at *
  clear hBcy
  have mo := nat_any wn17 2 (by decide)
  rw [show limbs (2 : Int).toNat = [2] by decide] at mo
  refine (mo).mono ?_
  rintro e w18 ⟨v4, rfl, r4, k18⟩
  replace r1 := r1.kept k18 (.inr (.inr (Nat.le_refl 0)))
  replace r2 := r2.kept k18 (.inr (.inr (Nat.le_refl 0)))
  replace r3 := r3.kept k18 (.inr (.inr (Nat.le_refl 0)))
  replace ca0 := k18.cell0 ca0
  replace cx0 := k18.cell0 cx0
  replace cy0 := k18.cell0 cy0
  replace K := hide ((unhide K).trans k18)
  have z19 := k18.size
  clear k18
  clear mo
  go_wp2_with fail
  have mk := natPow_impl w18 r4 k (by omega) (by omega)
  rw [show (val [2]).toNat = 2 by decide] at mk
  obtain ⟨TB, hTB⟩ : ∃ y, ansB (powOk [2] k) (2 ^ k.toNat) = y := ⟨_, rfl⟩
  obtain ⟨TL, hTL⟩ : ∃ y, ansL (powOk [2] k) (2 ^ k.toNat) = y := ⟨_, rfl⟩
  rw [hTB, hTL] at mk
  have HTW := hide (And.intro hTB hTL)
  clear hTB hTL
  refine (mk).mono ?_
  rintro e w20 ⟨v5, rfl, r5, k20⟩
  replace r1 := r1.kept k20 (.inr (.inr (Nat.le_refl 0)))
  replace r2 := r2.kept k20 (.inr (.inr (Nat.le_refl 0)))
  replace r3 := r3.kept k20 (.inr (.inr (Nat.le_refl 0)))
  replace r4 := r4.kept k20 (.inr (.inr (Nat.le_refl 0)))
  replace ca0 := k20.cell0 ca0
  replace cx0 := k20.cell0 cx0
  replace cy0 := k20.cell0 cy0
  replace K := hide ((unhide K).trans k20)
  have z21 := k20.size
  clear k20
  clear mk
  obtain ⟨a5, c5, hv⟩ := Row.form' r5
  subst hv
  clear r4
  cases hT : TB
  · have h2 : 1600 ≤ k := sh_two_no (sh_pow g0 g1) g0 ((unhide HTW).1.trans hT)
    subst hT
    have kn := (Kept.refl 0 0 w20).alloc (.cells #[.slice a5 TL.length c5] 25)
    have ct0 : (w20.alloc (.cells #[.slice a5 TL.length c5] 25)).cell? ⟨w20.heap.size, 0, none⟩ = some (.slice a5 TL.length c5) := new_cell2 _ _ _ _ _ _ (by simp) rfl
    have sz22 : w20.heap.size + 1 ≤ (w20.alloc (.cells #[.slice a5 TL.length c5] 25)).heap.size := by simp
    replace r1 := r1.kept kn (.inr (.inr (Nat.le_refl 0)))
    replace r2 := r2.kept kn (.inr (.inr (Nat.le_refl 0)))
    replace r3 := r3.kept kn (.inr (.inr (Nat.le_refl 0)))
    replace r5 := r5.kept kn (.inr (.inr (Nat.le_refl 0)))
    replace ca0 := kn.cell0 ca0
    replace cx0 := kn.cell0 cx0
    replace cy0 := kn.cell0 cy0
    replace K := hide ((unhide K).trans kn)
    have z23 := kn.size
    clear kn
    go_wp2_with fail
    obtain ⟨Bct, hBct⟩ : ∃ y, w20.heap.size = y := ⟨_, rfl⟩
    generalize (w20.alloc (.cells #[.slice a5 TL.length c5] 25)) = wn24 at *
    clear hBct
    try go_wp2_with fail
    go_ret
    exact ⟨rfl, (unhide K).toBelow⟩
  subst hT
  obtain ⟨-, et, ot, -⟩ := ans_full (unhide HTW).1
  rw [(unhide HTW).2] at et
  rw [← et] at ot
  have HE := hide (And.intro et ot)
  clear et ot
  have kn := (Kept.refl 0 0 w20).alloc (.cells #[.slice a5 TL.length c5] 25)
  have ct0 : (w20.alloc (.cells #[.slice a5 TL.length c5] 25)).cell? ⟨w20.heap.size, 0, none⟩ = some (.slice a5 TL.length c5) := new_cell2 _ _ _ _ _ _ (by simp) rfl
  have sz22 : w20.heap.size + 1 ≤ (w20.alloc (.cells #[.slice a5 TL.length c5] 25)).heap.size := by simp
  replace r1 := r1.kept kn (.inr (.inr (Nat.le_refl 0)))
  replace r2 := r2.kept kn (.inr (.inr (Nat.le_refl 0)))
  replace r3 := r3.kept kn (.inr (.inr (Nat.le_refl 0)))
  replace r5 := r5.kept kn (.inr (.inr (Nat.le_refl 0)))
  replace ca0 := kn.cell0 ca0
  replace cx0 := kn.cell0 cx0
  replace cy0 := kn.cell0 cy0
  replace K := hide ((unhide K).trans kn)
  have z23 := kn.size
  clear kn
  go_wp2_with fail
  obtain ⟨Bct, hBct⟩ : ∃ y, w20.heap.size = y := ⟨_, rfl⟩
  generalize (w20.alloc (.cells #[.slice a5 TL.length c5] 25)) = wn24 at *
  clear hBct
  have mk := natDiv_impl wn24 r1 r5
  have hq : divQ xs TL = YL := by
    rw [(unhide HE).1, ← unhide HY]
    exact sh_div (unhide HO1) (by rw [← (unhide HE).1]; exact (unhide HE).2)
  rw [hq] at mk
  clear hq
  obtain ⟨DB, hDB⟩ : ∃ y, divB xs TL = y := ⟨_, rfl⟩
  obtain ⟨DR, hDR⟩ : ∃ y, divR xs TL = y := ⟨_, rfl⟩
  rw [hDB, hDR] at mk
  clear hDB hDR
  refine (mk).mono ?_
  rintro e w25 ⟨v6, v7, mm, rfl, r6, r7, -, -, k25⟩
  replace r1 := r1.kept k25 (.inr (.inr (Nat.le_refl 0)))
  replace r2 := r2.kept k25 (.inr (.inr (Nat.le_refl 0)))
  replace r3 := r3.kept k25 (.inr (.inr (Nat.le_refl 0)))
  replace r5 := r5.kept k25 (.inr (.inr (Nat.le_refl 0)))
  replace ca0 := k25.cell0 ca0
  replace cx0 := k25.cell0 cx0
  replace cy0 := k25.cell0 cy0
  replace ct0 := k25.cell0 ct0
  replace K := hide ((unhide K).trans k25)
  have z26 := k25.size
  clear k25
  clear mk
  obtain ⟨a6, c6, hv⟩ := Row.form' r6
  subst hv
  obtain ⟨a7, c7, hv⟩ := Row.form' r7
  subst hv
  have kn := (Kept.refl 0 0 w25).alloc (.cells #[.slice a6 YL.length c6] 25)
  have cq0 : (w25.alloc (.cells #[.slice a6 YL.length c6] 25)).cell? ⟨w25.heap.size, 0, none⟩ = some (.slice a6 YL.length c6) := new_cell2 _ _ _ _ _ _ (by simp) rfl
  have sz27 : w25.heap.size + 1 ≤ (w25.alloc (.cells #[.slice a6 YL.length c6] 25)).heap.size := by simp
  replace r1 := r1.kept kn (.inr (.inr (Nat.le_refl 0)))
  replace r2 := r2.kept kn (.inr (.inr (Nat.le_refl 0)))
  replace r3 := r3.kept kn (.inr (.inr (Nat.le_refl 0)))
  replace r5 := r5.kept kn (.inr (.inr (Nat.le_refl 0)))
  replace r6 := r6.kept kn (.inr (.inr (Nat.le_refl 0)))
  replace r7 := r7.kept kn (.inr (.inr (Nat.le_refl 0)))
  replace ca0 := kn.cell0 ca0
  replace cx0 := kn.cell0 cx0
  replace cy0 := kn.cell0 cy0
  replace ct0 := kn.cell0 ct0
  replace K := hide ((unhide K).trans kn)
  have z28 := kn.size
  clear kn
  have kn := (Kept.refl 0 0 (w25.alloc (.cells #[.slice a6 YL.length c6] 25))).alloc (.cells #[.slice a7 DR.length c7] 25)
  have cr0 : ((w25.alloc (.cells #[.slice a6 YL.length c6] 25)).alloc (.cells #[.slice a7 DR.length c7] 25)).cell? ⟨w25.heap.size + 1, 0, none⟩ = some (.slice a7 DR.length c7) := new_cell2 _ _ _ _ _ _ (by simp) rfl
  have sz29 : (w25.alloc (.cells #[.slice a6 YL.length c6] 25)).heap.size + 1 ≤ ((w25.alloc (.cells #[.slice a6 YL.length c6] 25)).alloc (.cells #[.slice a7 DR.length c7] 25)).heap.size := by simp
  replace r1 := r1.kept kn (.inr (.inr (Nat.le_refl 0)))
  replace r2 := r2.kept kn (.inr (.inr (Nat.le_refl 0)))
  replace r3 := r3.kept kn (.inr (.inr (Nat.le_refl 0)))
  replace r5 := r5.kept kn (.inr (.inr (Nat.le_refl 0)))
  replace r6 := r6.kept kn (.inr (.inr (Nat.le_refl 0)))
  replace r7 := r7.kept kn (.inr (.inr (Nat.le_refl 0)))
  replace ca0 := kn.cell0 ca0
  replace cx0 := kn.cell0 cx0
  replace cy0 := kn.cell0 cy0
  replace ct0 := kn.cell0 ct0
  replace cq0 := kn.cell0 cq0
  replace K := hide ((unhide K).trans kn)
  have z30 := kn.size
  clear kn
  go_wp2_with fail
  obtain ⟨Bcq, hBcq⟩ : ∃ y, w25.heap.size = y := ⟨_, rfl⟩
  obtain ⟨Bcr, hBcr⟩ : ∃ y, w25.heap.size + 1 = y := ⟨_, rfl⟩
  generalize ((w25.alloc (.cells #[.slice a6 YL.length c6] 25)).alloc (.cells #[.slice a7 DR.length c7] 25)) = wn31 at *
  clear hBcq
  clear hBcr
  clear r7
  have mo := same_same wn31 r6 r3
  refine (mo).mono ?_
  rintro e w32 ⟨rfl, k32⟩
  replace r1 := r1.kept k32 (.inr (.inr (Nat.le_refl 0)))
  replace r2 := r2.kept k32 (.inr (.inr (Nat.le_refl 0)))
  replace r3 := r3.kept k32 (.inr (.inr (Nat.le_refl 0)))
  replace r5 := r5.kept k32 (.inr (.inr (Nat.le_refl 0)))
  replace r6 := r6.kept k32 (.inr (.inr (Nat.le_refl 0)))
  replace ca0 := k32.cell0 ca0
  replace cx0 := k32.cell0 cx0
  replace cy0 := k32.cell0 cy0
  replace ct0 := k32.cell0 ct0
  replace cq0 := k32.cell0 cq0
  replace cr0 := k32.cell0 cr0
  replace K := hide ((unhide K).trans k32)
  have z33 := k32.size
  clear k32
  clear mo
  go_wp2_with fail
  clear r6 r3
  have mk := natMul_impl w32 r1 r5
  have hm := sh_mul (unhide HO1) g0 g1 (show okB (limbs (2 ^ k.toNat)) = true by rw [← (unhide HE).1]; exact (unhide HE).2)
  rw [← (unhide HE).1, (unhide HX).1, (unhide HX).2] at hm
  rw [hm.1, hm.2] at mk
  clear hm
  refine (mk).mono ?_
  rintro e w34 ⟨v8, rfl, r8, k34⟩
  replace r1 := r1.kept k34 (.inr (.inr (Nat.le_refl 0)))
  replace r2 := r2.kept k34 (.inr (.inr (Nat.le_refl 0)))
  replace r5 := r5.kept k34 (.inr (.inr (Nat.le_refl 0)))
  replace ca0 := k34.cell0 ca0
  replace cx0 := k34.cell0 cx0
  replace cy0 := k34.cell0 cy0
  replace ct0 := k34.cell0 ct0
  replace cq0 := k34.cell0 cq0
  replace cr0 := k34.cell0 cr0
  replace K := hide ((unhide K).trans k34)
  have z35 := k34.size
  clear k34
  clear mk
  obtain ⟨a8, c8, hv⟩ := Row.form' r8
  subst hv
  have SB0 := hide (@sh_back xs k (unhide HO1) g0 XL)
  cases hX : XB
  · subst hX
    have kn := (Kept.refl 0 0 w34).alloc (.cells #[.slice a8 XL.length c8] 25)
    have cp0 : (w34.alloc (.cells #[.slice a8 XL.length c8] 25)).cell? ⟨w34.heap.size, 0, none⟩ = some (.slice a8 XL.length c8) := new_cell2 _ _ _ _ _ _ (by simp) rfl
    have sz36 : w34.heap.size + 1 ≤ (w34.alloc (.cells #[.slice a8 XL.length c8] 25)).heap.size := by simp
    replace r1 := r1.kept kn (.inr (.inr (Nat.le_refl 0)))
    replace r2 := r2.kept kn (.inr (.inr (Nat.le_refl 0)))
    replace r5 := r5.kept kn (.inr (.inr (Nat.le_refl 0)))
    replace r8 := r8.kept kn (.inr (.inr (Nat.le_refl 0)))
    replace ca0 := kn.cell0 ca0
    replace cx0 := kn.cell0 cx0
    replace cy0 := kn.cell0 cy0
    replace ct0 := kn.cell0 ct0
    replace cq0 := kn.cell0 cq0
    replace cr0 := kn.cell0 cr0
    replace K := hide ((unhide K).trans kn)
    have z37 := kn.size
    clear kn
    go_upto_region 13 with fail
    obtain ⟨Bcp, hBcp⟩ : ∃ y, w34.heap.size = y := ⟨_, rfl⟩
    generalize (w34.alloc (.cells #[.slice a8 XL.length c8] 25)) = wn38 at *
    clear hBcp
    have kd := (Kept.refl 0 0 wn38).drew
    replace r1 := r1.kept kd (.inr (.inr (Nat.le_refl 0)))
    replace r2 := r2.kept kd (.inr (.inr (Nat.le_refl 0)))
    replace r5 := r5.kept kd (.inr (.inr (Nat.le_refl 0)))
    replace r8 := r8.kept kd (.inr (.inr (Nat.le_refl 0)))
    replace ca0 := kd.cell0 ca0
    replace cx0 := kd.cell0 cx0
    replace cy0 := kd.cell0 cy0
    replace ct0 := kd.cell0 ct0
    replace cq0 := kd.cell0 cq0
    replace cr0 := kd.cell0 cr0
    replace cp0 := kd.cell0 cp0
    replace K := hide ((unhide K).trans kd)
    have z39 := kd.size
    clear kd
    refine wp_region_held_drew (S := (fun w' => w'.cell? ⟨w1.heap.size, 0, none⟩ = some (.slice a1 xs.length c1) ∧ w'.cell? ⟨w6.heap.size, 0, none⟩ = some (.slice a2 XL.length c2) ∧ w'.cell? ⟨w34.heap.size, 0, none⟩ = some (.slice a8 XL.length c8))) (by kernel_rfl) ?_ (fun hHeld => ?_)
    · exact ⟨ca0, cx0, cp0⟩
    refine wpAnyH_take (i := 0) (oi := _) (v := .bool false) rfl (by kernel_rfl) (by kernel_rfl) (by kernel_rfl) (fun _ _ _ h => h) (Or.inl ⟨by rfl, ?_⟩) hHeld ?_
    · intro wq hSw
      try dsimp only at hSw
      go_simp
    try simp only [Act.put, List.getElem_toArray, List.getElem_cons_succ, List.getElem_cons_zero, List.setIfInBounds_toArray, List.set_cons_zero, List.set_cons_succ]
    refine wpAnyH_take (i := 1) (oi := _) (v := .bool false) rfl (by kernel_rfl) (by kernel_rfl) (by kernel_rfl) (fun _ _ _ h => h) (Or.inl ⟨by rfl, ?_⟩) hHeld ?_
    · intro wq hSw
      try dsimp only at hSw
      go_simp
    try simp only [Act.put, List.getElem_toArray, List.getElem_cons_succ, List.getElem_cons_zero, List.setIfInBounds_toArray, List.set_cons_zero, List.set_cons_succ]
    refine wpAnyH_take (i := 2) (oi := _) (v := .bool false) rfl (by kernel_rfl) (by kernel_rfl) (by kernel_rfl) (fun _ _ _ h => h) (Or.inl ⟨by rfl, ?_⟩) hHeld ?_
    · intro wq hSw
      try dsimp only at hSw
      go_simp
    try simp only [Act.put, List.getElem_toArray, List.getElem_cons_succ, List.getElem_cons_zero, List.setIfInBounds_toArray, List.set_cons_zero, List.set_cons_succ]
    refine wpAnyH_take (i := 3) (oi := _) (v := .bool false) rfl (by kernel_rfl) (by kernel_rfl) (by kernel_rfl) (fun _ _ _ h => h) (Or.inl ⟨by rfl, ?_⟩) hHeld ?_
    · intro wq hSw
      try dsimp only at hSw
      go_simp
    try simp only [Act.put, List.getElem_toArray, List.getElem_cons_succ, List.getElem_cons_zero, List.setIfInBounds_toArray, List.set_cons_zero, List.set_cons_succ]
    refine wpAnyH_take (i := 4) (oi := _) (v := .bool false) rfl (by kernel_rfl) (by kernel_rfl) (by kernel_rfl) (fun _ _ _ h => h) (Or.inl ⟨by rfl, ?_⟩) hHeld ?_
    · intro wq hSw
      try dsimp only at hSw
      go_simp
    try simp only [Act.put, List.getElem_toArray, List.getElem_cons_succ, List.getElem_cons_zero, List.setIfInBounds_toArray, List.set_cons_zero, List.set_cons_succ]
    refine wpAnyH_take (i := 5) (oi := _) (v := .bool false) rfl (by kernel_rfl) (by kernel_rfl) (by kernel_rfl) (fun _ _ _ h => h) (Or.inl ⟨by rfl, ?_⟩) hHeld ?_
    · intro wq hSw
      try dsimp only at hSw
      go_simp
    try simp only [Act.put, List.getElem_toArray, List.getElem_cons_succ, List.getElem_cons_zero, List.setIfInBounds_toArray, List.set_cons_zero, List.set_cons_succ]
    refine wpAnyH_take (i := 6) (v := undef) rfl (by kernel_rfl) (by kernel_rfl) (by kernel_rfl) (fun _ _ _ h => h) (Or.inr ⟨by rfl, rfl⟩) hHeld ?_
    try simp only [Act.put, List.getElem_toArray, List.getElem_cons_succ, List.getElem_cons_zero, List.setIfInBounds_toArray, List.set_cons_zero, List.set_cons_succ]
    refine wpAnyH_take (i := 7) (v := undef) rfl (by kernel_rfl) (by kernel_rfl) (by kernel_rfl) (fun _ _ _ h => h) (Or.inr ⟨by rfl, rfl⟩) hHeld ?_
    try simp only [Act.put, List.getElem_toArray, List.getElem_cons_succ, List.getElem_cons_zero, List.setIfInBounds_toArray, List.set_cons_zero, List.set_cons_succ]
    refine wpAnyH_take (i := 8) (v := undef) rfl (by kernel_rfl) (by kernel_rfl) (by kernel_rfl) (fun _ _ _ h => h) (Or.inr ⟨by rfl, rfl⟩) hHeld ?_
    try simp only [Act.put, List.getElem_toArray, List.getElem_cons_succ, List.getElem_cons_zero, List.setIfInBounds_toArray, List.set_cons_zero, List.set_cons_succ]
    refine wpAnyH_take (i := 9) (v := undef) rfl (by kernel_rfl) (by kernel_rfl) (by kernel_rfl) (fun _ _ _ h => h) (Or.inr ⟨by rfl, rfl⟩) hHeld ?_
    try simp only [Act.put, List.getElem_toArray, List.getElem_cons_succ, List.getElem_cons_zero, List.setIfInBounds_toArray, List.set_cons_zero, List.set_cons_succ]
    refine wpAnyH_take (i := 10) (v := undef) rfl (by kernel_rfl) (by kernel_rfl) (by kernel_rfl) (fun _ _ _ h => h) (Or.inr ⟨by rfl, rfl⟩) hHeld ?_
    try simp only [Act.put, List.getElem_toArray, List.getElem_cons_succ, List.getElem_cons_zero, List.setIfInBounds_toArray, List.set_cons_zero, List.set_cons_succ]
    refine wpAnyH_take (i := 11) (v := undef) rfl (by kernel_rfl) (by kernel_rfl) (by kernel_rfl) (fun _ _ _ h => h) (Or.inr ⟨by rfl, rfl⟩) hHeld ?_
    try simp only [Act.put, List.getElem_toArray, List.getElem_cons_succ, List.getElem_cons_zero, List.setIfInBounds_toArray, List.set_cons_zero, List.set_cons_succ]
    refine wpAnyH_take (i := 12) (v := undef) rfl (by kernel_rfl) (by kernel_rfl) (by kernel_rfl) (fun _ _ _ h => h) (Or.inr ⟨by rfl, rfl⟩) hHeld ?_
    try simp only [Act.put, List.getElem_toArray, List.getElem_cons_succ, List.getElem_cons_zero, List.setIfInBounds_toArray, List.set_cons_zero, List.set_cons_succ]
    refine wpAnyH_take (i := 13) (v := undef) rfl (by kernel_rfl) (by kernel_rfl) (by kernel_rfl) (fun _ _ _ h => h) (Or.inr ⟨by rfl, rfl⟩) hHeld ?_
    try simp only [Act.put, List.getElem_toArray, List.getElem_cons_succ, List.getElem_cons_zero, List.setIfInBounds_toArray, List.set_cons_zero, List.set_cons_succ]
    refine wpAnyH_take (i := 14) (v := undef) rfl (by kernel_rfl) (by kernel_rfl) (by kernel_rfl) (fun _ _ _ h => h) (Or.inr ⟨by rfl, rfl⟩) hHeld ?_
    try simp only [Act.put, List.getElem_toArray, List.getElem_cons_succ, List.getElem_cons_zero, List.setIfInBounds_toArray, List.set_cons_zero, List.set_cons_succ]
    refine wpAnyH_take (i := 15) (v := undef) rfl (by kernel_rfl) (by kernel_rfl) (by kernel_rfl) (fun _ _ _ h => h) (Or.inr ⟨by rfl, rfl⟩) hHeld ?_
    try simp only [Act.put, List.getElem_toArray, List.getElem_cons_succ, List.getElem_cons_zero, List.setIfInBounds_toArray, List.set_cons_zero, List.set_cons_succ]
    refine wpAnyH_take (i := 16) (v := undef) rfl (by kernel_rfl) (by kernel_rfl) (by kernel_rfl) (fun _ _ _ h => h) (Or.inr ⟨by rfl, rfl⟩) hHeld ?_
    try simp only [Act.put, List.getElem_toArray, List.getElem_cons_succ, List.getElem_cons_zero, List.setIfInBounds_toArray, List.set_cons_zero, List.set_cons_succ]
    refine wpAnyH_take (i := 17) (v := undef) rfl (by kernel_rfl) (by kernel_rfl) (by kernel_rfl) (fun _ _ _ h => h) (Or.inr ⟨by rfl, rfl⟩) hHeld ?_
    try simp only [Act.put, List.getElem_toArray, List.getElem_cons_succ, List.getElem_cons_zero, List.setIfInBounds_toArray, List.set_cons_zero, List.set_cons_succ]
    refine wpAnyH_take (i := 18) (oi := _) (v := .bool false) rfl (by kernel_rfl) (by kernel_rfl) (by kernel_rfl) (fun _ _ _ h => h) (Or.inl ⟨by rfl, ?_⟩) hHeld ?_
    · intro wq hSw
      try dsimp only at hSw
      go_simp
    try simp only [Act.put, List.getElem_toArray, List.getElem_cons_succ, List.getElem_cons_zero, List.setIfInBounds_toArray, List.set_cons_zero, List.set_cons_succ]
    refine wpAnyH_take (i := 19) (oi := _) (v := .bool false) rfl (by kernel_rfl) (by kernel_rfl) (by kernel_rfl) (fun _ _ _ h => h) (Or.inl ⟨by rfl, ?_⟩) hHeld ?_
    · intro wq hSw
      try dsimp only at hSw
      go_simp
    try simp only [Act.put, List.getElem_toArray, List.getElem_cons_succ, List.getElem_cons_zero, List.setIfInBounds_toArray, List.set_cons_zero, List.set_cons_succ]
    refine wpAnyH_done (by kernel_rfl) ?_ _
    clear hHeld
    go_upto_region 15 with fail
    have kd := (Kept.refl 0 0 wn38.drew).drew
    replace r1 := r1.kept kd (.inr (.inr (Nat.le_refl 0)))
    replace r2 := r2.kept kd (.inr (.inr (Nat.le_refl 0)))
    replace r5 := r5.kept kd (.inr (.inr (Nat.le_refl 0)))
    replace r8 := r8.kept kd (.inr (.inr (Nat.le_refl 0)))
    replace ca0 := kd.cell0 ca0
    replace cx0 := kd.cell0 cx0
    replace cy0 := kd.cell0 cy0
    replace ct0 := kd.cell0 ct0
    replace cq0 := kd.cell0 cq0
    replace cr0 := kd.cell0 cr0
    replace cp0 := kd.cell0 cp0
    replace K := hide ((unhide K).trans kd)
    have z40 := kd.size
    clear kd
    refine wp_region_held_drew (S := (fun w' => w'.cell? ⟨w1.heap.size, 0, none⟩ = some (.slice a1 xs.length c1) ∧ w'.cell? ⟨w6.heap.size, 0, none⟩ = some (.slice a2 XL.length c2) ∧ w'.cell? ⟨w34.heap.size, 0, none⟩ = some (.slice a8 XL.length c8))) (by kernel_rfl) ?_ (fun hHeld => ?_)
    · exact ⟨ca0, cx0, cp0⟩
    refine wpAnyH_take (i := 0) (oi := _) (v := .bool false) rfl (by kernel_rfl) (by kernel_rfl) (by kernel_rfl) (fun _ _ _ h => h) (Or.inl ⟨by rfl, ?_⟩) hHeld ?_
    · intro wq hSw
      try dsimp only at hSw
      go_simp
    try simp only [Act.put, List.getElem_toArray, List.getElem_cons_succ, List.getElem_cons_zero, List.setIfInBounds_toArray, List.set_cons_zero, List.set_cons_succ]
    refine wpAnyH_take (i := 1) (oi := _) (v := .bool true) rfl (by kernel_rfl) (by kernel_rfl) (by kernel_rfl) (fun _ _ _ h => h) (Or.inl ⟨by rfl, ?_⟩) hHeld ?_
    · intro wq hSw
      try dsimp only at hSw
      go_simp
    try simp only [Act.put, List.getElem_toArray, List.getElem_cons_succ, List.getElem_cons_zero, List.setIfInBounds_toArray, List.set_cons_zero, List.set_cons_succ]
    refine wpAnyH_take (i := 2) (oi := _) (v := .bool true) rfl (by kernel_rfl) (by kernel_rfl) (by kernel_rfl) (fun _ _ _ h => h) (Or.inl ⟨by rfl, ?_⟩) hHeld ?_
    · intro wq hSw
      try dsimp only at hSw
      go_simp
    try simp only [Act.put, List.getElem_toArray, List.getElem_cons_succ, List.getElem_cons_zero, List.setIfInBounds_toArray, List.set_cons_zero, List.set_cons_succ]
    refine wpAnyH_take (i := 3) (v := undef) rfl (by kernel_rfl) (by kernel_rfl) (by kernel_rfl) (fun _ _ _ h => h) (Or.inr ⟨by rfl, rfl⟩) hHeld ?_
    try simp only [Act.put, List.getElem_toArray, List.getElem_cons_succ, List.getElem_cons_zero, List.setIfInBounds_toArray, List.set_cons_zero, List.set_cons_succ]
    refine wpAnyH_take (i := 4) (v := undef) rfl (by kernel_rfl) (by kernel_rfl) (by kernel_rfl) (fun _ _ _ h => h) (Or.inr ⟨by rfl, rfl⟩) hHeld ?_
    try simp only [Act.put, List.getElem_toArray, List.getElem_cons_succ, List.getElem_cons_zero, List.setIfInBounds_toArray, List.set_cons_zero, List.set_cons_succ]
    refine wpAnyH_take (i := 5) (v := undef) rfl (by kernel_rfl) (by kernel_rfl) (by kernel_rfl) (fun _ _ _ h => h) (Or.inr ⟨by rfl, rfl⟩) hHeld ?_
    try simp only [Act.put, List.getElem_toArray, List.getElem_cons_succ, List.getElem_cons_zero, List.setIfInBounds_toArray, List.set_cons_zero, List.set_cons_succ]
    refine wpAnyH_take (i := 6) (v := undef) rfl (by kernel_rfl) (by kernel_rfl) (by kernel_rfl) (fun _ _ _ h => h) (Or.inr ⟨by rfl, rfl⟩) hHeld ?_
    try simp only [Act.put, List.getElem_toArray, List.getElem_cons_succ, List.getElem_cons_zero, List.setIfInBounds_toArray, List.set_cons_zero, List.set_cons_succ]
    refine wpAnyH_take (i := 7) (oi := _) (v := .bool true) rfl (by kernel_rfl) (by kernel_rfl) (by kernel_rfl) (fun _ _ _ h => h) (Or.inl ⟨by rfl, ?_⟩) hHeld ?_
    · intro wq hSw
      try dsimp only at hSw
      go_simp
    try simp only [Act.put, List.getElem_toArray, List.getElem_cons_succ, List.getElem_cons_zero, List.setIfInBounds_toArray, List.set_cons_zero, List.set_cons_succ]
    refine wpAnyH_take (i := 8) (oi := _) (v := .bool true) rfl (by kernel_rfl) (by kernel_rfl) (by kernel_rfl) (fun _ _ _ h => h) (Or.inl ⟨by rfl, ?_⟩) hHeld ?_
    · intro wq hSw
      try dsimp only at hSw
      go_simp
    try simp only [Act.put, List.getElem_toArray, List.getElem_cons_succ, List.getElem_cons_zero, List.setIfInBounds_toArray, List.set_cons_zero, List.set_cons_succ]
    refine wpAnyH_take (i := 9) (v := undef) rfl (by kernel_rfl) (by kernel_rfl) (by kernel_rfl) (fun _ _ _ h => h) (Or.inr ⟨by rfl, rfl⟩) hHeld ?_
    try simp only [Act.put, List.getElem_toArray, List.getElem_cons_succ, List.getElem_cons_zero, List.setIfInBounds_toArray, List.set_cons_zero, List.set_cons_succ]
    refine wpAnyH_take (i := 10) (v := undef) rfl (by kernel_rfl) (by kernel_rfl) (by kernel_rfl) (fun _ _ _ h => h) (Or.inr ⟨by rfl, rfl⟩) hHeld ?_
    try simp only [Act.put, List.getElem_toArray, List.getElem_cons_succ, List.getElem_cons_zero, List.setIfInBounds_toArray, List.set_cons_zero, List.set_cons_succ]
    refine wpAnyH_take (i := 11) (v := undef) rfl (by kernel_rfl) (by kernel_rfl) (by kernel_rfl) (fun _ _ _ h => h) (Or.inr ⟨by rfl, rfl⟩) hHeld ?_
    try simp only [Act.put, List.getElem_toArray, List.getElem_cons_succ, List.getElem_cons_zero, List.setIfInBounds_toArray, List.set_cons_zero, List.set_cons_succ]
    refine wpAnyH_take (i := 12) (v := undef) rfl (by kernel_rfl) (by kernel_rfl) (by kernel_rfl) (fun _ _ _ h => h) (Or.inr ⟨by rfl, rfl⟩) hHeld ?_
    try simp only [Act.put, List.getElem_toArray, List.getElem_cons_succ, List.getElem_cons_zero, List.setIfInBounds_toArray, List.set_cons_zero, List.set_cons_succ]
    refine wpAnyH_take (i := 13) (v := undef) rfl (by kernel_rfl) (by kernel_rfl) (by kernel_rfl) (fun _ _ _ h => h) (Or.inr ⟨by rfl, rfl⟩) hHeld ?_
    try simp only [Act.put, List.getElem_toArray, List.getElem_cons_succ, List.getElem_cons_zero, List.setIfInBounds_toArray, List.set_cons_zero, List.set_cons_succ]
    refine wpAnyH_take (i := 14) (v := undef) rfl (by kernel_rfl) (by kernel_rfl) (by kernel_rfl) (fun _ _ _ h => h) (Or.inr ⟨by rfl, rfl⟩) hHeld ?_
    try simp only [Act.put, List.getElem_toArray, List.getElem_cons_succ, List.getElem_cons_zero, List.setIfInBounds_toArray, List.set_cons_zero, List.set_cons_succ]
    refine wpAnyH_take (i := 15) (v := undef) rfl (by kernel_rfl) (by kernel_rfl) (by kernel_rfl) (fun _ _ _ h => h) (Or.inr ⟨by rfl, rfl⟩) hHeld ?_
    try simp only [Act.put, List.getElem_toArray, List.getElem_cons_succ, List.getElem_cons_zero, List.setIfInBounds_toArray, List.set_cons_zero, List.set_cons_succ]
    refine wpAnyH_take (i := 16) (v := undef) rfl (by kernel_rfl) (by kernel_rfl) (by kernel_rfl) (fun _ _ _ h => h) (Or.inr ⟨by rfl, rfl⟩) hHeld ?_
    try simp only [Act.put, List.getElem_toArray, List.getElem_cons_succ, List.getElem_cons_zero, List.setIfInBounds_toArray, List.set_cons_zero, List.set_cons_succ]
    refine wpAnyH_take (i := 17) (v := undef) rfl (by kernel_rfl) (by kernel_rfl) (by kernel_rfl) (fun _ _ _ h => h) (Or.inr ⟨by rfl, rfl⟩) hHeld ?_
    try simp only [Act.put, List.getElem_toArray, List.getElem_cons_succ, List.getElem_cons_zero, List.setIfInBounds_toArray, List.set_cons_zero, List.set_cons_succ]
    refine wpAnyH_take (i := 18) (v := undef) rfl (by kernel_rfl) (by kernel_rfl) (by kernel_rfl) (fun _ _ _ h => h) (Or.inr ⟨by rfl, rfl⟩) hHeld ?_
    try simp only [Act.put, List.getElem_toArray, List.getElem_cons_succ, List.getElem_cons_zero, List.setIfInBounds_toArray, List.set_cons_zero, List.set_cons_succ]
    refine wpAnyH_take (i := 19) (v := undef) rfl (by kernel_rfl) (by kernel_rfl) (by kernel_rfl) (fun _ _ _ h => h) (Or.inr ⟨by rfl, rfl⟩) hHeld ?_
    try simp only [Act.put, List.getElem_toArray, List.getElem_cons_succ, List.getElem_cons_zero, List.setIfInBounds_toArray, List.set_cons_zero, List.set_cons_succ]
    refine wpAnyH_take (i := 20) (v := undef) rfl (by kernel_rfl) (by kernel_rfl) (by kernel_rfl) (fun _ _ _ h => h) (Or.inr ⟨by rfl, rfl⟩) hHeld ?_
    try simp only [Act.put, List.getElem_toArray, List.getElem_cons_succ, List.getElem_cons_zero, List.setIfInBounds_toArray, List.set_cons_zero, List.set_cons_succ]
    refine wpAnyH_take (i := 21) (v := undef) rfl (by kernel_rfl) (by kernel_rfl) (by kernel_rfl) (fun _ _ _ h => h) (Or.inr ⟨by rfl, rfl⟩) hHeld ?_
    try simp only [Act.put, List.getElem_toArray, List.getElem_cons_succ, List.getElem_cons_zero, List.setIfInBounds_toArray, List.set_cons_zero, List.set_cons_succ]
    refine wpAnyH_take (i := 22) (v := undef) rfl (by kernel_rfl) (by kernel_rfl) (by kernel_rfl) (fun _ _ _ h => h) (Or.inr ⟨by rfl, rfl⟩) hHeld ?_
    try simp only [Act.put, List.getElem_toArray, List.getElem_cons_succ, List.getElem_cons_zero, List.setIfInBounds_toArray, List.set_cons_zero, List.set_cons_succ]
    refine wpAnyH_take (i := 23) (v := undef) rfl (by kernel_rfl) (by kernel_rfl) (by kernel_rfl) (fun _ _ _ h => h) (Or.inr ⟨by rfl, rfl⟩) hHeld ?_
    try simp only [Act.put, List.getElem_toArray, List.getElem_cons_succ, List.getElem_cons_zero, List.setIfInBounds_toArray, List.set_cons_zero, List.set_cons_succ]
    refine wpAnyH_take (i := 24) (v := undef) rfl (by kernel_rfl) (by kernel_rfl) (by kernel_rfl) (fun _ _ _ h => h) (Or.inr ⟨by rfl, rfl⟩) hHeld ?_
    try simp only [Act.put, List.getElem_toArray, List.getElem_cons_succ, List.getElem_cons_zero, List.setIfInBounds_toArray, List.set_cons_zero, List.set_cons_succ]
    refine wpAnyH_take (i := 25) (v := undef) rfl (by kernel_rfl) (by kernel_rfl) (by kernel_rfl) (fun _ _ _ h => h) (Or.inr ⟨by rfl, rfl⟩) hHeld ?_
    try simp only [Act.put, List.getElem_toArray, List.getElem_cons_succ, List.getElem_cons_zero, List.setIfInBounds_toArray, List.set_cons_zero, List.set_cons_succ]
    refine wpAnyH_take (i := 26) (v := undef) rfl (by kernel_rfl) (by kernel_rfl) (by kernel_rfl) (fun _ _ _ h => h) (Or.inr ⟨by rfl, rfl⟩) hHeld ?_
    try simp only [Act.put, List.getElem_toArray, List.getElem_cons_succ, List.getElem_cons_zero, List.setIfInBounds_toArray, List.set_cons_zero, List.set_cons_succ]
    refine wpAnyH_take (i := 27) (v := undef) rfl (by kernel_rfl) (by kernel_rfl) (by kernel_rfl) (fun _ _ _ h => h) (Or.inr ⟨by rfl, rfl⟩) hHeld ?_
    try simp only [Act.put, List.getElem_toArray, List.getElem_cons_succ, List.getElem_cons_zero, List.setIfInBounds_toArray, List.set_cons_zero, List.set_cons_succ]
    refine wpAnyH_take (i := 28) (v := undef) rfl (by kernel_rfl) (by kernel_rfl) (by kernel_rfl) (fun _ _ _ h => h) (Or.inr ⟨by rfl, rfl⟩) hHeld ?_
    try simp only [Act.put, List.getElem_toArray, List.getElem_cons_succ, List.getElem_cons_zero, List.setIfInBounds_toArray, List.set_cons_zero, List.set_cons_succ]
    refine wpAnyH_take (i := 29) (v := undef) rfl (by kernel_rfl) (by kernel_rfl) (by kernel_rfl) (fun _ _ _ h => h) (Or.inr ⟨by rfl, rfl⟩) hHeld ?_
    try simp only [Act.put, List.getElem_toArray, List.getElem_cons_succ, List.getElem_cons_zero, List.setIfInBounds_toArray, List.set_cons_zero, List.set_cons_succ]
    refine wpAnyH_take (i := 30) (v := undef) rfl (by kernel_rfl) (by kernel_rfl) (by kernel_rfl) (fun _ _ _ h => h) (Or.inr ⟨by rfl, rfl⟩) hHeld ?_
    try simp only [Act.put, List.getElem_toArray, List.getElem_cons_succ, List.getElem_cons_zero, List.setIfInBounds_toArray, List.set_cons_zero, List.set_cons_succ]
    refine wpAnyH_take (i := 31) (v := undef) rfl (by kernel_rfl) (by kernel_rfl) (by kernel_rfl) (fun _ _ _ h => h) (Or.inr ⟨by rfl, rfl⟩) hHeld ?_
    try simp only [Act.put, List.getElem_toArray, List.getElem_cons_succ, List.getElem_cons_zero, List.setIfInBounds_toArray, List.set_cons_zero, List.set_cons_succ]
    refine wpAnyH_take (i := 32) (v := undef) rfl (by kernel_rfl) (by kernel_rfl) (by kernel_rfl) (fun _ _ _ h => h) (Or.inr ⟨by rfl, rfl⟩) hHeld ?_
    try simp only [Act.put, List.getElem_toArray, List.getElem_cons_succ, List.getElem_cons_zero, List.setIfInBounds_toArray, List.set_cons_zero, List.set_cons_succ]
    refine wpAnyH_take (i := 33) (oi := _) (v := .bool true) rfl (by kernel_rfl) (by kernel_rfl) (by kernel_rfl) (fun _ _ _ h => h) (Or.inl ⟨by rfl, ?_⟩) hHeld ?_
    · intro wq hSw
      try dsimp only at hSw
      go_simp
    try simp only [Act.put, List.getElem_toArray, List.getElem_cons_succ, List.getElem_cons_zero, List.setIfInBounds_toArray, List.set_cons_zero, List.set_cons_succ]
    refine wpAnyH_take (i := 34) (oi := _) (v := .bool true) rfl (by kernel_rfl) (by kernel_rfl) (by kernel_rfl) (fun _ _ _ h => h) (Or.inl ⟨by rfl, ?_⟩) hHeld ?_
    · intro wq hSw
      try dsimp only at hSw
      go_simp
    try simp only [Act.put, List.getElem_toArray, List.getElem_cons_succ, List.getElem_cons_zero, List.setIfInBounds_toArray, List.set_cons_zero, List.set_cons_succ]
    refine wpAnyH_done (by kernel_rfl) ?_ _
    clear hHeld
    try go_wp2_with fail
    go_ret
    exact ⟨rfl, (unhide K).toBelow⟩
  subst hX
  obtain ⟨ox, ev, bk⟩ := unhide SB0 (unhide HX).1 (unhide HX).2
  have HV := hide (And.intro ox ev)
  clear ev
  have SHR := hide (show ∀ (w : World) {bw : Bool} {l h : Nat} {v : Value} (r : Row .i64 bw l h w v XL), Calls Tryd.prog 9 #[.agg #[v], .int .i64 k] w fun e w' => ∃ v', e = .returned (.agg #[v']) ∧ Row .i64 true w.heap.size w'.heap.size w' v' xs ∧ Kept 0 0 w w' from by
    intro w bw l h v r
    have mk := natShr_impl w r k (by omega) (by omega)
    rw [bk] at mk
    exact mk)
  clear bk ox
  have kn := (Kept.refl 0 0 w34).alloc (.cells #[.slice a8 XL.length c8] 25)
  have cp0 : (w34.alloc (.cells #[.slice a8 XL.length c8] 25)).cell? ⟨w34.heap.size, 0, none⟩ = some (.slice a8 XL.length c8) := new_cell2 _ _ _ _ _ _ (by simp) rfl
  have sz36 : w34.heap.size + 1 ≤ (w34.alloc (.cells #[.slice a8 XL.length c8] 25)).heap.size := by simp
  replace r1 := r1.kept kn (.inr (.inr (Nat.le_refl 0)))
  replace r2 := r2.kept kn (.inr (.inr (Nat.le_refl 0)))
  replace r5 := r5.kept kn (.inr (.inr (Nat.le_refl 0)))
  replace r8 := r8.kept kn (.inr (.inr (Nat.le_refl 0)))
  replace ca0 := kn.cell0 ca0
  replace cx0 := kn.cell0 cx0
  replace cy0 := kn.cell0 cy0
  replace ct0 := kn.cell0 ct0
  replace cq0 := kn.cell0 cq0
  replace cr0 := kn.cell0 cr0
  replace K := hide ((unhide K).trans kn)
  have z37 := kn.size
  clear kn
  go_upto_region 13 with fail
  obtain ⟨Bcp, hBcp⟩ : ∃ y, w34.heap.size = y := ⟨_, rfl⟩
  generalize (w34.alloc (.cells #[.slice a8 XL.length c8] 25)) = wn38 at *
  clear hBcp
  have kd := (Kept.refl 0 0 wn38).drew
  replace r1 := r1.kept kd (.inr (.inr (Nat.le_refl 0)))
  replace r2 := r2.kept kd (.inr (.inr (Nat.le_refl 0)))
  replace r5 := r5.kept kd (.inr (.inr (Nat.le_refl 0)))
  replace r8 := r8.kept kd (.inr (.inr (Nat.le_refl 0)))
  replace ca0 := kd.cell0 ca0
  replace cx0 := kd.cell0 cx0
  replace cy0 := kd.cell0 cy0
  replace ct0 := kd.cell0 ct0
  replace cq0 := kd.cell0 cq0
  replace cr0 := kd.cell0 cr0
  replace cp0 := kd.cell0 cp0
  replace K := hide ((unhide K).trans kd)
  have z39 := kd.size
  clear kd
  refine wp_region_held_drew (S := (fun w' => w'.cell? ⟨w1.heap.size, 0, none⟩ = some (.slice a1 xs.length c1) ∧ w'.cell? ⟨w6.heap.size, 0, none⟩ = some (.slice a2 XL.length c2) ∧ w'.cell? ⟨w34.heap.size, 0, none⟩ = some (.slice a8 XL.length c8))) (by kernel_rfl) ?_ (fun hHeld => ?_)
  · exact ⟨ca0, cx0, cp0⟩
  refine wpAnyH_take (i := 0) (oi := _) (v := .bool true) rfl (by kernel_rfl) (by kernel_rfl) (by kernel_rfl) (fun _ _ _ h => h) (Or.inl ⟨by rfl, ?_⟩) hHeld ?_
  · intro wq hSw
    try dsimp only at hSw
    go_simp
  try simp only [Act.put, List.getElem_toArray, List.getElem_cons_succ, List.getElem_cons_zero, List.setIfInBounds_toArray, List.set_cons_zero, List.set_cons_succ]
  refine wpAnyH_take (i := 1) (oi := _) (v := .bool true) rfl (by kernel_rfl) (by kernel_rfl) (by kernel_rfl) (fun _ _ _ h => h) (Or.inl ⟨by rfl, ?_⟩) hHeld ?_
  · intro wq hSw
    try dsimp only at hSw
    go_simp
  try simp only [Act.put, List.getElem_toArray, List.getElem_cons_succ, List.getElem_cons_zero, List.setIfInBounds_toArray, List.set_cons_zero, List.set_cons_succ]
  refine wpAnyH_take (i := 2) (oi := _) (v := .bool false) rfl (by kernel_rfl) (by kernel_rfl) (by kernel_rfl) (fun _ _ _ h => h) (Or.inl ⟨by rfl, ?_⟩) hHeld ?_
  · intro wq hSw
    try dsimp only at hSw
    go_simp
  try simp only [Act.put, List.getElem_toArray, List.getElem_cons_succ, List.getElem_cons_zero, List.setIfInBounds_toArray, List.set_cons_zero, List.set_cons_succ]
  refine wpAnyH_take (i := 3) (oi := _) (v := .bool false) rfl (by kernel_rfl) (by kernel_rfl) (by kernel_rfl) (fun _ _ _ h => h) (Or.inl ⟨by rfl, ?_⟩) hHeld ?_
  · intro wq hSw
    try dsimp only at hSw
    go_simp
  try simp only [Act.put, List.getElem_toArray, List.getElem_cons_succ, List.getElem_cons_zero, List.setIfInBounds_toArray, List.set_cons_zero, List.set_cons_succ]
  refine wpAnyH_take (i := 4) (oi := _) (v := .bool true) rfl (by kernel_rfl) (by kernel_rfl) (by kernel_rfl) (fun _ _ _ h => h) (Or.inl ⟨by rfl, ?_⟩) hHeld ?_
  · intro wq hSw
    try dsimp only at hSw
    go_simp
  try simp only [Act.put, List.getElem_toArray, List.getElem_cons_succ, List.getElem_cons_zero, List.setIfInBounds_toArray, List.set_cons_zero, List.set_cons_succ]
  refine wpAnyH_take (i := 5) (oi := _) (v := .bool true) rfl (by kernel_rfl) (by kernel_rfl) (by kernel_rfl) (fun _ _ _ h => h) (Or.inl ⟨by rfl, ?_⟩) hHeld ?_
  · intro wq hSw
    try dsimp only at hSw
    go_simp
  try simp only [Act.put, List.getElem_toArray, List.getElem_cons_succ, List.getElem_cons_zero, List.setIfInBounds_toArray, List.set_cons_zero, List.set_cons_succ]
  refine wpAnyH_take (i := 6) (oi := _) (v := .agg #[.slice a8 XL.length c8]) rfl (by kernel_rfl) (by kernel_rfl) (by kernel_rfl) (fun _ _ _ h => h) (Or.inl ⟨by rfl, ?_⟩) hHeld ?_
  · intro wq hSw
    try dsimp only at hSw
    go_simp
  try simp only [Act.put, List.getElem_toArray, List.getElem_cons_succ, List.getElem_cons_zero, List.setIfInBounds_toArray, List.set_cons_zero, List.set_cons_succ]
  refine wpAnyH_take (i := 7) (oi := _) (v := .agg #[.slice a2 XL.length c2]) rfl (by kernel_rfl) (by kernel_rfl) (by kernel_rfl) (fun _ _ _ h => h) (Or.inl ⟨by rfl, ?_⟩) hHeld ?_
  · intro wq hSw
    try dsimp only at hSw
    go_simp
  try simp only [Act.put, List.getElem_toArray, List.getElem_cons_succ, List.getElem_cons_zero, List.setIfInBounds_toArray, List.set_cons_zero, List.set_cons_succ]
  refine wpAnyH_ready (rs := [8]) (by kernel_rfl) (by simp) ?_
  refine AllReadyH.cons rfl (fun KK hK => ?_) AllReadyH.nil
  simp only [List.getElem_toArray, List.getElem_cons_succ, List.getElem_cons_zero]
  rw [if_pos (by rfl)]
  refine wps2 12 (.tmp 86) (.tmp 87) _ rfl in_sameNat_c (.agg #[.slice a8 XL.length c8]) (.agg #[.slice a2 XL.length c2]) rfl rfl (same_same _ r8 r2) ?_
  rintro e w40 ⟨rfl, k40⟩
  refine ⟨_, rfl, ?_⟩
  replace r1 := r1.kept k40 (.inr (.inr (Nat.le_refl 0)))
  replace r2 := r2.kept k40 (.inr (.inr (Nat.le_refl 0)))
  replace r5 := r5.kept k40 (.inr (.inr (Nat.le_refl 0)))
  replace r8 := r8.kept k40 (.inr (.inr (Nat.le_refl 0)))
  replace ca0 := k40.cell0 ca0
  replace cx0 := k40.cell0 cx0
  replace cy0 := k40.cell0 cy0
  replace ct0 := k40.cell0 ct0
  replace cq0 := k40.cell0 cq0
  replace cr0 := k40.cell0 cr0
  replace cp0 := k40.cell0 cp0
  replace K := hide ((unhide K).trans k40)
  have z41 := k40.size
  clear k40
  clear hHeld
  refine hK.out _ _ ?_ (fun hHeld => ?_)
  · exact ⟨ca0, cx0, cp0⟩
  clear hK KK
  try simp only [Act.put, List.getElem_toArray, List.getElem_cons_succ, List.getElem_cons_zero, List.setIfInBounds_toArray, List.set_cons_zero, List.set_cons_succ]
  refine wpAnyH_take (i := 9) (oi := _) (v := .bool false) rfl (by kernel_rfl) (by kernel_rfl) (by kernel_rfl) (fun _ _ _ h => h) (Or.inl ⟨by rfl, ?_⟩) hHeld ?_
  · intro wq hSw
    try dsimp only at hSw
    go_simp
  try simp only [Act.put, List.getElem_toArray, List.getElem_cons_succ, List.getElem_cons_zero, List.setIfInBounds_toArray, List.set_cons_zero, List.set_cons_succ]
  refine wpAnyH_take (i := 10) (oi := _) (v := .bool false) rfl (by kernel_rfl) (by kernel_rfl) (by kernel_rfl) (fun _ _ _ h => h) (Or.inl ⟨by rfl, ?_⟩) hHeld ?_
  · intro wq hSw
    try dsimp only at hSw
    go_simp
  try simp only [Act.put, List.getElem_toArray, List.getElem_cons_succ, List.getElem_cons_zero, List.setIfInBounds_toArray, List.set_cons_zero, List.set_cons_succ]
  refine wpAnyH_take (i := 11) (oi := _) (v := .agg #[.slice a2 XL.length c2]) rfl (by kernel_rfl) (by kernel_rfl) (by kernel_rfl) (fun _ _ _ h => h) (Or.inl ⟨by rfl, ?_⟩) hHeld ?_
  · intro wq hSw
    try dsimp only at hSw
    go_simp
  try simp only [Act.put, List.getElem_toArray, List.getElem_cons_succ, List.getElem_cons_zero, List.setIfInBounds_toArray, List.set_cons_zero, List.set_cons_succ]
  refine wpAnyH_take (i := 12) (oi := _) (v := .int .i64 k) rfl (by kernel_rfl) (by kernel_rfl) (by kernel_rfl) (fun _ _ _ h => h) (Or.inl ⟨by rfl, ?_⟩) hHeld ?_
  · intro wq hSw
    try dsimp only at hSw
    go_simp
  try simp only [Act.put, List.getElem_toArray, List.getElem_cons_succ, List.getElem_cons_zero, List.setIfInBounds_toArray, List.set_cons_zero, List.set_cons_succ]
  refine wpAnyH_take (i := 14) (oi := _) (v := .agg #[.slice a1 xs.length c1]) rfl (by kernel_rfl) (by kernel_rfl) (by kernel_rfl) (fun _ _ _ h => h) (Or.inl ⟨by rfl, ?_⟩) hHeld ?_
  · intro wq hSw
    try dsimp only at hSw
    go_simp
  try simp only [Act.put, List.getElem_toArray, List.getElem_cons_succ, List.getElem_cons_zero, List.setIfInBounds_toArray, List.set_cons_zero, List.set_cons_succ]
  refine wpAnyH_ready (rs := [13]) (by kernel_rfl) (by simp) ?_
  refine AllReadyH.cons rfl (fun KK hK => ?_) AllReadyH.nil
  simp only [List.getElem_toArray, List.getElem_cons_succ, List.getElem_cons_zero]
  rw [if_pos (by rfl)]
  refine wps2 9 (.tmp 91) (.tmp 92) _ rfl in_NatShr_c (.agg #[.slice a2 XL.length c2]) (.int .i64 k) rfl rfl (unhide SHR _ r2) ?_
  rintro e w42 ⟨v9, rfl, r9, k42⟩
  refine ⟨_, rfl, ?_⟩
  replace r1 := r1.kept k42 (.inr (.inr (Nat.le_refl 0)))
  replace r2 := r2.kept k42 (.inr (.inr (Nat.le_refl 0)))
  replace r5 := r5.kept k42 (.inr (.inr (Nat.le_refl 0)))
  replace r8 := r8.kept k42 (.inr (.inr (Nat.le_refl 0)))
  replace ca0 := k42.cell0 ca0
  replace cx0 := k42.cell0 cx0
  replace cy0 := k42.cell0 cy0
  replace ct0 := k42.cell0 ct0
  replace cq0 := k42.cell0 cq0
  replace cr0 := k42.cell0 cr0
  replace cp0 := k42.cell0 cp0
  replace K := hide ((unhide K).trans k42)
  have z43 := k42.size
  clear k42
  clear hHeld
  refine hK.out _ _ ?_ (fun hHeld => ?_)
  · exact ⟨ca0, cx0, cp0⟩
  clear hK KK
  try simp only [Act.put, List.getElem_toArray, List.getElem_cons_succ, List.getElem_cons_zero, List.setIfInBounds_toArray, List.set_cons_zero, List.set_cons_succ]
  obtain ⟨a9, c9, hv⟩ := Row.form' r9
  subst hv
  refine wpAnyH_ready (rs := [15]) (by kernel_rfl) (by simp) ?_
  refine AllReadyH.cons rfl (fun KK hK => ?_) AllReadyH.nil
  simp only [List.getElem_toArray, List.getElem_cons_succ, List.getElem_cons_zero]
  rw [if_pos (by rfl)]
  refine wps2 12 (.tmp 93) (.tmp 94) _ rfl in_sameNat_c (.agg #[.slice a9 xs.length c9]) (.agg #[.slice a1 xs.length c1]) rfl rfl (same_same _ r9 r1) ?_
  rintro e w44 ⟨rfl, k44⟩
  refine ⟨_, rfl, ?_⟩
  replace r1 := r1.kept k44 (.inr (.inr (Nat.le_refl 0)))
  replace r2 := r2.kept k44 (.inr (.inr (Nat.le_refl 0)))
  replace r5 := r5.kept k44 (.inr (.inr (Nat.le_refl 0)))
  replace r8 := r8.kept k44 (.inr (.inr (Nat.le_refl 0)))
  replace r9 := r9.kept k44 (.inr (.inr (Nat.le_refl 0)))
  replace ca0 := k44.cell0 ca0
  replace cx0 := k44.cell0 cx0
  replace cy0 := k44.cell0 cy0
  replace ct0 := k44.cell0 ct0
  replace cq0 := k44.cell0 cq0
  replace cr0 := k44.cell0 cr0
  replace cp0 := k44.cell0 cp0
  replace K := hide ((unhide K).trans k44)
  have z45 := k44.size
  clear k44
  clear hHeld
  refine hK.out _ _ ?_ (fun hHeld => ?_)
  · exact ⟨ca0, cx0, cp0⟩
  clear hK KK
  try simp only [Act.put, List.getElem_toArray, List.getElem_cons_succ, List.getElem_cons_zero, List.setIfInBounds_toArray, List.set_cons_zero, List.set_cons_succ]
  refine wpAnyH_take (i := 16) (oi := _) (v := .bool false) rfl (by kernel_rfl) (by kernel_rfl) (by kernel_rfl) (fun _ _ _ h => h) (Or.inl ⟨by rfl, ?_⟩) hHeld ?_
  · intro wq hSw
    try dsimp only at hSw
    go_simp
  try simp only [Act.put, List.getElem_toArray, List.getElem_cons_succ, List.getElem_cons_zero, List.setIfInBounds_toArray, List.set_cons_zero, List.set_cons_succ]
  refine wpAnyH_take (i := 17) (oi := _) (v := .bool false) rfl (by kernel_rfl) (by kernel_rfl) (by kernel_rfl) (fun _ _ _ h => h) (Or.inl ⟨by rfl, ?_⟩) hHeld ?_
  · intro wq hSw
    try dsimp only at hSw
    go_simp
  try simp only [Act.put, List.getElem_toArray, List.getElem_cons_succ, List.getElem_cons_zero, List.setIfInBounds_toArray, List.set_cons_zero, List.set_cons_succ]
  refine wpAnyH_take (i := 18) (oi := _) (v := .bool false) rfl (by kernel_rfl) (by kernel_rfl) (by kernel_rfl) (fun _ _ _ h => h) (Or.inl ⟨by rfl, ?_⟩) hHeld ?_
  · intro wq hSw
    try dsimp only at hSw
    go_simp
  try simp only [Act.put, List.getElem_toArray, List.getElem_cons_succ, List.getElem_cons_zero, List.setIfInBounds_toArray, List.set_cons_zero, List.set_cons_succ]
  refine wpAnyH_take (i := 19) (oi := _) (v := .bool false) rfl (by kernel_rfl) (by kernel_rfl) (by kernel_rfl) (fun _ _ _ h => h) (Or.inl ⟨by rfl, ?_⟩) hHeld ?_
  · intro wq hSw
    try dsimp only at hSw
    go_simp
  try simp only [Act.put, List.getElem_toArray, List.getElem_cons_succ, List.getElem_cons_zero, List.setIfInBounds_toArray, List.set_cons_zero, List.set_cons_succ]
  refine wpAnyH_done (by kernel_rfl) ?_ _
  clear hHeld
  clear r9 r8
  clear SHR
  go_upto_region 15 with fail
  by_cases hz : xs.length = 0
  · have hl : ((xs.length : Int) == 0) = true := beq_iff_eq.2 (by omega)
    clear hz
    have kd := (Kept.refl 0 0 w44).drew
    replace r1 := r1.kept kd (.inr (.inr (Nat.le_refl 0)))
    replace r2 := r2.kept kd (.inr (.inr (Nat.le_refl 0)))
    replace r5 := r5.kept kd (.inr (.inr (Nat.le_refl 0)))
    replace ca0 := kd.cell0 ca0
    replace cx0 := kd.cell0 cx0
    replace cy0 := kd.cell0 cy0
    replace ct0 := kd.cell0 ct0
    replace cq0 := kd.cell0 cq0
    replace cr0 := kd.cell0 cr0
    replace cp0 := kd.cell0 cp0
    replace K := hide ((unhide K).trans kd)
    have z46 := kd.size
    clear kd
    refine wp_region_held_drew (S := (fun w' => w'.cell? ⟨w1.heap.size, 0, none⟩ = some (.slice a1 xs.length c1) ∧ w'.cell? ⟨w6.heap.size, 0, none⟩ = some (.slice a2 XL.length c2) ∧ w'.cell? ⟨w34.heap.size, 0, none⟩ = some (.slice a8 XL.length c8))) (by kernel_rfl) ?_ (fun hHeld => ?_)
    · exact ⟨ca0, cx0, cp0⟩
    refine wpAnyH_take (i := 0) (oi := _) (v := .bool true) rfl (by kernel_rfl) (by kernel_rfl) (by kernel_rfl) (fun _ _ _ h => h) (Or.inl ⟨by rfl, ?_⟩) hHeld ?_
    · intro wq hSw
      try dsimp only at hSw
      go_simp
    try simp only [Act.put, List.getElem_toArray, List.getElem_cons_succ, List.getElem_cons_zero, List.setIfInBounds_toArray, List.set_cons_zero, List.set_cons_succ]
    refine wpAnyH_take (i := 1) (oi := _) (v := .bool false) rfl (by kernel_rfl) (by kernel_rfl) (by kernel_rfl) (fun _ _ _ h => h) (Or.inl ⟨by rfl, ?_⟩) hHeld ?_
    · intro wq hSw
      try dsimp only at hSw
      go_simp
    try simp only [Act.put, List.getElem_toArray, List.getElem_cons_succ, List.getElem_cons_zero, List.setIfInBounds_toArray, List.set_cons_zero, List.set_cons_succ]
    refine wpAnyH_take (i := 2) (oi := _) (v := .bool false) rfl (by kernel_rfl) (by kernel_rfl) (by kernel_rfl) (fun _ _ _ h => h) (Or.inl ⟨by rfl, ?_⟩) hHeld ?_
    · intro wq hSw
      try dsimp only at hSw
      go_simp
    try simp only [Act.put, List.getElem_toArray, List.getElem_cons_succ, List.getElem_cons_zero, List.setIfInBounds_toArray, List.set_cons_zero, List.set_cons_succ]
    refine wpAnyH_take (i := 3) (oi := _) (v := .pointer (some ⟨w1.heap.size, 0, none⟩)) rfl (by kernel_rfl) (by kernel_rfl) (by kernel_rfl) (fun _ _ _ h => h) (Or.inl ⟨by rfl, ?_⟩) hHeld ?_
    · intro wq hSw
      try dsimp only at hSw
      go_simp
    try simp only [Act.put, List.getElem_toArray, List.getElem_cons_succ, List.getElem_cons_zero, List.setIfInBounds_toArray, List.set_cons_zero, List.set_cons_succ]
    refine wpAnyH_take (i := 4) (oi := _) (v := .slice a1 xs.length c1) rfl (by kernel_rfl) (by kernel_rfl) (by kernel_rfl) (fun _ _ _ h => h) (Or.inl ⟨by rfl, ?_⟩) hHeld ?_
    · intro wq hSw
      try dsimp only at hSw
      go_simp
    try simp only [Act.put, List.getElem_toArray, List.getElem_cons_succ, List.getElem_cons_zero, List.setIfInBounds_toArray, List.set_cons_zero, List.set_cons_succ]
    refine wpAnyH_take (i := 5) (oi := _) (v := .int .i64 (xs.length : Int)) rfl (by kernel_rfl) (by kernel_rfl) (by kernel_rfl) (fun _ _ _ h => h) (Or.inl ⟨by rfl, ?_⟩) hHeld ?_
    · intro wq hSw
      try dsimp only at hSw
      go_simp
    try simp only [Act.put, List.getElem_toArray, List.getElem_cons_succ, List.getElem_cons_zero, List.setIfInBounds_toArray, List.set_cons_zero, List.set_cons_succ]
    refine wpAnyH_take (i := 6) (oi := _) (v := .bool true) rfl (by kernel_rfl) (by kernel_rfl) (by kernel_rfl) (fun _ _ _ h => h) (Or.inl ⟨by rfl, ?_⟩) hHeld ?_
    · intro wq hSw
      try dsimp only at hSw
      go_simp
    try simp only [Act.put, List.getElem_toArray, List.getElem_cons_succ, List.getElem_cons_zero, List.setIfInBounds_toArray, List.set_cons_zero, List.set_cons_succ]
    refine wpAnyH_take (i := 7) (oi := _) (v := .bool true) rfl (by kernel_rfl) (by kernel_rfl) (by kernel_rfl) (fun _ _ _ h => h) (Or.inl ⟨by rfl, ?_⟩) hHeld ?_
    · intro wq hSw
      try dsimp only at hSw
      go_simp
    try simp only [Act.put, List.getElem_toArray, List.getElem_cons_succ, List.getElem_cons_zero, List.setIfInBounds_toArray, List.set_cons_zero, List.set_cons_succ]
    refine wpAnyH_take (i := 8) (oi := _) (v := .bool true) rfl (by kernel_rfl) (by kernel_rfl) (by kernel_rfl) (fun _ _ _ h => h) (Or.inl ⟨by rfl, ?_⟩) hHeld ?_
    · intro wq hSw
      try dsimp only at hSw
      go_simp
    try simp only [Act.put, List.getElem_toArray, List.getElem_cons_succ, List.getElem_cons_zero, List.setIfInBounds_toArray, List.set_cons_zero, List.set_cons_succ]
    refine wpAnyH_take (i := 9) (v := undef) rfl (by kernel_rfl) (by kernel_rfl) (by kernel_rfl) (fun _ _ _ h => h) (Or.inr ⟨by rfl, rfl⟩) hHeld ?_
    try simp only [Act.put, List.getElem_toArray, List.getElem_cons_succ, List.getElem_cons_zero, List.setIfInBounds_toArray, List.set_cons_zero, List.set_cons_succ]
    refine wpAnyH_take (i := 10) (v := undef) rfl (by kernel_rfl) (by kernel_rfl) (by kernel_rfl) (fun _ _ _ h => h) (Or.inr ⟨by rfl, rfl⟩) hHeld ?_
    try simp only [Act.put, List.getElem_toArray, List.getElem_cons_succ, List.getElem_cons_zero, List.setIfInBounds_toArray, List.set_cons_zero, List.set_cons_succ]
    refine wpAnyH_take (i := 11) (v := undef) rfl (by kernel_rfl) (by kernel_rfl) (by kernel_rfl) (fun _ _ _ h => h) (Or.inr ⟨by rfl, rfl⟩) hHeld ?_
    try simp only [Act.put, List.getElem_toArray, List.getElem_cons_succ, List.getElem_cons_zero, List.setIfInBounds_toArray, List.set_cons_zero, List.set_cons_succ]
    refine wpAnyH_take (i := 12) (v := undef) rfl (by kernel_rfl) (by kernel_rfl) (by kernel_rfl) (fun _ _ _ h => h) (Or.inr ⟨by rfl, rfl⟩) hHeld ?_
    try simp only [Act.put, List.getElem_toArray, List.getElem_cons_succ, List.getElem_cons_zero, List.setIfInBounds_toArray, List.set_cons_zero, List.set_cons_succ]
    refine wpAnyH_take (i := 13) (v := undef) rfl (by kernel_rfl) (by kernel_rfl) (by kernel_rfl) (fun _ _ _ h => h) (Or.inr ⟨by rfl, rfl⟩) hHeld ?_
    try simp only [Act.put, List.getElem_toArray, List.getElem_cons_succ, List.getElem_cons_zero, List.setIfInBounds_toArray, List.set_cons_zero, List.set_cons_succ]
    refine wpAnyH_take (i := 14) (v := undef) rfl (by kernel_rfl) (by kernel_rfl) (by kernel_rfl) (fun _ _ _ h => h) (Or.inr ⟨by rfl, rfl⟩) hHeld ?_
    try simp only [Act.put, List.getElem_toArray, List.getElem_cons_succ, List.getElem_cons_zero, List.setIfInBounds_toArray, List.set_cons_zero, List.set_cons_succ]
    refine wpAnyH_take (i := 15) (v := undef) rfl (by kernel_rfl) (by kernel_rfl) (by kernel_rfl) (fun _ _ _ h => h) (Or.inr ⟨by rfl, rfl⟩) hHeld ?_
    try simp only [Act.put, List.getElem_toArray, List.getElem_cons_succ, List.getElem_cons_zero, List.setIfInBounds_toArray, List.set_cons_zero, List.set_cons_succ]
    refine wpAnyH_take (i := 16) (v := undef) rfl (by kernel_rfl) (by kernel_rfl) (by kernel_rfl) (fun _ _ _ h => h) (Or.inr ⟨by rfl, rfl⟩) hHeld ?_
    try simp only [Act.put, List.getElem_toArray, List.getElem_cons_succ, List.getElem_cons_zero, List.setIfInBounds_toArray, List.set_cons_zero, List.set_cons_succ]
    refine wpAnyH_take (i := 17) (v := undef) rfl (by kernel_rfl) (by kernel_rfl) (by kernel_rfl) (fun _ _ _ h => h) (Or.inr ⟨by rfl, rfl⟩) hHeld ?_
    try simp only [Act.put, List.getElem_toArray, List.getElem_cons_succ, List.getElem_cons_zero, List.setIfInBounds_toArray, List.set_cons_zero, List.set_cons_succ]
    refine wpAnyH_take (i := 18) (v := undef) rfl (by kernel_rfl) (by kernel_rfl) (by kernel_rfl) (fun _ _ _ h => h) (Or.inr ⟨by rfl, rfl⟩) hHeld ?_
    try simp only [Act.put, List.getElem_toArray, List.getElem_cons_succ, List.getElem_cons_zero, List.setIfInBounds_toArray, List.set_cons_zero, List.set_cons_succ]
    refine wpAnyH_take (i := 19) (v := undef) rfl (by kernel_rfl) (by kernel_rfl) (by kernel_rfl) (fun _ _ _ h => h) (Or.inr ⟨by rfl, rfl⟩) hHeld ?_
    try simp only [Act.put, List.getElem_toArray, List.getElem_cons_succ, List.getElem_cons_zero, List.setIfInBounds_toArray, List.set_cons_zero, List.set_cons_succ]
    refine wpAnyH_take (i := 20) (v := undef) rfl (by kernel_rfl) (by kernel_rfl) (by kernel_rfl) (fun _ _ _ h => h) (Or.inr ⟨by rfl, rfl⟩) hHeld ?_
    try simp only [Act.put, List.getElem_toArray, List.getElem_cons_succ, List.getElem_cons_zero, List.setIfInBounds_toArray, List.set_cons_zero, List.set_cons_succ]
    refine wpAnyH_take (i := 21) (v := undef) rfl (by kernel_rfl) (by kernel_rfl) (by kernel_rfl) (fun _ _ _ h => h) (Or.inr ⟨by rfl, rfl⟩) hHeld ?_
    try simp only [Act.put, List.getElem_toArray, List.getElem_cons_succ, List.getElem_cons_zero, List.setIfInBounds_toArray, List.set_cons_zero, List.set_cons_succ]
    refine wpAnyH_take (i := 22) (v := undef) rfl (by kernel_rfl) (by kernel_rfl) (by kernel_rfl) (fun _ _ _ h => h) (Or.inr ⟨by rfl, rfl⟩) hHeld ?_
    try simp only [Act.put, List.getElem_toArray, List.getElem_cons_succ, List.getElem_cons_zero, List.setIfInBounds_toArray, List.set_cons_zero, List.set_cons_succ]
    refine wpAnyH_take (i := 23) (v := undef) rfl (by kernel_rfl) (by kernel_rfl) (by kernel_rfl) (fun _ _ _ h => h) (Or.inr ⟨by rfl, rfl⟩) hHeld ?_
    try simp only [Act.put, List.getElem_toArray, List.getElem_cons_succ, List.getElem_cons_zero, List.setIfInBounds_toArray, List.set_cons_zero, List.set_cons_succ]
    refine wpAnyH_take (i := 24) (v := undef) rfl (by kernel_rfl) (by kernel_rfl) (by kernel_rfl) (fun _ _ _ h => h) (Or.inr ⟨by rfl, rfl⟩) hHeld ?_
    try simp only [Act.put, List.getElem_toArray, List.getElem_cons_succ, List.getElem_cons_zero, List.setIfInBounds_toArray, List.set_cons_zero, List.set_cons_succ]
    refine wpAnyH_take (i := 25) (v := undef) rfl (by kernel_rfl) (by kernel_rfl) (by kernel_rfl) (fun _ _ _ h => h) (Or.inr ⟨by rfl, rfl⟩) hHeld ?_
    try simp only [Act.put, List.getElem_toArray, List.getElem_cons_succ, List.getElem_cons_zero, List.setIfInBounds_toArray, List.set_cons_zero, List.set_cons_succ]
    refine wpAnyH_take (i := 26) (v := undef) rfl (by kernel_rfl) (by kernel_rfl) (by kernel_rfl) (fun _ _ _ h => h) (Or.inr ⟨by rfl, rfl⟩) hHeld ?_
    try simp only [Act.put, List.getElem_toArray, List.getElem_cons_succ, List.getElem_cons_zero, List.setIfInBounds_toArray, List.set_cons_zero, List.set_cons_succ]
    refine wpAnyH_take (i := 27) (v := undef) rfl (by kernel_rfl) (by kernel_rfl) (by kernel_rfl) (fun _ _ _ h => h) (Or.inr ⟨by rfl, rfl⟩) hHeld ?_
    try simp only [Act.put, List.getElem_toArray, List.getElem_cons_succ, List.getElem_cons_zero, List.setIfInBounds_toArray, List.set_cons_zero, List.set_cons_succ]
    refine wpAnyH_take (i := 28) (v := undef) rfl (by kernel_rfl) (by kernel_rfl) (by kernel_rfl) (fun _ _ _ h => h) (Or.inr ⟨by rfl, rfl⟩) hHeld ?_
    try simp only [Act.put, List.getElem_toArray, List.getElem_cons_succ, List.getElem_cons_zero, List.setIfInBounds_toArray, List.set_cons_zero, List.set_cons_succ]
    refine wpAnyH_take (i := 29) (v := undef) rfl (by kernel_rfl) (by kernel_rfl) (by kernel_rfl) (fun _ _ _ h => h) (Or.inr ⟨by rfl, rfl⟩) hHeld ?_
    try simp only [Act.put, List.getElem_toArray, List.getElem_cons_succ, List.getElem_cons_zero, List.setIfInBounds_toArray, List.set_cons_zero, List.set_cons_succ]
    refine wpAnyH_take (i := 30) (v := undef) rfl (by kernel_rfl) (by kernel_rfl) (by kernel_rfl) (fun _ _ _ h => h) (Or.inr ⟨by rfl, rfl⟩) hHeld ?_
    try simp only [Act.put, List.getElem_toArray, List.getElem_cons_succ, List.getElem_cons_zero, List.setIfInBounds_toArray, List.set_cons_zero, List.set_cons_succ]
    refine wpAnyH_take (i := 31) (v := undef) rfl (by kernel_rfl) (by kernel_rfl) (by kernel_rfl) (fun _ _ _ h => h) (Or.inr ⟨by rfl, rfl⟩) hHeld ?_
    try simp only [Act.put, List.getElem_toArray, List.getElem_cons_succ, List.getElem_cons_zero, List.setIfInBounds_toArray, List.set_cons_zero, List.set_cons_succ]
    refine wpAnyH_take (i := 32) (v := undef) rfl (by kernel_rfl) (by kernel_rfl) (by kernel_rfl) (fun _ _ _ h => h) (Or.inr ⟨by rfl, rfl⟩) hHeld ?_
    try simp only [Act.put, List.getElem_toArray, List.getElem_cons_succ, List.getElem_cons_zero, List.setIfInBounds_toArray, List.set_cons_zero, List.set_cons_succ]
    refine wpAnyH_take (i := 33) (oi := _) (v := .bool true) rfl (by kernel_rfl) (by kernel_rfl) (by kernel_rfl) (fun _ _ _ h => h) (Or.inl ⟨by rfl, ?_⟩) hHeld ?_
    · intro wq hSw
      try dsimp only at hSw
      go_simp
    try simp only [Act.put, List.getElem_toArray, List.getElem_cons_succ, List.getElem_cons_zero, List.setIfInBounds_toArray, List.set_cons_zero, List.set_cons_succ]
    refine wpAnyH_take (i := 34) (oi := _) (v := .bool true) rfl (by kernel_rfl) (by kernel_rfl) (by kernel_rfl) (fun _ _ _ h => h) (Or.inl ⟨by rfl, ?_⟩) hHeld ?_
    · intro wq hSw
      try dsimp only at hSw
      go_simp
    try simp only [Act.put, List.getElem_toArray, List.getElem_cons_succ, List.getElem_cons_zero, List.setIfInBounds_toArray, List.set_cons_zero, List.set_cons_succ]
    refine wpAnyH_done (by kernel_rfl) ?_ _
    clear hHeld
    try go_wp2_with fail
    go_ret
    exact ⟨rfl, (unhide K).toBelow⟩
  obtain ⟨BI, TI, b0, f1, f2, f3, f4, f5, f6, wB, wT⟩ := sh_facts (unhide HO1) g0 g1 (unhide HV).1 (unhide HV).2 hz
  have hl : ((xs.length : Int) == 0) = false := beq_eq_false_iff_ne.2 (by omega)
  clear hz
  obtain ⟨BK, hBK⟩ : ∃ y, BI + k = y := ⟨_, rfl⟩
  obtain ⟨TK, hTK⟩ : ∃ y, TI + k = y := ⟨_, rfl⟩
  have C1 := hide (show ∀ (w : World) {bw : Bool} {l h : Nat} {v : Value} (r : Row .i64 bw l h w v XL), Calls Tryd.prog 7 #[.agg #[v]] w fun e w' => e = .returned (.int .i64 BK) ∧ Kept 0 0 w w' from by
    intro w bw l h v r
    have mk := natBits_impl w r
    rw [f2, hBK] at mk
    exact mk)
  have C2 := hide (show ∀ (w : World) {bw : Bool} {l h : Nat} {v : Value} (r : Row .i64 bw l h w v xs), Calls Tryd.prog 7 #[.agg #[v]] w fun e w' => e = .returned (.int .i64 BI) ∧ Kept 0 0 w w' from by
    intro w bw l h v r
    have mk := natBits_impl w r
    rw [f1] at mk
    exact mk)
  have C3 := hide (show ∀ (w : World) {bw : Bool} {l h : Nat} {v : Value} (r : Row .i64 bw l h w v XL) (T : TabB w), Calls Tryd.prog 14 #[.agg #[v]] w fun e w' => e = .returned (.int .i64 TK) ∧ Kept 0 0 w w' from by
    intro w bw l h v r T
    have mk := ntrail_impl w r T
    rw [f4, hTK] at mk
    exact mk)
  have C4 := hide (show ∀ (w : World) {bw : Bool} {l h : Nat} {v : Value} (r : Row .i64 bw l h w v xs) (T : TabB w), Calls Tryd.prog 14 #[.agg #[v]] w fun e w' => e = .returned (.int .i64 TI) ∧ Kept 0 0 w w' from by
    intro w bw l h v r T
    have mk := ntrail_impl w r T
    rw [f3] at mk
    exact mk)
  have C5 := hide (show ∀ (w : World) {bw : Bool} {l h : Nat} {v : Value} (r : Row .i64 bw l h w v XL), Calls Tryd.prog 15 #[.agg #[v], .int .i64 k] w fun e w' => e = .returned (.int .i64 b0) ∧ Kept 0 0 w w' from by
    intro w bw l h v r
    have mk := natBit_impl w r k (by omega) (by omega)
    rw [f6] at mk
    exact mk)
  have C6 := hide (show ∀ (w : World) {bw : Bool} {l h : Nat} {v : Value} (r : Row .i64 bw l h w v xs), Calls Tryd.prog 15 #[.agg #[v], .int .i64 0] w fun e w' => e = .returned (.int .i64 b0) ∧ Kept 0 0 w w' from by
    intro w bw l h v r
    have mk := natBit_impl w r 0 (by omega) (by omega)
    rw [f5] at mk
    exact mk)
  rw [hBK] at wB
  rw [hTK] at wT
  have wB' : IntKind.i64.wrap (BI + k) = BK := by rw [hBK]; exact wB
  have wT' : IntKind.i64.wrap (TI + k) = TK := by rw [hTK]; exact wT
  clear f1 f2 f3 f4 f5 f6 wB wT hBK hTK
  have eB : (BK == BK) = true := by simp
  have eT : (TK == TK) = true := by simp
  have eb : (b0 == b0) = true := by simp
  have kd := (Kept.refl 0 0 w44).drew
  replace r1 := r1.kept kd (.inr (.inr (Nat.le_refl 0)))
  replace r2 := r2.kept kd (.inr (.inr (Nat.le_refl 0)))
  replace r5 := r5.kept kd (.inr (.inr (Nat.le_refl 0)))
  replace ca0 := kd.cell0 ca0
  replace cx0 := kd.cell0 cx0
  replace cy0 := kd.cell0 cy0
  replace ct0 := kd.cell0 ct0
  replace cq0 := kd.cell0 cq0
  replace cr0 := kd.cell0 cr0
  replace cp0 := kd.cell0 cp0
  replace K := hide ((unhide K).trans kd)
  have z46 := kd.size
  clear kd
  refine wp_region_held_drew (S := (fun w' => w'.cell? ⟨w1.heap.size, 0, none⟩ = some (.slice a1 xs.length c1) ∧ w'.cell? ⟨w6.heap.size, 0, none⟩ = some (.slice a2 XL.length c2) ∧ w'.cell? ⟨w34.heap.size, 0, none⟩ = some (.slice a8 XL.length c8))) (by kernel_rfl) ?_ (fun hHeld => ?_)
  · exact ⟨ca0, cx0, cp0⟩
  refine wpAnyH_take (i := 0) (oi := _) (v := .bool true) rfl (by kernel_rfl) (by kernel_rfl) (by kernel_rfl) (fun _ _ _ h => h) (Or.inl ⟨by rfl, ?_⟩) hHeld ?_
  · intro wq hSw
    try dsimp only at hSw
    go_simp
  try simp only [Act.put, List.getElem_toArray, List.getElem_cons_succ, List.getElem_cons_zero, List.setIfInBounds_toArray, List.set_cons_zero, List.set_cons_succ]
  refine wpAnyH_take (i := 1) (oi := _) (v := .bool false) rfl (by kernel_rfl) (by kernel_rfl) (by kernel_rfl) (fun _ _ _ h => h) (Or.inl ⟨by rfl, ?_⟩) hHeld ?_
  · intro wq hSw
    try dsimp only at hSw
    go_simp
  try simp only [Act.put, List.getElem_toArray, List.getElem_cons_succ, List.getElem_cons_zero, List.setIfInBounds_toArray, List.set_cons_zero, List.set_cons_succ]
  refine wpAnyH_take (i := 2) (oi := _) (v := .bool false) rfl (by kernel_rfl) (by kernel_rfl) (by kernel_rfl) (fun _ _ _ h => h) (Or.inl ⟨by rfl, ?_⟩) hHeld ?_
  · intro wq hSw
    try dsimp only at hSw
    go_simp
  try simp only [Act.put, List.getElem_toArray, List.getElem_cons_succ, List.getElem_cons_zero, List.setIfInBounds_toArray, List.set_cons_zero, List.set_cons_succ]
  refine wpAnyH_take (i := 3) (oi := _) (v := .pointer (some ⟨w1.heap.size, 0, none⟩)) rfl (by kernel_rfl) (by kernel_rfl) (by kernel_rfl) (fun _ _ _ h => h) (Or.inl ⟨by rfl, ?_⟩) hHeld ?_
  · intro wq hSw
    try dsimp only at hSw
    go_simp
  try simp only [Act.put, List.getElem_toArray, List.getElem_cons_succ, List.getElem_cons_zero, List.setIfInBounds_toArray, List.set_cons_zero, List.set_cons_succ]
  refine wpAnyH_take (i := 4) (oi := _) (v := .slice a1 xs.length c1) rfl (by kernel_rfl) (by kernel_rfl) (by kernel_rfl) (fun _ _ _ h => h) (Or.inl ⟨by rfl, ?_⟩) hHeld ?_
  · intro wq hSw
    try dsimp only at hSw
    go_simp
  try simp only [Act.put, List.getElem_toArray, List.getElem_cons_succ, List.getElem_cons_zero, List.setIfInBounds_toArray, List.set_cons_zero, List.set_cons_succ]
  refine wpAnyH_take (i := 5) (oi := _) (v := .int .i64 (xs.length : Int)) rfl (by kernel_rfl) (by kernel_rfl) (by kernel_rfl) (fun _ _ _ h => h) (Or.inl ⟨by rfl, ?_⟩) hHeld ?_
  · intro wq hSw
    try dsimp only at hSw
    go_simp
  try simp only [Act.put, List.getElem_toArray, List.getElem_cons_succ, List.getElem_cons_zero, List.setIfInBounds_toArray, List.set_cons_zero, List.set_cons_succ]
  refine wpAnyH_take (i := 6) (oi := _) (v := .bool false) rfl (by kernel_rfl) (by kernel_rfl) (by kernel_rfl) (fun _ _ _ h => h) (Or.inl ⟨by rfl, ?_⟩) hHeld ?_
  · intro wq hSw
    try dsimp only at hSw
    go_simp
  try simp only [Act.put, List.getElem_toArray, List.getElem_cons_succ, List.getElem_cons_zero, List.setIfInBounds_toArray, List.set_cons_zero, List.set_cons_succ]
  refine wpAnyH_take (i := 7) (oi := _) (v := .bool false) rfl (by kernel_rfl) (by kernel_rfl) (by kernel_rfl) (fun _ _ _ h => h) (Or.inl ⟨by rfl, ?_⟩) hHeld ?_
  · intro wq hSw
    try dsimp only at hSw
    go_simp
  try simp only [Act.put, List.getElem_toArray, List.getElem_cons_succ, List.getElem_cons_zero, List.setIfInBounds_toArray, List.set_cons_zero, List.set_cons_succ]
  refine wpAnyH_take (i := 8) (oi := _) (v := .bool false) rfl (by kernel_rfl) (by kernel_rfl) (by kernel_rfl) (fun _ _ _ h => h) (Or.inl ⟨by rfl, ?_⟩) hHeld ?_
  · intro wq hSw
    try dsimp only at hSw
    go_simp
  try simp only [Act.put, List.getElem_toArray, List.getElem_cons_succ, List.getElem_cons_zero, List.setIfInBounds_toArray, List.set_cons_zero, List.set_cons_succ]
  refine wpAnyH_take (i := 9) (oi := _) (v := .agg #[.slice a2 XL.length c2]) rfl (by kernel_rfl) (by kernel_rfl) (by kernel_rfl) (fun _ _ _ h => h) (Or.inl ⟨by rfl, ?_⟩) hHeld ?_
  · intro wq hSw
    try dsimp only at hSw
    go_simp
  try simp only [Act.put, List.getElem_toArray, List.getElem_cons_succ, List.getElem_cons_zero, List.setIfInBounds_toArray, List.set_cons_zero, List.set_cons_succ]
  refine wpAnyH_take (i := 11) (oi := _) (v := .agg #[.slice a1 xs.length c1]) rfl (by kernel_rfl) (by kernel_rfl) (by kernel_rfl) (fun _ _ _ h => h) (Or.inl ⟨by rfl, ?_⟩) hHeld ?_
  · intro wq hSw
    try dsimp only at hSw
    go_simp
  try simp only [Act.put, List.getElem_toArray, List.getElem_cons_succ, List.getElem_cons_zero, List.setIfInBounds_toArray, List.set_cons_zero, List.set_cons_succ]
  refine wpAnyH_take (i := 13) (oi := _) (v := .int .i64 k) rfl (by kernel_rfl) (by kernel_rfl) (by kernel_rfl) (fun _ _ _ h => h) (Or.inl ⟨by rfl, ?_⟩) hHeld ?_
  · intro wq hSw
    try dsimp only at hSw
    go_simp
  try simp only [Act.put, List.getElem_toArray, List.getElem_cons_succ, List.getElem_cons_zero, List.setIfInBounds_toArray, List.set_cons_zero, List.set_cons_succ]
  refine wpAnyH_ready (rs := [10]) (by kernel_rfl) (by simp) ?_
  refine AllReadyH.cons rfl (fun KK hK => ?_) AllReadyH.nil
  simp only [List.getElem_toArray, List.getElem_cons_succ, List.getElem_cons_zero]
  rw [if_pos (by rfl)]
  refine wps1 7 (.tmp 109) _ rfl in_NatBits_c (.agg #[.slice a2 XL.length c2]) rfl (unhide C1 _ r2) ?_
  rintro e w47 ⟨rfl, k47⟩
  refine ⟨_, rfl, ?_⟩
  replace r1 := r1.kept k47 (.inr (.inr (Nat.le_refl 0)))
  replace r2 := r2.kept k47 (.inr (.inr (Nat.le_refl 0)))
  replace r5 := r5.kept k47 (.inr (.inr (Nat.le_refl 0)))
  replace ca0 := k47.cell0 ca0
  replace cx0 := k47.cell0 cx0
  replace cy0 := k47.cell0 cy0
  replace ct0 := k47.cell0 ct0
  replace cq0 := k47.cell0 cq0
  replace cr0 := k47.cell0 cr0
  replace cp0 := k47.cell0 cp0
  replace K := hide ((unhide K).trans k47)
  have z48 := k47.size
  clear k47
  clear hHeld
  refine hK.out _ _ ?_ (fun hHeld => ?_)
  · exact ⟨ca0, cx0, cp0⟩
  clear hK KK
  try simp only [Act.put, List.getElem_toArray, List.getElem_cons_succ, List.getElem_cons_zero, List.setIfInBounds_toArray, List.set_cons_zero, List.set_cons_succ]
  refine wpAnyH_ready (rs := [12]) (by kernel_rfl) (by simp) ?_
  refine AllReadyH.cons rfl (fun KK hK => ?_) AllReadyH.nil
  simp only [List.getElem_toArray, List.getElem_cons_succ, List.getElem_cons_zero]
  rw [if_pos (by rfl)]
  refine wps1 7 (.tmp 111) _ rfl in_NatBits_c (.agg #[.slice a1 xs.length c1]) rfl (unhide C2 _ r1) ?_
  rintro e w49 ⟨rfl, k49⟩
  refine ⟨_, rfl, ?_⟩
  replace r1 := r1.kept k49 (.inr (.inr (Nat.le_refl 0)))
  replace r2 := r2.kept k49 (.inr (.inr (Nat.le_refl 0)))
  replace r5 := r5.kept k49 (.inr (.inr (Nat.le_refl 0)))
  replace ca0 := k49.cell0 ca0
  replace cx0 := k49.cell0 cx0
  replace cy0 := k49.cell0 cy0
  replace ct0 := k49.cell0 ct0
  replace cq0 := k49.cell0 cq0
  replace cr0 := k49.cell0 cr0
  replace cp0 := k49.cell0 cp0
  replace K := hide ((unhide K).trans k49)
  have z50 := k49.size
  clear k49
  clear hHeld
  refine hK.out _ _ ?_ (fun hHeld => ?_)
  · exact ⟨ca0, cx0, cp0⟩
  clear hK KK
  try simp only [Act.put, List.getElem_toArray, List.getElem_cons_succ, List.getElem_cons_zero, List.setIfInBounds_toArray, List.set_cons_zero, List.set_cons_succ]
  refine wpAnyH_take (i := 14) (oi := _) (v := .int .i64 BK) rfl (by kernel_rfl) (by kernel_rfl) (by kernel_rfl) (fun _ _ _ h => h) (Or.inl ⟨by rfl, ?_⟩) hHeld ?_
  · intro wq hSw
    try dsimp only at hSw
    go_simp
  try simp only [Act.put, List.getElem_toArray, List.getElem_cons_succ, List.getElem_cons_zero, List.setIfInBounds_toArray, List.set_cons_zero, List.set_cons_succ]
  refine wpAnyH_take (i := 15) (oi := _) (v := .bool true) rfl (by kernel_rfl) (by kernel_rfl) (by kernel_rfl) (fun _ _ _ h => h) (Or.inl ⟨by rfl, ?_⟩) hHeld ?_
  · intro wq hSw
    try dsimp only at hSw
    go_simp
  try simp only [Act.put, List.getElem_toArray, List.getElem_cons_succ, List.getElem_cons_zero, List.setIfInBounds_toArray, List.set_cons_zero, List.set_cons_succ]
  refine wpAnyH_take (i := 16) (oi := _) (v := .bool true) rfl (by kernel_rfl) (by kernel_rfl) (by kernel_rfl) (fun _ _ _ h => h) (Or.inl ⟨by rfl, ?_⟩) hHeld ?_
  · intro wq hSw
    try dsimp only at hSw
    go_simp
  try simp only [Act.put, List.getElem_toArray, List.getElem_cons_succ, List.getElem_cons_zero, List.setIfInBounds_toArray, List.set_cons_zero, List.set_cons_succ]
  refine wpAnyH_take (i := 17) (oi := _) (v := .agg #[.slice a2 XL.length c2]) rfl (by kernel_rfl) (by kernel_rfl) (by kernel_rfl) (fun _ _ _ h => h) (Or.inl ⟨by rfl, ?_⟩) hHeld ?_
  · intro wq hSw
    try dsimp only at hSw
    go_simp
  try simp only [Act.put, List.getElem_toArray, List.getElem_cons_succ, List.getElem_cons_zero, List.setIfInBounds_toArray, List.set_cons_zero, List.set_cons_succ]
  refine wpAnyH_take (i := 19) (oi := _) (v := .agg #[.slice a1 xs.length c1]) rfl (by kernel_rfl) (by kernel_rfl) (by kernel_rfl) (fun _ _ _ h => h) (Or.inl ⟨by rfl, ?_⟩) hHeld ?_
  · intro wq hSw
    try dsimp only at hSw
    go_simp
  try simp only [Act.put, List.getElem_toArray, List.getElem_cons_succ, List.getElem_cons_zero, List.setIfInBounds_toArray, List.set_cons_zero, List.set_cons_succ]
  refine wpAnyH_take (i := 21) (oi := _) (v := .int .i64 k) rfl (by kernel_rfl) (by kernel_rfl) (by kernel_rfl) (fun _ _ _ h => h) (Or.inl ⟨by rfl, ?_⟩) hHeld ?_
  · intro wq hSw
    try dsimp only at hSw
    go_simp
  try simp only [Act.put, List.getElem_toArray, List.getElem_cons_succ, List.getElem_cons_zero, List.setIfInBounds_toArray, List.set_cons_zero, List.set_cons_succ]
  refine wpAnyH_ready (rs := [18]) (by kernel_rfl) (by simp) ?_
  refine AllReadyH.cons rfl (fun KK hK => ?_) AllReadyH.nil
  simp only [List.getElem_toArray, List.getElem_cons_succ, List.getElem_cons_zero]
  rw [if_pos (by rfl)]
  refine wps1 14 (.tmp 117) _ rfl in_NatTrail_c (.agg #[.slice a2 XL.length c2]) rfl (unhide C3 _ r2 ((unhide HT).kept (unhide K))) ?_
  rintro e w51 ⟨rfl, k51⟩
  refine ⟨_, rfl, ?_⟩
  replace r1 := r1.kept k51 (.inr (.inr (Nat.le_refl 0)))
  replace r2 := r2.kept k51 (.inr (.inr (Nat.le_refl 0)))
  replace r5 := r5.kept k51 (.inr (.inr (Nat.le_refl 0)))
  replace ca0 := k51.cell0 ca0
  replace cx0 := k51.cell0 cx0
  replace cy0 := k51.cell0 cy0
  replace ct0 := k51.cell0 ct0
  replace cq0 := k51.cell0 cq0
  replace cr0 := k51.cell0 cr0
  replace cp0 := k51.cell0 cp0
  replace K := hide ((unhide K).trans k51)
  have z52 := k51.size
  clear k51
  clear hHeld
  refine hK.out _ _ ?_ (fun hHeld => ?_)
  · exact ⟨ca0, cx0, cp0⟩
  clear hK KK
  try simp only [Act.put, List.getElem_toArray, List.getElem_cons_succ, List.getElem_cons_zero, List.setIfInBounds_toArray, List.set_cons_zero, List.set_cons_succ]
  refine wpAnyH_ready (rs := [20]) (by kernel_rfl) (by simp) ?_
  refine AllReadyH.cons rfl (fun KK hK => ?_) AllReadyH.nil
  simp only [List.getElem_toArray, List.getElem_cons_succ, List.getElem_cons_zero]
  rw [if_pos (by rfl)]
  refine wps1 14 (.tmp 119) _ rfl in_NatTrail_c (.agg #[.slice a1 xs.length c1]) rfl (unhide C4 _ r1 ((unhide HT).kept (unhide K))) ?_
  rintro e w53 ⟨rfl, k53⟩
  refine ⟨_, rfl, ?_⟩
  replace r1 := r1.kept k53 (.inr (.inr (Nat.le_refl 0)))
  replace r2 := r2.kept k53 (.inr (.inr (Nat.le_refl 0)))
  replace r5 := r5.kept k53 (.inr (.inr (Nat.le_refl 0)))
  replace ca0 := k53.cell0 ca0
  replace cx0 := k53.cell0 cx0
  replace cy0 := k53.cell0 cy0
  replace ct0 := k53.cell0 ct0
  replace cq0 := k53.cell0 cq0
  replace cr0 := k53.cell0 cr0
  replace cp0 := k53.cell0 cp0
  replace K := hide ((unhide K).trans k53)
  have z54 := k53.size
  clear k53
  clear hHeld
  refine hK.out _ _ ?_ (fun hHeld => ?_)
  · exact ⟨ca0, cx0, cp0⟩
  clear hK KK
  try simp only [Act.put, List.getElem_toArray, List.getElem_cons_succ, List.getElem_cons_zero, List.setIfInBounds_toArray, List.set_cons_zero, List.set_cons_succ]
  refine wpAnyH_take (i := 22) (oi := _) (v := .int .i64 TK) rfl (by kernel_rfl) (by kernel_rfl) (by kernel_rfl) (fun _ _ _ h => h) (Or.inl ⟨by rfl, ?_⟩) hHeld ?_
  · intro wq hSw
    try dsimp only at hSw
    go_simp
  try simp only [Act.put, List.getElem_toArray, List.getElem_cons_succ, List.getElem_cons_zero, List.setIfInBounds_toArray, List.set_cons_zero, List.set_cons_succ]
  refine wpAnyH_take (i := 23) (oi := _) (v := .bool true) rfl (by kernel_rfl) (by kernel_rfl) (by kernel_rfl) (fun _ _ _ h => h) (Or.inl ⟨by rfl, ?_⟩) hHeld ?_
  · intro wq hSw
    try dsimp only at hSw
    go_simp
  try simp only [Act.put, List.getElem_toArray, List.getElem_cons_succ, List.getElem_cons_zero, List.setIfInBounds_toArray, List.set_cons_zero, List.set_cons_succ]
  refine wpAnyH_take (i := 24) (oi := _) (v := .bool true) rfl (by kernel_rfl) (by kernel_rfl) (by kernel_rfl) (fun _ _ _ h => h) (Or.inl ⟨by rfl, ?_⟩) hHeld ?_
  · intro wq hSw
    try dsimp only at hSw
    go_simp
  try simp only [Act.put, List.getElem_toArray, List.getElem_cons_succ, List.getElem_cons_zero, List.setIfInBounds_toArray, List.set_cons_zero, List.set_cons_succ]
  refine wpAnyH_take (i := 25) (oi := _) (v := .bool true) rfl (by kernel_rfl) (by kernel_rfl) (by kernel_rfl) (fun _ _ _ h => h) (Or.inl ⟨by rfl, ?_⟩) hHeld ?_
  · intro wq hSw
    try dsimp only at hSw
    go_simp
  try simp only [Act.put, List.getElem_toArray, List.getElem_cons_succ, List.getElem_cons_zero, List.setIfInBounds_toArray, List.set_cons_zero, List.set_cons_succ]
  refine wpAnyH_take (i := 26) (oi := _) (v := .agg #[.slice a2 XL.length c2]) rfl (by kernel_rfl) (by kernel_rfl) (by kernel_rfl) (fun _ _ _ h => h) (Or.inl ⟨by rfl, ?_⟩) hHeld ?_
  · intro wq hSw
    try dsimp only at hSw
    go_simp
  try simp only [Act.put, List.getElem_toArray, List.getElem_cons_succ, List.getElem_cons_zero, List.setIfInBounds_toArray, List.set_cons_zero, List.set_cons_succ]
  refine wpAnyH_take (i := 27) (oi := _) (v := .int .i64 k) rfl (by kernel_rfl) (by kernel_rfl) (by kernel_rfl) (fun _ _ _ h => h) (Or.inl ⟨by rfl, ?_⟩) hHeld ?_
  · intro wq hSw
    try dsimp only at hSw
    go_simp
  try simp only [Act.put, List.getElem_toArray, List.getElem_cons_succ, List.getElem_cons_zero, List.setIfInBounds_toArray, List.set_cons_zero, List.set_cons_succ]
  refine wpAnyH_take (i := 29) (oi := _) (v := .agg #[.slice a1 xs.length c1]) rfl (by kernel_rfl) (by kernel_rfl) (by kernel_rfl) (fun _ _ _ h => h) (Or.inl ⟨by rfl, ?_⟩) hHeld ?_
  · intro wq hSw
    try dsimp only at hSw
    go_simp
  try simp only [Act.put, List.getElem_toArray, List.getElem_cons_succ, List.getElem_cons_zero, List.setIfInBounds_toArray, List.set_cons_zero, List.set_cons_succ]
  refine wpAnyH_ready (rs := [28]) (by kernel_rfl) (by simp) ?_
  refine AllReadyH.cons rfl (fun KK hK => ?_) AllReadyH.nil
  simp only [List.getElem_toArray, List.getElem_cons_succ, List.getElem_cons_zero]
  rw [if_pos (by rfl)]
  refine wps2 15 (.tmp 126) (.tmp 127) _ rfl in_NatBit_c (.agg #[.slice a2 XL.length c2]) (.int .i64 k) rfl rfl (unhide C5 _ r2) ?_
  rintro e w55 ⟨rfl, k55⟩
  refine ⟨_, rfl, ?_⟩
  replace r1 := r1.kept k55 (.inr (.inr (Nat.le_refl 0)))
  replace r2 := r2.kept k55 (.inr (.inr (Nat.le_refl 0)))
  replace r5 := r5.kept k55 (.inr (.inr (Nat.le_refl 0)))
  replace ca0 := k55.cell0 ca0
  replace cx0 := k55.cell0 cx0
  replace cy0 := k55.cell0 cy0
  replace ct0 := k55.cell0 ct0
  replace cq0 := k55.cell0 cq0
  replace cr0 := k55.cell0 cr0
  replace cp0 := k55.cell0 cp0
  replace K := hide ((unhide K).trans k55)
  have z56 := k55.size
  clear k55
  clear hHeld
  refine hK.out _ _ ?_ (fun hHeld => ?_)
  · exact ⟨ca0, cx0, cp0⟩
  clear hK KK
  try simp only [Act.put, List.getElem_toArray, List.getElem_cons_succ, List.getElem_cons_zero, List.setIfInBounds_toArray, List.set_cons_zero, List.set_cons_succ]
  refine wpAnyH_ready (rs := [30]) (by kernel_rfl) (by simp) ?_
  refine AllReadyH.cons rfl (fun KK hK => ?_) AllReadyH.nil
  simp only [List.getElem_toArray, List.getElem_cons_succ, List.getElem_cons_zero]
  rw [if_pos (by rfl)]
  refine wps2 15 (.tmp 129) (.const (.int .i64 0)) _ rfl in_NatBit_c (.agg #[.slice a1 xs.length c1]) (.int .i64 0) rfl rfl (unhide C6 _ r1) ?_
  rintro e w57 ⟨rfl, k57⟩
  refine ⟨_, rfl, ?_⟩
  replace r1 := r1.kept k57 (.inr (.inr (Nat.le_refl 0)))
  replace r2 := r2.kept k57 (.inr (.inr (Nat.le_refl 0)))
  replace r5 := r5.kept k57 (.inr (.inr (Nat.le_refl 0)))
  replace ca0 := k57.cell0 ca0
  replace cx0 := k57.cell0 cx0
  replace cy0 := k57.cell0 cy0
  replace ct0 := k57.cell0 ct0
  replace cq0 := k57.cell0 cq0
  replace cr0 := k57.cell0 cr0
  replace cp0 := k57.cell0 cp0
  replace K := hide ((unhide K).trans k57)
  have z58 := k57.size
  clear k57
  clear hHeld
  refine hK.out _ _ ?_ (fun hHeld => ?_)
  · exact ⟨ca0, cx0, cp0⟩
  clear hK KK
  try simp only [Act.put, List.getElem_toArray, List.getElem_cons_succ, List.getElem_cons_zero, List.setIfInBounds_toArray, List.set_cons_zero, List.set_cons_succ]
  refine wpAnyH_take (i := 31) (oi := _) (v := .bool true) rfl (by kernel_rfl) (by kernel_rfl) (by kernel_rfl) (fun _ _ _ h => h) (Or.inl ⟨by rfl, ?_⟩) hHeld ?_
  · intro wq hSw
    try dsimp only at hSw
    go_simp
  try simp only [Act.put, List.getElem_toArray, List.getElem_cons_succ, List.getElem_cons_zero, List.setIfInBounds_toArray, List.set_cons_zero, List.set_cons_succ]
  refine wpAnyH_take (i := 32) (oi := _) (v := .bool true) rfl (by kernel_rfl) (by kernel_rfl) (by kernel_rfl) (fun _ _ _ h => h) (Or.inl ⟨by rfl, ?_⟩) hHeld ?_
  · intro wq hSw
    try dsimp only at hSw
    go_simp
  try simp only [Act.put, List.getElem_toArray, List.getElem_cons_succ, List.getElem_cons_zero, List.setIfInBounds_toArray, List.set_cons_zero, List.set_cons_succ]
  refine wpAnyH_take (i := 33) (oi := _) (v := .bool true) rfl (by kernel_rfl) (by kernel_rfl) (by kernel_rfl) (fun _ _ _ h => h) (Or.inl ⟨by rfl, ?_⟩) hHeld ?_
  · intro wq hSw
    try dsimp only at hSw
    go_simp
  try simp only [Act.put, List.getElem_toArray, List.getElem_cons_succ, List.getElem_cons_zero, List.setIfInBounds_toArray, List.set_cons_zero, List.set_cons_succ]
  refine wpAnyH_take (i := 34) (oi := _) (v := .bool true) rfl (by kernel_rfl) (by kernel_rfl) (by kernel_rfl) (fun _ _ _ h => h) (Or.inl ⟨by rfl, ?_⟩) hHeld ?_
  · intro wq hSw
    try dsimp only at hSw
    go_simp
  try simp only [Act.put, List.getElem_toArray, List.getElem_cons_succ, List.getElem_cons_zero, List.setIfInBounds_toArray, List.set_cons_zero, List.set_cons_succ]
  refine wpAnyH_done (by kernel_rfl) ?_ _
  clear hHeld
  try go_wp2_with fail
  go_ret
  exact ⟨rfl, (unhide K).toBelow⟩

end Go.Proofs.YtkifpodnljlhiaaDoor
