/-
  The walk of the law FnPlains: it returns true at every code.
-/
import Derived.Test.YtckolgaalkohlaaDoorLPlA
namespace Go.Proofs.YtckolgaalkohlaaDoor
open Go.RowKit
set_option linter.unusedVariables false
set_option maxRecDepth 8000
set_option linter.unusedSimpArgs false

set_option maxHeartbeats 8000000 in
theorem law_Plains {v : Value} {zs : List Int} {w : World} (r : Row .u8 false 0 w.heap.size w v zs) (hb0 : ∀ z ∈ zs, (Lit.int .u8 z).wf = true) (T : Tab w) :
    Calls Tryd.prog 3 #[v] w fun e w' => e = .returned (.bool true) ∧ Below w.heap.size w w' := by
  have hb := bytes_of_wf hb0
  clear hb0
  have hB := hide hb
  clear hb
  have HT := hide T
  clear T
  have s0 : w.heap.size = w.heap.size := rfl
  obtain ⟨a0, c0, hv⟩ := r.form'
  subst hv
  have K := hide (Kept.refl 0 0 w)
  have S0 := hide s0
  clear s0
  go_enter Tryd.func3, Tryd.ntmps3
  go_wp2_with fail
  refine (drawPlain_any _ r (unhide hB)).mono ?_
  rintro e w1 ⟨v1, bs, rfl, r1, hbb, hlb, k1⟩
  replace r := r.kept k1 (.inr (.inr (Nat.le_refl 0)))
  replace K := hide ((unhide K).trans k1)
  have z2 := k1.size
  clear k1
  have HBB := hide hbb
  clear hbb
  obtain ⟨a1, c1, hv⟩ := Row.form' r1
  subst hv
  go_wp2_with fail
  have mk := plain_impl w1 r1 (unhide HBB) ((unhide HT).kept (unhide K) (.inr (Nat.le_refl 0)))
  obtain ⟨PX, hP⟩ : ∃ y, pln bs = y := ⟨_, rfl⟩
  rw [show plainL (runes bs) = PX from hP] at mk
  have HP := hide hP
  clear hP
  refine (mk).mono ?_
  rintro e w3 ⟨v2, rfl, r2, k3⟩
  replace r := r.kept k3 (.inr (.inr (Nat.le_refl 0)))
  replace r1 := r1.kept k3 (.inr (.inr (Nat.le_refl 0)))
  replace K := hide ((unhide K).trans k3)
  have z4 := k3.size
  clear k3
  clear mk
  obtain ⟨a2, c2, hv⟩ := Row.form' r2
  subst hv
  by_cases h1 : 400 < PX.length
  · have h1' : (400 : Int) < (PX.length : Int) := by omega
    have h2' : (bs.length : Int) ≤ 400 := by
      rcases Nat.lt_or_ge 400 bs.length with h | h
      · rw [← unhide HP, pln_long h] at h1; simp at h1
      · omega
    try go_wp2_with fail
    go_ret
    exact ⟨rfl, (unhide K).toBelow⟩
  have h1' : ¬ (400 : Int) < (PX.length : Int) := by omega
  by_cases h2 : 400 < bs.length
  · have h2' : (400 : Int) < (bs.length : Int) := by omega
    have hp0 : PX = [] := by rw [← unhide HP]; exact pln_long h2
    subst hp0
    try go_wp2_with fail
    go_ret
    exact ⟨rfl, (unhide K).toBelow⟩
  have h2' : ¬ (400 : Int) < (bs.length : Int) := by omega
  go_wp2_with fail
  refine (drawWR_any _ r (unhide hB)).mono ?_
  rintro e w5 ⟨v3, ts, rfl, r3, hbt, k5⟩
  replace r := r.kept k5 (.inr (.inr (Nat.le_refl 0)))
  replace r1 := r1.kept k5 (.inr (.inr (Nat.le_refl 0)))
  replace r2 := r2.kept k5 (.inr (.inr (Nat.le_refl 0)))
  replace K := hide ((unhide K).trans k5)
  have z6 := k5.size
  clear k5
  clear r
  have HBT := hide hbt
  clear hbt
  obtain ⟨a3, c3, hv⟩ := Row.form' r3
  subst hv
  go_wp2_with fail
  have mk := wRead_impl w5 r3 (unhide HBT) ((unhide HT).kept (unhide K) (.inr (Nat.le_refl 0)))
  obtain ⟨AB, hAB⟩ : ∃ y, ansWB (wrC ts) (wrX ts) = y := ⟨_, rfl⟩
  obtain ⟨AS, hAS⟩ : ∃ y, ansWS (wrC ts) (wrX ts) = y := ⟨_, rfl⟩
  obtain ⟨AL, hAL⟩ : ∃ y, ansWL (wrC ts) (wrX ts) = y := ⟨_, rfl⟩
  rw [hAB, hAS, hAL] at mk
  have HA := hide (And.intro hAB (And.intro hAS hAL))
  clear hAB hAS hAL
  refine (mk).mono ?_
  rintro e w7 ⟨v4, rfl, r4, k7⟩
  replace r1 := r1.kept k7 (.inr (.inr (Nat.le_refl 0)))
  replace r2 := r2.kept k7 (.inr (.inr (Nat.le_refl 0)))
  replace r3 := r3.kept k7 (.inr (.inr (Nat.le_refl 0)))
  replace K := hide ((unhide K).trans k7)
  have z8 := k7.size
  clear k7
  clear mk
  obtain ⟨a4, c4, hv⟩ := Row.form' r4
  subst hv
  have kn := (Kept.refl 0 0 w7).alloc (.cells #[.bool AS, .slice a4 AL.length c4] 28)
  have cx0 : (w7.alloc (.cells #[.bool AS, .slice a4 AL.length c4] 28)).cell? ⟨w7.heap.size, 0, none⟩ = some (.bool AS) := new_cell2 _ _ _ _ _ _ (by simp) rfl
  have cx1 : (w7.alloc (.cells #[.bool AS, .slice a4 AL.length c4] 28)).cell? ⟨w7.heap.size, 1, none⟩ = some (.slice a4 AL.length c4) := new_cell2 _ _ _ _ _ _ (by simp) rfl
  have sz9 : w7.heap.size + 1 ≤ (w7.alloc (.cells #[.bool AS, .slice a4 AL.length c4] 28)).heap.size := by simp
  replace r1 := r1.kept kn (.inr (.inr (Nat.le_refl 0)))
  replace r2 := r2.kept kn (.inr (.inr (Nat.le_refl 0)))
  replace r3 := r3.kept kn (.inr (.inr (Nat.le_refl 0)))
  replace r4 := r4.kept kn (.inr (.inr (Nat.le_refl 0)))
  replace K := hide ((unhide K).trans kn)
  have z10 := kn.size
  clear kn
  go_wp2_with fail
  generalize (w7.alloc (.cells #[.bool AS, .slice a4 AL.length c4] 28)) = wn11 at *
  have mk := plain_impl wn11 r3 (unhide HBT) ((unhide HT).kept (unhide K) (.inr (Nat.le_refl 0)))
  rw [show plainL (runes ts) = pln ts from rfl] at mk
  refine (mk).mono ?_
  rintro e w12 ⟨v5, rfl, r5, k12⟩
  replace r1 := r1.kept k12 (.inr (.inr (Nat.le_refl 0)))
  replace r2 := r2.kept k12 (.inr (.inr (Nat.le_refl 0)))
  replace r3 := r3.kept k12 (.inr (.inr (Nat.le_refl 0)))
  replace r4 := r4.kept k12 (.inr (.inr (Nat.le_refl 0)))
  replace cx0 := k12.cell0 cx0
  replace cx1 := k12.cell0 cx1
  replace K := hide ((unhide K).trans k12)
  have z13 := k12.size
  clear k12
  clear mk
  obtain ⟨a5, c5, hv⟩ := Row.form' r5
  subst hv
  go_wp2_with fail
  have mk := wRead_impl w12 r5 (fun z hz => pln_byte ts z hz) ((unhide HT).kept (unhide K) (.inr (Nat.le_refl 0)))
  rw [(wr_plain (unhide HBT)).1, (wr_plain (unhide HBT)).2.1, (wr_plain (unhide HBT)).2.2, (unhide HA).1, (unhide HA).2.1, (unhide HA).2.2] at mk
  refine (mk).mono ?_
  rintro e w14 ⟨v6, rfl, r6, k14⟩
  replace r1 := r1.kept k14 (.inr (.inr (Nat.le_refl 0)))
  replace r2 := r2.kept k14 (.inr (.inr (Nat.le_refl 0)))
  replace r3 := r3.kept k14 (.inr (.inr (Nat.le_refl 0)))
  replace r4 := r4.kept k14 (.inr (.inr (Nat.le_refl 0)))
  replace r5 := r5.kept k14 (.inr (.inr (Nat.le_refl 0)))
  replace cx0 := k14.cell0 cx0
  replace cx1 := k14.cell0 cx1
  replace K := hide ((unhide K).trans k14)
  have z15 := k14.size
  clear k14
  clear mk
  obtain ⟨a6, c6, hv⟩ := Row.form' r6
  subst hv
  clear r3 r5
  have kn := (Kept.refl 0 0 w14).alloc (.cells #[.bool AS, .slice a6 AL.length c6] 28)
  have cy0 : (w14.alloc (.cells #[.bool AS, .slice a6 AL.length c6] 28)).cell? ⟨w14.heap.size, 0, none⟩ = some (.bool AS) := new_cell2 _ _ _ _ _ _ (by simp) rfl
  have cy1 : (w14.alloc (.cells #[.bool AS, .slice a6 AL.length c6] 28)).cell? ⟨w14.heap.size, 1, none⟩ = some (.slice a6 AL.length c6) := new_cell2 _ _ _ _ _ _ (by simp) rfl
  have sz16 : w14.heap.size + 1 ≤ (w14.alloc (.cells #[.bool AS, .slice a6 AL.length c6] 28)).heap.size := by simp
  replace r1 := r1.kept kn (.inr (.inr (Nat.le_refl 0)))
  replace r2 := r2.kept kn (.inr (.inr (Nat.le_refl 0)))
  replace r4 := r4.kept kn (.inr (.inr (Nat.le_refl 0)))
  replace r6 := r6.kept kn (.inr (.inr (Nat.le_refl 0)))
  replace cx0 := kn.cell0 cx0
  replace cx1 := kn.cell0 cx1
  replace K := hide ((unhide K).trans kn)
  have z17 := kn.size
  clear kn
  go_wp2_with fail
  generalize (w14.alloc (.cells #[.bool AS, .slice a6 AL.length c6] 28)) = wn18 at *
  have hbp : Bytes PX := by rw [← unhide HP]; exact fun z hz => pln_byte bs z hz
  have HBP := hide hbp
  clear hbp
  have mk := runes_impl wn18 r2 (unhide HBP)
  have hrp : runes PX = (runes bs).map pr := by rw [← unhide HP]; exact runes_pln (unhide HBB) (by rw [unhide HP]; omega)
  obtain ⟨RX, hRX⟩ : ∃ y, runes PX = y := ⟨_, rfl⟩
  rw [hRX] at mk hrp
  have HR : Hid (∀ i, i < RX.length → (0 ≤ dig (RX.getD i 0) → RX.getD i 0 ≤ 57) ∧ (blankB (RX.getD i 0) = true → RX.getD i 0 = 32) ∧ (sgn (RX.getD i 0) ≠ 0 → RX.getD i 0 ≤ 45)) := by
    intro i hi
    have hm : RX.getD i 0 ∈ RX := getD_in hi
    have hm2 : RX.getD i 0 ∈ (runes bs).map pr := by rw [← hrp]; exact hm
    obtain ⟨y, -, hy⟩ := List.mem_map.1 hm2
    rw [← hy]
    exact pr_loop y
  clear hRX hrp
  refine (mk).mono ?_
  rintro e w19 ⟨v7, rfl, r7, k19⟩
  replace r1 := r1.kept k19 (.inr (.inr (Nat.le_refl 0)))
  replace r2 := r2.kept k19 (.inr (.inr (Nat.le_refl 0)))
  replace r4 := r4.kept k19 (.inr (.inr (Nat.le_refl 0)))
  replace r6 := r6.kept k19 (.inr (.inr (Nat.le_refl 0)))
  replace cx0 := k19.cell0 cx0
  replace cx1 := k19.cell0 cx1
  replace cy0 := k19.cell0 cy0
  replace cy1 := k19.cell0 cy1
  replace K := hide ((unhide K).trans k19)
  have z20 := k19.size
  clear k19
  clear mk
  obtain ⟨a7, c7, hv⟩ := Row.form' r7
  subst hv
  go_wp2_with fail
  have hm7 := r7.len
  unfold maxLen at hm7
  have T7 := hide ((unhide HT).kept (unhide K) (.inr (Nat.le_refl 0)))
  have HAT := hide (row_cell r7).2.2.2
  go_loopw [11] (fun ii wr => ∃ i : Nat, ii = .int .i64 i ∧ i ≤ RX.length ∧ wr = w19) (fun ii _ => RX.length - (intOf ii).toNat)
  case atStart => exact ⟨0, rfl, Nat.zero_le _, rfl⟩
  case round =>
    obtain ⟨i, rfl, hi, rfl⟩ := hrel
    by_cases hlt : i < RX.length
    · have hlt' : (i : Int) < (RX.length : Int) := by omega
      obtain ⟨gx, ox, hvx, xx⟩ := unhide HAT i hlt
      cases hvx
      obtain ⟨f1, f2, f3⟩ := unhide HR i hlt
      obtain ⟨z, hz⟩ : ∃ y, RX.getD i 0 = y := ⟨_, rfl⟩
      rw [hz] at xx f1 f2 f3
      clear hz
      have hgg : ∀ (a b : Bool), a = b → True := fun _ _ _ => trivial
      clear hgg
      obtain ⟨dz, hdz⟩ : ∃ y, dig z = y := ⟨_, rfl⟩
      obtain ⟨bz, hbz⟩ : ∃ y, blankB z = y := ⟨_, rfl⟩
      obtain ⟨sz, hsz⟩ : ∃ y, sgn z = y := ⟨_, rfl⟩
      have m1 := digit_impl z wr (unhide T7)
      have m2 := blank_impl z wr
      have m3 := sign_impl z wr
      rw [hdz] at m1 f1
      rw [hbz] at m2 f2
      rw [hsz] at m3 f3
      clear hdz hbz hsz
      go_wp2_with fail
      refine m1.mono ?_
      rintro e wq ⟨rfl, hq⟩
      subst hq
      by_cases hd0 : 0 ≤ dz
      · have e57 : ¬ (57 : Int) < z := by have := f1 hd0; omega
        go_wp2_with fail
        refine m2.mono ?_
        rintro e wq ⟨rfl, hq⟩
        subst hq
        cases bz
        · go_wp2_with fail
          refine m3.mono ?_
          rintro e wq ⟨rfl, hq⟩
          subst hq
          by_cases hs0 : sz = 0
          · subst hs0
            go_wp2_with fail
            go_roundw
            case rel => first | exact ⟨i + 1, by go_num, by omega, rfl⟩ | exact ⟨i + 1, by go_num, by omega⟩ | exact ⟨i + 1, by go_num, by omega, trivial⟩
            case measure => simp [intOf]; omega
          have es : (sz == 0) = false := beq_eq_false_iff_ne.2 hs0
          have e45 : ¬ (45 : Int) < z := by have := f3 hs0; omega
          go_wp2_with fail
          go_roundw
          case rel => first | exact ⟨i + 1, by go_num, by omega, rfl⟩ | exact ⟨i + 1, by go_num, by omega⟩ | exact ⟨i + 1, by go_num, by omega, trivial⟩
          case measure => simp [intOf]; omega
        · have e32 := f2 rfl
          subst e32
          go_wp2_with fail
          refine m3.mono ?_
          rintro e wq ⟨rfl, hq⟩
          subst hq
          by_cases hs0 : sz = 0
          · subst hs0
            go_wp2_with fail
            go_roundw
            case rel => first | exact ⟨i + 1, by go_num, by omega, rfl⟩ | exact ⟨i + 1, by go_num, by omega⟩ | exact ⟨i + 1, by go_num, by omega, trivial⟩
            case measure => simp [intOf]; omega
          have es : (sz == 0) = false := beq_eq_false_iff_ne.2 hs0
          have e45 : ¬ (45 : Int) < 32 := by have := f3 hs0; omega
          go_wp2_with fail
          go_roundw
          case rel => first | exact ⟨i + 1, by go_num, by omega, rfl⟩ | exact ⟨i + 1, by go_num, by omega⟩ | exact ⟨i + 1, by go_num, by omega, trivial⟩
          case measure => simp [intOf]; omega
      have hd0' : ¬ (0 : Int) ≤ dz := hd0
      go_wp2_with fail
      refine m2.mono ?_
      rintro e wq ⟨rfl, hq⟩
      subst hq
      cases bz
      · go_wp2_with fail
        refine m3.mono ?_
        rintro e wq ⟨rfl, hq⟩
        subst hq
        by_cases hs0 : sz = 0
        · subst hs0
          go_wp2_with fail
          go_roundw
          case rel => first | exact ⟨i + 1, by go_num, by omega, rfl⟩ | exact ⟨i + 1, by go_num, by omega⟩ | exact ⟨i + 1, by go_num, by omega, trivial⟩
          case measure => simp [intOf]; omega
        have es : (sz == 0) = false := beq_eq_false_iff_ne.2 hs0
        have e45 : ¬ (45 : Int) < z := by have := f3 hs0; omega
        go_wp2_with fail
        go_roundw
        case rel => first | exact ⟨i + 1, by go_num, by omega, rfl⟩ | exact ⟨i + 1, by go_num, by omega⟩ | exact ⟨i + 1, by go_num, by omega, trivial⟩
        case measure => simp [intOf]; omega
      · have e32 := f2 rfl
        subst e32
        go_wp2_with fail
        refine m3.mono ?_
        rintro e wq ⟨rfl, hq⟩
        subst hq
        by_cases hs0 : sz = 0
        · subst hs0
          go_wp2_with fail
          go_roundw
          case rel => first | exact ⟨i + 1, by go_num, by omega, rfl⟩ | exact ⟨i + 1, by go_num, by omega⟩ | exact ⟨i + 1, by go_num, by omega, trivial⟩
          case measure => simp [intOf]; omega
        have es : (sz == 0) = false := beq_eq_false_iff_ne.2 hs0
        have e45 : ¬ (45 : Int) < 32 := by have := f3 hs0; omega
        go_wp2_with fail
        go_roundw
        case rel => first | exact ⟨i + 1, by go_num, by omega, rfl⟩ | exact ⟨i + 1, by go_num, by omega⟩ | exact ⟨i + 1, by go_num, by omega, trivial⟩
        case measure => simp [intOf]; omega
    · have hlt' : ¬ (i : Int) < (RX.length : Int) := by omega
      clear HAT
      go_wp2_with fail
      have mk := plain_impl wr r2 (unhide HBP) ((unhide HT).kept (unhide K) (.inr (Nat.le_refl 0)))
      rw [show plainL (runes PX) = PX by (have e := pln_pln (unhide HBB) (by rw [unhide HP]; omega)); rw [unhide HP] at e; exact e] at mk
      refine (mk).mono ?_
      rintro e w21 ⟨v8, rfl, r8, k21⟩
      replace r1 := r1.kept k21 (.inr (.inr (Nat.le_refl 0)))
      replace r2 := r2.kept k21 (.inr (.inr (Nat.le_refl 0)))
      replace r4 := r4.kept k21 (.inr (.inr (Nat.le_refl 0)))
      replace r6 := r6.kept k21 (.inr (.inr (Nat.le_refl 0)))
      replace r7 := r7.kept k21 (.inr (.inr (Nat.le_refl 0)))
      replace cx0 := k21.cell0 cx0
      replace cx1 := k21.cell0 cx1
      replace cy0 := k21.cell0 cy0
      replace cy1 := k21.cell0 cy1
      replace K := hide ((unhide K).trans k21)
      have z22 := k21.size
      clear k21
      clear mk
      obtain ⟨a8, c8, hv⟩ := Row.form' r8
      subst hv
      go_wp2_with fail
      have mo := sameBytes_same w21 r8 r2
      refine (mo).mono ?_
      rintro e w23 ⟨rfl, k23⟩
      replace r1 := r1.kept k23 (.inr (.inr (Nat.le_refl 0)))
      replace r2 := r2.kept k23 (.inr (.inr (Nat.le_refl 0)))
      replace r4 := r4.kept k23 (.inr (.inr (Nat.le_refl 0)))
      replace r6 := r6.kept k23 (.inr (.inr (Nat.le_refl 0)))
      replace r7 := r7.kept k23 (.inr (.inr (Nat.le_refl 0)))
      replace r8 := r8.kept k23 (.inr (.inr (Nat.le_refl 0)))
      replace cx0 := k23.cell0 cx0
      replace cx1 := k23.cell0 cx1
      replace cy0 := k23.cell0 cy0
      replace cy1 := k23.cell0 cy1
      replace K := hide ((unhide K).trans k23)
      have z24 := k23.size
      clear k23
      clear mo
      have eAB : (AB == AB) = true := by cases AB <;> rfl
      go_wp2_with fail
      have mo := sameWhole_same AS w23 r4 r6
      refine (mo).mono ?_
      rintro e w25 ⟨rfl, k25⟩
      replace r1 := r1.kept k25 (.inr (.inr (Nat.le_refl 0)))
      replace r2 := r2.kept k25 (.inr (.inr (Nat.le_refl 0)))
      replace r4 := r4.kept k25 (.inr (.inr (Nat.le_refl 0)))
      replace r6 := r6.kept k25 (.inr (.inr (Nat.le_refl 0)))
      replace r7 := r7.kept k25 (.inr (.inr (Nat.le_refl 0)))
      replace r8 := r8.kept k25 (.inr (.inr (Nat.le_refl 0)))
      replace cx0 := k25.cell0 cx0
      replace cx1 := k25.cell0 cx1
      replace cy0 := k25.cell0 cy0
      replace cy1 := k25.cell0 cy1
      replace K := hide ((unhide K).trans k25)
      have z26 := k25.size
      clear k25
      clear mo
      go_wp2_with fail
      have mo := digit_impl 1634 w25 ((unhide HT).kept (unhide K) (.inr (Nat.le_refl 0)))
      rw [show dig 1634 = 2 by decide] at mo
      refine mo.mono ?_
      rintro e wq ⟨rfl, hq⟩
      subst hq
      clear mo
      try go_wp2_with fail
      go_ret
      exact ⟨rfl, (unhide K).toBelow⟩

end Go.Proofs.YtckolgaalkohlaaDoor
