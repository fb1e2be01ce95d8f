/-
  Contracts that the proofs of this seat share: Dy8, Dy9, DyR, Fl1, FlNm.
-/
import Derived.Test.YtepehpkmejjhiaaGreatDoorDy7
import Derived.Test.YtepehpkmejjhiaaGreatDoorBR
import Derived.Test.YtepehpkmejjhiaaGreatDoorBA
import Derived.Test.YtepehpkmejjhiaaGreatDoorChecked
import Derived.WalkSpells
import Derived.WalkLawsBesides
namespace Go.Proofs.YtepehpkmejjhiaaGreatDoor
open Go.RowKit
set_option linter.unusedVariables false
set_option maxRecDepth 8000
set_option linter.unusedSimpArgs false

theorem wval_lt {s : Bool} {zs : List Int} (h : Lim zs) : (wval s zs).natAbs < 2 ^ (16 * zs.length) := by
  rw [wval_abs h]
  have h1 := val_lt h
  have h2 := val_nonneg h
  rw [pow_limb] at h1
  omega
def modeB (mode : Int) : Bool := decide (0 ≤ mode) && decide (mode ≤ 4)
theorem new_half {w : World} {b : Nat} {u : Value} {xs : List Int} (s : Bool) (low : Int) (mo : Bool) (t : TypeId) (O : OwnA b w u xs) :
    Wrk b (w.alloc (.cells #[u, .bool s, .int .i64 low, .bool mo] t)) w.heap.size u xs ∧ Sd (w.alloc (.cells #[u, .bool s, .int .i64 low, .bool mo] t)) w.heap.size s ∧ Ex (w.alloc (.cells #[u, .bool s, .int .i64 low, .bool mo] t)) w.heap.size low ∧ Mo (w.alloc (.cells #[u, .bool s, .int .i64 low, .bool mo] t)) w.heap.size mo :=
  ⟨⟨new_cell2 _ _ _ _ _ _ rfl rfl, new_loose2 _ _ _ _ _ rfl, O.kept ((Kept.refl 0 0 w).alloc _), fun e => by have := (O.lt e).2; omega⟩, ⟨new_cell2 _ _ _ _ _ _ rfl rfl, new_loose2 _ _ _ _ _ rfl⟩, ⟨new_cell2 _ _ _ _ _ _ rfl rfl, new_loose2 _ _ _ _ _ rfl⟩, ⟨new_cell2 _ _ _ _ _ _ rfl rfl, new_loose2 _ _ _ _ _ rfl⟩⟩
theorem new_dyaA {w : World} {b : Nat} {u : Value} {xs : List Int} (s : Bool) (x : Int) (t : TypeId) (O : OwnA b w u xs) :
    Wrk b (w.alloc (.cells #[u, .bool s, .int .i64 x] t)) w.heap.size u xs ∧ Sd (w.alloc (.cells #[u, .bool s, .int .i64 x] t)) w.heap.size s ∧ Ex (w.alloc (.cells #[u, .bool s, .int .i64 x] t)) w.heap.size x :=
  ⟨⟨new_cell2 _ _ _ _ _ _ rfl rfl, new_loose2 _ _ _ _ _ rfl, O.kept ((Kept.refl 0 0 w).alloc _), fun e => by have := (O.lt e).2; omega⟩, ⟨new_cell2 _ _ _ _ _ _ rfl rfl, new_loose2 _ _ _ _ _ rfl⟩, ⟨new_cell2 _ _ _ _ _ _ rfl rfl, new_loose2 _ _ _ _ _ rfl⟩⟩
set_option maxHeartbeats 2000000 in
theorem mode_spec (x : Int) (w : World) :
    Calls Tryz.prog 103 #[.int .i64 x] w fun e w' => e = .returned (.bool (modeB x)) ∧ w' = w := by
  have HB : Hid (modeB x = (decide (0 ≤ x) && decide (x ≤ 4))) := rfl
  generalize modeB x = Q at *
  go_enter Tryz.func103, Tryz.ntmps103
  by_cases h1 : 0 ≤ x
  rotate_left
  · have hd : decide (0 ≤ x) = false := decide_eq_false h1
    go_wp2_with fail
    go_ret
    exact ⟨by rw [unhide HB, hd]; rfl, rfl⟩
  have hd : decide (0 ≤ x) = true := decide_eq_true h1
  go_wp2_with fail
  go_ret
  exact ⟨by rw [unhide HB, hd]; rfl, rfl⟩

set_option maxHeartbeats 2000000 in
theorem isMode_impl (x : Int) (w : World) :
    Calls Tryz.prog 35 #[.int .i64 x] w fun e w' => e = .returned (.bool (modeB x)) ∧ w' = w := by
  have HB : Hid (modeB x = (decide (0 ≤ x) && decide (x ≤ 4))) := rfl
  generalize modeB x = Q at *
  go_enter Tryz.func35, Tryz.ntmps35
  by_cases h1 : 0 ≤ x
  rotate_left
  · have hd : decide (0 ≤ x) = false := decide_eq_false h1
    go_wp2_with fail
    go_ret
    exact ⟨by rw [unhide HB, hd]; rfl, rfl⟩
  have hd : decide (0 ≤ x) = true := decide_eq_true h1
  go_wp2_with fail
  go_ret
  exact ⟨by rw [unhide HB, hd]; rfl, rfl⟩


/-- A float as it is handed over. -/
abbrev flv (k : Int) (n : Bool) (m e : Int) : Value := .agg #[.int .i64 k, .bool n, .int .i64 m, .int .i64 e]

/-- Its cells. -/
abbrev flc (k : Int) (n : Bool) (m e : Int) (t : TypeId) : Obj := .cells #[.int .i64 k, .bool n, .int .i64 m, .int .i64 e] t

/-- Whether it is one. -/
def flok (k : Int) (n : Bool) (m e : Int) : Bool :=
  if k = 1 then decide (-1074 ≤ e ∧ e ≤ 971 ∧ 1 ≤ m ∧ m ≤ 9007199254740991 ∧ (4503599627370496 ≤ m ∨ e = -1074))
  else if k = 0 ∨ k = 2 then decide (m = 0 ∧ e = 0) else if k = 3 then decide (m = 0 ∧ e = 0 ∧ n = false) else false

theorem flok_ways {k : Int} {n : Bool} {m e : Int} (h : flok k n m e = true) :
    (k = 1 ∧ -1074 ≤ e ∧ e ≤ 971 ∧ 1 ≤ m ∧ m ≤ 9007199254740991 ∧ (4503599627370496 ≤ m ∨ e = -1074)) ∨ (k = 0 ∧ m = 0 ∧ e = 0) ∨ (k = 2 ∧ m = 0 ∧ e = 0) ∨ (k = 3 ∧ m = 0 ∧ e = 0 ∧ n = false) := by
  unfold flok at h
  split at h
  · simp at h; exact .inl ⟨by assumption, h⟩
  split at h
  · rename_i h1; simp at h; rcases h1 with h1 | h1
    · exact .inr (.inl ⟨h1, h⟩)
    · exact .inr (.inr (.inl ⟨h1, h⟩))
  split at h
  · simp at h; exact .inr (.inr (.inr ⟨by assumption, h⟩))
  · cases h

set_option maxHeartbeats 400000 in
theorem flok_spec (k : Int) (n : Bool) (m e : Int) (w : World) :
    Calls Tryz.prog 7 #[flv k n m e] w fun r w' => r = .returned (.bool (flok k n m e)) ∧ w' = w.alloc (flc k n m e 24) := by
  go_enter Tryz.func7, Tryz.ntmps7
  go_wp2
  all_goals (go_ret; refine ⟨?_, by simp_all⟩; congr 2; unfold flok; simp_all <;> first | omega | grind)

set_option maxHeartbeats 400000 in
theorem flok_impl (k : Int) (n : Bool) (m e : Int) (w : World) :
    Calls Tryz.prog 34 #[flv k n m e] w fun r w' => r = .returned (.bool (flok k n m e)) ∧ w' = w.alloc (flc k n m e 24) := by
  go_enter Tryz.func34, Tryz.ntmps34
  go_wp2
  all_goals (go_ret; refine ⟨?_, by simp_all⟩; congr 2; unfold flok; simp_all <;> first | omega | grind)

theorem flok_spec_eq {k : Int} {n : Bool} {m e : Int} {b : Bool} (h : flok k n m e = b) (w : World) :
    Calls Tryz.prog 7 #[flv k n m e] w fun r w' => r = .returned (.bool b) ∧ w' = w.alloc (flc k n m e 24) := by
  subst h
  exact flok_spec k n m e w

theorem flok_impl_eq {k : Int} {n : Bool} {m e : Int} {b : Bool} (h : flok k n m e = b) (w : World) :
    Calls Tryz.prog 34 #[flv k n m e] w fun r w' => r = .returned (.bool b) ∧ w' = w.alloc (flc k n m e 24) := by
  subst h
  exact flok_impl k n m e w

set_option maxHeartbeats 400000 in
theorem toFl_any (k : Int) (n : Bool) (m e : Int) (w : World) :
    Calls Tryz.prog 25 #[flv k n m e] w fun r w' => r = .returned (flv k n m e) ∧ w' = ((w.alloc (flc k n m e 52)).alloc (flc k n m e 24)).alloc (flc k n m e 24) := by
  go_enter Tryz.func25, Tryz.ntmps25
  go_wp2
  first
    | (go_ret; exact ⟨rfl, rfl⟩)
    | exact bodyPost_ret (v := flv k n m e) (by simp [results, Tryz.results25, go_sem]) rfl ⟨rfl, rfl⟩

set_option maxHeartbeats 400000 in
theorem eqFl_same (k : Int) (n : Bool) (m e : Int) (w : World) :
    Calls Tryz.prog 26 #[flv k n m e, flv k n m e] w fun r w' => r = .returned (.bool true) ∧ w' = (w.alloc (flc k n m e 24)).alloc (flc k n m e 24) := by
  go_enter Tryz.func26, Tryz.ntmps26
  go_wp2
  go_ret
  exact ⟨rfl, rfl⟩


/-- Whether what is beyond floats becomes the greatest one. -/
def flOv (mode : Int) (s : Bool) : Bool := (mode == 1) || ((mode == 2) && s) || ((mode == 3) && !s)
def flTop (V : Nat) (x : Int) : Int := x + (bitsN V : Int)
def flLow (V : Nat) (x : Int) : Int := max (flTop V x - 53) (-1074)
def flH (V : Nat) (x : Int) : Nat := scN V (x - (flLow V x - 1))
def flL (V : Nat) (x : Int) : Bool := scL V (x - (flLow V x - 1))
def flR (mode : Nat) (s : Bool) (V : Nat) (x : Int) : Nat := rndN mode s (flH V x) (flL V x)
def flX (V : Nat) (x : Int) : Bool := rndX (flH V x) (flL V x)
def flF (V : Nat) (x : Int) : Int := if flX V x = true then 0 else if flTop V x ≤ -1022 then 5 else 1
/-- A multiple R of 2^low as a float: its kind, M and E. -/
def flI (R : Nat) (low : Int) : Int × Int × Int := if R = 0 then (0, 0, 0) else if 53 < bitsN R then (1, ((R / 2 : Nat) : Int), low + 1) else (1, (R : Int), low)
def flO (mode : Int) (s : Bool) : Int × Int × Int := if flOv mode s = true then (1, 9007199254740991, 971) else (2, 0, 0)
/-- The float of a number: its kind, M and E. -/
def flA (mode : Int) (s : Bool) (V : Nat) (x : Int) : Int × Int × Int :=
  if V = 0 then (0, 0, 0) else if 1024 < topI (limbs (flR mode.toNat s V x)) (flLow V x) then flO mode s else flI (flR mode.toNat s V x) (flLow V x)
/-- Its flags. -/
def flG (mode : Int) (s : Bool) (V : Nat) (x : Int) : Int :=
  if V = 0 then 0 else if 1024 < topI (limbs (flR mode.toNat s V x)) (flLow V x) then 3 else flF V x

theorem bits_lt (V : Nat) : V < 2 ^ bitsN V := (bitsN_le V _).1 (Nat.le_refl _)
theorem bits_ge {V : Nat} (h : V ≠ 0) : 2 ^ (bitsN V - 1) ≤ V := by
  rcases Nat.lt_or_ge V (2 ^ (bitsN V - 1)) with h1 | h1
  · have := (bitsN_le V _).2 h1
    have : bitsN V ≠ 0 := by
      intro e
      have := (bitsN_le V 0).1 (by omega)
      omega
    omega
  · exact h1
theorem bits_pos {V : Nat} (h : V ≠ 0) : 0 < bitsN V := by
  rcases Nat.eq_zero_or_pos (bitsN V) with e | e
  · have := (bitsN_le V 0).1 (by omega)
    omega
  · exact e
theorem bits_shift {V : Nat} (h : V ≠ 0) (k : Nat) : bitsN (V * 2 ^ k) = bitsN V + k := by
  have h1 := bits_lt V
  have h2 := bits_ge h
  have h3 := bits_pos h
  apply bitsN_unique
  · rw [Nat.pow_add]; exact Nat.mul_lt_mul_of_pos_right h1 (Nat.pow_pos (by decide))
  · right
    rw [show bitsN V + k - 1 = (bitsN V - 1) + k by omega, Nat.pow_add]
    exact Nat.mul_le_mul_right _ h2
theorem scN_lt {V : Nat} {k : Int} (n : Nat) (h : (bitsN V : Int) + k ≤ n) : scN V k < 2 ^ n := by
  have h1 := bits_lt V
  by_cases hk : 0 ≤ k
  · obtain ⟨K, rfl⟩ : ∃ K : Nat, k = K := ⟨k.toNat, by omega⟩
    rw [scN_up]
    calc V * 2 ^ K < 2 ^ bitsN V * 2 ^ K := Nat.mul_lt_mul_of_pos_right h1 (Nat.pow_pos (by decide))
      _ = 2 ^ (bitsN V + K) := (Nat.pow_add _ _ _).symm
      _ ≤ 2 ^ n := Nat.pow_le_pow_right (by decide) (by omega)
  · obtain ⟨K, rfl⟩ : ∃ K : Nat, k = -(K : Int) := ⟨(-k).toNat, by omega⟩
    rw [scN_down _ _ (by omega)]
    refine Nat.div_lt_of_lt_mul ?_
    calc V < 2 ^ bitsN V := h1
      _ ≤ 2 ^ (K + n) := Nat.pow_le_pow_right (by decide) (by omega)
      _ = 2 ^ K * 2 ^ n := Nat.pow_add _ _ _
theorem scN_ge {V : Nat} (hV : V ≠ 0) {k : Int} (n : Nat) (h : (bitsN V : Int) + k = (n : Int) + 1) : 2 ^ n ≤ scN V k := by
  have h1 := bits_ge hV
  have h2 := bits_pos hV
  by_cases hk : 0 ≤ k
  · obtain ⟨K, rfl⟩ : ∃ K : Nat, k = K := ⟨k.toNat, by omega⟩
    rw [scN_up]
    calc 2 ^ n = 2 ^ (bitsN V - 1 + K) := by congr 1; omega
      _ = 2 ^ (bitsN V - 1) * 2 ^ K := Nat.pow_add _ _ _
      _ ≤ V * 2 ^ K := Nat.mul_le_mul_right _ h1
  · obtain ⟨K, rfl⟩ : ∃ K : Nat, k = -(K : Int) := ⟨(-k).toNat, by omega⟩
    rw [scN_down _ _ (by omega)]
    refine (Nat.le_div_iff_mul_le (Nat.pow_pos (by decide))).2 ?_
    calc 2 ^ n * 2 ^ K = 2 ^ (n + K) := (Nat.pow_add _ _ _).symm
      _ = 2 ^ (bitsN V - 1) := by congr 1; omega
      _ ≤ V := h1
theorem flLow_ge (V : Nat) (x : Int) : -1074 ≤ flLow V x ∧ flTop V x - 53 ≤ flLow V x ∧ (flLow V x = -1074 ∨ flLow V x = flTop V x - 53) := by
  unfold flLow
  omega
theorem flH_lt (V : Nat) (x : Int) : flH V x < 2 ^ 54 := by
  unfold flH
  have := flLow_ge V x
  exact scN_lt 54 (by unfold flTop at this; omega)
theorem flR_le (mode : Nat) (s : Bool) (V : Nat) (x : Int) : flR mode s V x ≤ 2 ^ 53 := by
  have h := flH_lt V x
  unfold flR rndN
  have e : (2 : Nat) ^ 54 = 2 ^ 53 * 2 := by decide
  split <;> omega
theorem flR_ge (mode : Nat) (s : Bool) {V : Nat} (hV : V ≠ 0) {x : Int} (h : -1074 < flLow V x) : 2 ^ 52 ≤ flR mode s V x := by
  have h1 : 2 ^ 53 ≤ flH V x := by
    unfold flH
    have := flLow_ge V x
    exact scN_ge hV 53 (by unfold flTop at this; omega)
  unfold flR rndN
  have e : (2 : Nat) ^ 53 = 2 ^ 52 * 2 := by decide
  split <;> omega

theorem sc_shift (V k : Nat) (j : Int) : scN (V * 2 ^ k) j = scN V (j + k) ∧ scL (V * 2 ^ k) j = scL V (j + k) := by
  by_cases hj : 0 ≤ j
  · obtain ⟨J, rfl⟩ : ∃ J : Nat, j = J := ⟨j.toNat, by omega⟩
    rw [scN_up, scL_up, show (J : Int) + (k : Int) = ((J + k : Nat) : Int) by omega, scN_up, scL_up, Nat.mul_assoc, ← Nat.pow_add, Nat.add_comm k J]
    exact ⟨rfl, rfl⟩
  · obtain ⟨J, rfl⟩ : ∃ J : Nat, j = -(J : Int) := ⟨(-j).toNat, by omega⟩
    rw [scN_down _ _ (by omega), scL_down _ _ (by omega)]
    rcases Nat.lt_or_ge k J with h | h
    · obtain ⟨d, rfl⟩ : ∃ d, J = k + d := ⟨J - k, by omega⟩
      rw [show -((k + d : Nat) : Int) + (k : Int) = -(d : Int) by omega, scN_down _ _ (by omega), scL_down _ _ (by omega), Nat.pow_add]
      refine ⟨?_, ?_⟩
      · rw [Nat.mul_comm V, Nat.mul_div_mul_left _ _ (Nat.pow_pos (by decide))]
      · rw [Nat.mul_comm V, Nat.mul_mod_mul_left]
        apply decide_eq_decide.2
        have hp : 0 < 2 ^ k := Nat.pow_pos (by decide)
        constructor
        · intro h1 h2; apply h1; rw [h2]; simp
        · intro h1 h2
          rcases Nat.mul_eq_zero.1 h2 with h3 | h3
          · omega
          · exact h1 h3
    · obtain ⟨d, rfl⟩ : ∃ d, k = J + d := ⟨k - J, by omega⟩
      rw [show -(J : Int) + ((J + d : Nat) : Int) = (d : Int) by omega, scN_up, scL_up, Nat.pow_add]
      have e : V * (2 ^ J * 2 ^ d) = 2 ^ J * (V * 2 ^ d) := by rw [Nat.mul_left_comm]
      rw [e]
      refine ⟨Nat.mul_div_cancel_left _ (Nat.pow_pos (by decide)), ?_⟩
      rw [Nat.mul_mod_right]
      simp
/-- A number has one float, however it is written. -/
theorem fl_shift (mode : Int) (s : Bool) {V : Nat} (hV : V ≠ 0) (k : Nat) (x : Int) : flA mode s (V * 2 ^ k) x = flA mode s V (x + k) ∧ flG mode s (V * 2 ^ k) x = flG mode s V (x + k) := by
  have hne : V * 2 ^ k ≠ 0 := Nat.mul_ne_zero hV (Nat.ne_of_gt (Nat.pow_pos (by decide)))
  have ht : flTop (V * 2 ^ k) x = flTop V (x + k) := by unfold flTop; rw [bits_shift hV]; omega
  have hl : flLow (V * 2 ^ k) x = flLow V (x + k) := by unfold flLow; rw [ht]
  have e : x - (flLow V (x + k) - 1) + (k : Int) = x + k - (flLow V (x + k) - 1) := by omega
  have hH : flH (V * 2 ^ k) x = flH V (x + k) := by unfold flH; rw [hl, (sc_shift V k _).1, e]
  have hL : flL (V * 2 ^ k) x = flL V (x + k) := by unfold flL; rw [hl, (sc_shift V k _).2, e]
  have hR : flR mode.toNat s (V * 2 ^ k) x = flR mode.toNat s V (x + k) := by unfold flR; rw [hH, hL]
  have hF : flF (V * 2 ^ k) x = flF V (x + k) := by unfold flF flX; rw [hH, hL, ht]
  unfold flA flG
  rw [if_neg hne, if_neg hV, if_neg hne, if_neg hV, hR, hl, hF]
  exact ⟨rfl, rfl⟩
theorem topI_limbs {R : Nat} (h : R ≠ 0) (x : Int) : topI (limbs R) x = x + (bitsN R : Int) := by
  unfold topI
  rw [if_neg, limbs_val, Int.toNat_natCast]
  intro e
  have h1 := limbs_pos R
  rw [e, decide_eq_true (show 0 < R by omega)] at h1
  exact absurd (of_decide_eq_true h1.symm.symm) (by decide)
theorem topI_zero (x : Int) : topI (limbs 0) x = 0 := by unfold topI; rw [limbs_zero]; rfl

/-- What the model tells of a multiple R of 2^low. -/
theorem fl_fin {R : Nat} {low : Int} (h0 : R ≠ 0) (hR : R ≤ 2 ^ 53) (hl : -1074 ≤ low) (hg : -1074 < low → 2 ^ 52 ≤ R) (M : Int) (hM : M.natAbs = R) :
    topI (dlm M) (dex M low) = low + (bitsN R : Int) ∧
    ∀ e : Int, e = max (low + (bitsN R : Int) - 53) (-1074) → e ≤ dex M low ∧ flI R low = (1, (((val (dlm M)).toNat * 2 ^ (dex M low - e).toNat : Nat) : Int), e) := by
  have hMne : M ≠ 0 := by intro e; subst e; simp at hM; omega
  have hdx : dex M low = low + (tz R : Int) := by unfold dex; rw [if_neg hMne, hM]
  have hdl : dlm M = limbs (R / 2 ^ tz R) := by unfold dlm; rw [hM]
  obtain ⟨m, hm⟩ := tz_form h0
  have hq : R / 2 ^ tz R = 2 * m + 1 := by
    have hp : 0 < 2 ^ tz R := Nat.pow_pos (by decide)
    have : R / 2 ^ tz R = (2 ^ tz R * (2 * m + 1)) / 2 ^ tz R := by rw [← hm]
    rw [this, Nat.mul_div_cancel_left _ hp]
  have hb : bitsN R = bitsN (2 * m + 1) + tz R := by
    have := bits_shift (V := 2 * m + 1) (by omega) (tz R)
    rw [Nat.mul_comm, ← hm] at this
    exact this
  have hvl : (val (dlm M)).toNat = 2 * m + 1 := by rw [hdl, limbs_val, Int.toNat_natCast, hq]
  refine ⟨?_, fun e he => ?_⟩
  · rw [hdl, topI_limbs (by rw [hq]; omega), hdx, hq, hb]
    omega
  · have hbl : bitsN R ≤ 54 := (bitsN_le R 54).2 (Nat.lt_of_le_of_lt hR (by decide))
    by_cases h54 : 53 < bitsN R
    · have hRe : R = 2 ^ 53 := by
        have := bits_ge h0
        rw [show bitsN R - 1 = 53 by omega] at this
        omega
      have ht : tz R = 53 := by
        rw [hRe]
        have := tz_eq (trail_form (n := 2 ^ 53) (k := 53) (m := 0) (by decide))
        exact this.symm
      have hee : e = low + 1 := by omega
      have hm1 : 2 * m + 1 = 1 := by
        have : 2 ^ 53 * (2 * m + 1) = 2 ^ 53 * 1 := by rw [ht, hRe] at hm; omega
        exact Nat.eq_of_mul_eq_mul_left (by decide) this
      refine ⟨by rw [hdx]; omega, ?_⟩
      unfold flI
      rw [if_neg h0, if_pos h54, hvl, hm1, hdx, hee, ht, hRe, show (low + ((53 : Nat) : Int) - (low + 1)).toNat = 52 by omega]
    · have hee : e = low := by
        by_cases hlo : low = -1074
        · omega
        · have h1 := hg (by omega)
          have h2 : 53 ≤ bitsN R := by
            rcases Nat.lt_or_ge (bitsN R) 53 with h | h
            · have := (bitsN_le R 52).1 (by omega)
              omega
            · exact h
          omega
      refine ⟨by rw [hdx]; omega, ?_⟩
      unfold flI
      rw [if_neg h0, if_neg h54, hvl, hdx, hee, show (low + (tz R : Int) - low).toNat = tz R by omega, Nat.mul_comm, ← hm]

end Go.Proofs.YtepehpkmejjhiaaGreatDoor

