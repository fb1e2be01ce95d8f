/-
  Contracts that the proofs of this seat share: Dy8, Dy9, DyR, Fl1, FlNm.
-/
import Derived.Test.YtckaecmkidplhaaGreatDoorDy7
import Derived.Test.YtckaecmkidplhaaGreatDoorBR
import Derived.Test.YtckaecmkidplhaaGreatDoorBA
import Derived.Test.YtckaecmkidplhaaGreatDoorChecked
import Derived.WalkSpells
import Derived.WalkLawsBesides
namespace Go.Proofs.YtckaecmkidplhaaGreatDoor
open Go.RowKit
set_option linter.unusedVariables false
set_option maxRecDepth 8000
set_option linter.unusedSimpArgs false

end Go.Proofs.YtckaecmkidplhaaGreatDoor

namespace Go.Proofs.YtckaecmkidplhaaGreatDoor
open Go.RowKit
set_option linter.unusedVariables false
set_option maxRecDepth 8000
set_option linter.unusedSimpArgs false

theorem wval_lt {s : Bool} {zs : List Int} (h : Lim zs) : (wval s zs).natAbs < 2 ^ (16 * zs.length) := by
  rw [wval_abs h]
  have h1 := val_lt h
  have h2 := val_nonneg h
  rw [pow_limb] at h1
  omega
end Go.Proofs.YtckaecmkidplhaaGreatDoor

namespace Go.Proofs.YtckaecmkidplhaaGreatDoor
open Go.RowKit
set_option linter.unusedVariables false
set_option maxRecDepth 8000
set_option linter.unusedSimpArgs false

def modeB (mode : Int) : Bool := decide (0 ≤ mode) && decide (mode ≤ 4)
theorem new_half {w : World} {b : Nat} {u : Value} {xs : List Int} (s : Bool) (low : Int) (mo : Bool) (t : TypeId) (O : OwnA b w u xs) :
    Wrk b (w.alloc (.cells #[u, .bool s, .int .i64 low, .bool mo] t)) w.heap.size u xs ∧ Sd (w.alloc (.cells #[u, .bool s, .int .i64 low, .bool mo] t)) w.heap.size s ∧ Ex (w.alloc (.cells #[u, .bool s, .int .i64 low, .bool mo] t)) w.heap.size low ∧ Mo (w.alloc (.cells #[u, .bool s, .int .i64 low, .bool mo] t)) w.heap.size mo :=
  ⟨⟨new_cell2 _ _ _ _ _ _ rfl rfl, new_loose2 _ _ _ _ _ rfl, O.kept ((Kept.refl 0 0 w).alloc _), fun e => by have := (O.lt e).2; omega⟩, ⟨new_cell2 _ _ _ _ _ _ rfl rfl, new_loose2 _ _ _ _ _ rfl⟩, ⟨new_cell2 _ _ _ _ _ _ rfl rfl, new_loose2 _ _ _ _ _ rfl⟩, ⟨new_cell2 _ _ _ _ _ _ rfl rfl, new_loose2 _ _ _ _ _ rfl⟩⟩
theorem new_dyaA {w : World} {b : Nat} {u : Value} {xs : List Int} (s : Bool) (x : Int) (t : TypeId) (O : OwnA b w u xs) :
    Wrk b (w.alloc (.cells #[u, .bool s, .int .i64 x] t)) w.heap.size u xs ∧ Sd (w.alloc (.cells #[u, .bool s, .int .i64 x] t)) w.heap.size s ∧ Ex (w.alloc (.cells #[u, .bool s, .int .i64 x] t)) w.heap.size x :=
  ⟨⟨new_cell2 _ _ _ _ _ _ rfl rfl, new_loose2 _ _ _ _ _ rfl, O.kept ((Kept.refl 0 0 w).alloc _), fun e => by have := (O.lt e).2; omega⟩, ⟨new_cell2 _ _ _ _ _ _ rfl rfl, new_loose2 _ _ _ _ _ rfl⟩, ⟨new_cell2 _ _ _ _ _ _ rfl rfl, new_loose2 _ _ _ _ _ rfl⟩⟩
set_option maxHeartbeats 2000000 in
theorem isMode_impl (x : Int) (w : World) :
    Calls Tryz.prog 44 #[.int .i64 x] w fun e w' => e = .returned (.bool (modeB x)) ∧ w' = w := by
  have HB : Hid (modeB x = (decide (0 ≤ x) && decide (x ≤ 4))) := rfl
  generalize modeB x = Q at *
  go_enter Tryz.func44, Tryz.ntmps44
  by_cases h1 : 0 ≤ x
  rotate_left
  · have hd : decide (0 ≤ x) = false := decide_eq_false h1
    go_wp2_with fail
    go_ret
    exact ⟨by rw [unhide HB, hd]; rfl, rfl⟩
  have hd : decide (0 ≤ x) = true := decide_eq_true h1
  go_wp2_with fail
  go_ret
  exact ⟨by rw [unhide HB, hd]; rfl, rfl⟩

end Go.Proofs.YtckaecmkidplhaaGreatDoor

namespace Go.Proofs.YtckaecmkidplhaaGreatDoor
open Go.RowKit
set_option linter.unusedVariables false

/-- A float as it is handed over. -/
abbrev flv (k : Int) (n : Bool) (m e : Int) : Value := .agg #[.int .i64 k, .bool n, .int .i64 m, .int .i64 e]

/-- Its cells. -/
abbrev flc (k : Int) (n : Bool) (m e : Int) (t : TypeId) : Obj := .cells #[.int .i64 k, .bool n, .int .i64 m, .int .i64 e] t

/-- Whether it is one. -/
def flok (k : Int) (n : Bool) (m e : Int) : Bool :=
  if k = 1 then decide (-1074 ≤ e ∧ e ≤ 971 ∧ 1 ≤ m ∧ m ≤ 9007199254740991 ∧ (4503599627370496 ≤ m ∨ e = -1074))
  else if k = 0 ∨ k = 2 then decide (m = 0 ∧ e = 0) else if k = 3 then decide (m = 0 ∧ e = 0 ∧ n = false) else false

theorem flok_ways {k : Int} {n : Bool} {m e : Int} (h : flok k n m e = true) :
    (k = 1 ∧ -1074 ≤ e ∧ e ≤ 971 ∧ 1 ≤ m ∧ m ≤ 9007199254740991 ∧ (4503599627370496 ≤ m ∨ e = -1074)) ∨ (k = 0 ∧ m = 0 ∧ e = 0) ∨ (k = 2 ∧ m = 0 ∧ e = 0) ∨ (k = 3 ∧ m = 0 ∧ e = 0 ∧ n = false) := by
  unfold flok at h
  split at h
  · simp at h; exact .inl ⟨by assumption, h⟩
  split at h
  · rename_i h1; simp at h; rcases h1 with h1 | h1
    · exact .inr (.inl ⟨h1, h⟩)
    · exact .inr (.inr (.inl ⟨h1, h⟩))
  split at h
  · simp at h; exact .inr (.inr (.inr ⟨by assumption, h⟩))
  · cases h

set_option maxHeartbeats 400000 in
theorem flok_spec (k : Int) (n : Bool) (m e : Int) (w : World) :
    Calls Tryz.prog 14 #[flv k n m e] w fun r w' => r = .returned (.bool (flok k n m e)) ∧ w' = w.alloc (flc k n m e 25) := by
  go_enter Tryz.func14, Tryz.ntmps14
  go_wp2
  all_goals (go_ret; refine ⟨?_, by simp_all⟩; congr 2; unfold flok; simp_all <;> first | omega | grind)

set_option maxHeartbeats 400000 in
theorem flok_impl (k : Int) (n : Bool) (m e : Int) (w : World) :
    Calls Tryz.prog 43 #[flv k n m e] w fun r w' => r = .returned (.bool (flok k n m e)) ∧ w' = w.alloc (flc k n m e 25) := by
  go_enter Tryz.func43, Tryz.ntmps43
  go_wp2
  all_goals (go_ret; refine ⟨?_, by simp_all⟩; congr 2; unfold flok; simp_all <;> first | omega | grind)

theorem flok_spec_eq {k : Int} {n : Bool} {m e : Int} {b : Bool} (h : flok k n m e = b) (w : World) :
    Calls Tryz.prog 14 #[flv k n m e] w fun r w' => r = .returned (.bool b) ∧ w' = w.alloc (flc k n m e 25) := by
  subst h
  exact flok_spec k n m e w

theorem flok_impl_eq {k : Int} {n : Bool} {m e : Int} {b : Bool} (h : flok k n m e = b) (w : World) :
    Calls Tryz.prog 43 #[flv k n m e] w fun r w' => r = .returned (.bool b) ∧ w' = w.alloc (flc k n m e 25) := by
  subst h
  exact flok_impl k n m e w

end Go.Proofs.YtckaecmkidplhaaGreatDoor

namespace Go.Proofs.YtckaecmkidplhaaGreatDoor
open Go.RowKit
set_option linter.unusedVariables false
set_option maxRecDepth 8000

/-- Whether what is beyond floats becomes the greatest one. -/
def flOv (mode : Int) (s : Bool) : Bool := (mode == 1) || ((mode == 2) && s) || ((mode == 3) && !s)
def flTop (V : Nat) (x : Int) : Int := x + (bitsN V : Int)
def flLow (V : Nat) (x : Int) : Int := max (flTop V x - 53) (-1074)
def flH (V : Nat) (x : Int) : Nat := scN V (x - (flLow V x - 1))
def flL (V : Nat) (x : Int) : Bool := scL V (x - (flLow V x - 1))
def flR (mode : Nat) (s : Bool) (V : Nat) (x : Int) : Nat := rndN mode s (flH V x) (flL V x)
def flX (V : Nat) (x : Int) : Bool := rndX (flH V x) (flL V x)
def flF (V : Nat) (x : Int) : Int := if flX V x = true then 0 else if flTop V x ≤ -1022 then 5 else 1
/-- A multiple R of 2^low as a float: its kind, M and E. -/
def flI (R : Nat) (low : Int) : Int × Int × Int := if R = 0 then (0, 0, 0) else if 53 < bitsN R then (1, ((R / 2 : Nat) : Int), low + 1) else (1, (R : Int), low)
def flO (mode : Int) (s : Bool) : Int × Int × Int := if flOv mode s = true then (1, 9007199254740991, 971) else (2, 0, 0)
/-- The float of a number: its kind, M and E. -/
def flA (mode : Int) (s : Bool) (V : Nat) (x : Int) : Int × Int × Int :=
  if V = 0 then (0, 0, 0) else if 1024 < topI (limbs (flR mode.toNat s V x)) (flLow V x) then flO mode s else flI (flR mode.toNat s V x) (flLow V x)
/-- Its flags. -/
def flG (mode : Int) (s : Bool) (V : Nat) (x : Int) : Int :=
  if V = 0 then 0 else if 1024 < topI (limbs (flR mode.toNat s V x)) (flLow V x) then 3 else flF V x

theorem bits_lt (V : Nat) : V < 2 ^ bitsN V := (bitsN_le V _).1 (Nat.le_refl _)
theorem scN_lt {V : Nat} {k : Int} (n : Nat) (h : (bitsN V : Int) + k ≤ n) : scN V k < 2 ^ n := by
  have h1 := bits_lt V
  by_cases hk : 0 ≤ k
  · obtain ⟨K, rfl⟩ : ∃ K : Nat, k = K := ⟨k.toNat, by omega⟩
    rw [scN_up]
    calc V * 2 ^ K < 2 ^ bitsN V * 2 ^ K := Nat.mul_lt_mul_of_pos_right h1 (Nat.pow_pos (by decide))
      _ = 2 ^ (bitsN V + K) := (Nat.pow_add _ _ _).symm
      _ ≤ 2 ^ n := Nat.pow_le_pow_right (by decide) (by omega)
  · obtain ⟨K, rfl⟩ : ∃ K : Nat, k = -(K : Int) := ⟨(-k).toNat, by omega⟩
    rw [scN_down _ _ (by omega)]
    refine Nat.div_lt_of_lt_mul ?_
    calc V < 2 ^ bitsN V := h1
      _ ≤ 2 ^ (K + n) := Nat.pow_le_pow_right (by decide) (by omega)
      _ = 2 ^ K * 2 ^ n := Nat.pow_add _ _ _
theorem flLow_ge (V : Nat) (x : Int) : -1074 ≤ flLow V x ∧ flTop V x - 53 ≤ flLow V x ∧ (flLow V x = -1074 ∨ flLow V x = flTop V x - 53) := by
  unfold flLow
  omega
theorem flH_lt (V : Nat) (x : Int) : flH V x < 2 ^ 54 := by
  unfold flH
  have := flLow_ge V x
  exact scN_lt 54 (by unfold flTop at this; omega)
theorem flR_le (mode : Nat) (s : Bool) (V : Nat) (x : Int) : flR mode s V x ≤ 2 ^ 53 := by
  have h := flH_lt V x
  unfold flR rndN
  have e : (2 : Nat) ^ 54 = 2 ^ 53 * 2 := by decide
  split <;> omega
end Go.Proofs.YtckaecmkidplhaaGreatDoor

