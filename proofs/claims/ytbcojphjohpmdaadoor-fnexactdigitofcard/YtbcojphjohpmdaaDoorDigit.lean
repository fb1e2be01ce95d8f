/-
  Contracts of DigitOf, SignOf and IsBlank, the model's and the program's.
-/
import Derived.Test.YtbcojphjohpmdaaDoorHelp
namespace Go.Proofs.YtbcojphjohpmdaaDoor
open Go.RowKit
set_option linter.unusedVariables false

def digs : List Int → Int → Int
  | [], _ => -1
  | n :: t, r => if n ≤ r ∧ r ≤ n + 9 then r - n else digs t r
/-- The digit that a number means; -1: none. -/
def dig (r : Int) : Int := digs [48, 1632, 1776, 2406, 65296] r
theorem digs_yes {n : Int} {t : List Int} {r : Int} (h1 : n ≤ r) (h2 : r ≤ n + 9) : digs (n :: t) r = r - n := by simp [digs, h1, h2]
theorem digs_no {n : Int} {t : List Int} {r : Int} (h : r < n ∨ n + 9 < r) : digs (n :: t) r = digs t r := by
  show (if n ≤ r ∧ r ≤ n + 9 then r - n else digs t r) = digs t r
  rw [if_neg (by omega)]
theorem dig_range (r : Int) : -1 ≤ dig r ∧ dig r ≤ 9 := by
  unfold dig digs digs digs digs digs digs
  repeat' split
  all_goals omega

/-- The program's table of noughts, as its text lays it. -/
def Tab (w : World) : Prop := ∃ t fz, w.heap[0]? = some (.cells #[.int .i64 48, .int .i64 1632, .int .i64 1776, .int .i64 2406, .int .i64 65296] t fz)
theorem Tab.kept {w w' : World} {lo hi : Nat} (h : Tab w) (q : Kept lo hi w w') (hd : 0 < lo ∨ hi ≤ lo) : Tab w' := by
  obtain ⟨t, fz, h⟩ := h
  exact ⟨t, fz, (q.block 0 (Array.getElem?_eq_some_iff.1 h).1 (by omega)).trans h⟩
theorem Tab.drewN {w : World} (h : Tab w) (n : Nat) : Tab (w.drewN n) := h

theorem ix0 (w : World) : (Instr.index 30 (.agg #[.int .i64 48, .int .i64 1632, .int .i64 1776, .int .i64 2406, .int .i64 65296]) (.int .i64 0)).run Tryd.prog w = .ok (.int .i64 48) w := by kernel_rfl
theorem ix1 (w : World) : (Instr.index 30 (.agg #[.int .i64 48, .int .i64 1632, .int .i64 1776, .int .i64 2406, .int .i64 65296]) (.int .i64 1)).run Tryd.prog w = .ok (.int .i64 1632) w := by kernel_rfl
theorem ix2 (w : World) : (Instr.index 30 (.agg #[.int .i64 48, .int .i64 1632, .int .i64 1776, .int .i64 2406, .int .i64 65296]) (.int .i64 2)).run Tryd.prog w = .ok (.int .i64 1776) w := by kernel_rfl
theorem ix3 (w : World) : (Instr.index 30 (.agg #[.int .i64 48, .int .i64 1632, .int .i64 1776, .int .i64 2406, .int .i64 65296]) (.int .i64 3)).run Tryd.prog w = .ok (.int .i64 2406) w := by kernel_rfl
theorem ix4 (w : World) : (Instr.index 30 (.agg #[.int .i64 48, .int .i64 1632, .int .i64 1776, .int .i64 2406, .int .i64 65296]) (.int .i64 4)).run Tryd.prog w = .ok (.int .i64 65296) w := by kernel_rfl

set_option maxHeartbeats 1000000 in
theorem digit_impl (r : Int) (w : World) (ht : Tab w) : Calls Tryd.prog 6 #[.int .i64 r] w fun e w' => e = .returned (.int .i64 (dig r)) ∧ w' = w := by
  obtain ⟨tt, fz, hg⟩ := ht
  have j0 := ix0
  have j1 := ix1
  have j2 := ix2
  have j3 := ix3
  have j4 := ix4
  generalize hD : dig r = D
  have HD : Hid (digs [48, 1632, 1776, 2406, 65296] r = D) := hD
  clear hD
  go_enter Tryd.func6, Tryd.ntmps6
  go_wp2_with (refine wpList_load_row rfl 30 _ rfl 0 rfl tt _ fz _ hg Tryd.underlying30 rfl (by kernel_rfl) ?_)
  clear hg
  go_loop [6] (fun i => (i = .int .i64 0 ∧ Hid (digs [48, 1632, 1776, 2406, 65296] r = D)) ∨ (i = .int .i64 1 ∧ Hid (digs [1632, 1776, 2406, 65296] r = D)) ∨ (i = .int .i64 2 ∧ Hid (digs [1776, 2406, 65296] r = D)) ∨ (i = .int .i64 3 ∧ Hid (digs [2406, 65296] r = D)) ∨ (i = .int .i64 4 ∧ Hid (digs [65296] r = D)) ∨ (i = .int .i64 5 ∧ Hid (digs [] r = D))) (fun i => 5 - (intOf i).toNat)
  case atStart => exact .inl ⟨rfl, HD⟩
  case round =>
    clear HD
    rcases hrel with ⟨rfl, h⟩ | ⟨rfl, h⟩ | ⟨rfl, h⟩ | ⟨rfl, h⟩ | ⟨rfl, h⟩ | ⟨rfl, h⟩
    · by_cases a : r < 48
      · go_wp2
        go_round
        case rel => exact .inr (.inl ⟨rfl, (digs_no (by omega)).symm.trans h.out⟩)
        case measure => decide
      by_cases b : 57 < r
      · go_wp2
        go_round
        case rel => exact .inr (.inl ⟨rfl, (digs_no (by omega)).symm.trans h.out⟩)
        case measure => decide
      · have e := h.out
        rw [digs_yes (by omega) (by omega)] at e
        subst e
        go_wp2
        go_ret
        exact ⟨rfl, rfl⟩
    · by_cases a : r < 1632
      · go_wp2
        go_round
        case rel => exact .inr (.inr (.inl ⟨rfl, (digs_no (by omega)).symm.trans h.out⟩))
        case measure => decide
      by_cases b : 1641 < r
      · go_wp2
        go_round
        case rel => exact .inr (.inr (.inl ⟨rfl, (digs_no (by omega)).symm.trans h.out⟩))
        case measure => decide
      · have e := h.out
        rw [digs_yes (by omega) (by omega)] at e
        subst e
        go_wp2
        go_ret
        exact ⟨rfl, rfl⟩
    · by_cases a : r < 1776
      · go_wp2
        go_round
        case rel => exact .inr (.inr (.inr (.inl ⟨rfl, (digs_no (by omega)).symm.trans h.out⟩)))
        case measure => decide
      by_cases b : 1785 < r
      · go_wp2
        go_round
        case rel => exact .inr (.inr (.inr (.inl ⟨rfl, (digs_no (by omega)).symm.trans h.out⟩)))
        case measure => decide
      · have e := h.out
        rw [digs_yes (by omega) (by omega)] at e
        subst e
        go_wp2
        go_ret
        exact ⟨rfl, rfl⟩
    · by_cases a : r < 2406
      · go_wp2
        go_round
        case rel => exact .inr (.inr (.inr (.inr (.inl ⟨rfl, (digs_no (by omega)).symm.trans h.out⟩))))
        case measure => decide
      by_cases b : 2415 < r
      · go_wp2
        go_round
        case rel => exact .inr (.inr (.inr (.inr (.inl ⟨rfl, (digs_no (by omega)).symm.trans h.out⟩))))
        case measure => decide
      · have e := h.out
        rw [digs_yes (by omega) (by omega)] at e
        subst e
        go_wp2
        go_ret
        exact ⟨rfl, rfl⟩
    · by_cases a : r < 65296
      · go_wp2
        go_round
        case rel => exact .inr (.inr (.inr (.inr (.inr (⟨rfl, (digs_no (by omega)).symm.trans h.out⟩)))))
        case measure => decide
      by_cases b : 65305 < r
      · go_wp2
        go_round
        case rel => exact .inr (.inr (.inr (.inr (.inr (⟨rfl, (digs_no (by omega)).symm.trans h.out⟩)))))
        case measure => decide
      · have e := h.out
        rw [digs_yes (by omega) (by omega)] at e
        subst e
        go_wp2
        go_ret
        exact ⟨rfl, rfl⟩
    · have e := h.out
      subst e
      go_wp2
      go_ret
      exact ⟨rfl, rfl⟩

set_option maxHeartbeats 2000000 in
theorem digit_spec (r : Int) (w : World) : Calls Tryd.prog 5 #[.int .i64 r] w fun e w' => e = .returned (.int .i64 (dig r)) ∧ Kept 0 0 w w' := by
  generalize hD : dig r = D
  have HD : Hid (digs [48, 1632, 1776, 2406, 65296] r = D) := hD
  clear hD
  go_enter Tryd.func5, Tryd.ntmps5
  go_wp2
  go_loop [4] (fun i => (i = .int .i64 0 ∧ Hid (digs [48, 1632, 1776, 2406, 65296] r = D)) ∨ (i = .int .i64 1 ∧ Hid (digs [1632, 1776, 2406, 65296] r = D)) ∨ (i = .int .i64 2 ∧ Hid (digs [1776, 2406, 65296] r = D)) ∨ (i = .int .i64 3 ∧ Hid (digs [2406, 65296] r = D)) ∨ (i = .int .i64 4 ∧ Hid (digs [65296] r = D)) ∨ (i = .int .i64 5 ∧ Hid (digs [] r = D))) (fun i => 5 - (intOf i).toNat)
  case atStart => exact .inl ⟨rfl, HD⟩
  case round =>
    clear HD
    rcases hrel with ⟨rfl, h⟩ | ⟨rfl, h⟩ | ⟨rfl, h⟩ | ⟨rfl, h⟩ | ⟨rfl, h⟩ | ⟨rfl, h⟩
    · by_cases a : r < 48
      · go_wp2
        go_round
        case rel => exact .inr (.inl ⟨rfl, (digs_no (by omega)).symm.trans h.out⟩)
        case measure => decide
      by_cases b : 57 < r
      · go_wp2
        go_round
        case rel => exact .inr (.inl ⟨rfl, (digs_no (by omega)).symm.trans h.out⟩)
        case measure => decide
      · have e := h.out
        rw [digs_yes (by omega) (by omega)] at e
        subst e
        go_wp2
        go_ret
        exact ⟨rfl, (Kept.refl _ _ _).alloc _⟩
    · by_cases a : r < 1632
      · go_wp2
        go_round
        case rel => exact .inr (.inr (.inl ⟨rfl, (digs_no (by omega)).symm.trans h.out⟩))
        case measure => decide
      by_cases b : 1641 < r
      · go_wp2
        go_round
        case rel => exact .inr (.inr (.inl ⟨rfl, (digs_no (by omega)).symm.trans h.out⟩))
        case measure => decide
      · have e := h.out
        rw [digs_yes (by omega) (by omega)] at e
        subst e
        go_wp2
        go_ret
        exact ⟨rfl, (Kept.refl _ _ _).alloc _⟩
    · by_cases a : r < 1776
      · go_wp2
        go_round
        case rel => exact .inr (.inr (.inr (.inl ⟨rfl, (digs_no (by omega)).symm.trans h.out⟩)))
        case measure => decide
      by_cases b : 1785 < r
      · go_wp2
        go_round
        case rel => exact .inr (.inr (.inr (.inl ⟨rfl, (digs_no (by omega)).symm.trans h.out⟩)))
        case measure => decide
      · have e := h.out
        rw [digs_yes (by omega) (by omega)] at e
        subst e
        go_wp2
        go_ret
        exact ⟨rfl, (Kept.refl _ _ _).alloc _⟩
    · by_cases a : r < 2406
      · go_wp2
        go_round
        case rel => exact .inr (.inr (.inr (.inr (.inl ⟨rfl, (digs_no (by omega)).symm.trans h.out⟩))))
        case measure => decide
      by_cases b : 2415 < r
      · go_wp2
        go_round
        case rel => exact .inr (.inr (.inr (.inr (.inl ⟨rfl, (digs_no (by omega)).symm.trans h.out⟩))))
        case measure => decide
      · have e := h.out
        rw [digs_yes (by omega) (by omega)] at e
        subst e
        go_wp2
        go_ret
        exact ⟨rfl, (Kept.refl _ _ _).alloc _⟩
    · by_cases a : r < 65296
      · go_wp2
        go_round
        case rel => exact .inr (.inr (.inr (.inr (.inr (⟨rfl, (digs_no (by omega)).symm.trans h.out⟩)))))
        case measure => decide
      by_cases b : 65305 < r
      · go_wp2
        go_round
        case rel => exact .inr (.inr (.inr (.inr (.inr (⟨rfl, (digs_no (by omega)).symm.trans h.out⟩)))))
        case measure => decide
      · have e := h.out
        rw [digs_yes (by omega) (by omega)] at e
        subst e
        go_wp2
        go_ret
        exact ⟨rfl, (Kept.refl _ _ _).alloc _⟩
    · have e := h.out
      subst e
      go_wp2
      go_ret
      exact ⟨rfl, (Kept.refl _ _ _).alloc _⟩

/-- The sign that a number means. -/
def sgn (r : Int) : Int := if r = 43 ∨ r = 65291 then 1 else if r = 45 ∨ r = 8722 ∨ r = 65293 then -1 else 0
def blankB (r : Int) : Bool := decide (r = 32 ∨ r = 9 ∨ r = 160 ∨ r = 8201 ∨ r = 12288)

set_option maxHeartbeats 400000 in
theorem sign_spec (r : Int) (w : World) : Calls Tryd.prog 14 #[.int .i64 r] w fun e w' => e = .returned (.int .i64 (sgn r)) ∧ w' = w := by
  by_cases h0 : r = 43
  · subst h0; go_enter Tryd.func14, Tryd.ntmps14; go_wp2; go_ret; exact ⟨rfl, rfl⟩
  by_cases h1 : r = 65291
  · subst h1; go_enter Tryd.func14, Tryd.ntmps14; go_wp2; go_ret; exact ⟨rfl, rfl⟩
  by_cases h2 : r = 45
  · subst h2; go_enter Tryd.func14, Tryd.ntmps14; go_wp2; go_ret; exact ⟨rfl, rfl⟩
  by_cases h3 : r = 8722
  · subst h3; go_enter Tryd.func14, Tryd.ntmps14; go_wp2; go_ret; exact ⟨rfl, rfl⟩
  by_cases h4 : r = 65293
  · subst h4; go_enter Tryd.func14, Tryd.ntmps14; go_wp2; go_ret; exact ⟨rfl, rfl⟩
  have e : sgn r = 0 := by simp [sgn, h0, h1, h2, h3, h4]
  rw [e]
  replace h0 := beq_eq_false_iff_ne.2 h0
  replace h1 := beq_eq_false_iff_ne.2 h1
  replace h2 := beq_eq_false_iff_ne.2 h2
  replace h3 := beq_eq_false_iff_ne.2 h3
  replace h4 := beq_eq_false_iff_ne.2 h4
  go_enter Tryd.func14, Tryd.ntmps14; go_wp2; go_ret; exact ⟨rfl, rfl⟩

set_option maxHeartbeats 400000 in
theorem sign_impl (r : Int) (w : World) : Calls Tryd.prog 24 #[.int .i64 r] w fun e w' => e = .returned (.int .i64 (sgn r)) ∧ w' = w := by
  by_cases h0 : r = 43
  · subst h0; go_enter Tryd.func24, Tryd.ntmps24; go_wp2; go_ret; exact ⟨rfl, rfl⟩
  by_cases h1 : r = 65291
  · subst h1; go_enter Tryd.func24, Tryd.ntmps24; go_wp2; go_ret; exact ⟨rfl, rfl⟩
  by_cases h2 : r = 45
  · subst h2; go_enter Tryd.func24, Tryd.ntmps24; go_wp2; go_ret; exact ⟨rfl, rfl⟩
  by_cases h3 : r = 8722
  · subst h3; go_enter Tryd.func24, Tryd.ntmps24; go_wp2; go_ret; exact ⟨rfl, rfl⟩
  by_cases h4 : r = 65293
  · subst h4; go_enter Tryd.func24, Tryd.ntmps24; go_wp2; go_ret; exact ⟨rfl, rfl⟩
  have e : sgn r = 0 := by simp [sgn, h0, h1, h2, h3, h4]
  rw [e]
  replace h0 := beq_eq_false_iff_ne.2 h0
  replace h1 := beq_eq_false_iff_ne.2 h1
  replace h2 := beq_eq_false_iff_ne.2 h2
  replace h3 := beq_eq_false_iff_ne.2 h3
  replace h4 := beq_eq_false_iff_ne.2 h4
  go_enter Tryd.func24, Tryd.ntmps24; go_wp2; go_ret; exact ⟨rfl, rfl⟩

set_option maxHeartbeats 400000 in
theorem blank_spec (r : Int) (w : World) : Calls Tryd.prog 15 #[.int .i64 r] w fun e w' => e = .returned (.bool (blankB r)) ∧ w' = w := by
  by_cases h0 : r = 32
  · subst h0; go_enter Tryd.func15, Tryd.ntmps15; go_wp2; go_ret; exact ⟨rfl, rfl⟩
  by_cases h1 : r = 9
  · subst h1; go_enter Tryd.func15, Tryd.ntmps15; go_wp2; go_ret; exact ⟨rfl, rfl⟩
  by_cases h2 : r = 160
  · subst h2; go_enter Tryd.func15, Tryd.ntmps15; go_wp2; go_ret; exact ⟨rfl, rfl⟩
  by_cases h3 : r = 8201
  · subst h3; go_enter Tryd.func15, Tryd.ntmps15; go_wp2; go_ret; exact ⟨rfl, rfl⟩
  by_cases h4 : r = 12288
  · subst h4; go_enter Tryd.func15, Tryd.ntmps15; go_wp2; go_ret; exact ⟨rfl, rfl⟩
  have e : blankB r = false := by simp [blankB, h0, h1, h2, h3, h4]
  rw [e]
  replace h0 := beq_eq_false_iff_ne.2 h0
  replace h1 := beq_eq_false_iff_ne.2 h1
  replace h2 := beq_eq_false_iff_ne.2 h2
  replace h3 := beq_eq_false_iff_ne.2 h3
  replace h4 := beq_eq_false_iff_ne.2 h4
  go_enter Tryd.func15, Tryd.ntmps15; go_wp2; go_ret; exact ⟨rfl, rfl⟩

set_option maxHeartbeats 400000 in
theorem blank_impl (r : Int) (w : World) : Calls Tryd.prog 23 #[.int .i64 r] w fun e w' => e = .returned (.bool (blankB r)) ∧ w' = w := by
  by_cases h0 : r = 32
  · subst h0; go_enter Tryd.func23, Tryd.ntmps23; go_wp2; go_ret; exact ⟨rfl, rfl⟩
  by_cases h1 : r = 9
  · subst h1; go_enter Tryd.func23, Tryd.ntmps23; go_wp2; go_ret; exact ⟨rfl, rfl⟩
  by_cases h2 : r = 160
  · subst h2; go_enter Tryd.func23, Tryd.ntmps23; go_wp2; go_ret; exact ⟨rfl, rfl⟩
  by_cases h3 : r = 8201
  · subst h3; go_enter Tryd.func23, Tryd.ntmps23; go_wp2; go_ret; exact ⟨rfl, rfl⟩
  by_cases h4 : r = 12288
  · subst h4; go_enter Tryd.func23, Tryd.ntmps23; go_wp2; go_ret; exact ⟨rfl, rfl⟩
  have e : blankB r = false := by simp [blankB, h0, h1, h2, h3, h4]
  rw [e]
  replace h0 := beq_eq_false_iff_ne.2 h0
  replace h1 := beq_eq_false_iff_ne.2 h1
  replace h2 := beq_eq_false_iff_ne.2 h2
  replace h3 := beq_eq_false_iff_ne.2 h3
  replace h4 := beq_eq_false_iff_ne.2 h4
  go_enter Tryd.func23, Tryd.ntmps23; go_wp2; go_ret; exact ⟨rfl, rfl⟩

end Go.Proofs.YtbcojphjohpmdaaDoor
