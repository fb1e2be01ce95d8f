/-
  The small functions of floats; FlNeg, the model's and the program's.
-/
import Derived.Test.YtbmogiegeffecaaFl1
namespace Go.Proofs.Ytbmogiegeffecaa
open Go.RowKit
set_option linter.unusedVariables false

/-- A float out of its four fields. -/
abbrev flq (q : Int × Bool × Int × Int) : Value := flv q.1 q.2.1 q.2.2.1 q.2.2.2

theorem Kept.box {w w' : World} (h : Kept 0 0 w w') {b : Nat} (hb : b < w.heap.size) (off : Nat) : w'.cell? ⟨b, off, none⟩ = w.cell? ⟨b, off, none⟩ :=
  World.cell?_of_block (w := w) (a := ⟨b, off, none⟩) (h.block b hb (by omega))

/-- A float's box: its block, its four cells. -/
structure FB (w : World) (b : Nat) (k : Int) (n : Bool) (m e : Int) : Prop where
  lt : b < w.heap.size
  c0 : w.cell? ⟨b, 0, none⟩ = some (.int .i64 k)
  c1 : w.cell? ⟨b, 1, none⟩ = some (.bool n)
  c2 : w.cell? ⟨b, 2, none⟩ = some (.int .i64 m)
  c3 : w.cell? ⟨b, 3, none⟩ = some (.int .i64 e)

theorem FB.kept {w w' : World} {b : Nat} {k : Int} {n : Bool} {m e : Int} (f : FB w b k n m e) (h : Kept 0 0 w w') : FB w' b k n m e :=
  ⟨Nat.lt_of_lt_of_le f.lt h.size, (h.box f.lt 0).trans f.c0, (h.box f.lt 1).trans f.c1, (h.box f.lt 2).trans f.c2, (h.box f.lt 3).trans f.c3⟩
theorem FB.alloc {w : World} {b : Nat} {k : Int} {n : Bool} {m e : Int} (f : FB w b k n m e) (o : Obj) : FB (w.alloc o) b k n m e :=
  f.kept ((Kept.refl 0 0 w).alloc o)
theorem FB.new (w : World) (k : Int) (n : Bool) (m e : Int) (t : TypeId) : FB (w.alloc (flc k n m e t)) w.heap.size k n m e := by
  have hg : (w.alloc (flc k n m e t)).heap[w.heap.size]? = some (flc k n m e t) := heap_alloc_new w _
  refine ⟨by simp, ?_, ?_, ?_, ?_⟩ <;> simp only [World.cell?, hg] <;> rfl

theorem l5nan_any (w : World) :
    Calls Try.prog 22 #[] w fun r w' => r = .returned (flv 3 false 0 0) ∧ w' = (w.alloc (flc 3 false 0 0 25)) := by
  go_enter Try.func22, Try.ntmps22
  go_wp2
  exact bodyPost_ret (v := flv 3 false 0 0) (by simp [results, Try.results22, go_sem]) rfl ⟨rfl, rfl⟩

theorem l5neg_not (k : Int) (n : Bool) (m e : Int) (h : (k == 3) = false) (w : World) :
    Calls Try.prog 26 #[flv k n m e] w fun r w' => r = .returned (flv k (!n) m e) ∧ w' = ((w.alloc (flc k (!n) m e 25)).alloc (flc k (!n) m e 25)) := by
  go_enter Try.func26, Try.ntmps26
  go_wp2
  exact bodyPost_ret (v := flv k (!n) m e) (by simp [results, Try.results26, go_sem]) rfl ⟨rfl, rfl⟩

theorem l5neg_nan (w : World) :
    Calls Try.prog 26 #[flv 3 false 0 0] w fun r w' => r = .returned (flv 3 false 0 0) ∧ w' = ((w.alloc (flc 3 false 0 0 25)).alloc (flc 3 false 0 0 25)) := by
  go_enter Try.func26, Try.ntmps26
  go_wp2
  exact bodyPost_ret (v := flv 3 false 0 0) (by simp [results, Try.results26, go_sem]) rfl ⟨rfl, rfl⟩

theorem l5most_any (n : Bool) (w : World) :
    Calls Try.prog 24 #[.bool n] w fun r w' => r = .returned (flv 1 n 9007199254740991 971) ∧ w' = (w.alloc (flc 1 n 9007199254740991 971 25)) := by
  go_enter Try.func24, Try.ntmps24
  go_wp2
  exact bodyPost_ret (v := flv 1 n 9007199254740991 971) (by simp [results, Try.results24, go_sem]) rfl ⟨rfl, rfl⟩

set_option maxHeartbeats 1000000 in
theorem flneg_spec_no (k : Int) (n : Bool) (m e : Int) (h : flok k n m e = false) (w : World) :
    Calls Try.prog 18 #[flv k n m e] w fun r w' => r = .returned (flv 3 false 0 0) ∧ Kept 0 0 w w' := by
  go_enter Try.func18, Try.ntmps18
  go_wp2_with (first
    | (go_at_call 8; refine (flok_spec_eq h _).mono ?_; rintro r w1 ⟨rfl, rfl⟩)
    | (go_at_call 22; refine (l5nan_any _).mono ?_; rintro r w1 ⟨rfl, rfl⟩)
    | (go_at_call 26; refine (l5neg_not _ _ _ _ h2 _).mono ?_; rintro r w1 ⟨rfl, rfl⟩))
  exact bodyPost_ret (v := flv 3 false 0 0) (by simp [results, Try.results18, go_sem]) rfl ⟨rfl, by repeat first | exact Kept.refl 0 0 _ | apply Kept.alloc⟩

set_option maxHeartbeats 1000000 in
theorem flneg_spec_not (k : Int) (n : Bool) (m e : Int) (h : flok k n m e = true) (h2 : (k == 3) = false) (w : World) :
    Calls Try.prog 18 #[flv k n m e] w fun r w' => r = .returned (flv k (!n) m e) ∧ Kept 0 0 w w' := by
  go_enter Try.func18, Try.ntmps18
  go_wp2_with (first
    | (go_at_call 8; refine (flok_spec_eq h _).mono ?_; rintro r w1 ⟨rfl, rfl⟩)
    | (go_at_call 22; refine (l5nan_any _).mono ?_; rintro r w1 ⟨rfl, rfl⟩)
    | (go_at_call 26; refine (l5neg_not _ _ _ _ h2 _).mono ?_; rintro r w1 ⟨rfl, rfl⟩))
  exact bodyPost_ret (v := flv k (!n) m e) (by simp [results, Try.results18, go_sem]) rfl ⟨rfl, by repeat first | exact Kept.refl 0 0 _ | apply Kept.alloc⟩

set_option maxHeartbeats 1000000 in
theorem flneg_spec_nan (h : flok 3 false 0 0 = true) (w : World) :
    Calls Try.prog 18 #[flv 3 false 0 0] w fun r w' => r = .returned (flv 3 false 0 0) ∧ Kept 0 0 w w' := by
  go_enter Try.func18, Try.ntmps18
  go_wp2_with (first
    | (go_at_call 8; refine (flok_spec_eq h _).mono ?_; rintro r w1 ⟨rfl, rfl⟩)
    | (go_at_call 22; refine (l5nan_any _).mono ?_; rintro r w1 ⟨rfl, rfl⟩)
    | (go_at_call 26; refine (l5neg_nan _).mono ?_; rintro r w1 ⟨rfl, rfl⟩))
  exact bodyPost_ret (v := flv 3 false 0 0) (by simp [results, Try.results18, go_sem]) rfl ⟨rfl, by repeat first | exact Kept.refl 0 0 _ | apply Kept.alloc⟩

set_option maxHeartbeats 1000000 in
theorem flneg_impl_no (k : Int) (n : Bool) (m e : Int) (h : flok k n m e = false) (w : World) :
    Calls Try.prog 19 #[flv k n m e] w fun r w' => r = .returned (flv 3 false 0 0) ∧ Kept 0 0 w w' := by
  go_enter Try.func19, Try.ntmps19
  go_wp2_with (first
    | (go_at_call 10; refine (flok_impl_eq h _).mono ?_; rintro r w1 ⟨rfl, rfl⟩))
  exact bodyPost_ret (v := flv 3 false 0 0) (by simp [results, Try.results19, go_sem]) rfl ⟨rfl, by repeat first | exact Kept.refl 0 0 _ | apply Kept.alloc⟩

set_option maxHeartbeats 1000000 in
theorem flneg_impl_not (k : Int) (n : Bool) (m e : Int) (h : flok k n m e = true) (h2 : (k == 3) = false) (w : World) :
    Calls Try.prog 19 #[flv k n m e] w fun r w' => r = .returned (flv k (!n) m e) ∧ Kept 0 0 w w' := by
  go_enter Try.func19, Try.ntmps19
  go_wp2_with (first
    | (go_at_call 10; refine (flok_impl_eq h _).mono ?_; rintro r w1 ⟨rfl, rfl⟩))
  exact bodyPost_ret (v := flv k (!n) m e) (by simp [results, Try.results19, go_sem]) rfl ⟨rfl, by repeat first | exact Kept.refl 0 0 _ | apply Kept.alloc⟩

set_option maxHeartbeats 1000000 in
theorem flneg_impl_nan (h : flok 3 false 0 0 = true) (w : World) :
    Calls Try.prog 19 #[flv 3 false 0 0] w fun r w' => r = .returned (flv 3 false 0 0) ∧ Kept 0 0 w w' := by
  go_enter Try.func19, Try.ntmps19
  go_wp2_with (first
    | (go_at_call 10; refine (flok_impl_eq h _).mono ?_; rintro r w1 ⟨rfl, rfl⟩))
  exact bodyPost_ret (v := flv 3 false 0 0) (by simp [results, Try.results19, go_sem]) rfl ⟨rfl, by repeat first | exact Kept.refl 0 0 _ | apply Kept.alloc⟩

/-- What FlNeg answers. -/
def fneg (k : Int) (n : Bool) (m e : Int) : Int × Bool × Int × Int := if flok k n m e = true ∧ k ≠ 3 then (k, !n, m, e) else (3, false, 0, 0)

theorem flneg_spec (k : Int) (n : Bool) (m e : Int) (w : World) :
    Calls Try.prog 18 #[flv k n m e] w fun r w' => r = .returned (flq (fneg k n m e)) ∧ Kept 0 0 w w' := by
  by_cases h : flok k n m e = true
  · by_cases h3 : k = 3
    · subst h3
      rcases flok_ways h with ⟨h9, -⟩ | ⟨h9, -⟩ | ⟨h9, -⟩ | ⟨-, rfl, rfl, rfl⟩
      · omega
      · omega
      · omega
      · exact flneg_spec_nan h w
    · rw [show fneg k n m e = (k, !n, m, e) by unfold fneg; rw [if_pos ⟨h, h3⟩]]
      exact flneg_spec_not k n m e h (by simpa using h3) w
  · rw [show fneg k n m e = (3, false, 0, 0) by unfold fneg; rw [if_neg (fun q => h q.1)]]
    exact flneg_spec_no k n m e (by simpa using h) w

theorem flneg_impl (k : Int) (n : Bool) (m e : Int) (w : World) :
    Calls Try.prog 19 #[flv k n m e] w fun r w' => r = .returned (flq (fneg k n m e)) ∧ Kept 0 0 w w' := by
  by_cases h : flok k n m e = true
  · by_cases h3 : k = 3
    · subst h3
      rcases flok_ways h with ⟨h9, -⟩ | ⟨h9, -⟩ | ⟨h9, -⟩ | ⟨-, rfl, rfl, rfl⟩
      · omega
      · omega
      · omega
      · exact flneg_impl_nan h w
    · rw [show fneg k n m e = (k, !n, m, e) by unfold fneg; rw [if_pos ⟨h, h3⟩]]
      exact flneg_impl_not k n m e h (by simpa using h3) w
  · rw [show fneg k n m e = (3, false, 0, 0) by unfold fneg; rw [if_neg (fun q => h q.1)]]
    exact flneg_impl_no k n m e (by simpa using h) w

end Go.Proofs.Ytbmogiegeffecaa
