/-
  Answers that are intervals.
-/
import Derived.Test.YthahoabkehcgbaaDoorBJ
import Derived.Test.YthahoabkehcgbaaDoorDy7
import Derived.Deep.DeepCutAuto
import Derived.Deep.RegionHeld3
namespace Go.Proofs.YthahoabkehcgbaaDoor
open Go.RowKit
set_option linter.unusedVariables false
set_option maxRecDepth 8000
set_option linter.unusedSimpArgs false

/-- An answer that is an interval and whether it may be told: both ends, with memory of their own, or noughts. -/
def IvAns (o g1 : Bool) (p1 : Int) (L1 : List Int) (g2 : Bool) (p2 : Int) (L2 : List Int) (w : World) (e : Ending) (w' : World) : Prop := ∃ v v' mid, e = .returned (.tuple #[.agg #[.bool (o && g1), v, .int .i64 (if o = true then p1 else 0), .bool (o && g2), v', .int .i64 (if o = true then p2 else 0)], .bool o]) ∧ Row .i64 true w.heap.size mid w' v (if o = true then L1 else []) ∧ Row .i64 true mid w'.heap.size w' v' (if o = true then L2 else []) ∧ w.heap.size ≤ mid ∧ mid ≤ w'.heap.size ∧ Kept 0 0 w w'
theorem ivAns_no {g1 g2 : Bool} {p1 p2 : Int} {L1 L2 : List Int} {w w' : World} (k : Kept 0 0 w w') : IvAns false g1 p1 L1 g2 p2 L2 w (.returned (.tuple #[.agg #[.bool false, .slice none 0 0, .int .i64 0, .bool false, .slice none 0 0, .int .i64 0], .bool false])) w' :=
  ⟨.slice none 0 0, .slice none 0 0, w.heap.size, rfl, Row.nil _ _ _ _ _, Row.nil _ _ _ _ _, Nat.le_refl _, k.size, k⟩
theorem ivAns_yes {g1 g2 : Bool} {p1 p2 : Int} {L1 L2 : List Int} {w w' : World} {v v' : Value} {mid : Nat} (r : Row .i64 true w.heap.size mid w' v L1) (r' : Row .i64 true mid w'.heap.size w' v' L2) (h1 : w.heap.size ≤ mid) (h2 : mid ≤ w'.heap.size) (k : Kept 0 0 w w') : IvAns true g1 p1 L1 g2 p2 L2 w (.returned (.tuple #[.agg #[.bool g1, v, .int .i64 p1, .bool g2, v', .int .i64 p2], .bool true])) w' :=
  ⟨v, v', mid, rfl, r, r', h1, h2, k⟩

/-- What an answer that is an interval has in its cells. -/
def IvEq (o g1 : Bool) (p1 : Int) (L1 : List Int) (g2 : Bool) (p2 : Int) (L2 : List Int) (q1 : Bool) (y1 : Int) (M1 : List Int) (q2 : Bool) (y2 : Int) (M2 : List Int) : Prop :=
  q1 = (o && g1) ∧ y1 = (if o = true then p1 else 0) ∧ M1 = (if o = true then L1 else []) ∧ q2 = (o && g2) ∧ y2 = (if o = true then p2 else 0) ∧ M2 = (if o = true then L2 else [])
theorem ivAns_open {o g1 : Bool} {p1 : Int} {L1 : List Int} {g2 : Bool} {p2 : Int} {L2 : List Int} {w w' : World} {e : Ending} (h : IvAns o g1 p1 L1 g2 p2 L2 w e w') :
    ∃ q1 y1 M1 q2 y2 M2 v v' mid, e = .returned (.tuple #[.agg #[.bool q1, v, .int .i64 y1, .bool q2, v', .int .i64 y2], .bool o]) ∧ Row .i64 true w.heap.size mid w' v M1 ∧ Row .i64 true mid w'.heap.size w' v' M2 ∧ w.heap.size ≤ mid ∧ mid ≤ w'.heap.size ∧ Kept 0 0 w w' ∧ IvEq o g1 p1 L1 g2 p2 L2 q1 y1 M1 q2 y2 M2 := by
  obtain ⟨v, v', mid, h1, h2, h3, h4, h5, h6⟩ := h
  exact ⟨_, _, _, _, _, _, v, v', mid, h1, h2, h3, h4, h5, h6, rfl, rfl, rfl, rfl, rfl, rfl⟩
theorem ivAns_shut {o g1 : Bool} {p1 : Int} {L1 : List Int} {g2 : Bool} {p2 : Int} {L2 : List Int} {q1 : Bool} {y1 : Int} {M1 : List Int} {q2 : Bool} {y2 : Int} {M2 : List Int} {w w' : World} {v v' : Value} {mid : Nat} (h : IvEq o g1 p1 L1 g2 p2 L2 q1 y1 M1 q2 y2 M2)
    (r : Row .i64 true w.heap.size mid w' v M1) (r' : Row .i64 true mid w'.heap.size w' v' M2) (h1 : w.heap.size ≤ mid) (h2 : mid ≤ w'.heap.size) (k : Kept 0 0 w w') : IvAns o g1 p1 L1 g2 p2 L2 w (.returned (.tuple #[.agg #[.bool q1, v, .int .i64 y1, .bool q2, v', .int .i64 y2], .bool o])) w' := by
  obtain ⟨e1, e2, e3, e4, e5, e6⟩ := h
  subst e1 e2 e3 e4 e5 e6
  exact ⟨v, v', mid, rfl, r, r', h1, h2, k⟩
/-- Whether two numbers may be told as the ends of an answer. -/
def ivC (c : Bool) (m1 x1 m2 x2 : Int) : Bool := c && (dokB (wsg m1) (dlm m1) (dex m1 x1) && dokB (wsg m2) (dlm m2) (dex m2 x2))
theorem ivC_no {c : Bool} {m1 x1 m2 x2 : Int} (h : c = false) : ivC c m1 x1 m2 x2 = false := by unfold ivC; rw [h]; rfl
theorem ivC_len {c : Bool} {m1 x1 m2 x2 : Int} : (if ivC c m1 x1 m2 x2 = true then dlm m1 else []).length ≤ 100 ∧ (if ivC c m1 x1 m2 x2 = true then dlm m2 else []).length ≤ 100 := by
  split
  · rename_i h
    unfold ivC at h
    simp only [Bool.and_eq_true] at h
    exact ⟨(wok_int (dok_parts h.2.1).1).2.2.1, (wok_int (dok_parts h.2.2).1).2.2.1⟩
  · exact ⟨by simp, by simp⟩
theorem ivAns_false {g1 : Bool} {p1 : Int} {L1 : List Int} {g2 : Bool} {p2 : Int} {L2 : List Int} {h1 : Bool} {t1 : Int} {N1 : List Int} {h2 : Bool} {t2 : Int} {N2 : List Int} {w w' : World} {e : Ending} (h : IvAns false g1 p1 L1 g2 p2 L2 w e w') : IvAns false h1 t1 N1 h2 t2 N2 w e w' := h
theorem ivAns_ans {c c1 c2 : Bool} {m1 x1 m2 x2 : Int} {w w' : World} {e : Ending} (hc : c = true) (hc1 : c1 = true) (hc2 : c2 = true)
    (h : IvAns (ansDB c1 m1 x1 && ansDB c2 m2 x2) (ansDS c1 m1 x1) (ansDE c1 m1 x1) (ansDL c1 m1 x1) (ansDS c2 m2 x2) (ansDE c2 m2 x2) (ansDL c2 m2 x2) w e w') : IvAns (ivC c m1 x1 m2 x2) (wsg m1) (dex m1 x1) (dlm m1) (wsg m2) (dex m2 x2) (dlm m2) w e w' := by
  have e0 : ivC c m1 x1 m2 x2 = (ansDB c1 m1 x1 && ansDB c2 m2 x2) := by unfold ivC ansDB; rw [hc, hc1, hc2]; rfl
  rw [e0]
  cases hb : (ansDB c1 m1 x1 && ansDB c2 m2 x2)
  · rw [hb] at h
    exact ivAns_false h
  · rw [Bool.and_eq_true] at hb
    obtain ⟨a1, a2, a3⟩ := ansD_yes hb.1
    obtain ⟨b1, b2, b3⟩ := ansD_yes hb.2
    rw [hb.1, hb.2, a1, a2, a3, b1, b2, b3] at h
    exact h

/-- As IvAns; nothing is said of where the one list ends and the other begins. -/
def IvAnsS (o g1 : Bool) (p1 : Int) (L1 : List Int) (g2 : Bool) (p2 : Int) (L2 : List Int) (w : World) (e : Ending) (w' : World) : Prop := ∃ v v', e = .returned (.tuple #[.agg #[.bool (o && g1), v, .int .i64 (if o = true then p1 else 0), .bool (o && g2), v', .int .i64 (if o = true then p2 else 0)], .bool o]) ∧ Row .i64 true w.heap.size w'.heap.size w' v (if o = true then L1 else []) ∧ Row .i64 true w.heap.size w'.heap.size w' v' (if o = true then L2 else []) ∧ Kept 0 0 w w'
theorem IvAns.weak {o g1 : Bool} {p1 : Int} {L1 : List Int} {g2 : Bool} {p2 : Int} {L2 : List Int} {w w' : World} {e : Ending} (h : IvAns o g1 p1 L1 g2 p2 L2 w e w') : IvAnsS o g1 p1 L1 g2 p2 L2 w e w' := by
  obtain ⟨v, v', mid, h1, h2, h3, h4, h5, h6⟩ := h
  exact ⟨v, v', h1, h2.wider (Nat.le_refl _) h5, h3.wider h4 (Nat.le_refl _), h6⟩
theorem ivS_no {g1 g2 : Bool} {p1 p2 : Int} {L1 L2 : List Int} {w w' : World} (k : Kept 0 0 w w') : IvAnsS false g1 p1 L1 g2 p2 L2 w (.returned (.tuple #[.agg #[.bool false, .slice none 0 0, .int .i64 0, .bool false, .slice none 0 0, .int .i64 0], .bool false])) w' :=
  ⟨.slice none 0 0, .slice none 0 0, rfl, Row.nil _ _ _ _ _, Row.nil _ _ _ _ _, k⟩
theorem ivS_yes {g1 g2 : Bool} {p1 p2 : Int} {L1 L2 : List Int} {w w' : World} {v v' : Value} (r : Row .i64 true w.heap.size w'.heap.size w' v L1) (r' : Row .i64 true w.heap.size w'.heap.size w' v' L2) (k : Kept 0 0 w w') : IvAnsS true g1 p1 L1 g2 p2 L2 w (.returned (.tuple #[.agg #[.bool g1, v, .int .i64 p1, .bool g2, v', .int .i64 p2], .bool true])) w' :=
  ⟨v, v', rfl, r, r', k⟩
theorem ivS_open {o g1 : Bool} {p1 : Int} {L1 : List Int} {g2 : Bool} {p2 : Int} {L2 : List Int} {w w' : World} {e : Ending} (h : IvAnsS o g1 p1 L1 g2 p2 L2 w e w') :
    ∃ q1 y1 M1 q2 y2 M2 v v', e = .returned (.tuple #[.agg #[.bool q1, v, .int .i64 y1, .bool q2, v', .int .i64 y2], .bool o]) ∧ Row .i64 true w.heap.size w'.heap.size w' v M1 ∧ Row .i64 true w.heap.size w'.heap.size w' v' M2 ∧ Kept 0 0 w w' ∧ IvEq o g1 p1 L1 g2 p2 L2 q1 y1 M1 q2 y2 M2 := by
  obtain ⟨v, v', h1, h2, h3, h6⟩ := h
  exact ⟨_, _, _, _, _, _, v, v', h1, h2, h3, h6, rfl, rfl, rfl, rfl, rfl, rfl⟩
theorem ivS_shut {o g1 : Bool} {p1 : Int} {L1 : List Int} {g2 : Bool} {p2 : Int} {L2 : List Int} {q1 : Bool} {y1 : Int} {M1 : List Int} {q2 : Bool} {y2 : Int} {M2 : List Int} {w w' : World} {v v' : Value} (h : IvEq o g1 p1 L1 g2 p2 L2 q1 y1 M1 q2 y2 M2)
    (r : Row .i64 true w.heap.size w'.heap.size w' v M1) (r' : Row .i64 true w.heap.size w'.heap.size w' v' M2) (k : Kept 0 0 w w') : IvAnsS o g1 p1 L1 g2 p2 L2 w (.returned (.tuple #[.agg #[.bool q1, v, .int .i64 y1, .bool q2, v', .int .i64 y2], .bool o])) w' := by
  obtain ⟨e1, e2, e3, e4, e5, e6⟩ := h
  subst e1 e2 e3 e4 e5 e6
  exact ⟨v, v', rfl, r, r', k⟩
theorem d_back {s : Bool} {zs : List Int} {x : Int} (h : dokB s zs x = true) : wsg (wval s zs) = s ∧ dlm (wval s zs) = zs ∧ dex (wval s zs) x = x := by
  have h1 := (dok_parts h).1
  obtain ⟨f1, f2⟩ := d_form h (wval s zs) (wval_abs (wok_int h1).2.2.2.1)
  exact ⟨wn_sign (wok_wn h1), f1, f2⟩

end Go.Proofs.YthahoabkehcgbaaDoor
