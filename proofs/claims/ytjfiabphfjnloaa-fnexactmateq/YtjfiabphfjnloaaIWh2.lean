/-
  The program's methods turnSign, multiplySigned, subtractFrom, addSigned, compareSigned of numbers with a sign; signedOfInt.
-/
import Derived.Test.YtjfiabphfjnloaaBH
import Derived.Test.YtjfiabphfjnloaaINat26
import Derived.Deep.QuietTactic
import Derived.BigQuiet
import Derived.BigRegion
namespace Go.Proofs.Ytjfiabphfjnloaa
open Go.RowKit
set_option linter.unusedVariables false
set_option maxRecDepth 8000
set_option linter.unusedSimpArgs false

theorem front_set (w : World) (g : Nat) (u : Value) : (w.setCell ⟨g, 1, none⟩ u).cell? ⟨g, 0, none⟩ = w.cell? ⟨g, 0, none⟩ := by
  unfold World.cell? World.setCell
  simp only [Array.getElem?_modify]
  cases hb : w.heap[g]? with
  | none => simp
  | some b => cases b <;> simp
theorem Num.side {b g : Nat} {w : World} {v : Value} {zs : List Int} (h : Num b w g v zs) (u : Value) : Num b (w.setCell ⟨g, 1, none⟩ u) g v zs :=
  ⟨(front_set w g u).trans h.cell, by rw [frozen_set]; exact h.loose, own_apart h.own (p := ⟨g, 1, none⟩) h.apart u, h.apart⟩
theorem Sd.set {w : World} {g : Nat} {s : Bool} (h : Sd w g s) (t : Bool) : Sd (w.setCell ⟨g, 1, none⟩ (.bool t)) g t :=
  ⟨by have := cell_set w g 1 1 (.bool t) (.bool s) h.1; simpa using this, by rw [frozen_set]; exact h.2⟩

theorem in_compare : ∀ (w : World) (args : Array Value), (callFunc 56 args).run Try.prog w = .ok (.enter 56 args) w := enters Try.func56 (by decide) (fun h => by cases h)

theorem own_base {w : World} {b b' n : Nat} {e : TypeId} {v : Value} {xs : List Value} (h : w.ownsRow b e 1 v n xs) (hb : ∀ i, v.ownBlock = some i → b' ≤ i) : w.ownsRow b' e 1 v n xs := by
  refine ⟨h.1, ?_⟩
  rcases h.2 with hn | ⟨g, cap, cur, rfl, h1, rest⟩
  · exact .inl hn
  · exact .inr ⟨g, cap, cur, rfl, hb g rfl, rest⟩
/-- Two numbers with signs, apart, newer than w0. -/
structure Sig2 (w0 w : World) (g1 g2 : Nat) (s1 : Bool) (xs : List Int) (s2 : Bool) (ys : List Int) : Prop where
  two : ∃ u1 u2, Two w0 w g1 g2 u1 u2 xs ys
  d1 : Sd w g1 s1
  d2 : Sd w g2 s2

set_option maxHeartbeats 4000000 in
theorem compareSigned_wn {w0 w : World} {g1 g2 : Nat} {s1 s2 : Bool} {xs ys : List Int} (S : Sig2 w0 w g1 g2 s1 xs s2 ys) (o1 : WN s1 xs) (o2 : WN s2 ys) :
    Calls Try.prog 45 #[.pointer (some ⟨g1, 0, none⟩), .pointer (some ⟨g2, 0, none⟩)] w fun e w' => e = .returned (.int .i64 (cmpI (wval s1 xs) (wval s2 ys))) ∧ Kept 0 0 w w' := by
  obtain ⟨x1, x2, hx⟩ := o1.int
  obtain ⟨y1, y2, hy⟩ := o2.int
  have nx := val_nonneg hx.1
  have ny := val_nonneg hy.1
  obtain ⟨u1, u2, t⟩ := S.two
  have b1 := isBelow_impl w t.n1 S.d1
  have b2 := isBelow_impl w t.n2 S.d2
  have e1 : (s1 && decide (0 < xs.length)) = s1 := by
    cases s1
    · rfl
    · exact decide_eq_true (o1.2 rfl)
  have e2 : (s2 && decide (0 < ys.length)) = s2 := by
    cases s2
    · rfl
    · exact decide_eq_true (o2.2 rfl)
  rw [e1] at b1
  rw [e2] at b2
  have T := hide t
  have B1 := hide b1
  have B2 := hide b2
  clear S t b1 b2 x2 y2 e1 e2 o1 o2
  cases s1 <;> cases s2
  · have e : cmpI (wval false xs) (wval false ys) = cmpI (val xs) (val ys) := by simp [wval]
    rw [e]
    clear x1 y1 e
    go_enter Try.func45, Try.ntmps45
    go_wp2_with (first | (go_at_call_of 55 (Value.pointer (some ⟨g1, 0, none⟩)); refine (unhide B1).mono ?_; rintro e w' ⟨rfl, rfl⟩) | (go_at_call_of 55 (Value.pointer (some ⟨g2, 0, none⟩)); refine (unhide B2).mono ?_; rintro e w' ⟨rfl, rfl⟩))
    refine wp_region_held_drew (S := (fun _ => True)) (by kernel_rfl) ?_ (fun hHeld => ?_)
    · trivial
    refine wpAnyH_take (i := 0) (oi := _) (v := .pointer (some ⟨g1, 0, none⟩)) rfl (by kernel_rfl) (by kernel_rfl) (by kernel_rfl) (fun _ _ _ h => h) (Or.inl ⟨by rfl, ?_⟩) hHeld ?_
    · intro wq hSw
      try dsimp only at hSw
      go_simp
    try simp only [Act.put, List.getElem_toArray, List.getElem_cons_succ, List.getElem_cons_zero, List.setIfInBounds_toArray, List.set_cons_zero, List.set_cons_succ]
    refine wpAnyH_take (i := 1) (oi := _) (v := .pointer (some ⟨g1, 0, none⟩)) rfl (by kernel_rfl) (by kernel_rfl) (by kernel_rfl) (fun _ _ _ h => h) (Or.inl ⟨by rfl, ?_⟩) hHeld ?_
    · intro wq hSw
      try dsimp only at hSw
      go_simp
    try simp only [Act.put, List.getElem_toArray, List.getElem_cons_succ, List.getElem_cons_zero, List.setIfInBounds_toArray, List.set_cons_zero, List.set_cons_succ]
    refine wpAnyH_take (i := 2) (oi := _) (v := .pointer (some ⟨g1, 0, none⟩)) rfl (by kernel_rfl) (by kernel_rfl) (by kernel_rfl) (fun _ _ _ h => h) (Or.inl ⟨by rfl, ?_⟩) hHeld ?_
    · intro wq hSw
      try dsimp only at hSw
      go_simp
    try simp only [Act.put, List.getElem_toArray, List.getElem_cons_succ, List.getElem_cons_zero, List.setIfInBounds_toArray, List.set_cons_zero, List.set_cons_succ]
    refine wpAnyH_take (i := 3) (oi := _) (v := .pointer (some ⟨g2, 0, none⟩)) rfl (by kernel_rfl) (by kernel_rfl) (by kernel_rfl) (fun _ _ _ h => h) (Or.inl ⟨by rfl, ?_⟩) hHeld ?_
    · intro wq hSw
      try dsimp only at hSw
      go_simp
    try simp only [Act.put, List.getElem_toArray, List.getElem_cons_succ, List.getElem_cons_zero, List.setIfInBounds_toArray, List.set_cons_zero, List.set_cons_succ]
    refine wpAnyH_take (i := 4) (oi := _) (v := .pointer (some ⟨g2, 0, none⟩)) rfl (by kernel_rfl) (by kernel_rfl) (by kernel_rfl) (fun _ _ _ h => h) (Or.inl ⟨by rfl, ?_⟩) hHeld ?_
    · intro wq hSw
      try dsimp only at hSw
      go_simp
    try simp only [Act.put, List.getElem_toArray, List.getElem_cons_succ, List.getElem_cons_zero, List.setIfInBounds_toArray, List.set_cons_zero, List.set_cons_succ]
    refine wpAnyH_take (i := 5) (oi := _) (v := .pointer (some ⟨g2, 0, none⟩)) rfl (by kernel_rfl) (by kernel_rfl) (by kernel_rfl) (fun _ _ _ h => h) (Or.inl ⟨by rfl, ?_⟩) hHeld ?_
    · intro wq hSw
      try dsimp only at hSw
      go_simp
    try simp only [Act.put, List.getElem_toArray, List.getElem_cons_succ, List.getElem_cons_zero, List.setIfInBounds_toArray, List.set_cons_zero, List.set_cons_succ]
    refine wpAnyH_ready (rs := [6]) (by kernel_rfl) (by simp) ?_
    refine AllReadyH.cons rfl (fun KK hK => ?_) AllReadyH.nil
    simp only [List.getElem_toArray, List.getElem_cons_succ, List.getElem_cons_zero]
    rw [if_pos (by rfl)]
    refine wps2 56 (.tmp 27) (.tmp 30) _ rfl in_compare (.pointer (some ⟨g1, 0, none⟩)) (.pointer (some ⟨g2, 0, none⟩)) rfl rfl (compare_impl _ ((unhide T).kept (Kept.refl 0 0 _).drew).n1 ((unhide T).kept (Kept.refl 0 0 _).drew).n2 hx hy) ?_
    rintro e w5 ⟨rfl, k5⟩
    refine ⟨_, rfl, ?_⟩
    have K5 := hide ((Kept.refl 0 0 _).drew.trans k5)
    clear k5
    clear hHeld
    refine hK.out _ _ ?_ (fun hHeld => ?_)
    · trivial
    clear hK KK
    try simp only [Act.put, List.getElem_toArray, List.getElem_cons_succ, List.getElem_cons_zero, List.setIfInBounds_toArray, List.set_cons_zero, List.set_cons_succ]
    refine wpAnyH_take (i := 7) (oi := _) (v := .int .i64 (cmpI (val xs) (val ys))) rfl (by kernel_rfl) (by kernel_rfl) (by kernel_rfl) (fun _ _ _ h => h) (Or.inl ⟨by rfl, ?_⟩) hHeld ?_
    · intro wq hSw
      try dsimp only at hSw
      go_simp
    try simp only [Act.put, List.getElem_toArray, List.getElem_cons_succ, List.getElem_cons_zero, List.setIfInBounds_toArray, List.set_cons_zero, List.set_cons_succ]
    refine wpAnyH_done (by kernel_rfl) ?_ _
    clear hHeld
    go_wp2
    go_ret
    exact ⟨rfl, unhide K5⟩
  · have e : cmpI (wval false xs) (wval true ys) = 1 := by simp [wval] at y1 ⊢; unfold cmpI; rw [if_neg (by omega), if_pos (by omega)]
    rw [e]
    clear x1 y1 e
    go_enter Try.func45, Try.ntmps45
    go_wp2_with (first | (go_at_call_of 55 (Value.pointer (some ⟨g1, 0, none⟩)); refine (unhide B1).mono ?_; rintro e w' ⟨rfl, rfl⟩) | (go_at_call_of 55 (Value.pointer (some ⟨g2, 0, none⟩)); refine (unhide B2).mono ?_; rintro e w' ⟨rfl, rfl⟩))
    go_ret
    exact ⟨rfl, Kept.refl 0 0 _⟩
  · have e : cmpI (wval true xs) (wval false ys) = -1 := by simp [wval] at x1 ⊢; unfold cmpI; rw [if_pos (by omega)]
    rw [e]
    clear x1 y1 e
    go_enter Try.func45, Try.ntmps45
    go_wp2_with (first | (go_at_call_of 55 (Value.pointer (some ⟨g1, 0, none⟩)); refine (unhide B1).mono ?_; rintro e w' ⟨rfl, rfl⟩) | (go_at_call_of 55 (Value.pointer (some ⟨g2, 0, none⟩)); refine (unhide B2).mono ?_; rintro e w' ⟨rfl, rfl⟩))
    go_ret
    exact ⟨rfl, Kept.refl 0 0 _⟩
  · have e : cmpI (wval true xs) (wval true ys) = cmpI (val ys) (val xs) := by simp [wval]; unfold cmpI; split <;> split <;> (try split) <;> (try split) <;> omega
    rw [e]
    clear x1 y1 e
    go_enter Try.func45, Try.ntmps45
    go_wp2_with (first | (go_at_call_of 55 (Value.pointer (some ⟨g1, 0, none⟩)); refine (unhide B1).mono ?_; rintro e w' ⟨rfl, rfl⟩) | (go_at_call_of 55 (Value.pointer (some ⟨g2, 0, none⟩)); refine (unhide B2).mono ?_; rintro e w' ⟨rfl, rfl⟩))
    refine wp_region_held_drew (S := (fun _ => True)) (by kernel_rfl) ?_ (fun hHeld => ?_)
    · trivial
    refine wpAnyH_take (i := 0) (oi := _) (v := .pointer (some ⟨g2, 0, none⟩)) rfl (by kernel_rfl) (by kernel_rfl) (by kernel_rfl) (fun _ _ _ h => h) (Or.inl ⟨by rfl, ?_⟩) hHeld ?_
    · intro wq hSw
      try dsimp only at hSw
      go_simp
    try simp only [Act.put, List.getElem_toArray, List.getElem_cons_succ, List.getElem_cons_zero, List.setIfInBounds_toArray, List.set_cons_zero, List.set_cons_succ]
    refine wpAnyH_take (i := 1) (oi := _) (v := .pointer (some ⟨g2, 0, none⟩)) rfl (by kernel_rfl) (by kernel_rfl) (by kernel_rfl) (fun _ _ _ h => h) (Or.inl ⟨by rfl, ?_⟩) hHeld ?_
    · intro wq hSw
      try dsimp only at hSw
      go_simp
    try simp only [Act.put, List.getElem_toArray, List.getElem_cons_succ, List.getElem_cons_zero, List.setIfInBounds_toArray, List.set_cons_zero, List.set_cons_succ]
    refine wpAnyH_take (i := 2) (oi := _) (v := .pointer (some ⟨g2, 0, none⟩)) rfl (by kernel_rfl) (by kernel_rfl) (by kernel_rfl) (fun _ _ _ h => h) (Or.inl ⟨by rfl, ?_⟩) hHeld ?_
    · intro wq hSw
      try dsimp only at hSw
      go_simp
    try simp only [Act.put, List.getElem_toArray, List.getElem_cons_succ, List.getElem_cons_zero, List.setIfInBounds_toArray, List.set_cons_zero, List.set_cons_succ]
    refine wpAnyH_take (i := 3) (oi := _) (v := .pointer (some ⟨g1, 0, none⟩)) rfl (by kernel_rfl) (by kernel_rfl) (by kernel_rfl) (fun _ _ _ h => h) (Or.inl ⟨by rfl, ?_⟩) hHeld ?_
    · intro wq hSw
      try dsimp only at hSw
      go_simp
    try simp only [Act.put, List.getElem_toArray, List.getElem_cons_succ, List.getElem_cons_zero, List.setIfInBounds_toArray, List.set_cons_zero, List.set_cons_succ]
    refine wpAnyH_take (i := 4) (oi := _) (v := .pointer (some ⟨g1, 0, none⟩)) rfl (by kernel_rfl) (by kernel_rfl) (by kernel_rfl) (fun _ _ _ h => h) (Or.inl ⟨by rfl, ?_⟩) hHeld ?_
    · intro wq hSw
      try dsimp only at hSw
      go_simp
    try simp only [Act.put, List.getElem_toArray, List.getElem_cons_succ, List.getElem_cons_zero, List.setIfInBounds_toArray, List.set_cons_zero, List.set_cons_succ]
    refine wpAnyH_take (i := 5) (oi := _) (v := .pointer (some ⟨g1, 0, none⟩)) rfl (by kernel_rfl) (by kernel_rfl) (by kernel_rfl) (fun _ _ _ h => h) (Or.inl ⟨by rfl, ?_⟩) hHeld ?_
    · intro wq hSw
      try dsimp only at hSw
      go_simp
    try simp only [Act.put, List.getElem_toArray, List.getElem_cons_succ, List.getElem_cons_zero, List.setIfInBounds_toArray, List.set_cons_zero, List.set_cons_succ]
    refine wpAnyH_ready (rs := [6]) (by kernel_rfl) (by simp) ?_
    refine AllReadyH.cons rfl (fun KK hK => ?_) AllReadyH.nil
    simp only [List.getElem_toArray, List.getElem_cons_succ, List.getElem_cons_zero]
    rw [if_pos (by rfl)]
    refine wps2 56 (.tmp 14) (.tmp 17) _ rfl in_compare (.pointer (some ⟨g2, 0, none⟩)) (.pointer (some ⟨g1, 0, none⟩)) rfl rfl (compare_impl _ ((unhide T).kept (Kept.refl 0 0 _).drew).n2 ((unhide T).kept (Kept.refl 0 0 _).drew).n1 hy hx) ?_
    rintro e w5 ⟨rfl, k5⟩
    refine ⟨_, rfl, ?_⟩
    have K5 := hide ((Kept.refl 0 0 _).drew.trans k5)
    clear k5
    clear hHeld
    refine hK.out _ _ ?_ (fun hHeld => ?_)
    · trivial
    clear hK KK
    try simp only [Act.put, List.getElem_toArray, List.getElem_cons_succ, List.getElem_cons_zero, List.setIfInBounds_toArray, List.set_cons_zero, List.set_cons_succ]
    refine wpAnyH_take (i := 7) (oi := _) (v := .int .i64 (cmpI (val ys) (val xs))) rfl (by kernel_rfl) (by kernel_rfl) (by kernel_rfl) (fun _ _ _ h => h) (Or.inl ⟨by rfl, ?_⟩) hHeld ?_
    · intro wq hSw
      try dsimp only at hSw
      go_simp
    try simp only [Act.put, List.getElem_toArray, List.getElem_cons_succ, List.getElem_cons_zero, List.setIfInBounds_toArray, List.set_cons_zero, List.set_cons_succ]
    refine wpAnyH_done (by kernel_rfl) ?_ _
    clear hHeld
    go_wp2
    go_ret
    exact ⟨rfl, unhide K5⟩

theorem compareSigned_impl {w0 w : World} {g1 g2 : Nat} {s1 s2 : Bool} {xs ys : List Int} (S : Sig2 w0 w g1 g2 s1 xs s2 ys) (o1 : wokB s1 xs = true) (o2 : wokB s2 ys = true) :
    Calls Try.prog 45 #[.pointer (some ⟨g1, 0, none⟩), .pointer (some ⟨g2, 0, none⟩)] w fun e w' => e = .returned (.int .i64 (cmpI (wval s1 xs) (wval s2 ys))) ∧ Kept 0 0 w w' :=
  compareSigned_wn S (wok_wn o1) (wok_wn o2)

end Go.Proofs.Ytjfiabphfjnloaa
