/-
  The program's methods turnSign, multiplySigned, subtractFrom, addSigned, compareSigned of numbers with a sign; signedOfInt.
-/
import Derived.Test.YtlaelfkhlloglaaDoorIWh1
import Derived.Test.YtlaelfkhlloglaaDoorINat26
import Derived.Deep.QuietTactic
import Derived.BigQuiet
import Derived.BigRegion
namespace Go.Proofs.YtlaelfkhlloglaaDoor
open Go.RowKit
set_option linter.unusedVariables false
set_option maxRecDepth 8000
set_option linter.unusedSimpArgs false

theorem front_set (w : World) (g : Nat) (u : Value) : (w.setCell ⟨g, 1, none⟩ u).cell? ⟨g, 0, none⟩ = w.cell? ⟨g, 0, none⟩ := by
  unfold World.cell? World.setCell
  simp only [Array.getElem?_modify]
  cases hb : w.heap[g]? with
  | none => simp
  | some b => cases b <;> simp
theorem Num.side {b g : Nat} {w : World} {v : Value} {zs : List Int} (h : Num b w g v zs) (u : Value) : Num b (w.setCell ⟨g, 1, none⟩ u) g v zs :=
  ⟨(front_set w g u).trans h.cell, by rw [frozen_set]; exact h.loose, own_apart h.own (p := ⟨g, 1, none⟩) h.apart u, h.apart⟩
theorem Sd.set {w : World} {g : Nat} {s : Bool} (h : Sd w g s) (t : Bool) : Sd (w.setCell ⟨g, 1, none⟩ (.bool t)) g t :=
  ⟨by have := cell_set w g 1 1 (.bool t) (.bool s) h.1; simpa using this, by rw [frozen_set]; exact h.2⟩

theorem in_multiply : ∀ (w : World) (args : Array Value), (callFunc 71 args).run Tryd.prog w = .ok (.enter 71 args) w := enters Tryd.func71 (by decide) (fun h => by cases h)

theorem in_add : ∀ (w : World) (args : Array Value), (callFunc 78 args).run Tryd.prog w = .ok (.enter 78 args) w := enters Tryd.func78 (by decide) (fun h => by cases h)

set_option maxHeartbeats 2000000 in
theorem multiplySigned_tail {b1 b2 g1 g2 : Nat} {v1 v2 : Value} {xs ys : List Int} {s1 s2 : Bool} (w : World) (n1 : Num b1 w g1 v1 xs) (n2 : Num b2 w g2 v2 ys) (d1 : Sd w g1 s1) (d2 : Sd w g2 s2) (hne : g1 ≠ g2) (hx : Lim xs) (hy : Lim ys) (nx : xs.length ≤ 100000) (ny : ys.length ≤ 100000) :
    Calls Tryd.prog 53 #[.pointer (some ⟨g1, 0, none⟩), .pointer (some ⟨g2, 0, none⟩)] w fun e w' => (∃ r, e = .returned r) ∧ ∃ u, Num w.heap.size w' g1 u (limbs (val xs * val ys).toNat) ∧ Sd w' g1 (!(s1 == s2)) ∧ Mod (fun i => i = g1) w w' ∧ SameTail g1 w w' := by
  have kd := (Kept.refl 0 0 w).drew
  have ml := multiply_side w.drew (n1.kept kd) (n2.kept kd) hx hy nx ny
  go_enter Tryd.func53, Tryd.ntmps53
  go_wp2_with fail
  refine wp_region_held_drew (S := (fun _ => True)) (by kernel_rfl) ?_ (fun hHeld => ?_)
  · trivial
  refine wpAnyH_take (i := 0) (oi := _) (v := .pointer (some ⟨g1, 0, none⟩)) rfl (by kernel_rfl) (by kernel_rfl) (by kernel_rfl) (fun _ _ _ h => h) (Or.inl ⟨by rfl, ?_⟩) hHeld ?_
  · intro wq hSw
    try dsimp only at hSw
    go_simp
  try simp only [Act.put, List.getElem_toArray, List.getElem_cons_succ, List.getElem_cons_zero, List.setIfInBounds_toArray, List.set_cons_zero, List.set_cons_succ]
  refine wpAnyH_take (i := 1) (oi := _) (v := .pointer (some ⟨g1, 0, none⟩)) rfl (by kernel_rfl) (by kernel_rfl) (by kernel_rfl) (fun _ _ _ h => h) (Or.inl ⟨by rfl, ?_⟩) hHeld ?_
  · intro wq hSw
    try dsimp only at hSw
    go_simp
  try simp only [Act.put, List.getElem_toArray, List.getElem_cons_succ, List.getElem_cons_zero, List.setIfInBounds_toArray, List.set_cons_zero, List.set_cons_succ]
  refine wpAnyH_take (i := 2) (oi := _) (v := .pointer (some ⟨g1, 0, none⟩)) rfl (by kernel_rfl) (by kernel_rfl) (by kernel_rfl) (fun _ _ _ h => h) (Or.inl ⟨by rfl, ?_⟩) hHeld ?_
  · intro wq hSw
    try dsimp only at hSw
    go_simp
  try simp only [Act.put, List.getElem_toArray, List.getElem_cons_succ, List.getElem_cons_zero, List.setIfInBounds_toArray, List.set_cons_zero, List.set_cons_succ]
  refine wpAnyH_take (i := 3) (oi := _) (v := .pointer (some ⟨g2, 0, none⟩)) rfl (by kernel_rfl) (by kernel_rfl) (by kernel_rfl) (fun _ _ _ h => h) (Or.inl ⟨by rfl, ?_⟩) hHeld ?_
  · intro wq hSw
    try dsimp only at hSw
    go_simp
  try simp only [Act.put, List.getElem_toArray, List.getElem_cons_succ, List.getElem_cons_zero, List.setIfInBounds_toArray, List.set_cons_zero, List.set_cons_succ]
  refine wpAnyH_take (i := 4) (oi := _) (v := .pointer (some ⟨g2, 0, none⟩)) rfl (by kernel_rfl) (by kernel_rfl) (by kernel_rfl) (fun _ _ _ h => h) (Or.inl ⟨by rfl, ?_⟩) hHeld ?_
  · intro wq hSw
    try dsimp only at hSw
    go_simp
  try simp only [Act.put, List.getElem_toArray, List.getElem_cons_succ, List.getElem_cons_zero, List.setIfInBounds_toArray, List.set_cons_zero, List.set_cons_succ]
  refine wpAnyH_take (i := 5) (oi := _) (v := .pointer (some ⟨g2, 0, none⟩)) rfl (by kernel_rfl) (by kernel_rfl) (by kernel_rfl) (fun _ _ _ h => h) (Or.inl ⟨by rfl, ?_⟩) hHeld ?_
  · intro wq hSw
    try dsimp only at hSw
    go_simp
  try simp only [Act.put, List.getElem_toArray, List.getElem_cons_succ, List.getElem_cons_zero, List.setIfInBounds_toArray, List.set_cons_zero, List.set_cons_succ]
  refine wpAnyH_ready (rs := [6]) (by kernel_rfl) (by simp) ?_
  refine AllReadyH.cons rfl (fun KK hK => ?_) AllReadyH.nil
  simp only [List.getElem_toArray, List.getElem_cons_succ, List.getElem_cons_zero]
  rw [if_pos (by rfl)]
  refine wps2 71 (.tmp 6) (.tmp 9) _ rfl in_multiply (.pointer (some ⟨g1, 0, none⟩)) (.pointer (some ⟨g2, 0, none⟩)) rfl rfl ml ?_
  rintro e w6 ⟨⟨r6, rfl⟩, u6, n6, m6, sd6⟩
  refine ⟨_, rfl, ?_⟩
  have D1 := hide ((d1.kept kd).same sd6)
  have D2 := hide ((d2.kept kd).same (m6.side (d2.kept kd).lt (fun e => hne e.symm)))
  have hc1 := (unhide D1).1
  have hf1 := (unhide D1).2
  have hc2 := (unhide D2).1
  have SD6 : Hid (SameTail g1 w w6) := SameSide.tail sd6
  have N6 := hide n6
  have M6 := hide m6
  clear n1 n2 d1 d2 n6 m6 sd6 ml
  clear hHeld
  refine hK.out _ _ ?_ (fun hHeld => ?_)
  · trivial
  clear hK KK
  try simp only [Act.put, List.getElem_toArray, List.getElem_cons_succ, List.getElem_cons_zero, List.setIfInBounds_toArray, List.set_cons_zero, List.set_cons_succ]
  refine wpAnyH_done (by kernel_rfl) ?_ _
  clear hHeld
  go_wp2
  go_region
  go_wp2
  exact bodyPost_end (v := .tuple #[]) (by simp [results, Tryd.results53, go_sem]) rfl ⟨⟨_, rfl⟩, _, ((unhide N6).kept (Kept.refl 0 0 _).drew).side _, ((unhide D1).kept (Kept.refl 0 0 _).drew).set _, Mod.set (S := fun i => i = g1) ((kd.toMod.trans (unhide M6)).kept (Kept.refl 0 0 _).drew) (p := ⟨g1, 1, none⟩) (.inl rfl) _, (unhide SD6).drew.set1 _⟩

theorem multiplySigned_impl {b1 b2 g1 g2 : Nat} {v1 v2 : Value} {xs ys : List Int} {s1 s2 : Bool} (w : World) (n1 : Num b1 w g1 v1 xs) (n2 : Num b2 w g2 v2 ys) (d1 : Sd w g1 s1) (d2 : Sd w g2 s2) (hne : g1 ≠ g2) (hx : Lim xs) (hy : Lim ys) (nx : xs.length ≤ 100000) (ny : ys.length ≤ 100000) :
    Calls Tryd.prog 53 #[.pointer (some ⟨g1, 0, none⟩), .pointer (some ⟨g2, 0, none⟩)] w fun e w' => (∃ r, e = .returned r) ∧ ∃ u, Num w.heap.size w' g1 u (limbs (val xs * val ys).toNat) ∧ Sd w' g1 (!(s1 == s2)) ∧ Mod (fun i => i = g1) w w' :=
  (multiplySigned_tail w n1 n2 d1 d2 hne hx hy nx ny).mono fun _ _ ⟨a, u, b, c, d, _⟩ => ⟨a, u, b, c, d⟩

theorem own_base {w : World} {b b' n : Nat} {e : TypeId} {v : Value} {xs : List Value} (h : w.ownsRow b e 1 v n xs) (hb : ∀ i, v.ownBlock = some i → b' ≤ i) : w.ownsRow b' e 1 v n xs := by
  refine ⟨h.1, ?_⟩
  rcases h.2 with hn | ⟨g, cap, cur, rfl, h1, rest⟩
  · exact .inl hn
  · exact .inr ⟨g, cap, cur, rfl, hb g rfl, rest⟩
/-- Two numbers with signs, apart, newer than w0. -/
structure Sig2 (w0 w : World) (g1 g2 : Nat) (s1 : Bool) (xs : List Int) (s2 : Bool) (ys : List Int) : Prop where
  two : ∃ u1 u2, Two w0 w g1 g2 u1 u2 xs ys
  d1 : Sd w g1 s1
  d2 : Sd w g2 s2

end Go.Proofs.YtlaelfkhlloglaaDoor
