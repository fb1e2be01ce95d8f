/-
  Dyadic numbers: two of them that are worked on; the program's lowerTo and align.
-/
import Derived.Test.YtepehpkmejjhiaaGreatDoorDy3
import Derived.Deep.DeepCutAuto
namespace Go.Proofs.YtepehpkmejjhiaaGreatDoor
open Go.RowKit
set_option linter.unusedVariables false
set_option maxRecDepth 8000
set_option linter.unusedSimpArgs false

theorem Two.put1 {w0 w w' : World} {g1 g2 b : Nat} {u1 u1' u2 : Value} {xs ys zs : List Int} (t : Two w0 w g1 g2 u1 u2 xs ys) (n : Num b w' g1 u1' zs) (hb : w0.heap.size ≤ b) (m : Mod (fun i => i = g1) w w') (ho : ∀ i, u1'.ownBlock = some i → u1.ownBlock = some i ∨ w.heap.size ≤ i) : Two w0 w' g1 g2 u1' u2 zs ys :=
  ⟨n.less hb, t.n2.mod m (fun e => t.ne e.symm) (fun i e e' => t.o21 (by rw [e, e'])), t.ne, fun e => (ho _ e).elim t.o12 (fun h => by have := t.n2.lt; omega), t.o21, fun k h1 h2 => (ho _ h1).elim (fun h => t.oo k h h2) (fun h => by have := (t.n2.own.lt _ h2).2; omega), t.k.mod m (fun i e => by rw [e]; exact t.b1), t.b1, t.b2⟩
/-- Two dyadic numbers that are worked on, apart, newer than w0. -/
structure Dya2 (w0 w : World) (g1 g2 : Nat) (s1 : Bool) (xs : List Int) (x1 : Int) (s2 : Bool) (ys : List Int) (x2 : Int) : Prop where
  sg : Sig2 w0 w g1 g2 s1 xs s2 ys
  e1 : Ex w g1 x1
  e2 : Ex w g2 x2
theorem Sig2.swap {w0 w : World} {g1 g2 : Nat} {s1 s2 : Bool} {xs ys : List Int} (h : Sig2 w0 w g1 g2 s1 xs s2 ys) : Sig2 w0 w g2 g1 s2 ys s1 xs := by
  obtain ⟨⟨u1, u2, t⟩, d1, d2⟩ := h
  exact ⟨⟨u2, u1, t.swap⟩, d2, d1⟩
theorem Dya2.swap {w0 w : World} {g1 g2 : Nat} {s1 s2 : Bool} {xs ys : List Int} {x1 x2 : Int} (h : Dya2 w0 w g1 g2 s1 xs x1 s2 ys x2) : Dya2 w0 w g2 g1 s2 ys x2 s1 xs x1 := ⟨h.sg.swap, h.e2, h.e1⟩
theorem Sig2.kept {w0 w w' : World} {g1 g2 : Nat} {s1 s2 : Bool} {xs ys : List Int} (h : Sig2 w0 w g1 g2 s1 xs s2 ys) (k : Kept 0 0 w w') : Sig2 w0 w' g1 g2 s1 xs s2 ys := by
  obtain ⟨⟨u1, u2, t⟩, d1, d2⟩ := h
  exact ⟨⟨u1, u2, t.kept k⟩, d1.kept k, d2.kept k⟩
theorem Dya2.kept {w0 w w' : World} {g1 g2 : Nat} {s1 s2 : Bool} {xs ys : List Int} {x1 x2 : Int} (h : Dya2 w0 w g1 g2 s1 xs x1 s2 ys x2) (k : Kept 0 0 w w') : Dya2 w0 w' g1 g2 s1 xs x1 s2 ys x2 := ⟨h.sg.kept k, h.e1.kept k, h.e2.kept k⟩
theorem Ex.set {w : World} {g : Nat} {x : Int} (h : Ex w g x) (y : Int) : Ex (w.setCell ⟨g, 2, none⟩ (.int .i64 y)) g y :=
  ⟨cell_on _ _ _ _ _ h.1, by rw [frozen_set]; exact h.2⟩
theorem Num.set2 {b g : Nat} {w : World} {v : Value} {zs : List Int} (h : Num b w g v zs) (u : Value) : Num b (w.setCell ⟨g, 2, none⟩ u) g v zs :=
  ⟨(side_setAt w g 2 0 u (by decide)).trans h.cell, by rw [frozen_set]; exact h.loose, own_apart h.own (p := ⟨g, 2, none⟩) h.apart u, h.apart⟩
theorem Sd.set2 {w : World} {g : Nat} {s : Bool} (h : Sd w g s) (u : Value) : Sd (w.setCell ⟨g, 2, none⟩ u) g s :=
  ⟨(side_setAt w g 2 1 u (by decide)).trans h.1, by rw [frozen_set]; exact h.2⟩
theorem in_shiftUp : ∀ (w : World) (args : Array Value), (callFunc 146 args).run Tryz.prog w = .ok (.enter 146 args) w := enters Tryz.func146 (by decide) (fun h => by cases h)

theorem shiftUp_any {b g : Nat} {v : Value} {xs : List Int} (w : World) (h : Num b w g v xs) (hn : Nrm xs) (nx : xs.length ≤ 50000) (k : Nat) (hk : k ≤ 800000) :
    Calls Tryz.prog 146 #[.pointer (some ⟨g, 0, none⟩), .int .i64 (k : Int)] w fun e w' => (∃ r, e = .returned r) ∧ ∃ u, Num (min b w.heap.size) w' g u (limbs ((val xs).toNat * 2 ^ k)) ∧ Mod (fun i => i = g) w w' ∧ SameSide g w w' ∧ (∀ i, u.ownBlock = some i → v.ownBlock = some i ∨ w.heap.size ≤ i) := by
  by_cases h0 : xs = []
  · subst h0
    refine (shiftUp_zero w h k).mono ?_
    rintro e w' ⟨hr, rfl⟩
    refine ⟨hr, v, ?_, Mod.refl _ _, SameSide.refl _ _, fun i e => .inl e⟩
    rw [show limbs ((val ([] : List Int)).toNat * 2 ^ k) = [] by simp [val, limbs_zero]]
    exact h.less (Nat.min_le_left _ _)
  · refine (shiftUp_S w h hn.1 h0 nx k hk).mono ?_
    rintro e w' ⟨hr, u, n, m, sd⟩
    exact ⟨hr, u, n.less (Nat.min_le_right _ _), m, sd, fun i e => .inr (n.own.lt i e).1⟩

set_option maxHeartbeats 2000000 in
theorem lowerTo_impl {b g : Nat} {v : Value} {xs : List Int} {s : Bool} {x y : Int} (w : World) (h : Num b w g v xs) (d : Sd w g s) (ex : Ex w g x) (hn : Nrm xs) (nx : xs.length ≤ 50000) (hb : b ≤ w.heap.size) (k : Nat) (hk : x - y = (k : Int)) (hk2 : k ≤ 800000) :
    Calls Tryz.prog 153 #[.pointer (some ⟨g, 0, none⟩), .int .i64 y] w fun e w' => (∃ r, e = .returned r) ∧ ∃ u, Num b w' g u (limbs ((val xs).toNat * 2 ^ k)) ∧ Sd w' g s ∧ Ex w' g y ∧ Mod (fun i => i = g) w w' ∧ (∀ i, u.ownBlock = some i → v.ownBlock = some i ∨ w.heap.size ≤ i) := by
  have hc2 := ex.1
  have hf2 := ex.2
  have hw : IntKind.i64.wrap (k : Int) = (k : Int) := w64 _ (by omega) (by omega)
  have HSU := hide (shiftUp_any w.drew (h.kept (Kept.refl 0 0 w).drew) hn (by omega) k hk2)
  have D := hide d
  have EX := hide ex
  have H := hide h
  clear d ex h
  go_enter Tryz.func153, Tryz.ntmps153
  go_wp2_with fail
  refine wp_region_held_drew (S := (fun w' => w'.cell? ⟨g, 2, none⟩ = some (.int .i64 x))) (by kernel_rfl) ?_ (fun hHeld => ?_)
  · exact hc2
  refine wT (i := 0) (v := .pointer (some ⟨g, 0, none⟩)) rfl (Or.inl ⟨by rfl, ?_⟩) hHeld ?_
  · intro wq hSw
    try dsimp only at hSw
    go_simp
  try simp only [Act.put, zq1, zq2, zq3, zq4, zq5, zq6]
  refine wT (i := 1) (v := .pointer (some ⟨g, 0, none⟩)) rfl (Or.inl ⟨by rfl, ?_⟩) hHeld ?_
  · intro wq hSw
    try dsimp only at hSw
    go_simp
  try simp only [Act.put, zq1, zq2, zq3, zq4, zq5, zq6]
  refine wT (i := 2) (v := .pointer (some ⟨g, 0, none⟩)) rfl (Or.inl ⟨by rfl, ?_⟩) hHeld ?_
  · intro wq hSw
    try dsimp only at hSw
    go_simp
  try simp only [Act.put, zq1, zq2, zq3, zq4, zq5, zq6]
  refine wT (i := 3) (v := .pointer (some ⟨g, 0, none⟩)) rfl (Or.inl ⟨by rfl, ?_⟩) hHeld ?_
  · intro wq hSw
    try dsimp only at hSw
    go_simp
  try simp only [Act.put, zq1, zq2, zq3, zq4, zq5, zq6]
  refine wT (i := 4) (v := .pointer (some ⟨g, 0, none⟩)) rfl (Or.inl ⟨by rfl, ?_⟩) hHeld ?_
  · intro wq hSw
    try dsimp only at hSw
    go_simp
  try simp only [Act.put, zq1, zq2, zq3, zq4, zq5, zq6]
  refine wT (i := 5) (v := .pointer (some ⟨g, 0, none⟩)) rfl (Or.inl ⟨by rfl, ?_⟩) hHeld ?_
  · intro wq hSw
    try dsimp only at hSw
    go_simp
  try simp only [Act.put, zq1, zq2, zq3, zq4, zq5, zq6]
  refine wT (i := 6) (v := .pointer (some ⟨g, 2, none⟩)) rfl (Or.inl ⟨by rfl, ?_⟩) hHeld ?_
  · intro wq hSw
    try dsimp only at hSw
    go_simp
  try simp only [Act.put, zq1, zq2, zq3, zq4, zq5, zq6]
  refine wT (i := 7) (v := .int .i64 x) rfl (Or.inl ⟨by rfl, ?_⟩) hHeld ?_
  · intro wq hSw
    try dsimp only at hSw
    go_simp
  try simp only [Act.put, zq1, zq2, zq3, zq4, zq5, zq6]
  refine wT (i := 8) (v := .int .i64 y) rfl (Or.inl ⟨by rfl, ?_⟩) hHeld ?_
  · intro wq hSw
    try dsimp only at hSw
    go_simp
  try simp only [Act.put, zq1, zq2, zq3, zq4, zq5, zq6]
  refine wT (i := 9) (v := .int .i64 (k : Int)) rfl (Or.inl ⟨by rfl, ?_⟩) hHeld ?_
  · intro wq hSw
    try dsimp only at hSw
    go_simp
  try simp only [Act.put, zq1, zq2, zq3, zq4, zq5, zq6]
  refine wR 10 (by kernel_rfl) rfl (fun KK hK => ?_)
  simp only [zq1, zq2, zq3]
  rw [if_pos (by rfl)]
  refine wps2 146 (.tmp 7) (.tmp 13) _ rfl in_shiftUp (.pointer (some ⟨g, 0, none⟩)) (.int .i64 (k : Int)) rfl rfl (unhide HSU) ?_
  rintro e w2 ⟨⟨r2, rfl⟩, u2, n2, m2, sd2, ho2⟩
  refine ⟨_, rfl, ?_⟩
  have ex2 : Ex w2 g x := Ex.tail (unhide EX) (SameSide.tail sd2)
  have d2 : Sd w2 g s := Sd.same (unhide D) sd2
  have hc3 := ex2.1
  have hf3 := ex2.2
  clear hHeld
  refine hK.out _ _ ?_ (fun hHeld => ?_)
  · exact hc3
  clear hK KK
  try simp only [Act.put, zq1, zq2, zq3, zq4, zq5, zq6]
  refine wpAnyH_done (by kernel_rfl) ?_ _
  clear hHeld hc2 hf2
  have N2 := hide ((n2.less (b' := b) (Nat.le_min.2 ⟨Nat.le_refl _, hb⟩)).set2 (.int .i64 y))
  have D2 := hide (d2.set2 (.int .i64 y))
  have E2 := hide (ex2.set y)
  have M2 : Hid (Mod (fun i => i = g) w (w2.setCell ⟨g, 2, none⟩ (.int .i64 y))) := Mod.set (S := fun i => i = g) (((Kept.refl 0 0 w).drew.toMod).trans m2) (p := ⟨g, 2, none⟩) (.inl rfl) _
  have HO := hide ho2
  clear n2 m2 sd2 ho2 d2 ex2 HSU
  go_wp2_with fail
  exact bodyPost_end (v := .tuple #[]) (by simp [results, Tryz.results153, go_sem]) rfl ⟨⟨_, rfl⟩, _, unhide N2, unhide D2, unhide E2, unhide M2, unhide HO⟩

end Go.Proofs.YtepehpkmejjhiaaGreatDoor

