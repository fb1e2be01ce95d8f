/-
  Dyadic numbers: two of them that are worked on; the program's lowerTo and align.
-/
import Derived.Test.YthahoabkehcgbaaDoorDy3
import Derived.Deep.DeepCutAuto
namespace Go.Proofs.YthahoabkehcgbaaDoor
open Go.RowKit
set_option linter.unusedVariables false
set_option maxRecDepth 8000
set_option linter.unusedSimpArgs false

theorem Two.put1 {w0 w w' : World} {g1 g2 b : Nat} {u1 u1' u2 : Value} {xs ys zs : List Int} (t : Two w0 w g1 g2 u1 u2 xs ys) (n : Num b w' g1 u1' zs) (hb : w0.heap.size ≤ b) (m : Mod (fun i => i = g1) w w') (ho : ∀ i, u1'.ownBlock = some i → u1.ownBlock = some i ∨ w.heap.size ≤ i) : Two w0 w' g1 g2 u1' u2 zs ys :=
  ⟨n.less hb, t.n2.mod m (fun e => t.ne e.symm) (fun i e e' => t.o21 (by rw [e, e'])), t.ne, fun e => (ho _ e).elim t.o12 (fun h => by have := t.n2.lt; omega), t.o21, fun k h1 h2 => (ho _ h1).elim (fun h => t.oo k h h2) (fun h => by have := (t.n2.own.lt _ h2).2; omega), t.k.mod m (fun i e => by rw [e]; exact t.b1), t.b1, t.b2⟩
/-- Two dyadic numbers that are worked on, apart, newer than w0. -/
structure Dya2 (w0 w : World) (g1 g2 : Nat) (s1 : Bool) (xs : List Int) (x1 : Int) (s2 : Bool) (ys : List Int) (x2 : Int) : Prop where
  sg : Sig2 w0 w g1 g2 s1 xs s2 ys
  e1 : Ex w g1 x1
  e2 : Ex w g2 x2
theorem Sig2.swap {w0 w : World} {g1 g2 : Nat} {s1 s2 : Bool} {xs ys : List Int} (h : Sig2 w0 w g1 g2 s1 xs s2 ys) : Sig2 w0 w g2 g1 s2 ys s1 xs := by
  obtain ⟨⟨u1, u2, t⟩, d1, d2⟩ := h
  exact ⟨⟨u2, u1, t.swap⟩, d2, d1⟩
theorem Dya2.swap {w0 w : World} {g1 g2 : Nat} {s1 s2 : Bool} {xs ys : List Int} {x1 x2 : Int} (h : Dya2 w0 w g1 g2 s1 xs x1 s2 ys x2) : Dya2 w0 w g2 g1 s2 ys x2 s1 xs x1 := ⟨h.sg.swap, h.e2, h.e1⟩
theorem Sig2.kept {w0 w w' : World} {g1 g2 : Nat} {s1 s2 : Bool} {xs ys : List Int} (h : Sig2 w0 w g1 g2 s1 xs s2 ys) (k : Kept 0 0 w w') : Sig2 w0 w' g1 g2 s1 xs s2 ys := by
  obtain ⟨⟨u1, u2, t⟩, d1, d2⟩ := h
  exact ⟨⟨u1, u2, t.kept k⟩, d1.kept k, d2.kept k⟩
theorem Dya2.kept {w0 w w' : World} {g1 g2 : Nat} {s1 s2 : Bool} {xs ys : List Int} {x1 x2 : Int} (h : Dya2 w0 w g1 g2 s1 xs x1 s2 ys x2) (k : Kept 0 0 w w') : Dya2 w0 w' g1 g2 s1 xs x1 s2 ys x2 := ⟨h.sg.kept k, h.e1.kept k, h.e2.kept k⟩
theorem Ex.set {w : World} {g : Nat} {x : Int} (h : Ex w g x) (y : Int) : Ex (w.setCell ⟨g, 2, none⟩ (.int .i64 y)) g y :=
  ⟨cell_on _ _ _ _ _ h.1, by rw [frozen_set]; exact h.2⟩
theorem Num.set2 {b g : Nat} {w : World} {v : Value} {zs : List Int} (h : Num b w g v zs) (u : Value) : Num b (w.setCell ⟨g, 2, none⟩ u) g v zs :=
  ⟨(side_setAt w g 2 0 u (by decide)).trans h.cell, by rw [frozen_set]; exact h.loose, own_apart h.own (p := ⟨g, 2, none⟩) h.apart u, h.apart⟩
theorem Sd.set2 {w : World} {g : Nat} {s : Bool} (h : Sd w g s) (u : Value) : Sd (w.setCell ⟨g, 2, none⟩ u) g s :=
  ⟨(side_setAt w g 2 1 u (by decide)).trans h.1, by rw [frozen_set]; exact h.2⟩
theorem put_dya {w : World} {X b : Nat} {u z p y : Value} {xs : List Int} (s : Bool) (x : Int) (O : w.ownsRow b 3 1 u xs.length (xs.map (Value.int .i64)))
    (cX : w.cell? ⟨X, 0, none⟩ = some z) (dX : w.cell? ⟨X, 1, none⟩ = some p) (eX : w.cell? ⟨X, 2, none⟩ = some y) (fX : w.frozen? ⟨X, 0, none⟩ = false) (gX : w.frozen? ⟨X, 1, none⟩ = false) (hX : w.frozen? ⟨X, 2, none⟩ = false) (hu : u.ownBlock ≠ some X) :
    Num b (((w.setCell ⟨X, 0, none⟩ u).setCell ⟨X, 1, none⟩ (.bool s)).setCell ⟨X, 2, none⟩ (.int .i64 x)) X u xs ∧ Sd (((w.setCell ⟨X, 0, none⟩ u).setCell ⟨X, 1, none⟩ (.bool s)).setCell ⟨X, 2, none⟩ (.int .i64 x)) X s ∧ Ex (((w.setCell ⟨X, 0, none⟩ u).setCell ⟨X, 1, none⟩ (.bool s)).setCell ⟨X, 2, none⟩ (.int .i64 x)) X x ∧ Mod (fun i => i = X) w (((w.setCell ⟨X, 0, none⟩ u).setCell ⟨X, 1, none⟩ (.bool s)).setCell ⟨X, 2, none⟩ (.int .i64 x)) := by
  obtain ⟨n, d, m⟩ := put_sig s O cX dX fX gX hu
  have a3 : ((w.setCell ⟨X, 0, none⟩ u).setCell ⟨X, 1, none⟩ (.bool s)).cell? ⟨X, 2, none⟩ = some y := (side_setAt _ X 1 2 _ (by decide)).trans ((side_setAt _ X 0 2 _ (by decide)).trans eX)
  refine ⟨n.set2 _, d.set2 _, ⟨cell_on _ _ _ _ _ a3, by rw [frozen_set, frozen_set, frozen_set]; exact hX⟩, Mod.set (S := fun i => i = X) m (p := ⟨X, 2, none⟩) (.inl rfl) _⟩
theorem dya_pair {w0 w4 : World} {X Y b1 b2 : Nat} {u1 u2 z1 z2 p1 p2 y1 y2 : Value} {xs ys : List Int} (s1 s2 : Bool) (x1 x2 : Int) (hk : Kept 0 0 w0 w4) (O1 : w4.ownsRow b1 3 1 u1 xs.length (xs.map (Value.int .i64))) (O2 : w4.ownsRow b2 3 1 u2 ys.length (ys.map (Value.int .i64)))
    (cX : w4.cell? ⟨X, 0, none⟩ = some z1) (dX : w4.cell? ⟨X, 1, none⟩ = some p1) (eX : w4.cell? ⟨X, 2, none⟩ = some y1) (fX : w4.frozen? ⟨X, 0, none⟩ = false) (gX : w4.frozen? ⟨X, 1, none⟩ = false) (iX : w4.frozen? ⟨X, 2, none⟩ = false)
    (cY : w4.cell? ⟨Y, 0, none⟩ = some z2) (dY : w4.cell? ⟨Y, 1, none⟩ = some p2) (eY : w4.cell? ⟨Y, 2, none⟩ = some y2) (fY : w4.frozen? ⟨Y, 0, none⟩ = false) (gY : w4.frozen? ⟨Y, 1, none⟩ = false) (iY : w4.frozen? ⟨Y, 2, none⟩ = false)
    (hXY : X ≠ Y) (hX : w0.heap.size ≤ X) (hY : w0.heap.size ≤ Y) (hb1 : w0.heap.size ≤ b1) (hb2 : w0.heap.size ≤ b2)
    (h1X : u1.ownBlock ≠ some X) (h1Y : u1.ownBlock ≠ some Y) (h2X : u2.ownBlock ≠ some X) (h2Y : u2.ownBlock ≠ some Y) (h12 : ∀ k, u1.ownBlock = some k → u2.ownBlock ≠ some k) :
    Dya2 w0 ((((((w4.setCell ⟨X, 0, none⟩ u1).setCell ⟨X, 1, none⟩ (.bool s1)).setCell ⟨X, 2, none⟩ (.int .i64 x1)).setCell ⟨Y, 0, none⟩ u2).setCell ⟨Y, 1, none⟩ (.bool s2)).setCell ⟨Y, 2, none⟩ (.int .i64 x2)) X Y s1 xs x1 s2 ys x2 := by
  obtain ⟨n1, d1, e1, m1⟩ := put_dya s1 x1 O1 cX dX eX fX gX iX h1X
  have lY : Y < w4.heap.size := World.block_lt_of_cell? _ ⟨Y, 0, none⟩ cY
  obtain ⟨n2, d2, e2, m2⟩ := put_dya s2 x2 (m1.own O2 (fun i e e' => h2X (by rw [e, e']))) (m1.cellAt (fun e => hXY e.symm) cY) (m1.cellAt (fun e => hXY e.symm) dY) (m1.cellAt (fun e => hXY e.symm) eY) (m1.looseAt (fun e => hXY e.symm) lY fY) (m1.looseAt (fun e => hXY e.symm) lY gY) (m1.looseAt (fun e => hXY e.symm) lY iY) h2Y
  have n1' := n1.mod m2 hXY (fun i e e' => h1Y (by rw [e, e']))
  exact ⟨⟨⟨u1, u2, n1'.less hb1, n2.less hb2, hXY, h1Y, h2X, h12, (hk.mod m1 (fun i e => by rw [e]; exact hX)).mod m2 (fun i e => by rw [e]; exact hY), hX, hY⟩, d1.same (m2.side d1.lt hXY), d2⟩, e1.tail (m2.side e1.lt hXY).tail, e2⟩

theorem shl_any {s : Bool} {zs : List Int} (h : WN s zs) (k : Nat) : WN s (limbs ((val zs).toNat * 2 ^ k)) ∧ wval s (limbs ((val zs).toNat * 2 ^ k)) = wval s zs * 2 ^ k := by
  by_cases h0 : zs.length = 0
  · have hz : zs = [] := List.length_eq_zero_iff.1 h0
    subst hz
    have e : limbs ((val ([] : List Int)).toNat * 2 ^ k) = [] := by simp [val, limbs_zero]
    rw [e]
    exact ⟨h, by rw [wval_nil]; simp⟩
  · exact ⟨(shl_wn h (by omega) k).2.2.1, (shl_wn h (by omega) k).2.2.2⟩

theorem in_shiftUp : ∀ (w : World) (args : Array Value), (callFunc 94 args).run Tryd.prog w = .ok (.enter 94 args) w := enters Tryd.func94 (by decide) (fun h => by cases h)

theorem shiftUp_any {b g : Nat} {v : Value} {xs : List Int} (w : World) (h : Num b w g v xs) (hn : Nrm xs) (nx : xs.length ≤ 50000) (k : Nat) (hk : k ≤ 800000) :
    Calls Tryd.prog 94 #[.pointer (some ⟨g, 0, none⟩), .int .i64 (k : Int)] w fun e w' => (∃ r, e = .returned r) ∧ ∃ u, Num (min b w.heap.size) w' g u (limbs ((val xs).toNat * 2 ^ k)) ∧ Mod (fun i => i = g) w w' ∧ SameSide g w w' ∧ (∀ i, u.ownBlock = some i → v.ownBlock = some i ∨ w.heap.size ≤ i) := by
  by_cases h0 : xs = []
  · subst h0
    refine (shiftUp_zero w h k).mono ?_
    rintro e w' ⟨hr, rfl⟩
    refine ⟨hr, v, ?_, Mod.refl _ _, SameSide.refl _ _, fun i e => .inl e⟩
    rw [show limbs ((val ([] : List Int)).toNat * 2 ^ k) = [] by simp [val, limbs_zero]]
    exact h.less (Nat.min_le_left _ _)
  · refine (shiftUp_S w h hn.1 h0 nx k hk).mono ?_
    rintro e w' ⟨hr, u, n, m, sd⟩
    exact ⟨hr, u, n.less (Nat.min_le_right _ _), m, sd, fun i e => .inr (n.own.lt i e).1⟩

set_option maxHeartbeats 2000000 in
theorem lowerTo_impl {b g : Nat} {v : Value} {xs : List Int} {s : Bool} {x y : Int} (w : World) (h : Num b w g v xs) (d : Sd w g s) (ex : Ex w g x) (hn : Nrm xs) (nx : xs.length ≤ 50000) (hb : b ≤ w.heap.size) (k : Nat) (hk : x - y = (k : Int)) (hk2 : k ≤ 800000) :
    Calls Tryd.prog 88 #[.pointer (some ⟨g, 0, none⟩), .int .i64 y] w fun e w' => (∃ r, e = .returned r) ∧ ∃ u, Num b w' g u (limbs ((val xs).toNat * 2 ^ k)) ∧ Sd w' g s ∧ Ex w' g y ∧ Mod (fun i => i = g) w w' ∧ (∀ i, u.ownBlock = some i → v.ownBlock = some i ∨ w.heap.size ≤ i) := by
  have hc2 := ex.1
  have hf2 := ex.2
  have hw : IntKind.i64.wrap (k : Int) = (k : Int) := w64 _ (by omega) (by omega)
  have HSU := hide (shiftUp_any w.drew (h.kept (Kept.refl 0 0 w).drew) hn (by omega) k hk2)
  have D := hide d
  have EX := hide ex
  have H := hide h
  clear d ex h
  go_enter Tryd.func88, Tryd.ntmps88
  go_wp2_with fail
  refine wp_region_held_drew (S := (fun w' => w'.cell? ⟨g, 2, none⟩ = some (.int .i64 x))) (by kernel_rfl) ?_ (fun hHeld => ?_)
  · exact hc2
  refine wpAnyH_take (i := 0) (oi := _) (v := .pointer (some ⟨g, 0, none⟩)) rfl (by kernel_rfl) (by kernel_rfl) (by kernel_rfl) (fun _ _ _ h => h) (Or.inl ⟨by rfl, ?_⟩) hHeld ?_
  · intro wq hSw
    try dsimp only at hSw
    go_simp
  try simp only [Act.put, List.getElem_toArray, List.getElem_cons_succ, List.getElem_cons_zero, List.setIfInBounds_toArray, List.set_cons_zero, List.set_cons_succ]
  refine wpAnyH_take (i := 1) (oi := _) (v := .pointer (some ⟨g, 0, none⟩)) rfl (by kernel_rfl) (by kernel_rfl) (by kernel_rfl) (fun _ _ _ h => h) (Or.inl ⟨by rfl, ?_⟩) hHeld ?_
  · intro wq hSw
    try dsimp only at hSw
    go_simp
  try simp only [Act.put, List.getElem_toArray, List.getElem_cons_succ, List.getElem_cons_zero, List.setIfInBounds_toArray, List.set_cons_zero, List.set_cons_succ]
  refine wpAnyH_take (i := 2) (oi := _) (v := .pointer (some ⟨g, 0, none⟩)) rfl (by kernel_rfl) (by kernel_rfl) (by kernel_rfl) (fun _ _ _ h => h) (Or.inl ⟨by rfl, ?_⟩) hHeld ?_
  · intro wq hSw
    try dsimp only at hSw
    go_simp
  try simp only [Act.put, List.getElem_toArray, List.getElem_cons_succ, List.getElem_cons_zero, List.setIfInBounds_toArray, List.set_cons_zero, List.set_cons_succ]
  refine wpAnyH_take (i := 3) (oi := _) (v := .pointer (some ⟨g, 0, none⟩)) rfl (by kernel_rfl) (by kernel_rfl) (by kernel_rfl) (fun _ _ _ h => h) (Or.inl ⟨by rfl, ?_⟩) hHeld ?_
  · intro wq hSw
    try dsimp only at hSw
    go_simp
  try simp only [Act.put, List.getElem_toArray, List.getElem_cons_succ, List.getElem_cons_zero, List.setIfInBounds_toArray, List.set_cons_zero, List.set_cons_succ]
  refine wpAnyH_take (i := 4) (oi := _) (v := .pointer (some ⟨g, 0, none⟩)) rfl (by kernel_rfl) (by kernel_rfl) (by kernel_rfl) (fun _ _ _ h => h) (Or.inl ⟨by rfl, ?_⟩) hHeld ?_
  · intro wq hSw
    try dsimp only at hSw
    go_simp
  try simp only [Act.put, List.getElem_toArray, List.getElem_cons_succ, List.getElem_cons_zero, List.setIfInBounds_toArray, List.set_cons_zero, List.set_cons_succ]
  refine wpAnyH_take (i := 5) (oi := _) (v := .pointer (some ⟨g, 0, none⟩)) rfl (by kernel_rfl) (by kernel_rfl) (by kernel_rfl) (fun _ _ _ h => h) (Or.inl ⟨by rfl, ?_⟩) hHeld ?_
  · intro wq hSw
    try dsimp only at hSw
    go_simp
  try simp only [Act.put, List.getElem_toArray, List.getElem_cons_succ, List.getElem_cons_zero, List.setIfInBounds_toArray, List.set_cons_zero, List.set_cons_succ]
  refine wpAnyH_take (i := 6) (oi := _) (v := .pointer (some ⟨g, 2, none⟩)) rfl (by kernel_rfl) (by kernel_rfl) (by kernel_rfl) (fun _ _ _ h => h) (Or.inl ⟨by rfl, ?_⟩) hHeld ?_
  · intro wq hSw
    try dsimp only at hSw
    go_simp
  try simp only [Act.put, List.getElem_toArray, List.getElem_cons_succ, List.getElem_cons_zero, List.setIfInBounds_toArray, List.set_cons_zero, List.set_cons_succ]
  refine wpAnyH_take (i := 7) (oi := _) (v := .int .i64 x) rfl (by kernel_rfl) (by kernel_rfl) (by kernel_rfl) (fun _ _ _ h => h) (Or.inl ⟨by rfl, ?_⟩) hHeld ?_
  · intro wq hSw
    try dsimp only at hSw
    go_simp
  try simp only [Act.put, List.getElem_toArray, List.getElem_cons_succ, List.getElem_cons_zero, List.setIfInBounds_toArray, List.set_cons_zero, List.set_cons_succ]
  refine wpAnyH_take (i := 8) (oi := _) (v := .int .i64 y) rfl (by kernel_rfl) (by kernel_rfl) (by kernel_rfl) (fun _ _ _ h => h) (Or.inl ⟨by rfl, ?_⟩) hHeld ?_
  · intro wq hSw
    try dsimp only at hSw
    go_simp
  try simp only [Act.put, List.getElem_toArray, List.getElem_cons_succ, List.getElem_cons_zero, List.setIfInBounds_toArray, List.set_cons_zero, List.set_cons_succ]
  refine wpAnyH_take (i := 9) (oi := _) (v := .int .i64 (k : Int)) rfl (by kernel_rfl) (by kernel_rfl) (by kernel_rfl) (fun _ _ _ h => h) (Or.inl ⟨by rfl, ?_⟩) hHeld ?_
  · intro wq hSw
    try dsimp only at hSw
    go_simp
  try simp only [Act.put, List.getElem_toArray, List.getElem_cons_succ, List.getElem_cons_zero, List.setIfInBounds_toArray, List.set_cons_zero, List.set_cons_succ]
  refine wpAnyH_ready (rs := [10]) (by kernel_rfl) (by simp) ?_
  refine AllReadyH.cons rfl (fun KK hK => ?_) AllReadyH.nil
  simp only [List.getElem_toArray, List.getElem_cons_succ, List.getElem_cons_zero]
  rw [if_pos (by rfl)]
  refine wps2 94 (.tmp 7) (.tmp 13) _ rfl in_shiftUp (.pointer (some ⟨g, 0, none⟩)) (.int .i64 (k : Int)) rfl rfl (unhide HSU) ?_
  rintro e w2 ⟨⟨r2, rfl⟩, u2, n2, m2, sd2, ho2⟩
  refine ⟨_, rfl, ?_⟩
  have ex2 : Ex w2 g x := Ex.tail (unhide EX) (SameSide.tail sd2)
  have d2 : Sd w2 g s := Sd.same (unhide D) sd2
  have hc3 := ex2.1
  have hf3 := ex2.2
  clear hHeld
  refine hK.out _ _ ?_ (fun hHeld => ?_)
  · exact hc3
  clear hK KK
  try simp only [Act.put, List.getElem_toArray, List.getElem_cons_succ, List.getElem_cons_zero, List.setIfInBounds_toArray, List.set_cons_zero, List.set_cons_succ]
  refine wpAnyH_done (by kernel_rfl) ?_ _
  clear hHeld hc2 hf2
  have N2 := hide ((n2.less (b' := b) (Nat.le_min.2 ⟨Nat.le_refl _, hb⟩)).set2 (.int .i64 y))
  have D2 := hide (d2.set2 (.int .i64 y))
  have E2 := hide (ex2.set y)
  have M2 : Hid (Mod (fun i => i = g) w (w2.setCell ⟨g, 2, none⟩ (.int .i64 y))) := Mod.set (S := fun i => i = g) (((Kept.refl 0 0 w).drew.toMod).trans m2) (p := ⟨g, 2, none⟩) (.inl rfl) _
  have HO := hide ho2
  clear n2 m2 sd2 ho2 d2 ex2 HSU
  go_wp2_with fail
  exact bodyPost_end (v := .tuple #[]) (by simp [results, Tryd.results88, go_sem]) rfl ⟨⟨_, rfl⟩, _, unhide N2, unhide D2, unhide E2, unhide M2, unhide HO⟩

set_option maxHeartbeats 4000000 in
theorem align_wide {w0 w : World} {g1 g2 : Nat} {s1 s2 : Bool} {xs ys : List Int} {x1 x2 : Int} (S : Dya2 w0 w g1 g2 s1 xs x1 s2 ys x2) (hx : Nrm xs) (hy : Nrm ys) (nx : xs.length ≤ 50000) (ny : ys.length ≤ 50000) (f1 : -40000 ≤ x1) (f2 : x1 ≤ 40000) (f3 : -40000 ≤ x2) (f4 : x2 ≤ 40000) :
    Calls Tryd.prog 79 #[.pointer (some ⟨g1, 0, none⟩), .pointer (some ⟨g2, 0, none⟩)] w fun e w' => (∃ r, e = .returned r) ∧ Dya2 w0 w' g1 g2 s1 (limbs ((val xs).toNat * 2 ^ (x1 - min x1 x2).toNat)) (min x1 x2) s2 (limbs ((val ys).toNat * 2 ^ (x2 - min x1 x2).toNat)) (min x1 x2) := by
  have hc1 := S.e1.1
  have hc2 := S.e2.1
  have SS := hide S
  clear S
  obtain ⟨lo, hlo⟩ : ∃ lo : Int, min x1 x2 = lo := ⟨_, rfl⟩
  obtain ⟨k1, hk1⟩ : ∃ k : Nat, x1 - lo = (k : Int) := ⟨(x1 - lo).toNat, by omega⟩
  obtain ⟨k2, hk2⟩ : ∃ k : Nat, x2 - lo = (k : Int) := ⟨(x2 - lo).toNat, by omega⟩
  have q1 : k1 ≤ 80000 := by omega
  have q2 : k2 ≤ 80000 := by omega
  rw [show (x1 - min x1 x2).toNat = k1 by omega, show (x2 - min x1 x2).toNat = k2 by omega, hlo]
  go_enter Tryd.func79, Tryd.ntmps79
  go_wp2
  go_region
  go_wp2_with fail
  clear hc1 hc2
  have S1 := (unhide SS).kept (Kept.refl 0 0 w).drew
  obtain ⟨⟨⟨u1, u2, t⟩, d1, d2⟩, e1, e2⟩ := S1
  refine (lowerTo_impl _ t.n1 d1 e1 hx (by omega) t.k.size k1 hk1 (by omega)).mono ?_
  rintro e w2 ⟨⟨r2, rfl⟩, v2, n2, d3, e3, m2, ho⟩
  have t2 := t.put1 n2 (Nat.le_refl _) m2 ho
  have d4 : Sd w2 g2 s2 := d2.same (m2.side d2.lt (fun e => t.ne e.symm))
  have e4 : Ex w2 g2 x2 := e2.tail (m2.side e2.lt (fun e => t.ne e.symm)).tail
  clear t d1 d2 e1 e2 n2 m2 ho
  go_wp2_with fail
  refine (lowerTo_impl _ t2.n2 d4 e4 hy (by omega) t2.k.size k2 hk2 (by omega)).mono ?_
  rintro e w3 ⟨⟨r3, rfl⟩, v3, n3, d5, e5, m3, ho⟩
  have t3 := (t2.swap.put1 n3 (Nat.le_refl _) m3 ho).swap
  have d6 : Sd w3 g1 s1 := d3.same (m3.side d3.lt (fun e => t2.ne e))
  have e6 : Ex w3 g1 lo := e3.tail (m3.side e3.lt (fun e => t2.ne e)).tail
  have FF : Hid (Dya2 w0 w3 g1 g2 s1 (limbs ((val xs).toNat * 2 ^ k1)) lo s2 (limbs ((val ys).toNat * 2 ^ k2)) lo) := ⟨⟨⟨_, _, t3⟩, d6, d5⟩, e6, e5⟩
  clear t2 t3 d3 d4 d5 d6 e3 e4 e5 e6 n3 m3 ho
  go_wp2_with fail
  exact bodyPost_end (v := .tuple #[]) (by simp [results, Tryd.results79, go_sem]) rfl ⟨⟨_, rfl⟩, unhide FF⟩

theorem align_impl {w0 w : World} {g1 g2 : Nat} {s1 s2 : Bool} {xs ys : List Int} {x1 x2 : Int} (S : Dya2 w0 w g1 g2 s1 xs x1 s2 ys x2) (hx : Nrm xs) (hy : Nrm ys) (nx : xs.length ≤ 50000) (ny : ys.length ≤ 50000) (f1 : -3000 ≤ x1) (f2 : x1 ≤ 3000) (f3 : -3000 ≤ x2) (f4 : x2 ≤ 3000) :
    Calls Tryd.prog 79 #[.pointer (some ⟨g1, 0, none⟩), .pointer (some ⟨g2, 0, none⟩)] w fun e w' => (∃ r, e = .returned r) ∧ Dya2 w0 w' g1 g2 s1 (limbs ((val xs).toNat * 2 ^ (x1 - min x1 x2).toNat)) (min x1 x2) s2 (limbs ((val ys).toNat * 2 ^ (x2 - min x1 x2).toNat)) (min x1 x2) := align_wide S hx hy nx ny (by omega) (by omega) (by omega) (by omega)

end Go.Proofs.YthahoabkehcgbaaDoor
