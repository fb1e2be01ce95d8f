/-
  l10out of the model.
-/
import Derived.Test.YthahoabkehcgbaaGreatDoorqoOn2
import Derived.Test.YthahoabkehcgbaaGreatDoorqoHm3
import Derived.Deep.DeepCutAuto
import Derived.Deep.RegionHeld3
namespace Go.Proofs.YthahoabkehcgbaaGreatDoor
open Go.RowKit
set_option linter.unusedVariables false
set_option maxRecDepth 8000
set_option linter.unusedSimpArgs false

def fineB (k : Int) : Bool := decide (-200 ≤ k) && decide (k ≤ 200)

set_option maxHeartbeats 2000000 in
theorem l7low_spec (x : Int) (w : World) :
    Calls Tryz.prog 50 #[.int .i64 x] w fun e w' => e = .returned (.bool (fineB x)) ∧ w' = w := by
  have HB : Hid (fineB x = (decide (-200 ≤ x) && decide (x ≤ 200))) := rfl
  generalize fineB x = Q at *
  go_enter Tryz.func50, Tryz.ntmps50
  by_cases h1 : -200 ≤ x
  rotate_left
  · have hd : decide (-200 ≤ x) = false := decide_eq_false h1
    go_wp2_with fail
    go_ret
    exact ⟨by rw [unhide HB, hd]; rfl, rfl⟩
  have hd : decide (-200 ≤ x) = true := decide_eq_true h1
  go_wp2_with fail
  go_ret
  exact ⟨by rw [unhide HB, hd]; rfl, rfl⟩

set_option maxHeartbeats 2000000 in
theorem isFine_impl (x : Int) (w : World) :
    Calls Tryz.prog 53 #[.int .i64 x] w fun e w' => e = .returned (.bool (fineB x)) ∧ w' = w := by
  have HB : Hid (fineB x = (decide (-200 ≤ x) && decide (x ≤ 200))) := rfl
  generalize fineB x = Q at *
  go_enter Tryz.func53, Tryz.ntmps53
  by_cases h1 : -200 ≤ x
  rotate_left
  · have hd : decide (-200 ≤ x) = false := decide_eq_false h1
    go_wp2_with fail
    go_ret
    exact ⟨by rw [unhide HB, hd]; rfl, rfl⟩
  have hd : decide (-200 ≤ x) = true := decide_eq_true h1
  go_wp2_with fail
  go_ret
  exact ⟨by rw [unhide HB, hd]; rfl, rfl⟩

/-- One more interval, whose lists lie ahead of the block or behind it. -/
theorem FillP.pair {B g n j l h l' h' : Nat} {ds : List DE} {w w' : World} {s s' : Bool} {u u' : Value} {y y' : Int} {z z' : List Int} (f : FillP B g (2 * n) ds (fun i => i < 2 * j) w) (hj : j < n) (k : Kept 0 0 w w') (r : Row .i64 false l h w' u z) (hr : g < l ∨ h ≤ B) (r' : Row .i64 false l' h' w' u' z') (hr' : g < l' ∨ h' ≤ B) (he : ds.getD (2 * j) de0 = (s, z, y)) (he' : ds.getD (2 * j + 1) de0 = (s', z', y')) :
    FillP B g (2 * n) ds (fun i => i < 2 * (j + 1)) ((((((w'.setCell ⟨g, j * 6, none⟩ (.bool s)).setCell ⟨g, j * 6 + 1, none⟩ u).setCell ⟨g, j * 6 + 2, none⟩ (.int .i64 y)).setCell ⟨g, j * 6 + 3, none⟩ (.bool s')).setCell ⟨g, j * 6 + 4, none⟩ u').setCell ⟨g, j * 6 + 5, none⟩ (.int .i64 y')) := by
  have hl := f.lb
  have f1 := f.step (P' := fun i => i < 2 * j + 1) (j := 2 * j) (by omega) k r (fun _ => hr) he (fun i hi => by omega)
  have kk : Kept g (g + 1) w' (((w'.setCell ⟨g, 2 * j * 3, none⟩ (.bool s)).setCell ⟨g, 2 * j * 3 + 1, none⟩ u).setCell ⟨g, 2 * j * 3 + 2, none⟩ (.int .i64 y)) := (((Kept.refl g (g + 1) w').setCell (p := ⟨g, 2 * j * 3, none⟩) (Nat.le_refl _) (Nat.lt_succ_self _) _).setCell (p := ⟨g, 2 * j * 3 + 1, none⟩) (Nat.le_refl _) (Nat.lt_succ_self _) _).setCell (p := ⟨g, 2 * j * 3 + 2, none⟩) (Nat.le_refl _) (Nat.lt_succ_self _) _
  have q := r'.kept kk (by omega)
  have f2 := f1.step (P' := fun i => i < 2 * (j + 1)) (j := 2 * j + 1) (by omega) (Kept.refl 0 0 _) q (fun _ => hr') he' (fun i hi => by omega)
  rw [show (2 * j + 1) * 3 = j * 6 + 3 by omega, show 2 * j * 3 = j * 6 by omega] at f2
  exact f2
theorem ivsP_doneO {B g n : Nat} {ds : List DE} {w : World} (f : FillP B g (2 * n) ds (fun i => i < 2 * n) w) (hn : ds.length = 2 * n) (hm : n ≤ maxLen) : Ivs 0 w.heap.size w (.slice (some ⟨g, 0, none⟩) n n) ds n := by
  refine ⟨_, _, rfl, Nat.le_refl _, hm, hn, fun _ => ⟨g, 0, rfl, Nat.zero_le _, f.lt, f.lt, fun i hi => ?_⟩⟩
  obtain ⟨l, h, h1, u, c0, c1, c2, r⟩ := f.got i (by omega) (by omega)
  rw [Nat.zero_add]
  exact ⟨u, c0, c1, c2, r.tight.wider (Nat.zero_le _) (Nat.le_refl _)⟩

theorem in_l7out : ∀ (w : World) (args : Array Value), (callFunc 118 args).run Tryz.prog w = .ok (.enter 118 args) w := enters Tryz.func118 (by decide) (fun h => by cases h)

set_option maxHeartbeats 8000000 in
theorem out7_spec {l0 h0 l1 h1 : Nat} {u0 u1 : Value} {z0 z1 : List Int} (s0 s1 : Bool) (y0 y1 low : Int) (w : World) (r0 : Row .i64 false l0 h0 w u0 z0) (r1 : Row .i64 false l1 h1 w u1 z1) (hh0 : h0 ≤ w.heap.size) (hh1 : h1 ≤ w.heap.size) (k0 : dOkE (s0, z0, y0) = true) (k1 : dOkE (s1, z1, y1) = true) (hl0 : -200 ≤ low) (hl1 : low ≤ 200) {t0 t1 : Bool} {x0 x1 : List Int} {p0 p1 : Int} (e0 : (t0, x0, p0) = nE (rvM low 3 (s0, z0, y0)) low) (e1 : (t1, x1, p1) = nE (rvM low 2 (s1, z1, y1)) low) :
    Calls Tryz.prog 118 #[.agg #[.bool s0, u0, .int .i64 y0, .bool s1, u1, .int .i64 y1], .int .i64 low] w fun e w' => ∃ v1 v2, e = .returned (.agg #[.bool t0, v1, .int .i64 p0, .bool t1, v2, .int .i64 p1]) ∧ (Row .i64 false l0 h0 w' v1 x0 ∨ Row .i64 false w.heap.size w'.heap.size w' v1 x0) ∧ (Row .i64 false l1 h1 w' v2 x1 ∨ Row .i64 false w.heap.size w'.heap.size w' v2 x1) ∧ Kept 0 0 w w' := by
  obtain ⟨a0, c0, hv⟩ := Row.form' r0
  subst hv
  obtain ⟨a1, c1, hv⟩ := Row.form' r1
  subst hv
  have hk0 := dok_parts (show dokB s0 z0 y0 = true from k0)
  have hk1 := dok_parts (show dokB s1 z1 y1 = true from k1)
  have wl0 := (wok_int hk0.1).2.2.1
  have wl1 := (wok_int hk1.1).2.2.1
  have HR0 : Hid (∀ w' : World, Kept 0 0 w w' → Calls Tryz.prog 163 #[.agg #[.bool s0, .slice a0 z0.length c0, .int .i64 y0], .int .i64 low, .int .i64 3] w' fun e w'' => ∃ v' bx, e = .returned (.tuple #[.agg #[.bool t0, v', .int .i64 p0], .bool bx]) ∧ (Row .i64 false l0 h0 w'' v' x0 ∨ Row .i64 false w'.heap.size w''.heap.size w'' v' x0) ∧ Kept 0 0 w' w'') := fun w' kw' => by
    refine (round4_two s0 y0 low (by omega) (by omega) (by omega) (by omega) w' (r0.kept kw' (by omega)) (dok_wb k0).1 hk0.2.2.2.2 hk0.2.2.2.1 (by omega) 3 (by decide) (by decide)).mono ?_
    rintro e w'' ⟨v', rfl, rr, kk⟩
    have e := e0
    unfold nE rvM at e
    dsimp only at e
    simp only [Prod.mk.injEq] at e
    rw [← e.1, ← e.2.2]
    rw [← e.2.1] at rr
    exact ⟨_, _, rfl, rr.imp (fun h => h) (fun h => h.read), kk⟩
  have HR1 : Hid (∀ w' : World, Kept 0 0 w w' → Calls Tryz.prog 163 #[.agg #[.bool s1, .slice a1 z1.length c1, .int .i64 y1], .int .i64 low, .int .i64 2] w' fun e w'' => ∃ v' bx, e = .returned (.tuple #[.agg #[.bool t1, v', .int .i64 p1], .bool bx]) ∧ (Row .i64 false l1 h1 w'' v' x1 ∨ Row .i64 false w'.heap.size w''.heap.size w'' v' x1) ∧ Kept 0 0 w' w'') := fun w' kw' => by
    refine (round4_two s1 y1 low (by omega) (by omega) (by omega) (by omega) w' (r1.kept kw' (by omega)) (dok_wb k1).1 hk1.2.2.2.2 hk1.2.2.2.1 (by omega) 2 (by decide) (by decide)).mono ?_
    rintro e w'' ⟨v', rfl, rr, kk⟩
    have e := e1
    unfold nE rvM at e
    dsimp only at e
    simp only [Prod.mk.injEq] at e
    rw [← e.1, ← e.2.2]
    rw [← e.2.1] at rr
    exact ⟨_, _, rfl, rr.imp (fun h => h) (fun h => h.read), kk⟩
  obtain ⟨W, hW⟩ : ∃ W, W = (w.alloc (.cells #[.bool s0, .slice a0 z0.length c0, .int .i64 y0, .bool s1, .slice a1 z1.length c1, .int .i64 y1] 102)).alloc (.cells #[.bool false, .slice none 0 0, .int .i64 0, .bool false, .slice none 0 0, .int .i64 0] 102) := ⟨_, rfl⟩
  have kk0 : Kept 0 0 w W := by rw [hW]; exact ((Kept.refl 0 0 w).alloc _).alloc _
  have g0 : W.cell? ⟨w.heap.size, 0, none⟩ = some (.bool s0) := by rw [hW]; exact old_cell _ (new_cell2 _ _ _ _ _ _ rfl rfl)
  have g1 : W.cell? ⟨w.heap.size, 1, none⟩ = some (.slice a0 z0.length c0) := by rw [hW]; exact old_cell _ (new_cell2 _ _ _ _ _ _ rfl rfl)
  have g2 : W.cell? ⟨w.heap.size, 2, none⟩ = some (.int .i64 y0) := by rw [hW]; exact old_cell _ (new_cell2 _ _ _ _ _ _ rfl rfl)
  have g3 : W.cell? ⟨w.heap.size, 3, none⟩ = some (.bool s1) := by rw [hW]; exact old_cell _ (new_cell2 _ _ _ _ _ _ rfl rfl)
  have g4 : W.cell? ⟨w.heap.size, 4, none⟩ = some (.slice a1 z1.length c1) := by rw [hW]; exact old_cell _ (new_cell2 _ _ _ _ _ _ rfl rfl)
  have g5 : W.cell? ⟨w.heap.size, 5, none⟩ = some (.int .i64 y1) := by rw [hW]; exact old_cell _ (new_cell2 _ _ _ _ _ _ rfl rfl)
  have q0 : W.cell? ⟨w.heap.size + 1, 0, none⟩ = some (.bool false) := by rw [hW]; exact new_cell2 _ _ _ _ _ _ (by simp) rfl
  have f0 : W.frozen? ⟨w.heap.size + 1, 0, none⟩ = false := by rw [hW]; exact new_loose2 _ _ _ _ _ (by simp)
  have q1 : W.cell? ⟨w.heap.size + 1, 1, none⟩ = some (.slice none 0 0) := by rw [hW]; exact new_cell2 _ _ _ _ _ _ (by simp) rfl
  have f1 : W.frozen? ⟨w.heap.size + 1, 1, none⟩ = false := by rw [hW]; exact new_loose2 _ _ _ _ _ (by simp)
  have q2 : W.cell? ⟨w.heap.size + 1, 2, none⟩ = some (.int .i64 0) := by rw [hW]; exact new_cell2 _ _ _ _ _ _ (by simp) rfl
  have f2 : W.frozen? ⟨w.heap.size + 1, 2, none⟩ = false := by rw [hW]; exact new_loose2 _ _ _ _ _ (by simp)
  have q3 : W.cell? ⟨w.heap.size + 1, 3, none⟩ = some (.bool false) := by rw [hW]; exact new_cell2 _ _ _ _ _ _ (by simp) rfl
  have f3 : W.frozen? ⟨w.heap.size + 1, 3, none⟩ = false := by rw [hW]; exact new_loose2 _ _ _ _ _ (by simp)
  have q4 : W.cell? ⟨w.heap.size + 1, 4, none⟩ = some (.slice none 0 0) := by rw [hW]; exact new_cell2 _ _ _ _ _ _ (by simp) rfl
  have f4 : W.frozen? ⟨w.heap.size + 1, 4, none⟩ = false := by rw [hW]; exact new_loose2 _ _ _ _ _ (by simp)
  have q5 : W.cell? ⟨w.heap.size + 1, 5, none⟩ = some (.int .i64 0) := by rw [hW]; exact new_cell2 _ _ _ _ _ _ (by simp) rfl
  have f5 : W.frozen? ⟨w.heap.size + 1, 5, none⟩ = false := by rw [hW]; exact new_loose2 _ _ _ _ _ (by simp)
  have SW : Hid (W.heap.size = w.heap.size + 2) := by show _ = _; rw [hW]; simp
  have KX := hide kk0
  have hc1 := unhide HR0 W kk0
  have HHH := hide (And.intro hh0 hh1)
  rw [hW] at hc1
  clear r0 r1 k0 k1 e0 e1 hk0 hk1 wl0 wl1 HR0 kk0 hl0 hl1 hh0 hh1
  go_enter Tryz.func118, Tryz.ntmps118
  go_wp2_with fail
  rw [← hW] at hc1 ⊢
  clear hW
  refine hc1.mono ?_
  rintro e w1 ⟨v1, bx, rfl, r1, k1⟩
  obtain ⟨va, vc, hv⟩ : ∃ a c, v1 = .slice a x0.length c := by rcases r1 with h | h <;> exact Row.form' h
  subst hv
  replace f0 := k1.loose0 (World.block_lt_of_cell? _ _ q0) f0
  replace f1 := k1.loose0 (World.block_lt_of_cell? _ _ q1) f1
  replace f2 := k1.loose0 (World.block_lt_of_cell? _ _ q2) f2
  replace f3 := k1.loose0 (World.block_lt_of_cell? _ _ q3) f3
  replace f4 := k1.loose0 (World.block_lt_of_cell? _ _ q4) f4
  replace f5 := k1.loose0 (World.block_lt_of_cell? _ _ q5) f5
  replace g0 := k1.cell0 g0
  replace g1 := k1.cell0 g1
  replace g2 := k1.cell0 g2
  replace g3 := k1.cell0 g3
  replace g4 := k1.cell0 g4
  replace g5 := k1.cell0 g5
  replace q0 := k1.cell0 q0
  replace q1 := k1.cell0 q1
  replace q2 := k1.cell0 q2
  replace q3 := k1.cell0 q3
  replace q4 := k1.cell0 q4
  replace q5 := k1.cell0 q5
  have kA := (Kept.refl 0 0 w1).alloc (.cells #[.bool t0, .slice va x0.length vc, .int .i64 p0] 52)
  have l0' : (w1.alloc (.cells #[.bool t0, .slice va x0.length vc, .int .i64 p0] 52)).cell? ⟨w1.heap.size, 0, none⟩ = some (.bool t0) := new_cell2 _ _ _ _ _ _ rfl rfl
  have l1' : (w1.alloc (.cells #[.bool t0, .slice va x0.length vc, .int .i64 p0] 52)).cell? ⟨w1.heap.size, 1, none⟩ = some (.slice va x0.length vc) := new_cell2 _ _ _ _ _ _ rfl rfl
  have l2' : (w1.alloc (.cells #[.bool t0, .slice va x0.length vc, .int .i64 p0] 52)).cell? ⟨w1.heap.size, 2, none⟩ = some (.int .i64 p0) := new_cell2 _ _ _ _ _ _ rfl rfl
  have R1 := hide r1
  have Z1 := hide k1.size
  replace KX := hide (((unhide KX).trans k1).trans kA)
  have KA := hide kA
  have hc2 := unhide HR1 _ (unhide KX)
  replace f0 := kA.loose0 (World.block_lt_of_cell? _ _ q0) f0
  replace f1 := kA.loose0 (World.block_lt_of_cell? _ _ q1) f1
  replace f2 := kA.loose0 (World.block_lt_of_cell? _ _ q2) f2
  replace f3 := kA.loose0 (World.block_lt_of_cell? _ _ q3) f3
  replace f4 := kA.loose0 (World.block_lt_of_cell? _ _ q4) f4
  replace f5 := kA.loose0 (World.block_lt_of_cell? _ _ q5) f5
  replace g0 := kA.cell0 g0
  replace g1 := kA.cell0 g1
  replace g2 := kA.cell0 g2
  replace g3 := kA.cell0 g3
  replace g4 := kA.cell0 g4
  replace g5 := kA.cell0 g5
  replace q0 := kA.cell0 q0
  replace q1 := kA.cell0 q1
  replace q2 := kA.cell0 q2
  replace q3 := kA.cell0 q3
  replace q4 := kA.cell0 q4
  replace q5 := kA.cell0 q5
  clear hc1 r1 k1 kA HR1
  go_wp2_with fail
  refine hc2.mono ?_
  rintro e w3 ⟨v3, bx3, rfl, r3, k3⟩
  obtain ⟨vb, vd, hv⟩ : ∃ a c, v3 = .slice a x1.length c := by rcases r3 with h | h <;> exact Row.form' h
  subst hv
  replace f0 := k3.loose0 (World.block_lt_of_cell? _ _ q0) f0
  replace f1 := k3.loose0 (World.block_lt_of_cell? _ _ q1) f1
  replace f2 := k3.loose0 (World.block_lt_of_cell? _ _ q2) f2
  replace f3 := k3.loose0 (World.block_lt_of_cell? _ _ q3) f3
  replace f4 := k3.loose0 (World.block_lt_of_cell? _ _ q4) f4
  replace f5 := k3.loose0 (World.block_lt_of_cell? _ _ q5) f5
  replace g0 := k3.cell0 g0
  replace g1 := k3.cell0 g1
  replace g2 := k3.cell0 g2
  replace g3 := k3.cell0 g3
  replace g4 := k3.cell0 g4
  replace g5 := k3.cell0 g5
  replace l0' := k3.cell0 l0'
  replace l1' := k3.cell0 l1'
  replace l2' := k3.cell0 l2'
  replace q0 := k3.cell0 q0
  replace q1 := k3.cell0 q1
  replace q2 := k3.cell0 q2
  replace q3 := k3.cell0 q3
  replace q4 := k3.cell0 q4
  replace q5 := k3.cell0 q5
  have kB := (Kept.refl 0 0 w3).alloc (.cells #[.bool t1, .slice vb x1.length vd, .int .i64 p1] 52)
  have z3 := k3.size
  have zA := (unhide KA).size
  have hp0 : (w3.alloc (.cells #[.bool t1, .slice vb x1.length vd, .int .i64 p1] 52)).cell? ⟨w3.heap.size, 0, none⟩ = some (.bool t1) := new_cell2 _ _ _ _ _ _ rfl rfl
  have hp1 : (w3.alloc (.cells #[.bool t1, .slice vb x1.length vd, .int .i64 p1] 52)).cell? ⟨w3.heap.size, 1, none⟩ = some (.slice vb x1.length vd) := new_cell2 _ _ _ _ _ _ rfl rfl
  have hp2 : (w3.alloc (.cells #[.bool t1, .slice vb x1.length vd, .int .i64 p1] 52)).cell? ⟨w3.heap.size, 2, none⟩ = some (.int .i64 p1) := new_cell2 _ _ _ _ _ _ rfl rfl
  have zB : (w3.alloc (.cells #[.bool t1, .slice vb x1.length vd, .int .i64 p1] 52)).heap.size = w3.heap.size + 1 := by simp
  have z1 := unhide Z1
  have sW := unhide SW
  obtain ⟨hh0, hh1⟩ := unhide HHH
  replace f0 := kB.loose0 (World.block_lt_of_cell? _ _ q0) f0
  replace f1 := kB.loose0 (World.block_lt_of_cell? _ _ q1) f1
  replace f2 := kB.loose0 (World.block_lt_of_cell? _ _ q2) f2
  replace f3 := kB.loose0 (World.block_lt_of_cell? _ _ q3) f3
  replace f4 := kB.loose0 (World.block_lt_of_cell? _ _ q4) f4
  replace f5 := kB.loose0 (World.block_lt_of_cell? _ _ q5) f5
  replace g0 := kB.cell0 g0
  replace g1 := kB.cell0 g1
  replace g2 := kB.cell0 g2
  replace g3 := kB.cell0 g3
  replace g4 := kB.cell0 g4
  replace g5 := kB.cell0 g5
  replace l0' := kB.cell0 l0'
  replace l1' := kB.cell0 l1'
  replace l2' := kB.cell0 l2'
  replace q0 := kB.cell0 q0
  replace q1 := kB.cell0 q1
  replace q2 := kB.cell0 q2
  replace q3 := kB.cell0 q3
  replace q4 := kB.cell0 q4
  replace q5 := kB.cell0 q5
  have ks : Kept (w.heap.size + 1) (w.heap.size + 2) (w3.alloc (.cells #[.bool t1, .slice vb x1.length vd, .int .i64 p1] 52)) (((((((w3.alloc (.cells #[.bool t1, .slice vb x1.length vd, .int .i64 p1] 52)).setCell ⟨w.heap.size + 1, 0, none⟩ (.bool t0)).setCell ⟨w.heap.size + 1, 1, none⟩ (.slice va x0.length vc)).setCell ⟨w.heap.size + 1, 2, none⟩ (.int .i64 p0)).setCell ⟨w.heap.size + 1, 3, none⟩ (.bool t1)).setCell ⟨w.heap.size + 1, 4, none⟩ (.slice vb x1.length vd)).setCell ⟨w.heap.size + 1, 5, none⟩ (.int .i64 p1)) := (((((((Kept.refl (w.heap.size + 1) (w.heap.size + 2) (w3.alloc (.cells #[.bool t1, .slice vb x1.length vd, .int .i64 p1] 52))).setCell (p := ⟨w.heap.size + 1, 0, none⟩) (Nat.le_refl _) (Nat.lt_succ_self _) (.bool t0)).setCell (p := ⟨w.heap.size + 1, 1, none⟩) (Nat.le_refl _) (Nat.lt_succ_self _) (.slice va x0.length vc)).setCell (p := ⟨w.heap.size + 1, 2, none⟩) (Nat.le_refl _) (Nat.lt_succ_self _) (.int .i64 p0)).setCell (p := ⟨w.heap.size + 1, 3, none⟩) (Nat.le_refl _) (Nat.lt_succ_self _) (.bool t1)).setCell (p := ⟨w.heap.size + 1, 4, none⟩) (Nat.le_refl _) (Nat.lt_succ_self _) (.slice vb x1.length vd)).setCell (p := ⟨w.heap.size + 1, 5, none⟩) (Nat.le_refl _) (Nat.lt_succ_self _) (.int .i64 p1))
  have hsz : (((((((w3.alloc (.cells #[.bool t1, .slice vb x1.length vd, .int .i64 p1] 52)).setCell ⟨w.heap.size + 1, 0, none⟩ (.bool t0)).setCell ⟨w.heap.size + 1, 1, none⟩ (.slice va x0.length vc)).setCell ⟨w.heap.size + 1, 2, none⟩ (.int .i64 p0)).setCell ⟨w.heap.size + 1, 3, none⟩ (.bool t1)).setCell ⟨w.heap.size + 1, 4, none⟩ (.slice vb x1.length vd)).setCell ⟨w.heap.size + 1, 5, none⟩ (.int .i64 p1)).heap.size = (w3.alloc (.cells #[.bool t1, .slice vb x1.length vd, .int .i64 p1] 52)).heap.size := by rw [size_set, size_set, size_set, size_set, size_set, size_set]
  have R9 : Hid (Row .i64 false l0 h0 (((((((w3.alloc (.cells #[.bool t1, .slice vb x1.length vd, .int .i64 p1] 52)).setCell ⟨w.heap.size + 1, 0, none⟩ (.bool t0)).setCell ⟨w.heap.size + 1, 1, none⟩ (.slice va x0.length vc)).setCell ⟨w.heap.size + 1, 2, none⟩ (.int .i64 p0)).setCell ⟨w.heap.size + 1, 3, none⟩ (.bool t1)).setCell ⟨w.heap.size + 1, 4, none⟩ (.slice vb x1.length vd)).setCell ⟨w.heap.size + 1, 5, none⟩ (.int .i64 p1)) (.slice va x0.length vc) x0 ∨ Row .i64 false w.heap.size (((((((w3.alloc (.cells #[.bool t1, .slice vb x1.length vd, .int .i64 p1] 52)).setCell ⟨w.heap.size + 1, 0, none⟩ (.bool t0)).setCell ⟨w.heap.size + 1, 1, none⟩ (.slice va x0.length vc)).setCell ⟨w.heap.size + 1, 2, none⟩ (.int .i64 p0)).setCell ⟨w.heap.size + 1, 3, none⟩ (.bool t1)).setCell ⟨w.heap.size + 1, 4, none⟩ (.slice vb x1.length vd)).setCell ⟨w.heap.size + 1, 5, none⟩ (.int .i64 p1)).heap.size (((((((w3.alloc (.cells #[.bool t1, .slice vb x1.length vd, .int .i64 p1] 52)).setCell ⟨w.heap.size + 1, 0, none⟩ (.bool t0)).setCell ⟨w.heap.size + 1, 1, none⟩ (.slice va x0.length vc)).setCell ⟨w.heap.size + 1, 2, none⟩ (.int .i64 p0)).setCell ⟨w.heap.size + 1, 3, none⟩ (.bool t1)).setCell ⟨w.heap.size + 1, 4, none⟩ (.slice vb x1.length vd)).setCell ⟨w.heap.size + 1, 5, none⟩ (.int .i64 p1)) (.slice va x0.length vc) x0) :=
    (unhide R1).imp (fun h => ((h.kept ((unhide KA).trans (k3.trans kB)) (by omega)).kept ks (by omega))) (fun h => ((h.kept ((unhide KA).trans (k3.trans kB)) (by omega)).kept ks (by omega)).wider (by omega) (by omega))
  have R8 : Hid (Row .i64 false l1 h1 (((((((w3.alloc (.cells #[.bool t1, .slice vb x1.length vd, .int .i64 p1] 52)).setCell ⟨w.heap.size + 1, 0, none⟩ (.bool t0)).setCell ⟨w.heap.size + 1, 1, none⟩ (.slice va x0.length vc)).setCell ⟨w.heap.size + 1, 2, none⟩ (.int .i64 p0)).setCell ⟨w.heap.size + 1, 3, none⟩ (.bool t1)).setCell ⟨w.heap.size + 1, 4, none⟩ (.slice vb x1.length vd)).setCell ⟨w.heap.size + 1, 5, none⟩ (.int .i64 p1)) (.slice vb x1.length vd) x1 ∨ Row .i64 false w.heap.size (((((((w3.alloc (.cells #[.bool t1, .slice vb x1.length vd, .int .i64 p1] 52)).setCell ⟨w.heap.size + 1, 0, none⟩ (.bool t0)).setCell ⟨w.heap.size + 1, 1, none⟩ (.slice va x0.length vc)).setCell ⟨w.heap.size + 1, 2, none⟩ (.int .i64 p0)).setCell ⟨w.heap.size + 1, 3, none⟩ (.bool t1)).setCell ⟨w.heap.size + 1, 4, none⟩ (.slice vb x1.length vd)).setCell ⟨w.heap.size + 1, 5, none⟩ (.int .i64 p1)).heap.size (((((((w3.alloc (.cells #[.bool t1, .slice vb x1.length vd, .int .i64 p1] 52)).setCell ⟨w.heap.size + 1, 0, none⟩ (.bool t0)).setCell ⟨w.heap.size + 1, 1, none⟩ (.slice va x0.length vc)).setCell ⟨w.heap.size + 1, 2, none⟩ (.int .i64 p0)).setCell ⟨w.heap.size + 1, 3, none⟩ (.bool t1)).setCell ⟨w.heap.size + 1, 4, none⟩ (.slice vb x1.length vd)).setCell ⟨w.heap.size + 1, 5, none⟩ (.int .i64 p1)) (.slice vb x1.length vd) x1) :=
    r3.imp (fun h => ((h.kept kB (by omega)).kept ks (by omega))) (fun h => ((h.kept kB (by omega)).kept ks (by omega)).wider (by omega) (by omega))
  have K9 := hide ((((unhide KX).trans k3).trans kB).wide ks (by omega))
  clear hc2 r3 k3 kB ks hsz R1 KX KA z3 zA zB z1 sW Z1 hh0 hh1 HHH g0 g1 g2 g3 g4 g5
  go_wp2
  exact bodyPost_ret (v := .agg #[.bool t0, .slice va x0.length vc, .int .i64 p0, .bool t1, .slice vb x1.length vd, .int .i64 p1]) (by simp [results, Tryz.results118, go_sem, q0, q1, q2, q3, q4, q5]) rfl ⟨_, _, rfl, unhide R9, unhide R8, unhide K9⟩

end Go.Proofs.YthahoabkehcgbaaGreatDoor


namespace Go.Proofs.YthahoabkehcgbaaGreatDoor
open Go.RowKit
set_option linter.unusedVariables false
set_option maxRecDepth 8000
set_option linter.unusedSimpArgs false

set_option maxHeartbeats 16000000 in
theorem out10_spec {k m lo hi : Nat} {v : Value} {ds : List DE} (low : Int) (hl0 : -200 ≤ low) (hl1 : low ≤ 200) (w : World) (hk4 : k ≤ 4) (hmk : m = k * k) (U : ∀ q, q < 2 * m → dOkE (ds.getD q de0) = true) (r : Ivs lo hi w v ds m) :
    Calls Tryz.prog 57 #[.agg #[.int .i64 (k : Int), v], .int .i64 low] w fun e w' => ∃ v', e = .returned (.agg #[.int .i64 (k : Int), v']) ∧ Ivs 0 w'.heap.size w' v' ((List.range (2 * m)).map fun q => nE (outV low ds q) (-3000)) m ∧ Kept 0 0 w w' := by
  obtain ⟨a, c, rfl, -, -⟩ := r.form
  obtain ⟨W, hW⟩ : ∃ W, W = (w.alloc (.cells #[.int .i64 (k : Int), .slice a m c] 28)).alloc (.cells #[.int .i64 0, .slice none 0 0] 28) := ⟨_, rfl⟩
  have k0 : Kept 0 0 w W := by rw [hW]; exact ((Kept.refl 0 0 w).alloc _).alloc _
  have c0 : W.cell? ⟨w.heap.size, 0, none⟩ = some (.int .i64 (k : Int)) := by rw [hW]; exact old_cell _ (new_cell2 _ _ _ _ _ _ (by simp) rfl)
  have c1 : W.cell? ⟨w.heap.size, 1, none⟩ = some (.slice a m c) := by rw [hW]; exact old_cell _ (new_cell2 _ _ _ _ _ _ (by simp) rfl)
  have q0 : W.cell? ⟨w.heap.size + 1, 0, none⟩ = some (.int .i64 0) := by rw [hW]; exact new_cell2 _ _ _ _ _ _ (by simp) rfl
  have q1 : W.cell? ⟨w.heap.size + 1, 1, none⟩ = some (.slice none 0 0) := by rw [hW]; exact new_cell2 _ _ _ _ _ _ (by simp) rfl
  have f0 : W.frozen? ⟨w.heap.size + 1, 0, none⟩ = false := by rw [hW]; exact new_loose2 _ _ _ _ _ (by simp)
  have f1 : W.frozen? ⟨w.heap.size + 1, 1, none⟩ = false := by rw [hW]; exact new_loose2 _ _ _ _ _ (by simp)
  have sW : W.heap.size = w.heap.size + 2 := by rw [hW]; simp
  obtain ⟨DL, hDL⟩ : ∃ DL, DL = (List.range (2 * m)).map fun q => nE (outV low ds q) (-3000) := ⟨_, rfl⟩
  rw [← hDL]
  have h16 : m ≤ 4 * 4 := by rw [hmk]; exact Nat.mul_le_mul hk4 hk4
  have hn10 := new10_spec hk4 W DL
  rw [← hmk] at hn10
  have HLEN : Hid (DL.length = 2 * m) := by show _ = _; rw [hDL]; simp
  have HAT : Hid (∀ q, q < 2 * m → DL.getD q de0 = nE (rvM low (outM q) (ds.getD q de0)) low) := fun q hq => by
    rw [hDL, map_at _ _ _ hq]
    exact nE_out (by omega)
  have RW := hide r
  have UU := hide U
  have SW := hide sW
  have K1 := hide k0
  have HL := hide (And.intro hl0 hl1)
  rw [hW] at hn10
  clear r hmk hDL sW k0 U hl0 hl1
  go_enter Tryz.func57, Tryz.ntmps57
  go_wp2_with fail
  refine hn10.mono ?_
  rw [← hW]
  rintro e w2 ⟨g, rfl, F0, hg, k2⟩
  clear hn10 hW
  obtain ⟨O, hO⟩ : ∃ O, O = w2.heap.size := ⟨_, rfl⟩
  have o0 : (w2.alloc (.cells #[.int .i64 (k : Int), .slice (some ⟨g, 0, none⟩) m m] 28)).cell? ⟨O, 0, none⟩ = some (.int .i64 (k : Int)) := new_cell2 _ _ _ _ _ _ hO rfl
  have o1 : (w2.alloc (.cells #[.int .i64 (k : Int), .slice (some ⟨g, 0, none⟩) m m] 28)).cell? ⟨O, 1, none⟩ = some (.slice (some ⟨g, 0, none⟩) m m) := new_cell2 _ _ _ _ _ _ hO rfl
  have k3 := (Kept.refl 0 0 w2).alloc (.cells #[.int .i64 (k : Int), .slice (some ⟨g, 0, none⟩) m m] 28)
  have hgO : g < O := by have := F0.lt; omega
  have kk := k2.trans k3
  have c1' := kk.cell0 c1
  have q0' := kk.cell0 q0
  have q1' := kk.cell0 q1
  have f0' := kk.loose0 (World.block_lt_of_cell? _ _ q0) f0
  have f1' := kk.loose0 (World.block_lt_of_cell? _ _ q1) f1
  have F1 := hide ((F0.kept k3).toP (B := w.heap.size) (ds' := DL) (P := fun i => i < 2 * 0) (by have := unhide SW; omega) (fun i _ h => by omega))
  have K2 := hide ((unhide K1).trans kk)
  have HGW : Hid (w.heap.size + 2 ≤ g) := by show _ ≤ _; have := unhide SW; omega
  have HGO := hide hgO
  clear F0 k2 k3 kk c0 c1 q0 q1 f0 f1 hg hgO K1
  go_wp2_with fail
  rw [← hO]
  generalize (w2.alloc (.cells #[.int .i64 (k : Int), .slice (some ⟨g, 0, none⟩) m m] 28)) = w3 at *
  clear hO
  go_loopw [6] (fun s6 wr => ∃ j : Nat, s6 = .int .i64 j ∧ j ≤ m ∧ Hid (FillP w.heap.size g (2 * m) DL (fun i => i < 2 * j) wr) ∧ Hid (Kept 0 0 w wr) ∧ Hid (Kept g (g + 1) w3 wr)) (fun s6 _ => m - (intOf s6).toNat)
  case atStart => exact ⟨0, rfl, Nat.zero_le _, F1, K2, Kept.refl _ _ _⟩
  case round =>
    clear F1 K2
    obtain ⟨j, rfl, hj, hF, kw, kg⟩ := hrel
    have hwj : IntKind.i64.wrap ((j : Int) + 1) = ((j + 1 : Nat) : Int) := by rw [IntKind.wrap_i64]; omega
    have hgw := unhide HGW
    have hgo := unhide HGO
    have C1 := (unhide kg).cellOut (a := ⟨w.heap.size, 1, none⟩) (by dsimp only; omega) c1'
    by_cases hlt : j < m
    · have kgd := (unhide kg).drew
      have kd := (unhide kw).drew
      have O1 := kgd.cellOut (a := ⟨O, 1, none⟩) (by dsimp only; omega) o1
      have A1 := kgd.cellOut (a := ⟨w.heap.size, 1, none⟩) (by dsimp only; omega) c1'
      have ou0 := unhide UU (2 * j) (by omega)
      have ou1 := unhide UU (2 * j + 1) (by omega)
      obtain ⟨gA, off, ln0, ln1, rfl, -, -, hgA, b0, e0, b1, e1, m0, m1, m2, m3, m4, m5, hz0, hz1, rr0, rr1⟩ := (unhide RW).at (i := j) hlt
      have HP0 := unhide HAT (2 * j) (by omega)
      have HP1 := unhide HAT (2 * j + 1) (by omega)
      rw [outM_lo] at HP0
      rw [outM_hi] at HP1
      obtain ⟨⟨s0, z0, y0⟩, hE0⟩ : ∃ q, q = ds.getD (2 * j) de0 := ⟨_, rfl⟩
      obtain ⟨⟨s1, z1, y1⟩, hE1⟩ : ∃ q, q = ds.getD (2 * j + 1) de0 := ⟨_, rfl⟩
      rw [← hE0] at m0 m2 rr0 HP0 ou0
      rw [← hE1] at m3 m5 rr1 HP1 ou1
      dsimp only at m0 m2 rr0 m3 m5 rr1
      obtain ⟨⟨t0, x0, p0⟩, hT0⟩ : ∃ q, q = nE (rvM low 3 (s0, z0, y0)) low := ⟨_, rfl⟩
      obtain ⟨⟨t1, x1, p1⟩, hT1⟩ : ∃ q, q = nE (rvM low 2 (s1, z1, y1)) low := ⟨_, rfl⟩
      rw [← hT0] at HP0
      rw [← hT1] at HP1
      replace m0 := kd.cell0 m0
      replace m1 := kd.cell0 m1
      replace m2 := kd.cell0 m2
      replace m3 := kd.cell0 m3
      replace m4 := kd.cell0 m4
      replace m5 := kd.cell0 m5
      have HF := hide ((unhide hF).kept ((Kept.refl 0 0 wr).drew))
      have HP := hide (And.intro HP0 HP1)
      have HT := hide (And.intro hT0 hT1)
      have HU := hide (And.intro ou0 ou1)
      have KD := hide kd
      have KGD := hide kgd
      have hws : w.heap.size ≤ wr.drew.heap.size := kd.size
      have RR := hide (And.intro (rr0.tight.kept kd (by omega)) (rr1.tight.kept kd (by omega)))
      have HZ := hide (And.intro hz0 hz1)
      clear rr0 rr1 hE0 hE1 kd kgd hF kw kg HP0 HP1 hT0 hT1 ou0 ou1 hz0 hz1
      go_wp2_with fail
      refine wp_region_held_drew (S := (fun w' => w'.cell? ⟨O, 1, none⟩ = some (.slice (some ⟨g, 0, none⟩) m m) ∧ w'.cell? ⟨w.heap.size, 1, none⟩ = some (.slice (some ⟨gA, off, none⟩) m c) ∧ w'.cell? ⟨gA, off + j * 6, none⟩ = some (.bool s0) ∧ w'.cell? ⟨gA, off + j * 6 + 1, none⟩ = some (.slice b0 ln0 e0) ∧ w'.cell? ⟨gA, off + j * 6 + 2, none⟩ = some (.int .i64 y0) ∧ w'.cell? ⟨gA, off + j * 6 + 3, none⟩ = some (.bool s1) ∧ w'.cell? ⟨gA, off + j * 6 + 4, none⟩ = some (.slice b1 ln1 e1) ∧ w'.cell? ⟨gA, off + j * 6 + 5, none⟩ = some (.int .i64 y1))) (by kernel_rfl) ?_ (fun hHeld => ?_)
      · exact ⟨O1, A1, m0, m1, m2, m3, m4, m5⟩
      generalize wr.drew = wd at *
      refine wpAnyH_take (i := 0) (oi := _) (v := .pointer (some ⟨O, 1, none⟩)) rfl (by kernel_rfl) (by kernel_rfl) (by kernel_rfl) (fun _ _ _ h => h) (Or.inl ⟨by rfl, ?_⟩) hHeld ?_
      · intro wq hSw
        try dsimp only at hSw
        go_simp
      try simp only [Act.put, List.getElem_toArray, List.getElem_cons_succ, List.getElem_cons_zero, List.setIfInBounds_toArray, List.set_cons_zero, List.set_cons_succ]
      refine wpAnyH_take (i := 1) (oi := _) (v := .slice (some ⟨g, 0, none⟩) m m) rfl (by kernel_rfl) (by kernel_rfl) (by kernel_rfl) (fun _ _ _ h => h) (Or.inl ⟨by rfl, ?_⟩) hHeld ?_
      · intro wq hSw
        try dsimp only at hSw
        go_simp
      try simp only [Act.put, List.getElem_toArray, List.getElem_cons_succ, List.getElem_cons_zero, List.setIfInBounds_toArray, List.set_cons_zero, List.set_cons_succ]
      refine wpAnyH_take (i := 2) (oi := _) (v := .int .i64 (j : Int)) rfl (by kernel_rfl) (by kernel_rfl) (by kernel_rfl) (fun _ _ _ h => h) (Or.inl ⟨by rfl, ?_⟩) hHeld ?_
      · intro wq hSw
        try dsimp only at hSw
        go_simp
      try simp only [Act.put, List.getElem_toArray, List.getElem_cons_succ, List.getElem_cons_zero, List.setIfInBounds_toArray, List.set_cons_zero, List.set_cons_succ]
      refine wpAnyH_take (i := 3) (oi := _) (v := .pointer (some ⟨w.heap.size, 1, none⟩)) rfl (by kernel_rfl) (by kernel_rfl) (by kernel_rfl) (fun _ _ _ h => h) (Or.inl ⟨by rfl, ?_⟩) hHeld ?_
      · intro wq hSw
        try dsimp only at hSw
        go_simp
      try simp only [Act.put, List.getElem_toArray, List.getElem_cons_succ, List.getElem_cons_zero, List.setIfInBounds_toArray, List.set_cons_zero, List.set_cons_succ]
      refine wpAnyH_take (i := 4) (oi := _) (v := .slice (some ⟨gA, off, none⟩) m c) rfl (by kernel_rfl) (by kernel_rfl) (by kernel_rfl) (fun _ _ _ h => h) (Or.inl ⟨by rfl, ?_⟩) hHeld ?_
      · intro wq hSw
        try dsimp only at hSw
        go_simp
      try simp only [Act.put, List.getElem_toArray, List.getElem_cons_succ, List.getElem_cons_zero, List.setIfInBounds_toArray, List.set_cons_zero, List.set_cons_succ]
      refine wpAnyH_take (i := 5) (oi := _) (v := .int .i64 (j : Int)) rfl (by kernel_rfl) (by kernel_rfl) (by kernel_rfl) (fun _ _ _ h => h) (Or.inl ⟨by rfl, ?_⟩) hHeld ?_
      · intro wq hSw
        try dsimp only at hSw
        go_simp
      try simp only [Act.put, List.getElem_toArray, List.getElem_cons_succ, List.getElem_cons_zero, List.setIfInBounds_toArray, List.set_cons_zero, List.set_cons_succ]
      refine wpAnyH_take (i := 6) (oi := _) (v := .pointer (some ⟨gA, off + j * 6, none⟩)) rfl (by kernel_rfl) (by kernel_rfl) (by kernel_rfl) (fun _ _ _ h => h) (Or.inl ⟨by rfl, ?_⟩) hHeld ?_
      · intro wq hSw
        try dsimp only at hSw
        go_simp
      try simp only [Act.put, List.getElem_toArray, List.getElem_cons_succ, List.getElem_cons_zero, List.setIfInBounds_toArray, List.set_cons_zero, List.set_cons_succ]
      refine wpAnyH_take (i := 7) (oi := _) (v := .agg #[.bool s0, .slice b0 ln0 e0, .int .i64 y0, .bool s1, .slice b1 ln1 e1, .int .i64 y1]) rfl (by kernel_rfl) (by kernel_rfl) (by kernel_rfl) (fun _ _ _ h => h) (Or.inl ⟨by rfl, ?_⟩) hHeld ?_
      · intro wq hSw
        try dsimp only at hSw
        go_simp
      try simp only [Act.put, List.getElem_toArray, List.getElem_cons_succ, List.getElem_cons_zero, List.setIfInBounds_toArray, List.set_cons_zero, List.set_cons_succ]
      refine wpAnyH_take (i := 8) (oi := _) (v := .int .i64 low) rfl (by kernel_rfl) (by kernel_rfl) (by kernel_rfl) (fun _ _ _ h => h) (Or.inl ⟨by rfl, ?_⟩) hHeld ?_
      · intro wq hSw
        try dsimp only at hSw
        go_simp
      try simp only [Act.put, List.getElem_toArray, List.getElem_cons_succ, List.getElem_cons_zero, List.setIfInBounds_toArray, List.set_cons_zero, List.set_cons_succ]
      refine wpAnyH_ready (rs := [9]) (by kernel_rfl) (by simp) ?_
      refine AllReadyH.cons rfl (fun KK hK => ?_) AllReadyH.nil
      simp only [List.getElem_toArray, List.getElem_cons_succ, List.getElem_cons_zero]
      rw [if_pos (by rfl)]
      have HC := hide (out7_spec s0 s1 y0 y1 low wd (unhide RR).1 (unhide RR).2 hws hws (unhide HU).1 (unhide HU).2 (unhide HL).1 (unhide HL).2 (unhide HT).1 (unhide HT).2)
      clear HT HU RR
      refine wps2 118 (.tmp 24) (.tmp 25) _ rfl in_l7out (.agg #[.bool s0, .slice b0 ln0 e0, .int .i64 y0, .bool s1, .slice b1 ln1 e1, .int .i64 y1]) (.int .i64 low) rfl rfl (unhide HC) ?_
      clear HC
      rintro e w4 ⟨v1, v2, rfl, r1, r2, k4⟩
      refine ⟨_, rfl, ?_⟩
      obtain ⟨va, vc, hv⟩ : ∃ a c, v1 = .slice a x0.length c := by rcases r1 with h | h <;> exact Row.form' h
      subst hv
      obtain ⟨vb, vd, hv⟩ : ∃ a c, v2 = .slice a x1.length c := by rcases r2 with h | h <;> exact Row.form' h
      subst hv
      have hgd : g < wd.heap.size := (unhide HF).lt
      have HF4 := hide ((unhide HF).kept k4)
      have FP : Hid (FillP w.heap.size g (2 * m) DL (fun i => i < 2 * (j + 1)) ((((((w4.setCell ⟨g, j * 6, none⟩ (.bool t0)).setCell ⟨g, j * 6 + 1, none⟩ (.slice va x0.length vc)).setCell ⟨g, j * 6 + 2, none⟩ (.int .i64 p0)).setCell ⟨g, j * 6 + 3, none⟩ (.bool t1)).setCell ⟨g, j * 6 + 4, none⟩ (.slice vb x1.length vd)).setCell ⟨g, j * 6 + 5, none⟩ (.int .i64 p1))) := by
        rcases r1 with r1 | r1
        · rcases r2 with r2 | r2
          · exact (unhide HF4).pair hlt (Kept.refl 0 0 w4) r1 (.inr (Nat.le_refl _)) r2 (.inr (Nat.le_refl _)) (unhide HP).1 (unhide HP).2
          · exact (unhide HF4).pair hlt (Kept.refl 0 0 w4) r1 (.inr (Nat.le_refl _)) r2 (.inl hgd) (unhide HP).1 (unhide HP).2
        · rcases r2 with r2 | r2
          · exact (unhide HF4).pair hlt (Kept.refl 0 0 w4) r1 (.inl hgd) r2 (.inr (Nat.le_refl _)) (unhide HP).1 (unhide HP).2
          · exact (unhide HF4).pair hlt (Kept.refl 0 0 w4) r1 (.inl hgd) r2 (.inl hgd) (unhide HP).1 (unhide HP).2
      replace O1 := k4.cell0 O1
      replace A1 := k4.cell0 A1
      replace m0 := k4.cell0 m0
      replace m1 := k4.cell0 m1
      replace m2 := k4.cell0 m2
      replace m3 := k4.cell0 m3
      replace m4 := k4.cell0 m4
      replace m5 := k4.cell0 m5
      replace KD := hide ((unhide KD).trans k4)
      replace KGD := hide ((unhide KGD).trans k4.any)
      clear r1 r2 HF HP
      clear hHeld
      refine hK.out _ _ ?_ (fun hHeld => ?_)
      · exact ⟨O1, A1, m0, m1, m2, m3, m4, m5⟩
      clear hK KK
      try simp only [Act.put, List.getElem_toArray, List.getElem_cons_succ, List.getElem_cons_zero, List.setIfInBounds_toArray, List.set_cons_zero, List.set_cons_succ]
      refine wpAnyH_take (i := 10) (oi := _) (v := .pointer (some ⟨g, j * 6, none⟩)) rfl (by kernel_rfl) (by kernel_rfl) (by kernel_rfl) (fun _ _ _ h => h) (Or.inl ⟨by rfl, ?_⟩) hHeld ?_
      · intro wq hSw
        try dsimp only at hSw
        go_simp
      try simp only [Act.put, List.getElem_toArray, List.getElem_cons_succ, List.getElem_cons_zero, List.setIfInBounds_toArray, List.set_cons_zero, List.set_cons_succ]
      obtain ⟨u0, hx0⟩ := (unhide HF4).cell (j * 6) (by omega)
      have fg0 := (unhide HF4).loose (j * 6) (by omega)
      obtain ⟨u1, hx1⟩ := (unhide HF4).cell (j * 6 + 1) (by omega)
      have fg1 := (unhide HF4).loose (j * 6 + 1) (by omega)
      obtain ⟨u2, hx2⟩ := (unhide HF4).cell (j * 6 + 2) (by omega)
      have fg2 := (unhide HF4).loose (j * 6 + 2) (by omega)
      obtain ⟨u3, hx3⟩ := (unhide HF4).cell (j * 6 + 3) (by omega)
      have fg3 := (unhide HF4).loose (j * 6 + 3) (by omega)
      obtain ⟨u4, hx4⟩ := (unhide HF4).cell (j * 6 + 4) (by omega)
      have fg4 := (unhide HF4).loose (j * 6 + 4) (by omega)
      obtain ⟨u5, hx5⟩ := (unhide HF4).cell (j * 6 + 5) (by omega)
      have fg5 := (unhide HF4).loose (j * 6 + 5) (by omega)
      clear HF4
      refine wpAnyH_ready (rs := [11]) (by kernel_rfl) (by simp) ?_
      refine AllReadyH.cons rfl (fun KK hK => ?_) AllReadyH.nil
      simp only [List.getElem_toArray, List.getElem_cons_succ, List.getElem_cons_zero]
      rw [if_pos (by rfl)]
      go_simp
      have ks : Kept g (g + 1) w4 ((((((w4.setCell ⟨g, j * 6, none⟩ (.bool t0)).setCell ⟨g, j * 6 + 1, none⟩ (.slice va x0.length vc)).setCell ⟨g, j * 6 + 2, none⟩ (.int .i64 p0)).setCell ⟨g, j * 6 + 3, none⟩ (.bool t1)).setCell ⟨g, j * 6 + 4, none⟩ (.slice vb x1.length vd)).setCell ⟨g, j * 6 + 5, none⟩ (.int .i64 p1)) := (((((((Kept.refl g (g + 1) w4).setCell (p := ⟨g, j * 6, none⟩) (Nat.le_refl _) (Nat.lt_succ_self _) (.bool t0)).setCell (p := ⟨g, j * 6 + 1, none⟩) (Nat.le_refl _) (Nat.lt_succ_self _) (.slice va x0.length vc)).setCell (p := ⟨g, j * 6 + 2, none⟩) (Nat.le_refl _) (Nat.lt_succ_self _) (.int .i64 p0)).setCell (p := ⟨g, j * 6 + 3, none⟩) (Nat.le_refl _) (Nat.lt_succ_self _) (.bool t1)).setCell (p := ⟨g, j * 6 + 4, none⟩) (Nat.le_refl _) (Nat.lt_succ_self _) (.slice vb x1.length vd)).setCell (p := ⟨g, j * 6 + 5, none⟩) (Nat.le_refl _) (Nat.lt_succ_self _) (.int .i64 p1))
      replace O1 := ks.cellOut (by dsimp only; omega) O1
      replace A1 := ks.cellOut (by dsimp only; omega) A1
      replace m0 := ks.cellOut (by dsimp only; omega) m0
      replace m1 := ks.cellOut (by dsimp only; omega) m1
      replace m2 := ks.cellOut (by dsimp only; omega) m2
      replace m3 := ks.cellOut (by dsimp only; omega) m3
      replace m4 := ks.cellOut (by dsimp only; omega) m4
      replace m5 := ks.cellOut (by dsimp only; omega) m5
      have K7 := hide ((unhide KD).wide ks (by omega))
      have KG7 := hide ((unhide KGD).trans ks)
      clear ks KD KGD k4
      clear hHeld
      refine hK.out _ _ ?_ (fun hHeld => ?_)
      · exact ⟨O1, A1, m0, m1, m2, m3, m4, m5⟩
      clear hK KK
      try simp only [Act.put, List.getElem_toArray, List.getElem_cons_succ, List.getElem_cons_zero, List.setIfInBounds_toArray, List.set_cons_zero, List.set_cons_succ]
      refine wpAnyH_done (by kernel_rfl) ?_ _
      clear hHeld O1 A1 m0 m1 m2 m3 m4 m5 hx0 hx1 hx2 hx3 hx4 hx5 fg0 fg1 fg2 fg3 fg4 fg5 hgw hgo hws hgd hgA
      go_wp2
      go_roundw
      case rel => exact ⟨j + 1, by simp, hlt, FP, K7, KG7⟩
      case measure => simp [intOf]; omega
    · have hjn : j = m := by omega
      subst hjn
      have O0 := (unhide kg).cellOut (a := ⟨O, 0, none⟩) (by dsimp only; omega) o0
      have O1 := (unhide kg).cellOut (a := ⟨O, 1, none⟩) (by dsimp only; omega) o1
      have Q0 := (unhide kg).cellOut (a := ⟨w.heap.size + 1, 0, none⟩) (by dsimp only; omega) q0'
      have Q1 := (unhide kg).cellOut (a := ⟨w.heap.size + 1, 1, none⟩) (by dsimp only; omega) q1'
      have Qf0 := (unhide kg).looseOut (a := ⟨w.heap.size + 1, 0, none⟩) (by dsimp only; omega) (World.block_lt_of_cell? _ _ q0') f0'
      have Qf1 := (unhide kg).looseOut (a := ⟨w.heap.size + 1, 1, none⟩) (by dsimp only; omega) (World.block_lt_of_cell? _ _ q1') f1'
      have ks : Kept (w.heap.size + 1) (w.heap.size + 2) wr ((wr.setCell ⟨w.heap.size + 1, 0, none⟩ (.int .i64 (k : Int))).setCell ⟨w.heap.size + 1, 1, none⟩ (.slice (some ⟨g, 0, none⟩) j j)) := ((Kept.refl _ _ _).setCell (p := ⟨w.heap.size + 1, 0, none⟩) (Nat.le_refl _) (Nat.lt_succ_self _) _).setCell (p := ⟨w.heap.size + 1, 1, none⟩) (Nat.le_refl _) (Nat.lt_succ_self _) _
      have DD := hide (ivsP_doneO ((unhide hF).keptW ks (by omega) (by omega)) (unhide HLEN) (by unfold maxLen; omega))
      have K7 := hide ((unhide kw).wide ks (by omega))
      clear hF kg kw ks hgo hgw
      go_wp2
      exact bodyPost_ret (v := .agg #[.int .i64 (k : Int), .slice (some ⟨g, 0, none⟩) j j]) (by simp [results, Tryz.results57, go_sem, Q0, Q1]) rfl ⟨.slice (some ⟨g, 0, none⟩) j j, rfl, unhide DD, unhide K7⟩

end Go.Proofs.YthahoabkehcgbaaGreatDoor

