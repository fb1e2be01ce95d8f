/-
  The ends of an interval that is held as two numbers, told.
-/
import Derived.Test.YthahoabkehcgbaaGreatDoorqsTld
namespace Go.Proofs.YthahoabkehcgbaaGreatDoor
open Go.RowKit
set_option linter.unusedVariables false
set_option maxRecDepth 8000
set_option linter.unusedSimpArgs false

theorem Mod.monoH {S T : Nat → Prop} {a b : World} (h : Mod S a b) (hT : ∀ i, S i → T i) : Mod T a b := ⟨h.os, h.tape, h.output, h.size, fun i h1 h2 => h.block i h1 (fun e => h2 (hT i e))⟩
theorem Dw.keptA {lo hi l h : Nat} {w w' : World} {g : Nat} {d : DE} (D : Dw lo hi w g d) (k : Kept l h w w') (hd : h ≤ lo ∨ hi ≤ l) : Dw lo hi w' g d :=
  D.mod k.modW (fun x h1 h2 hx => by omega)

set_option maxHeartbeats 4000000 in
theorem tellEnd_impl {lo hi g : Nat} {d : DE} (m : Int) (w : World) (D : Dw lo hi w g d) (hhi : hi ≤ w.heap.size) (ok : TelOk d) (T : TabB w) :
    Calls Tryz.prog 112 #[.pointer (some ⟨g, 0, none⟩), .int .i64 m] w fun e w' => ∃ v', e = .returned (.tuple #[.agg #[.bool (tdE d).1, v', .int .i64 (tdE d).2.2], .bool (tdB d)]) ∧ Row .i64 true w.heap.size w'.heap.size w' v' (tdE d).2.1 ∧ Kept lo hi w w' := by
  obtain ⟨W, hW⟩ : ∃ W, W = w.alloc (.cells #[.bool false, .slice none 0 0, .int .i64 0] 52) := ⟨_, rfl⟩
  have k0 : Kept 0 0 w W := by rw [hW]; exact (Kept.refl 0 0 w).alloc _
  have q0 : W.cell? ⟨w.heap.size, 0, none⟩ = some (.bool false) := by rw [hW]; exact new_cell2 _ _ _ _ _ _ rfl rfl
  have q1 : W.cell? ⟨w.heap.size, 1, none⟩ = some (.slice none 0 0) := by rw [hW]; exact new_cell2 _ _ _ _ _ _ rfl rfl
  have q2 : W.cell? ⟨w.heap.size, 2, none⟩ = some (.int .i64 0) := by rw [hW]; exact new_cell2 _ _ _ _ _ _ rfl rfl
  have f0 : W.frozen? ⟨w.heap.size, 0, none⟩ = false := by rw [hW]; exact new_loose2 _ _ _ _ _ rfl
  have f1 : W.frozen? ⟨w.heap.size, 1, none⟩ = false := by rw [hW]; exact new_loose2 _ _ _ _ _ rfl
  have f2 : W.frozen? ⟨w.heap.size, 2, none⟩ = false := by rw [hW]; exact new_loose2 _ _ _ _ _ rfl
  have sW : W.heap.size = w.heap.size + 1 := by rw [hW]; simp
  obtain ⟨u, nu, su, xu, l1, l2, l3⟩ := Dw.kept D k0
  have htd := toldDyadic_impl (wval d.1 d.2.1) rfl W nu su xu ok.1 ok.2.1 ok.2.2.1 ok.2.2.2 (T.kept k0)
  obtain ⟨GB, hGB⟩ : ∃ y, ansDB true (wval d.1 d.2.1) d.2.2 = y := ⟨_, rfl⟩
  obtain ⟨GS, hGS⟩ : ∃ y, ansDS true (wval d.1 d.2.1) d.2.2 = y := ⟨_, rfl⟩
  obtain ⟨GL, hGL⟩ : ∃ y, ansDL true (wval d.1 d.2.1) d.2.2 = y := ⟨_, rfl⟩
  obtain ⟨GE, hGE⟩ : ∃ y, ansDE true (wval d.1 d.2.1) d.2.2 = y := ⟨_, rfl⟩
  unfold tdE tdB
  dsimp only
  rw [hGB, hGS, hGL, hGE] at htd ⊢
  have W1 : Hid (∀ q, Own1 g u q → lo ≤ q ∧ q < hi) := fun q hq => by
    rcases hq with h | h
    · subst h; exact ⟨l1, l2⟩
    · exact l3 q h
  have SW := hide sW
  have K0 := hide k0
  rw [hW] at htd
  clear nu su xu l1 l2 l3 ok T D hGB hGS hGL hGE sW k0
  go_enter Tryz.func112, Tryz.ntmps112
  go_wp2_with fail
  rw [← hW] at htd ⊢
  clear hW
  refine htd.mono ?_
  rintro e w1 ⟨v1, rfl, r1, m1⟩
  obtain ⟨a1, c1, hv1⟩ := Row.form' r1
  subst hv1
  have k1 : Kept lo hi W w1 := ⟨m1.os, m1.tape, m1.output, m1.size, fun q hq ho => m1.block q hq (fun h => by have := unhide W1 q h; omega)⟩
  have sW := unhide SW
  replace f0 := k1.looseOut (a := ⟨w.heap.size, 0, none⟩) (.inr hhi) (World.block_lt_of_cell? _ _ q0) f0
  replace f1 := k1.looseOut (a := ⟨w.heap.size, 1, none⟩) (.inr hhi) (World.block_lt_of_cell? _ _ q1) f1
  replace f2 := k1.looseOut (a := ⟨w.heap.size, 2, none⟩) (.inr hhi) (World.block_lt_of_cell? _ _ q2) f2
  replace q0 := k1.cellOut (a := ⟨w.heap.size, 0, none⟩) (.inr hhi) q0
  replace q1 := k1.cellOut (a := ⟨w.heap.size, 1, none⟩) (.inr hhi) q1
  replace q2 := k1.cellOut (a := ⟨w.heap.size, 2, none⟩) (.inr hhi) q2
  have K7 := hide ((((((unhide K0).any (lo := lo) (hi := hi)).trans k1).setNew (p := ⟨w.heap.size, 0, none⟩) (Nat.le_refl _) (.bool GS)).setNew (p := ⟨w.heap.size, 1, none⟩) (Nat.le_refl _) (.slice a1 GL.length c1)).setNew (p := ⟨w.heap.size, 2, none⟩) (Nat.le_refl _) (.int .i64 GE))
  have R7 := hide ((((r1.set_other (p := ⟨w.heap.size, 0, none⟩) (.inl (by dsimp only; omega)) (.bool GS)).set_other (p := ⟨w.heap.size, 1, none⟩) (.inl (by dsimp only; omega)) (.slice a1 GL.length c1)).set_other (p := ⟨w.heap.size, 2, none⟩) (.inl (by dsimp only; omega)) (.int .i64 GE)).tight.wider (lo' := w.heap.size) (by omega) (Nat.le_refl _))
  clear htd r1 m1 k1 K0 W1 sW
  go_wp2
  exact bodyPost_ret (v := .tuple #[.agg #[.bool GS, .slice a1 GL.length c1, .int .i64 GE], .bool GB]) (by simp [results, Tryz.results112, go_sem, q0, q1, q2]) rfl ⟨_, rfl, unhide R7, unhide K7⟩

/-- What is told of an end, where both ends can be told. -/
def hE (b : Bool) (d : DE) : DE := if b then tdE d else de0
def hB (d1 d2 : DE) : Bool := tdB d1 && tdB d2
/-- The two windows. -/
def HW (l1 h1 l2 h2 : Nat) : Nat → Prop := fun x => (l1 ≤ x ∧ x < h1) ∨ (l2 ≤ x ∧ x < h2)
/-- What the two ends' answer is. -/
def HAns (b : Bool) (d1 d2 : DE) (S : Nat → Prop) (w : World) (e : Ending) (w' : World) : Prop :=
  ∃ v1 v2 mid, e = .returned (.tuple #[.agg #[.bool (hE b d1).1, v1, .int .i64 (hE b d1).2.2, .bool (hE b d2).1, v2, .int .i64 (hE b d2).2.2], .bool b]) ∧ Row .i64 true w.heap.size mid w' v1 (hE b d1).2.1 ∧ Row .i64 true mid w'.heap.size w' v2 (hE b d2).2.1 ∧ w.heap.size ≤ mid ∧ mid ≤ w'.heap.size ∧ Mod S w w'
theorem hAns_no {d1 d2 : DE} {S : Nat → Prop} {w w' : World} (m : Mod S w w') : HAns false d1 d2 S w (.returned (.tuple #[.agg #[.bool false, .slice none 0 0, .int .i64 0, .bool false, .slice none 0 0, .int .i64 0], .bool false])) w' :=
  ⟨_, _, w.heap.size, rfl, Row.nil _ _ _ _ _, Row.nil _ _ _ _ _, Nat.le_refl _, m.size, m⟩

set_option maxHeartbeats 8000000 in
theorem bothEndsH_impl {l1 h1 l2 h2 g1 g2 : Nat} {d1 d2 : DE} (w : World) (D1 : Dw l1 h1 w g1 d1) (D2 : Dw l2 h2 w g2 d2) (hh1 : h1 ≤ w.heap.size) (hh2 : h2 ≤ w.heap.size) (hd : h1 ≤ l2 ∨ h2 ≤ l1) (ok1 : TelOk d1) (ok2 : TelOk d2) (T : TabB w) (t1 : 1 < l1) :
    Calls Tryz.prog 111 #[.pointer (some ⟨g1, 0, none⟩), .pointer (some ⟨g2, 0, none⟩), .func (.func 112) #[] #[]] w fun e w' => HAns (hB d1 d2) d1 d2 (HW l1 h1 l2 h2) w e w' := by
  obtain ⟨W, hW⟩ : ∃ W, W = w.alloc (.cells #[.bool false, .slice none 0 0, .int .i64 0, .bool false, .slice none 0 0, .int .i64 0] 102) := ⟨_, rfl⟩
  have k0 : Kept 0 0 w W := by rw [hW]; exact (Kept.refl 0 0 w).alloc _

  have R0 : W.cell? ⟨w.heap.size, 0, none⟩ = some (.bool false) := by rw [hW]; exact new_cell2 _ _ _ _ _ _ rfl rfl
  have Rf0 : W.frozen? ⟨w.heap.size, 0, none⟩ = false := by rw [hW]; exact new_loose2 _ _ _ _ _ rfl
  have R1 : W.cell? ⟨w.heap.size, 1, none⟩ = some (.slice none 0 0) := by rw [hW]; exact new_cell2 _ _ _ _ _ _ rfl rfl
  have Rf1 : W.frozen? ⟨w.heap.size, 1, none⟩ = false := by rw [hW]; exact new_loose2 _ _ _ _ _ rfl
  have R2 : W.cell? ⟨w.heap.size, 2, none⟩ = some (.int .i64 0) := by rw [hW]; exact new_cell2 _ _ _ _ _ _ rfl rfl
  have Rf2 : W.frozen? ⟨w.heap.size, 2, none⟩ = false := by rw [hW]; exact new_loose2 _ _ _ _ _ rfl
  have R3 : W.cell? ⟨w.heap.size, 3, none⟩ = some (.bool false) := by rw [hW]; exact new_cell2 _ _ _ _ _ _ rfl rfl
  have Rf3 : W.frozen? ⟨w.heap.size, 3, none⟩ = false := by rw [hW]; exact new_loose2 _ _ _ _ _ rfl
  have R4 : W.cell? ⟨w.heap.size, 4, none⟩ = some (.slice none 0 0) := by rw [hW]; exact new_cell2 _ _ _ _ _ _ rfl rfl
  have Rf4 : W.frozen? ⟨w.heap.size, 4, none⟩ = false := by rw [hW]; exact new_loose2 _ _ _ _ _ rfl
  have R5 : W.cell? ⟨w.heap.size, 5, none⟩ = some (.int .i64 0) := by rw [hW]; exact new_cell2 _ _ _ _ _ _ rfl rfl
  have Rf5 : W.frozen? ⟨w.heap.size, 5, none⟩ = false := by rw [hW]; exact new_loose2 _ _ _ _ _ rfl
  have sW : W.heap.size = w.heap.size + 1 := by rw [hW]; simp
  have hc1 := tellEnd_impl 3 W (Dw.kept D1 k0) (by omega) ok1 (T.kept k0)
  obtain ⟨⟨s1, z1, y1⟩, hE1⟩ : ∃ q, q = tdE d1 := ⟨_, rfl⟩
  obtain ⟨⟨s2, z2, y2⟩, hE2⟩ : ∃ q, q = tdE d2 := ⟨_, rfl⟩
  have HE1 := hide hE1
  have HE2 := hide hE2
  rw [← hE1] at hc1
  dsimp only at hc1
  obtain ⟨b1, hb1⟩ : ∃ q, q = tdB d1 := ⟨_, rfl⟩
  obtain ⟨b2, hb2⟩ : ∃ q, q = tdB d2 := ⟨_, rfl⟩
  have HB : Hid (hB d1 d2 = (b1 && b2)) := by show _ = _; rw [hb1, hb2]; rfl
  have HB2 := hide hb2
  rw [← hb1] at hc1
  rw [unhide HB]
  have DD2 := hide (Dw.kept D2 k0)
  have OK2 := hide ok2
  have TT := hide (T.kept k0)
  have K0 := hide k0
  have SW := hide sW
  have HW1 := hide (And.intro hh1 (And.intro hh2 (And.intro hd t1)))
  rw [hW] at hc1
  clear D1 D2 ok1 ok2 T hh1 hh2 hd t1 hE1 hE2 hb1 hb2 k0 sW
  go_enter Tryz.func111, Tryz.ntmps111
  go_wp2_with fail
  rw [← hW] at hc1 ⊢
  clear hW
  refine hc1.mono ?_
  rintro e w1 ⟨vL, rfl, rL, k1⟩
  obtain ⟨hh1, hh2, hd, t1⟩ := unhide HW1
  have sW := unhide SW
  replace Rf0 := k1.looseOut (a := ⟨w.heap.size, 0, none⟩) (.inr hh1) (World.block_lt_of_cell? _ _ R0) Rf0
  replace Rf1 := k1.looseOut (a := ⟨w.heap.size, 1, none⟩) (.inr hh1) (World.block_lt_of_cell? _ _ R1) Rf1
  replace Rf2 := k1.looseOut (a := ⟨w.heap.size, 2, none⟩) (.inr hh1) (World.block_lt_of_cell? _ _ R2) Rf2
  replace Rf3 := k1.looseOut (a := ⟨w.heap.size, 3, none⟩) (.inr hh1) (World.block_lt_of_cell? _ _ R3) Rf3
  replace Rf4 := k1.looseOut (a := ⟨w.heap.size, 4, none⟩) (.inr hh1) (World.block_lt_of_cell? _ _ R4) Rf4
  replace Rf5 := k1.looseOut (a := ⟨w.heap.size, 5, none⟩) (.inr hh1) (World.block_lt_of_cell? _ _ R5) Rf5
  replace R0 := k1.cellOut (a := ⟨w.heap.size, 0, none⟩) (.inr hh1) R0
  replace R1 := k1.cellOut (a := ⟨w.heap.size, 1, none⟩) (.inr hh1) R1
  replace R2 := k1.cellOut (a := ⟨w.heap.size, 2, none⟩) (.inr hh1) R2
  replace R3 := k1.cellOut (a := ⟨w.heap.size, 3, none⟩) (.inr hh1) R3
  replace R4 := k1.cellOut (a := ⟨w.heap.size, 4, none⟩) (.inr hh1) R4
  replace R5 := k1.cellOut (a := ⟨w.heap.size, 5, none⟩) (.inr hh1) R5
  have D2' := (unhide DD2).keptA k1 (by omega)
  have TL : TabB w1 := fun q hq => k1.cellOut (a := ⟨1, q, none⟩) (.inl t1) (unhide TT q hq)
  have K1 := hide ((unhide K0).any.trans k1)
  have z1' := k1.size
  obtain ⟨aL, dL, hv⟩ := Row.form' rL
  subst hv
  clear hc1 k1 DD2 TT
  have kn := (Kept.refl 0 0 w1).alloc (.cells #[.bool s1, .slice aL z1.length dL, .int .i64 y1] 52)
  have A0 : (w1.alloc (.cells #[.bool s1, .slice aL z1.length dL, .int .i64 y1] 52)).cell? ⟨w1.heap.size, 0, none⟩ = some (.bool s1) := new_cell2 _ _ _ _ _ _ rfl rfl
  have A1 : (w1.alloc (.cells #[.bool s1, .slice aL z1.length dL, .int .i64 y1] 52)).cell? ⟨w1.heap.size, 1, none⟩ = some (.slice aL z1.length dL) := new_cell2 _ _ _ _ _ _ rfl rfl
  have A2 : (w1.alloc (.cells #[.bool s1, .slice aL z1.length dL, .int .i64 y1] 52)).cell? ⟨w1.heap.size, 2, none⟩ = some (.int .i64 y1) := new_cell2 _ _ _ _ _ _ rfl rfl
  have t3 : (w1.alloc (.cells #[.bool s1, .slice aL z1.length dL, .int .i64 y1] 52)).heap.size = w1.heap.size + 1 := by simp
  replace rL := rL.kept kn (.inr (.inr (Nat.le_refl 0)))
  replace Rf0 := kn.loose0 (World.block_lt_of_cell? _ _ R0) Rf0
  replace Rf1 := kn.loose0 (World.block_lt_of_cell? _ _ R1) Rf1
  replace Rf2 := kn.loose0 (World.block_lt_of_cell? _ _ R2) Rf2
  replace Rf3 := kn.loose0 (World.block_lt_of_cell? _ _ R3) Rf3
  replace Rf4 := kn.loose0 (World.block_lt_of_cell? _ _ R4) Rf4
  replace Rf5 := kn.loose0 (World.block_lt_of_cell? _ _ R5) Rf5
  replace R0 := kn.cell0 R0
  replace R1 := kn.cell0 R1
  replace R2 := kn.cell0 R2
  replace R3 := kn.cell0 R3
  replace R4 := kn.cell0 R4
  replace R5 := kn.cell0 R5
  replace K1 := hide ((unhide K1).trans kn.any)
  replace D2' := Dw.kept D2' kn
  replace TL := TL.kept kn
  have hc2 := tellEnd_impl 2 (w1.alloc (.cells #[.bool s1, .slice aL z1.length dL, .int .i64 y1] 52)) D2' (by omega) (unhide OK2) TL
  rw [← unhide HE2, ← unhide HB2] at hc2
  dsimp only at hc2
  clear kn D2' TL OK2 HB2
  cases b1
  · have K7 : Hid (Kept l1 h1 w _) := hide (((((((unhide K1).setNew (p := ⟨w.heap.size, 0, none⟩) (Nat.le_refl _) (.bool false)).setNew (p := ⟨w.heap.size, 1, none⟩) (Nat.le_refl _) (.slice none 0 0)).setNew (p := ⟨w.heap.size, 2, none⟩) (Nat.le_refl _) (.int .i64 0)).setNew (p := ⟨w.heap.size, 3, none⟩) (Nat.le_refl _) (.bool false)).setNew (p := ⟨w.heap.size, 4, none⟩) (Nat.le_refl _) (.slice none 0 0)).setNew (p := ⟨w.heap.size, 5, none⟩) (Nat.le_refl _) (.int .i64 0))
    clear rL K1 hc2
    go_wp2
    exact bodyPost_ret (v := .tuple #[.agg #[.bool false, .slice none 0 0, .int .i64 0, .bool false, .slice none 0 0, .int .i64 0], .bool false]) (by simp [results, Tryz.results111, go_sem, R0, R1, R2, R3, R4, R5]) rfl (hAns_no ((unhide K7).modW.monoH (fun x hx => .inl hx)))
  go_wp2_with fail
  refine hc2.mono ?_
  rintro e w5 ⟨vM, rfl, rM, k5⟩
  obtain ⟨aM, dM, hv⟩ := Row.form' rM
  subst hv
  replace rL := rL.kept k5 (by omega)
  replace Rf0 := k5.looseOut (a := ⟨w.heap.size, 0, none⟩) (.inr hh2) (World.block_lt_of_cell? _ _ R0) Rf0
  replace Rf1 := k5.looseOut (a := ⟨w.heap.size, 1, none⟩) (.inr hh2) (World.block_lt_of_cell? _ _ R1) Rf1
  replace Rf2 := k5.looseOut (a := ⟨w.heap.size, 2, none⟩) (.inr hh2) (World.block_lt_of_cell? _ _ R2) Rf2
  replace Rf3 := k5.looseOut (a := ⟨w.heap.size, 3, none⟩) (.inr hh2) (World.block_lt_of_cell? _ _ R3) Rf3
  replace Rf4 := k5.looseOut (a := ⟨w.heap.size, 4, none⟩) (.inr hh2) (World.block_lt_of_cell? _ _ R4) Rf4
  replace Rf5 := k5.looseOut (a := ⟨w.heap.size, 5, none⟩) (.inr hh2) (World.block_lt_of_cell? _ _ R5) Rf5
  replace R0 := k5.cellOut (a := ⟨w.heap.size, 0, none⟩) (.inr hh2) R0
  replace R1 := k5.cellOut (a := ⟨w.heap.size, 1, none⟩) (.inr hh2) R1
  replace R2 := k5.cellOut (a := ⟨w.heap.size, 2, none⟩) (.inr hh2) R2
  replace R3 := k5.cellOut (a := ⟨w.heap.size, 3, none⟩) (.inr hh2) R3
  replace R4 := k5.cellOut (a := ⟨w.heap.size, 4, none⟩) (.inr hh2) R4
  replace R5 := k5.cellOut (a := ⟨w.heap.size, 5, none⟩) (.inr hh2) R5
  replace A0 := k5.cellOut (a := ⟨w1.heap.size, 0, none⟩) (.inr (by dsimp only; omega)) A0
  replace A1 := k5.cellOut (a := ⟨w1.heap.size, 1, none⟩) (.inr (by dsimp only; omega)) A1
  replace A2 := k5.cellOut (a := ⟨w1.heap.size, 2, none⟩) (.inr (by dsimp only; omega)) A2
  have kn := (Kept.refl 0 0 w5).alloc (.cells #[.bool s2, .slice aM z2.length dM, .int .i64 y2] 52)
  have B0 : (w5.alloc (.cells #[.bool s2, .slice aM z2.length dM, .int .i64 y2] 52)).cell? ⟨w5.heap.size, 0, none⟩ = some (.bool s2) := new_cell2 _ _ _ _ _ _ rfl rfl
  have B1 : (w5.alloc (.cells #[.bool s2, .slice aM z2.length dM, .int .i64 y2] 52)).cell? ⟨w5.heap.size, 1, none⟩ = some (.slice aM z2.length dM) := new_cell2 _ _ _ _ _ _ rfl rfl
  have B2 : (w5.alloc (.cells #[.bool s2, .slice aM z2.length dM, .int .i64 y2] 52)).cell? ⟨w5.heap.size, 2, none⟩ = some (.int .i64 y2) := new_cell2 _ _ _ _ _ _ rfl rfl
  have t7 : (w5.alloc (.cells #[.bool s2, .slice aM z2.length dM, .int .i64 y2] 52)).heap.size = w5.heap.size + 1 := by simp
  replace rL := rL.kept kn (.inr (.inr (Nat.le_refl 0)))
  replace rM := rM.kept kn (.inr (.inr (Nat.le_refl 0)))
  have z5 := k5.size
  replace Rf0 := kn.loose0 (World.block_lt_of_cell? _ _ R0) Rf0
  replace Rf1 := kn.loose0 (World.block_lt_of_cell? _ _ R1) Rf1
  replace Rf2 := kn.loose0 (World.block_lt_of_cell? _ _ R2) Rf2
  replace Rf3 := kn.loose0 (World.block_lt_of_cell? _ _ R3) Rf3
  replace Rf4 := kn.loose0 (World.block_lt_of_cell? _ _ R4) Rf4
  replace Rf5 := kn.loose0 (World.block_lt_of_cell? _ _ R5) Rf5
  replace R0 := kn.cell0 R0
  replace R1 := kn.cell0 R1
  replace R2 := kn.cell0 R2
  replace R3 := kn.cell0 R3
  replace R4 := kn.cell0 R4
  replace R5 := kn.cell0 R5
  replace A0 := kn.cell0 A0
  replace A1 := kn.cell0 A1
  replace A2 := kn.cell0 A2
  have M5 : Hid (Mod (HW l1 h1 l2 h2) w (w5.alloc (.cells #[.bool s2, .slice aM z2.length dM, .int .i64 y2] 52))) := (((unhide K1).modW.monoH (fun x hx => .inl hx)).trans (k5.modW.monoH (fun x hx => .inr hx))).kept kn
  clear hc2 k5 K1 kn

  cases b2
  · have M7 := hide (((((((unhide M5).set (p := ⟨w.heap.size, 0, none⟩) (.inr (Nat.le_refl _)) (.bool false)).set (p := ⟨w.heap.size, 1, none⟩) (.inr (Nat.le_refl _)) (.slice none 0 0)).set (p := ⟨w.heap.size, 2, none⟩) (.inr (Nat.le_refl _)) (.int .i64 0)).set (p := ⟨w.heap.size, 3, none⟩) (.inr (Nat.le_refl _)) (.bool false)).set (p := ⟨w.heap.size, 4, none⟩) (.inr (Nat.le_refl _)) (.slice none 0 0)).set (p := ⟨w.heap.size, 5, none⟩) (.inr (Nat.le_refl _)) (.int .i64 0))
    clear rL rM M5
    go_wp2
    exact bodyPost_ret (v := .tuple #[.agg #[.bool false, .slice none 0 0, .int .i64 0, .bool false, .slice none 0 0, .int .i64 0], .bool false]) (by simp [results, Tryz.results111, go_sem, R0, R1, R2, R3, R4, R5]) rfl (hAns_no (unhide M7))
  have M7 := hide (((((((unhide M5).set (p := ⟨w.heap.size, 0, none⟩) (.inr (Nat.le_refl _)) (.bool s1)).set (p := ⟨w.heap.size, 1, none⟩) (.inr (Nat.le_refl _)) (.slice aL z1.length dL)).set (p := ⟨w.heap.size, 2, none⟩) (.inr (Nat.le_refl _)) (.int .i64 y1)).set (p := ⟨w.heap.size, 3, none⟩) (.inr (Nat.le_refl _)) (.bool s2)).set (p := ⟨w.heap.size, 4, none⟩) (.inr (Nat.le_refl _)) (.slice aM z2.length dM)).set (p := ⟨w.heap.size, 5, none⟩) (.inr (Nat.le_refl _)) (.int .i64 y2))
  have RL := hide ((((((rL.set_other (p := ⟨w.heap.size, 0, none⟩) (.inl (by dsimp only; omega)) (.bool s1)).set_other (p := ⟨w.heap.size, 1, none⟩) (.inl (by dsimp only; omega)) (.slice aL z1.length dL)).set_other (p := ⟨w.heap.size, 2, none⟩) (.inl (by dsimp only; omega)) (.int .i64 y1)).set_other (p := ⟨w.heap.size, 3, none⟩) (.inl (by dsimp only; omega)) (.bool s2)).set_other (p := ⟨w.heap.size, 4, none⟩) (.inl (by dsimp only; omega)) (.slice aM z2.length dM)).set_other (p := ⟨w.heap.size, 5, none⟩) (.inl (by dsimp only; omega)) (.int .i64 y2))
  have RM := hide ((((((rM.set_other (p := ⟨w.heap.size, 0, none⟩) (.inl (by dsimp only; omega)) (.bool s1)).set_other (p := ⟨w.heap.size, 1, none⟩) (.inl (by dsimp only; omega)) (.slice aL z1.length dL)).set_other (p := ⟨w.heap.size, 2, none⟩) (.inl (by dsimp only; omega)) (.int .i64 y1)).set_other (p := ⟨w.heap.size, 3, none⟩) (.inl (by dsimp only; omega)) (.bool s2)).set_other (p := ⟨w.heap.size, 4, none⟩) (.inl (by dsimp only; omega)) (.slice aM z2.length dM)).set_other (p := ⟨w.heap.size, 5, none⟩) (.inl (by dsimp only; omega)) (.int .i64 y2))
  have hz : Hid (w.heap.size ≤ w1.heap.size ∧ w1.heap.size + 1 ≤ (w5.alloc (.cells #[.bool s2, .slice aM z2.length dM, .int .i64 y2] 52)).heap.size) := ⟨by omega, by omega⟩
  clear M5 rL rM
  have e1 : hE (true && true) d1 = (s1, z1, y1) := (unhide HE1).symm
  have e2 : hE (true && true) d2 = (s2, z2, y2) := (unhide HE2).symm
  have E1 := hide e1
  have E2 := hide e2
  clear e1 e2
  go_wp2
  have e1 := unhide E1
  have e2 := unhide E2
  refine bodyPost_ret (v := .tuple #[.agg #[.bool s1, .slice aL z1.length dL, .int .i64 y1, .bool s2, .slice aM z2.length dM, .int .i64 y2], .bool true]) (by simp [results, Tryz.results111, go_sem, R0, R1, R2, R3, R4, R5]) rfl ⟨_, _, w1.heap.size, by rw [e1, e2]; rfl, ?_, ?_, (unhide hz).1, by simp only [size_set]; have := (unhide hz).2; omega, unhide M7⟩
  · rw [e1]; exact (unhide RL).wider (by have := sW; omega) (Nat.le_refl _)
  · rw [e2]; exact (unhide RM).tight.wider (by have := t3; omega) (Nat.le_refl _)

set_option maxHeartbeats 4000000 in
theorem toldHeld1_impl {l1 h1 l2 h2 g1 g2 : Nat} {d1 d2 : DE} (w : World) (D1 : Dw l1 h1 w g1 d1) (D2 : Dw l2 h2 w g2 d2) (hh1 : h1 ≤ w.heap.size) (hh2 : h2 ≤ w.heap.size) (hd : h1 ≤ l2 ∨ h2 ≤ l1) (ok1 : TelOk d1) (ok2 : TelOk d2) (T : TabB w) (t1 : 1 < l1) :
    Calls Tryz.prog 110 #[.agg #[.pointer (some ⟨g1, 0, none⟩), .pointer (some ⟨g2, 0, none⟩)]] w fun e w' => HAns (hB d1 d2) d1 d2 (HW l1 h1 l2 h2) w e w' := by
  obtain ⟨W, hW⟩ : ∃ W, W = (w.alloc (.cells #[.pointer (some ⟨g1, 0, none⟩), .pointer (some ⟨g2, 0, none⟩)] 79)).alloc (.cells #[.bool false, .slice none 0 0, .int .i64 0, .bool false, .slice none 0 0, .int .i64 0] 102) := ⟨_, rfl⟩
  have k0 : Kept 0 0 w W := by rw [hW]; exact ((Kept.refl 0 0 w).alloc _).alloc _
  have c0 : W.cell? ⟨w.heap.size, 0, none⟩ = some (.pointer (some ⟨g1, 0, none⟩)) := by rw [hW]; exact old_cell _ (new_cell2 _ _ _ _ _ _ rfl rfl)
  have c1 : W.cell? ⟨w.heap.size, 1, none⟩ = some (.pointer (some ⟨g2, 0, none⟩)) := by rw [hW]; exact old_cell _ (new_cell2 _ _ _ _ _ _ rfl rfl)
  have R0 : W.cell? ⟨w.heap.size + 1, 0, none⟩ = some (.bool false) := by rw [hW]; exact new_cell2 _ _ _ _ _ _ (by simp) rfl
  have Rf0 : W.frozen? ⟨w.heap.size + 1, 0, none⟩ = false := by rw [hW]; exact new_loose2 _ _ _ _ _ (by simp)
  have R1 : W.cell? ⟨w.heap.size + 1, 1, none⟩ = some (.slice none 0 0) := by rw [hW]; exact new_cell2 _ _ _ _ _ _ (by simp) rfl
  have Rf1 : W.frozen? ⟨w.heap.size + 1, 1, none⟩ = false := by rw [hW]; exact new_loose2 _ _ _ _ _ (by simp)
  have R2 : W.cell? ⟨w.heap.size + 1, 2, none⟩ = some (.int .i64 0) := by rw [hW]; exact new_cell2 _ _ _ _ _ _ (by simp) rfl
  have Rf2 : W.frozen? ⟨w.heap.size + 1, 2, none⟩ = false := by rw [hW]; exact new_loose2 _ _ _ _ _ (by simp)
  have R3 : W.cell? ⟨w.heap.size + 1, 3, none⟩ = some (.bool false) := by rw [hW]; exact new_cell2 _ _ _ _ _ _ (by simp) rfl
  have Rf3 : W.frozen? ⟨w.heap.size + 1, 3, none⟩ = false := by rw [hW]; exact new_loose2 _ _ _ _ _ (by simp)
  have R4 : W.cell? ⟨w.heap.size + 1, 4, none⟩ = some (.slice none 0 0) := by rw [hW]; exact new_cell2 _ _ _ _ _ _ (by simp) rfl
  have Rf4 : W.frozen? ⟨w.heap.size + 1, 4, none⟩ = false := by rw [hW]; exact new_loose2 _ _ _ _ _ (by simp)
  have R5 : W.cell? ⟨w.heap.size + 1, 5, none⟩ = some (.int .i64 0) := by rw [hW]; exact new_cell2 _ _ _ _ _ _ (by simp) rfl
  have Rf5 : W.frozen? ⟨w.heap.size + 1, 5, none⟩ = false := by rw [hW]; exact new_loose2 _ _ _ _ _ (by simp)
  have sW : W.heap.size = w.heap.size + 2 := by rw [hW]; simp
  have hb := bothEndsH_impl W (Dw.kept D1 k0) (Dw.kept D2 k0) (by omega) (by omega) hd ok1 ok2 (T.kept k0) t1
  obtain ⟨⟨s1, z1, y1⟩, hE1⟩ : ∃ q, q = hE (hB d1 d2) d1 := ⟨_, rfl⟩
  obtain ⟨⟨s2, z2, y2⟩, hE2⟩ : ∃ q, q = hE (hB d1 d2) d2 := ⟨_, rfl⟩
  obtain ⟨bb, hbb⟩ : ∃ q, q = hB d1 d2 := ⟨_, rfl⟩
  unfold HAns at hb ⊢
  rw [← hE1, ← hE2, ← hbb] at hb ⊢
  dsimp only at hb ⊢
  have K0 := hide k0
  have SW := hide sW
  have HW1 := hide (And.intro hh1 hh2)
  rw [hW] at hb c0 c1
  clear D1 D2 ok1 ok2 T hh1 hh2 hd t1 hE1 hE2 hbb k0 sW
  go_enter Tryz.func110, Tryz.ntmps110
  go_wp2_with fail
  rw [← hW] at hb c0 c1 ⊢
  clear hW
  refine hb.mono ?_
  rintro e w1 ⟨v1, v2, mid, rfl, r1, r2, m1, m2, md⟩
  obtain ⟨a1, e1, hv⟩ := Row.form' r1
  subst hv
  obtain ⟨a2, e2, hv⟩ := Row.form' r2
  subst hv
  have sW := unhide SW
  obtain ⟨hh1, hh2⟩ := unhide HW1
  have hno : ¬ HW l1 h1 l2 h2 (w.heap.size + 1) := fun h => by rcases h with h | h <;> omega
  replace Rf0 := md.loose (a := ⟨w.heap.size + 1, 0, none⟩) hno (World.block_lt_of_cell? _ _ R0) Rf0
  replace Rf1 := md.loose (a := ⟨w.heap.size + 1, 1, none⟩) hno (World.block_lt_of_cell? _ _ R1) Rf1
  replace Rf2 := md.loose (a := ⟨w.heap.size + 1, 2, none⟩) hno (World.block_lt_of_cell? _ _ R2) Rf2
  replace Rf3 := md.loose (a := ⟨w.heap.size + 1, 3, none⟩) hno (World.block_lt_of_cell? _ _ R3) Rf3
  replace Rf4 := md.loose (a := ⟨w.heap.size + 1, 4, none⟩) hno (World.block_lt_of_cell? _ _ R4) Rf4
  replace Rf5 := md.loose (a := ⟨w.heap.size + 1, 5, none⟩) hno (World.block_lt_of_cell? _ _ R5) Rf5
  replace R0 := md.cell (a := ⟨w.heap.size + 1, 0, none⟩) hno R0
  replace R1 := md.cell (a := ⟨w.heap.size + 1, 1, none⟩) hno R1
  replace R2 := md.cell (a := ⟨w.heap.size + 1, 2, none⟩) hno R2
  replace R3 := md.cell (a := ⟨w.heap.size + 1, 3, none⟩) hno R3
  replace R4 := md.cell (a := ⟨w.heap.size + 1, 4, none⟩) hno R4
  replace R5 := md.cell (a := ⟨w.heap.size + 1, 5, none⟩) hno R5
  have M7 := hide ((((((((unhide K0).toMod.trans md).set (p := ⟨w.heap.size + 1, 0, none⟩) (.inr (by dsimp only; omega)) (.bool s1)).set (p := ⟨w.heap.size + 1, 1, none⟩) (.inr (by dsimp only; omega)) (.slice a1 z1.length e1)).set (p := ⟨w.heap.size + 1, 2, none⟩) (.inr (by dsimp only; omega)) (.int .i64 y1)).set (p := ⟨w.heap.size + 1, 3, none⟩) (.inr (by dsimp only; omega)) (.bool s2)).set (p := ⟨w.heap.size + 1, 4, none⟩) (.inr (by dsimp only; omega)) (.slice a2 z2.length e2)).set (p := ⟨w.heap.size + 1, 5, none⟩) (.inr (by dsimp only; omega)) (.int .i64 y2))
  have RL := hide ((((((r1.set_other (p := ⟨w.heap.size + 1, 0, none⟩) (.inl (by dsimp only; omega)) (.bool s1)).set_other (p := ⟨w.heap.size + 1, 1, none⟩) (.inl (by dsimp only; omega)) (.slice a1 z1.length e1)).set_other (p := ⟨w.heap.size + 1, 2, none⟩) (.inl (by dsimp only; omega)) (.int .i64 y1)).set_other (p := ⟨w.heap.size + 1, 3, none⟩) (.inl (by dsimp only; omega)) (.bool s2)).set_other (p := ⟨w.heap.size + 1, 4, none⟩) (.inl (by dsimp only; omega)) (.slice a2 z2.length e2)).set_other (p := ⟨w.heap.size + 1, 5, none⟩) (.inl (by dsimp only; omega)) (.int .i64 y2))
  have RM := hide ((((((r2.set_other (p := ⟨w.heap.size + 1, 0, none⟩) (.inl (by dsimp only; omega)) (.bool s1)).set_other (p := ⟨w.heap.size + 1, 1, none⟩) (.inl (by dsimp only; omega)) (.slice a1 z1.length e1)).set_other (p := ⟨w.heap.size + 1, 2, none⟩) (.inl (by dsimp only; omega)) (.int .i64 y1)).set_other (p := ⟨w.heap.size + 1, 3, none⟩) (.inl (by dsimp only; omega)) (.bool s2)).set_other (p := ⟨w.heap.size + 1, 4, none⟩) (.inl (by dsimp only; omega)) (.slice a2 z2.length e2)).set_other (p := ⟨w.heap.size + 1, 5, none⟩) (.inl (by dsimp only; omega)) (.int .i64 y2))
  have hz : Hid (w.heap.size + 2 ≤ mid ∧ mid ≤ w1.heap.size) := ⟨by omega, by omega⟩
  clear hb r1 r2 md m1 m2 K0 hno hh1 hh2 SW HW1
  go_wp2
  exact bodyPost_ret (v := .tuple #[.agg #[.bool s1, .slice a1 z1.length e1, .int .i64 y1, .bool s2, .slice a2 z2.length e2, .int .i64 y2], .bool bb]) (by simp [results, Tryz.results110, go_sem, R0, R1, R2, R3, R4, R5]) rfl ⟨_, _, mid, rfl, (unhide RL).wider (by omega) (Nat.le_refl _), (unhide RM).tight, by have := (unhide hz).1; omega, by simp only [size_set]; exact (unhide hz).2, unhide M7⟩

end Go.Proofs.YthahoabkehcgbaaGreatDoor

