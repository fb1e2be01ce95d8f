/-
  A law over matrices of intervals: an answer set down.
-/
import Derived.Test.YthahoabkehcgbaaGreatDoorqoOn3b
import Derived.Test.YthahoabkehcgbaaGreatDoorqoHm3
import Derived.Deep.DeepCutAuto
import Derived.Deep.RegionHeld3
import Derived.Test.YthahoabkehcgbaaGreatDoorqoIvs2
import Derived.Test.YthahoabkehcgbaaGreatDoorqoWid1
namespace Go.Proofs.YthahoabkehcgbaaGreatDoor
open Go.RowKit
set_option linter.unusedVariables false
set_option maxRecDepth 8000
set_option linter.unusedSimpArgs false

/-- What is asked of the arguments. -/
def outC (n : Int) (ds : List DE) (m : Nat) (low : Int) : Bool := imokB n ds m && fineB low
theorem outC_no1 {n : Int} {ds : List DE} {m : Nat} {low : Int} (h : imokB n ds m = false) : outC n ds m low = false := by unfold outC; rw [h]; rfl
theorem outC_no2 {n : Int} {ds : List DE} {m : Nat} {low : Int} (h : fineB low = false) : outC n ds m low = false := by unfold outC; rw [h]; cases imokB n ds m <;> rfl
theorem outC_yes {n : Int} {ds : List DE} {m : Nat} {low : Int} (h : imokB n ds m = true) (h2 : fineB low = true) : outC n ds m low = true := by unfold outC; rw [h, h2]; rfl
theorem outC_n {n : Int} {ds : List DE} {m : Nat} {low : Int} (h : outC n ds m low = true) : 1 ≤ n ∧ n ≤ 4 := by
  unfold outC at h
  rw [Bool.and_eq_true] at h
  exact ⟨(imok_parts h.1).1, (imok_parts h.1).2.1⟩

set_option maxHeartbeats 16000000 in
theorem ivMatOut_spec {lo hi m : Nat} {v : Value} {ds : List DE} (n low : Int) (w : World) (hw : WfD ds) (r : Ivs lo hi w v ds m) :
    Calls Tryz.prog 21 #[.agg #[.int .i64 n, v], .int .i64 low] w fun e w' => ∃ v', e = .returned (.tuple #[.agg #[.int .i64 (hwN (outC n ds m low) (outV low ds) (-3000) n), v'], .bool (hwB (outC n ds m low) (outV low ds) (-3000) n)]) ∧ IvsO w.heap.size w'.heap.size w' v' (hwL (outC n ds m low) (outV low ds) (-3000) n) (hwC (outC n ds m low) (outV low ds) (-3000) n) ∧ Kept 0 0 w w' := by
  obtain ⟨W, hW⟩ : ∃ W, W = (w.alloc (.cells #[.int .i64 n, v] 28)).alloc (.cells #[.int .i64 0, .slice none 0 0] 28) := ⟨_, rfl⟩
  have k0 : Kept 0 0 w W := by rw [hW]; exact ((Kept.refl 0 0 w).alloc _).alloc _
  have c0 : W.cell? ⟨w.heap.size, 0, none⟩ = some (.int .i64 n) := by rw [hW]; exact old_cell _ (new_cell2 _ _ _ _ _ _ (by simp) rfl)
  have c1 : W.cell? ⟨w.heap.size, 1, none⟩ = some v := by rw [hW]; exact old_cell _ (new_cell2 _ _ _ _ _ _ (by simp) rfl)
  have q0 : W.cell? ⟨w.heap.size + 1, 0, none⟩ = some (.int .i64 0) := by rw [hW]; exact new_cell2 _ _ _ _ _ _ (by simp) rfl
  have q1 : W.cell? ⟨w.heap.size + 1, 1, none⟩ = some (.slice none 0 0) := by rw [hW]; exact new_cell2 _ _ _ _ _ _ (by simp) rfl
  have f0 : W.frozen? ⟨w.heap.size + 1, 0, none⟩ = false := by rw [hW]; exact new_loose2 _ _ _ _ _ (by simp)
  have f1 : W.frozen? ⟨w.heap.size + 1, 1, none⟩ = false := by rw [hW]; exact new_loose2 _ _ _ _ _ (by simp)
  have sW : W.heap.size = w.heap.size + 2 := by rw [hW]; simp
  have r0 := r.kept k0 (by omega)
  have ho := ivMatOk_spec n W hw r0
  obtain ⟨a, c, rfl, -, -⟩ := r.form
  obtain ⟨C, hC⟩ : ∃ q, q = outC n ds m low := ⟨_, rfl⟩
  obtain ⟨V, hV⟩ : ∃ q, q = outV low ds := ⟨_, rfl⟩
  rw [← hC, ← hV]
  obtain ⟨NN, hNN⟩ : ∃ q, q = hwN C V (-3000) n := ⟨_, rfl⟩
  obtain ⟨LL, hLL⟩ : ∃ q, q = hwL C V (-3000) n := ⟨_, rfl⟩
  obtain ⟨CC, hCC⟩ : ∃ q, q = hwC C V (-3000) n := ⟨_, rfl⟩
  obtain ⟨BB, hBB⟩ : ∃ q, q = hwB C V (-3000) n := ⟨_, rfl⟩
  rw [← hNN, ← hLL, ← hCC, ← hBB]
  have HNO : Hid (C = false → NN = 0 ∧ LL = [] ∧ CC = 0 ∧ BB = false) := fun h => by rw [hNN, hLL, hCC, hBB, h]; exact ⟨rfl, rfl, rfl, rfl⟩
  have HANS := hide (And.intro hNN (And.intro hLL (And.intro hCC hBB)))
  have HC := hide hC
  have HV := hide hV
  rw [hW] at ho
  clear r hC hV hNN hLL hCC hBB hw
  go_enter Tryz.func21, Tryz.ntmps21
  go_wp2_with fail
  rw [← hW] at ho ⊢
  clear hW
  refine ho.mono ?_
  rintro e w1 ⟨rfl, k1⟩
  replace f0 := k1.loose0 (World.block_lt_of_cell? _ _ q0) f0
  replace f1 := k1.loose0 (World.block_lt_of_cell? _ _ q1) f1
  replace c0 := k1.cell0 c0
  replace c1 := k1.cell0 c1
  replace q0 := k1.cell0 q0
  replace q1 := k1.cell0 q1
  replace r0 := r0.kept k1 (by omega)
  have K1 := hide (k0.trans k1)
  have z1 := k1.size
  clear ho k0 k1
  cases hk : imokB n ds m
  · have HB := unhide HNO (by rw [unhide HC]; exact outC_no1 hk)
    obtain ⟨h1, h2, h3, h4⟩ := HB
    subst h1; subst h2; subst h3; subst h4
    have K7 := hide (((unhide K1).setNew (p := ⟨w.heap.size + 1, 0, none⟩) (by dsimp only; omega) (.int .i64 0)).setNew (p := ⟨w.heap.size + 1, 1, none⟩) (by dsimp only; omega) (.slice none 0 0))
    clear r0 K1 hk
    go_wp2
    exact bodyPost_ret (v := .tuple #[.agg #[.int .i64 0, .slice none 0 0], .bool false]) (by simp [results, Tryz.results21, go_sem, q0, q1]) rfl ⟨.slice none 0 0, rfl, IvsO.nil _ _ _, unhide K7⟩
  have hfn := l7low_spec low w1
  have HK := hide hk
  clear hk
  go_wp2_with fail
  refine hfn.mono ?_
  rintro e w2 ⟨rfl, rfl⟩
  clear hfn
  cases hd : fineB low
  · have HB := unhide HNO (by rw [unhide HC]; exact outC_no2 hd)
    obtain ⟨h1, h2, h3, h4⟩ := HB
    subst h1; subst h2; subst h3; subst h4
    have K7 := hide (((unhide K1).setNew (p := ⟨w.heap.size + 1, 0, none⟩) (by dsimp only; omega) (.int .i64 0)).setNew (p := ⟨w.heap.size + 1, 1, none⟩) (by dsimp only; omega) (.slice none 0 0))
    clear r0 K1 hd
    go_wp2
    exact bodyPost_ret (v := .tuple #[.agg #[.int .i64 0, .slice none 0 0], .bool false]) (by simp [results, Tryz.results21, go_sem, q0, q1]) rfl ⟨.slice none 0 0, rfl, IvsO.nil _ _ _, unhide K7⟩
  have hCt : C = true := by rw [unhide HC]; exact outC_yes (unhide HK) hd
  obtain ⟨u1, u2, u3, U⟩ := imok_parts (unhide HK)
  obtain ⟨k, rfl⟩ := Int.eq_ofNat_of_zero_le (show 0 ≤ n by omega)
  have hlen : m = k * k := by rw [← Int.natCast_mul] at u3; omega
  have hl0 : -200 ≤ low := by unfold fineB at hd; rw [Bool.and_eq_true] at hd; exact of_decide_eq_true hd.1
  have hl1 : low ≤ 200 := by unfold fineB at hd; rw [Bool.and_eq_true] at hd; exact of_decide_eq_true hd.2
  have hVL : ∀ q, q < 2 * m → (outV low ds q).natAbs < 2 ^ AA := fun q hq => outV_lt (U q hq) hl0 hl1
  have hmono : ∀ p, p < k * k → outV low ds (2 * p) ≤ outV low ds (2 * p + 1) := fun p hp => out_mono (unhide HK) U (by omega) (by omega)
  obtain ⟨a1, a2, a3, a4⟩ := unhide HANS
  rw [hCt, unhide HV] at a1 a2 a3 a4
  have hop := out10_spec low hl0 hl1 w2 (show k ≤ 4 by omega) hlen U r0
  obtain ⟨PL, hPL⟩ : ∃ PL, PL = (List.range (2 * m)).map fun q => nE (outV low ds q) (-3000) := ⟨_, rfl⟩
  obtain ⟨w1', w2'⟩ := hw_wf (n := 2 * m) (V := outV low ds) (L := -3000) (by decide) (by decide) hVL
  obtain ⟨t1, t2, t3, t4⟩ := hw_fit (k := k) (V := outV low ds) (L := -3000) (by omega) (by omega) (by decide) hmono
  rw [← hlen, ← hPL] at t1 t2 t3 t4
  rw [← hPL] at hop w1' w2'
  rw [← a1] at t2
  rw [← a2] at t3
  rw [← a3] at t4
  rw [← a4] at t1
  have HWF := hide w1'
  have HWN := hide w2'
  have HT := hide (And.intro t1 (And.intro t2 (And.intro t3 t4)))
  clear hPL t1 t2 t3 t4 a1 a2 a3 a4 w1' w2' hVL hmono hl0 hl1 hCt u1 u2 u3 U hlen r0 hd HANS HNO HC HV HK
  go_wp2_with fail
  refine hop.mono ?_
  rintro e w3 ⟨v3, rfl, r3, k3⟩
  have hft := fits10_spec (k : Int) w3 (unhide HWF) (unhide HWN) r3
  rw [(unhide HT).1, (unhide HT).2.1, (unhide HT).2.2.1, (unhide HT).2.2.2] at hft
  obtain ⟨a3, e3, hv3⟩ := r3.form'
  subst hv3
  replace f0 := k3.loose0 (World.block_lt_of_cell? _ _ q0) f0
  replace f1 := k3.loose0 (World.block_lt_of_cell? _ _ q1) f1
  replace q0 := k3.cell0 q0
  replace q1 := k3.cell0 q1
  have K3 := hide ((unhide K1).trans k3)
  have z3 := k3.size
  clear hop r3 k3 K1 c0 c1
  go_wp2_with fail
  refine hft.mono ?_
  rintro e w5 ⟨v5, rfl, r5, k5⟩
  obtain ⟨a5, e5, hv5⟩ := r5.form'
  subst hv5
  replace f0 := k5.loose0 (World.block_lt_of_cell? _ _ q0) f0
  replace f1 := k5.loose0 (World.block_lt_of_cell? _ _ q1) f1
  replace q0 := k5.cell0 q0
  replace q1 := k5.cell0 q1
  have z5 := k5.size
  have ks : Kept (w.heap.size + 1) (w.heap.size + 2) w5 ((w5.setCell ⟨w.heap.size + 1, 0, none⟩ (.int .i64 NN)).setCell ⟨w.heap.size + 1, 1, none⟩ (.slice a5 CC e5)) := ((Kept.refl _ _ _).setCell (p := ⟨w.heap.size + 1, 0, none⟩) (Nat.le_refl _) (Nat.lt_succ_self _) _).setCell (p := ⟨w.heap.size + 1, 1, none⟩) (Nat.le_refl _) (Nat.lt_succ_self _) _
  have K7 := hide (((unhide K3).trans k5).wide ks (by omega))
  have hsz : ((w5.setCell ⟨w.heap.size + 1, 0, none⟩ (.int .i64 NN)).setCell ⟨w.heap.size + 1, 1, none⟩ (.slice a5 CC e5)).heap.size = w5.heap.size := by rw [size_set, size_set]
  have R7 := hide ((r5.kept ks (by omega)).wider (lo' := w.heap.size) (hi' := ((w5.setCell ⟨w.heap.size + 1, 0, none⟩ (.int .i64 NN)).setCell ⟨w.heap.size + 1, 1, none⟩ (.slice a5 CC e5)).heap.size) (by omega) (by omega))
  clear hft r5 k5 ks hsz K3
  go_wp2
  exact bodyPost_ret (v := .tuple #[.agg #[.int .i64 NN, .slice a5 CC e5], .bool BB]) (by simp [results, Tryz.results21, go_sem, q0, q1]) rfl ⟨.slice a5 CC e5, rfl, unhide R7, unhide K7⟩

end Go.Proofs.YthahoabkehcgbaaGreatDoor


namespace Go.Proofs.YthahoabkehcgbaaGreatDoor
open Go.RowKit
set_option linter.unusedVariables false
set_option maxRecDepth 8000
set_option linter.unusedSimpArgs false

theorem hw_sz {c : Bool} {V : Nat → Int} {L n : Int} (hc : c = true → 1 ≤ n ∧ n ≤ 4) : szT (hwL c V L n) ≤ 4000 := by
  unfold hwL
  by_cases hb : hwB c V L n = true
  · rw [if_pos hb]
    have hc2 : c = true := by unfold hwB at hb; simp only [Bool.and_eq_true] at hb; exact hb.1
    obtain ⟨g1, g4⟩ := hc hc2
    obtain ⟨k, rfl⟩ := Int.eq_ofNat_of_zero_le (show 0 ≤ n by omega)
    rw [Int.toNat_natCast]
    have h16 : k * k ≤ 4 * 4 := Nat.mul_le_mul (by omega) (by omega)
    unfold hwB allB at hb
    rw [hc2, Bool.true_and, Int.toNat_natCast, List.all_eq_true] at hb
    obtain ⟨PL, hPL⟩ : ∃ PL, PL = (List.range (2 * (k * k))).map fun q => nE (V q) L := ⟨_, rfl⟩
    have hlen : PL.length = 2 * (k * k) := by rw [hPL]; simp
    have h1 := limT_le PL (fun i hi => by
      have hi2 : i < 2 * (k * k) := by omega
      have hb2 := hb (i / 2) (List.mem_range.2 (by omega))
      rw [Bool.and_eq_true] at hb2
      rw [hPL, map_at _ _ _ hi2]
      have h5 : dOkE (nE (V i) L) = true := by
        by_cases ev : i % 2 = 0
        · have := hb2.1; rwa [show 2 * (i / 2) = i by omega] at this
        · have := hb2.2; rwa [show 2 * (i / 2) + 1 = i by omega] at this
      obtain ⟨w1', -, -, -, -⟩ := dok_parts h5
      obtain ⟨-, -, lx, -⟩ := wok_int w1'
      omega) PL.length (Nat.le_refl _)
    rw [← hPL]
    unfold szT
    omega
  · rw [if_neg hb]; decide
end Go.Proofs.YthahoabkehcgbaaGreatDoor


namespace Go.Proofs.YthahoabkehcgbaaGreatDoor
open Go.RowKit
set_option linter.unusedVariables false
set_option maxRecDepth 8000
set_option linter.unusedSimpArgs false

set_option maxHeartbeats 16000000 in
theorem ivMatOut_impl {lo hi m : Nat} {v : Value} {ds : List DE} (n low : Int) (w : World) (hw : WfD ds) (r : Ivs lo hi w v ds m) (T : TabB w) :
    Calls Tryz.prog 22 #[.agg #[.int .i64 n, v], .int .i64 low] w fun e w' => ∃ v', e = .returned (.tuple #[.agg #[.int .i64 (hwN (outC n ds m low) (outV low ds) (-3000) n), v'], .bool (hwB (outC n ds m low) (outV low ds) (-3000) n)]) ∧ IvsO w.heap.size w'.heap.size w' v' (hwL (outC n ds m low) (outV low ds) (-3000) n) (hwC (outC n ds m low) (outV low ds) (-3000) n) ∧ Kept 0 0 w w' := by
  obtain ⟨W, hW⟩ : ∃ W, W = (w.alloc (.cells #[.int .i64 n, v] 28)).alloc (.cells #[.int .i64 0, .slice none 0 0] 28) := ⟨_, rfl⟩
  have k0 : Kept 0 0 w W := by rw [hW]; exact ((Kept.refl 0 0 w).alloc _).alloc _
  have c0 : W.cell? ⟨w.heap.size, 0, none⟩ = some (.int .i64 n) := by rw [hW]; exact old_cell _ (new_cell2 _ _ _ _ _ _ (by simp) rfl)
  have c1 : W.cell? ⟨w.heap.size, 1, none⟩ = some v := by rw [hW]; exact old_cell _ (new_cell2 _ _ _ _ _ _ (by simp) rfl)
  have q0 : W.cell? ⟨w.heap.size + 1, 0, none⟩ = some (.int .i64 0) := by rw [hW]; exact new_cell2 _ _ _ _ _ _ (by simp) rfl
  have q1 : W.cell? ⟨w.heap.size + 1, 1, none⟩ = some (.slice none 0 0) := by rw [hW]; exact new_cell2 _ _ _ _ _ _ (by simp) rfl
  have f0 : W.frozen? ⟨w.heap.size + 1, 0, none⟩ = false := by rw [hW]; exact new_loose2 _ _ _ _ _ (by simp)
  have f1 : W.frozen? ⟨w.heap.size + 1, 1, none⟩ = false := by rw [hW]; exact new_loose2 _ _ _ _ _ (by simp)
  have sW : W.heap.size = w.heap.size + 2 := by rw [hW]; simp
  have r0 := r.kept k0 (by omega)
  have ho := ivMatOk_impl n W hw r0
  obtain ⟨a, c, rfl, -, -⟩ := r.form
  obtain ⟨C, hC⟩ : ∃ q, q = outC n ds m low := ⟨_, rfl⟩
  obtain ⟨V, hV⟩ : ∃ q, q = outV low ds := ⟨_, rfl⟩
  rw [← hC, ← hV]
  obtain ⟨NN, hNN⟩ : ∃ q, q = hwN C V (-3000) n := ⟨_, rfl⟩
  obtain ⟨LL, hLL⟩ : ∃ q, q = hwL C V (-3000) n := ⟨_, rfl⟩
  obtain ⟨CC, hCC⟩ : ∃ q, q = hwC C V (-3000) n := ⟨_, rfl⟩
  obtain ⟨BB, hBB⟩ : ∃ q, q = hwB C V (-3000) n := ⟨_, rfl⟩
  rw [← hNN, ← hLL, ← hCC, ← hBB]
  have HNO : Hid (C = false → NN = 0 ∧ LL = [] ∧ CC = 0 ∧ BB = false) := fun h => by rw [hNN, hLL, hCC, hBB, h]; exact ⟨rfl, rfl, rfl, rfl⟩
  have HANS := hide (And.intro hNN (And.intro hLL (And.intro hCC hBB)))
  have HC := hide hC
  have HV := hide hV
  rw [hW] at ho
  clear r hC hV hNN hLL hCC hBB hw
  have TT := hide T
  clear T
  go_enter Tryz.func22, Tryz.ntmps22
  go_wp2_with fail
  rw [← hW] at ho ⊢
  clear hW
  refine ho.mono ?_
  rintro e w1 ⟨rfl, k1⟩
  replace f0 := k1.loose0 (World.block_lt_of_cell? _ _ q0) f0
  replace f1 := k1.loose0 (World.block_lt_of_cell? _ _ q1) f1
  replace c0 := k1.cell0 c0
  replace c1 := k1.cell0 c1
  replace q0 := k1.cell0 q0
  replace q1 := k1.cell0 q1
  replace r0 := r0.kept k1 (by omega)
  have K1 := hide (k0.trans k1)
  have z1 := k1.size
  clear ho k0 k1
  cases hk : imokB n ds m
  · have HB := unhide HNO (by rw [unhide HC]; exact outC_no1 hk)
    obtain ⟨h1, h2, h3, h4⟩ := HB
    subst h1; subst h2; subst h3; subst h4
    have K7 := hide (((unhide K1).setNew (p := ⟨w.heap.size + 1, 0, none⟩) (by dsimp only; omega) (.int .i64 0)).setNew (p := ⟨w.heap.size + 1, 1, none⟩) (by dsimp only; omega) (.slice none 0 0))
    clear r0 K1 hk
    go_wp2
    exact bodyPost_ret (v := .tuple #[.agg #[.int .i64 0, .slice none 0 0], .bool false]) (by simp [results, Tryz.results22, go_sem, q0, q1]) rfl ⟨.slice none 0 0, rfl, IvsO.nil _ _ _, unhide K7⟩
  have hfn := isFine_impl low w1
  have HK := hide hk
  clear hk
  go_wp2_with fail
  refine hfn.mono ?_
  rintro e w2 ⟨rfl, rfl⟩
  clear hfn
  cases hd : fineB low
  · have HB := unhide HNO (by rw [unhide HC]; exact outC_no2 hd)
    obtain ⟨h1, h2, h3, h4⟩ := HB
    subst h1; subst h2; subst h3; subst h4
    have K7 := hide (((unhide K1).setNew (p := ⟨w.heap.size + 1, 0, none⟩) (by dsimp only; omega) (.int .i64 0)).setNew (p := ⟨w.heap.size + 1, 1, none⟩) (by dsimp only; omega) (.slice none 0 0))
    clear r0 K1 hd
    go_wp2
    exact bodyPost_ret (v := .tuple #[.agg #[.int .i64 0, .slice none 0 0], .bool false]) (by simp [results, Tryz.results22, go_sem, q0, q1]) rfl ⟨.slice none 0 0, rfl, IvsO.nil _ _ _, unhide K7⟩
  have hCt : C = true := by rw [unhide HC]; exact outC_yes (unhide HK) hd
  obtain ⟨u1, u2, u3, U⟩ := imok_parts (unhide HK)
  obtain ⟨k, rfl⟩ := Int.eq_ofNat_of_zero_le (show 0 ≤ n by omega)
  have hlen : m = k * k := by rw [← Int.natCast_mul] at u3; omega
  have hl0 : -200 ≤ low := by unfold fineB at hd; rw [Bool.and_eq_true] at hd; exact of_decide_eq_true hd.1
  have hl1 : low ≤ 200 := by unfold fineB at hd; rw [Bool.and_eq_true] at hd; exact of_decide_eq_true hd.2
  have hVL : ∀ q, q < 2 * m → (outV low ds q).natAbs < 2 ^ AA := fun q hq => outV_lt (U q hq) hl0 hl1
  have hmono : ∀ p, p < k * k → outV low ds (2 * p) ≤ outV low ds (2 * p + 1) := fun p hp => out_mono (unhide HK) U (by omega) (by omega)
  obtain ⟨a1, a2, a3, a4⟩ := unhide HANS
  rw [hCt, unhide HV] at a1 a2 a3 a4
  have hh := heldSquare_impl (n := k) w2 (by omega) hlen U r0
  have U2 : ∀ q, q < 2 * (k * k) → dOkE (ds.getD q de0) = true := fun q hq => U q (by omega)
  have HU2 := hide U2
  have HKS := hide (show 0 < k ∧ k ≤ 4 from ⟨by omega, by omega⟩)
  have HA := hide (And.intro a1 (And.intro a2 (And.intro a3 a4)))
  have HSZ := hide (show w.heap.size + 2 ≤ w2.heap.size by omega)
  have HL := hide (And.intro hl0 hl1)
  clear a1 a2 a3 a4 hVL hmono hl0 hl1 hCt u1 u2 u3 U U2 hlen r0 hd HANS HNO HC HV HK sW z1
  go_wp2_with fail
  refine hh.mono ?_
  rintro e w3 ⟨R, G, S, rfl, sq3, nm3, hS3, hR3, k3⟩
  have K3 := hide ((unhide K1).trans k3)
  have hr := rounded_outwards low w3 (show k ≤ 1000 by have := (unhide HKS).2; omega) sq3 nm3 (unhide HU2) (unhide HL).1 (unhide HL).2 ((unhide TT).kept (unhide K3))
  have Z3 := hide k3.size
  replace f0 := k3.loose0 (World.block_lt_of_cell? _ _ q0) f0
  replace f1 := k3.loose0 (World.block_lt_of_cell? _ _ q1) f1
  replace c0 := k3.cell0 c0
  replace c1 := k3.cell0 c1
  replace q0 := k3.cell0 q0
  replace q1 := k3.cell0 q1
  clear hh sq3 nm3 hS3 hR3 k3 K1
  go_wp2_with fail
  refine hr.mono ?_
  rintro e w5 ⟨R', G', S', F', rfl, sq5, nm5, hQ5, k5⟩
  have K5 := hide ((unhide K3).trans k5)
  have Z5 := hide k5.size
  have hTB := World.block_lt_of_cell? _ _ ((unhide TT) 0 (by decide))
  dsimp only at hTB
  have hsz3 : w.heap.size + 2 ≤ w3.heap.size := by have := unhide HSZ; have := unhide Z3; omega
  obtain ⟨hk0, hk4⟩ := unhide HKS
  have ht := toldHeldK_impl (b := w3.heap.size) (G := G') (F := F') hk0 (by omega) w5 sq5 nm5 (fun q hq => (hQ5 q hq).2) ((unhide TT).kept (unhide K5)) (by omega)
  obtain ⟨t1, t2, t3, t4⟩ := hw_tel (k := k) (V := outV low ds) (L := -3000) (F := F') (fun q hq => (hQ5 q hq).1)
  obtain ⟨a1, a2, a3, a4⟩ := unhide HA
  rw [t1, t2, t3, t4, ← a1, ← a2, ← a3, ← a4] at ht
  replace f0 := k5.loose0 (World.block_lt_of_cell? _ _ q0) f0
  replace f1 := k5.loose0 (World.block_lt_of_cell? _ _ q1) f1
  replace c0 := k5.cell0 c0
  replace c1 := k5.cell0 c1
  replace q0 := k5.cell0 q0
  replace q1 := k5.cell0 q1
  have HS3 := hide hsz3
  clear t1 t2 t3 t4 a1 a2 a3 a4 hTB hr sq5 nm5 hQ5 k5 K3 hsz3 hk0 hk4
  go_wp2_with fail
  refine ht.mono ?_
  rintro e w6 ⟨v6, rfl, r6, k6⟩
  obtain ⟨a6, e6, hv6⟩ := r6.form'
  subst hv6
  have hsz3 := unhide HS3
  have hz5 := unhide Z5
  have z6 := k6.size
  have K6 : Hid (Kept 0 0 w w6) := (unhide K5).wide k6 (by omega)
  replace f0 := k6.looseOut (a := ⟨w.heap.size + 1, 0, none⟩) (.inl (by dsimp only; omega)) (World.block_lt_of_cell? _ _ q0) f0
  replace f1 := k6.looseOut (a := ⟨w.heap.size + 1, 1, none⟩) (.inl (by dsimp only; omega)) (World.block_lt_of_cell? _ _ q1) f1
  replace c0 := k6.cellOut (.inl (by dsimp only; omega)) c0
  replace c1 := k6.cellOut (.inl (by dsimp only; omega)) c1
  replace q0 := k6.cellOut (.inl (by dsimp only; omega)) q0
  replace q1 := k6.cellOut (.inl (by dsimp only; omega)) q1
  have ks : Kept (w.heap.size + 1) (w.heap.size + 2) w6 ((w6.setCell ⟨w.heap.size + 1, 0, none⟩ (.int .i64 NN)).setCell ⟨w.heap.size + 1, 1, none⟩ (.slice a6 CC e6)) := ((Kept.refl _ _ _).setCell (p := ⟨w.heap.size + 1, 0, none⟩) (Nat.le_refl _) (Nat.lt_succ_self _) _).setCell (p := ⟨w.heap.size + 1, 1, none⟩) (Nat.le_refl _) (Nat.lt_succ_self _) _
  have K7 := hide ((unhide K6).wide ks (by omega))
  have hsz : ((w6.setCell ⟨w.heap.size + 1, 0, none⟩ (.int .i64 NN)).setCell ⟨w.heap.size + 1, 1, none⟩ (.slice a6 CC e6)).heap.size = w6.heap.size := by rw [size_set, size_set]
  have R7 := hide ((r6.kept ks (by omega)).wider (lo' := w.heap.size) (hi' := ((w6.setCell ⟨w.heap.size + 1, 0, none⟩ (.int .i64 NN)).setCell ⟨w.heap.size + 1, 1, none⟩ (.slice a6 CC e6)).heap.size) (by omega) (by omega))
  clear ht r6 k6 ks hsz K6 K5 c0 c1
  go_wp2
  exact bodyPost_ret (v := .tuple #[.agg #[.int .i64 NN, .slice a6 CC e6], .bool BB]) (by simp [results, Tryz.results22, go_sem, q0, q1]) rfl ⟨.slice a6 CC e6, rfl, unhide R7, unhide K7⟩

end Go.Proofs.YthahoabkehcgbaaGreatDoor


namespace Go.Proofs.YthahoabkehcgbaaGreatDoor
open Go.RowKit
set_option linter.unusedVariables false
set_option maxRecDepth 8000

end Go.Proofs.YthahoabkehcgbaaGreatDoor

