/-
  Held intervals made wider, in the program.
-/
import Derived.Test.YthahoabkehcgbaaGreatDoorqfHm2
import Derived.Deep.DeepCutAuto
import Derived.Deep.RegionHeld3
namespace Go.Proofs.YthahoabkehcgbaaGreatDoor
open Go.RowKit
set_option linter.unusedVariables false
set_option maxRecDepth 8000
set_option linter.unusedSimpArgs false

/-- What is asked of the arguments. -/
def fatC (n : Int) (ds : List DE) (m : Nat) (d : DE) : Bool := imokB n ds m && (dokB d.1 d.2.1 d.2.2 && !d.1)
theorem fatC_no1 {n : Int} {ds : List DE} {m : Nat} {d : DE} (h : imokB n ds m = false) : fatC n ds m d = false := by unfold fatC; rw [h]; rfl
theorem fatC_no2 {n : Int} {ds : List DE} {m : Nat} {d : DE} (h : dokB d.1 d.2.1 d.2.2 = false) : fatC n ds m d = false := by unfold fatC; rw [h]; cases imokB n ds m <;> rfl
theorem fatC_no3 {n : Int} {ds : List DE} {m : Nat} {d : DE} (h : d.1 = true) : fatC n ds m d = false := by unfold fatC; rw [h]; cases imokB n ds m <;> cases dokB true d.2.1 d.2.2 <;> rfl
theorem fatC_yes {n : Int} {ds : List DE} {m : Nat} {d : DE} (h : imokB n ds m = true) (h2 : dokB d.1 d.2.1 d.2.2 = true) (h3 : d.1 = false) : fatC n ds m d = true := by unfold fatC; rw [h, h2, h3]; rfl
theorem iok_le {d d' : DE} (h : iokB d.1 d.2.1 d.2.2 d'.1 d'.2.1 d'.2.2 = true) : dv (-3000) d ≤ dv (-3000) d' := by
  obtain ⟨h1, h2, h3⟩ := iok_parts h
  rw [cmpD_ok h1 h2, cmpD_pos (dok_nv h1 (Int.le_refl (-3000))).1 (dok_nv h2 (Int.le_refl (-3000))).1] at h3
  unfold cmpI at h3
  by_cases g : dv (-3000) d < dv (-3000) d'
  · omega
  · rw [if_neg g] at h3
    by_cases g2 : dv (-3000) d' < dv (-3000) d
    · first | (rw [if_pos g2] at h3; omega) | (split at h3 <;> omega)
    · omega
theorem imok_le {n : Int} {ds : List DE} {m p : Nat} (h : imokB n ds m = true) (hp : p < m) : dv (-3000) (ds.getD (2 * p) de0) ≤ dv (-3000) (ds.getD (2 * p + 1) de0) := by
  unfold imokB at h
  simp only [Bool.and_eq_true, decide_eq_true_eq] at h
  have h2 := h.2.2
  unfold ivAll at h2
  rw [List.all_eq_true] at h2
  exact iok_le (h2 p (List.mem_range.2 hp))
theorem dv_pos (z : List Int) (y : Int) (h : 0 ≤ wval false z) : 0 ≤ dv (-3000) (false, z, y) := by
  unfold dv
  exact Int.mul_nonneg h (Int.le_of_lt (Int.pow_pos (by decide)))
theorem fat_mono {n : Int} {ds : List DE} {m p : Nat} {b : Int} (h : imokB n ds m = true) (hb : 0 ≤ b) (hp : p < m) : fatV b ds (2 * p) ≤ fatV b ds (2 * p + 1) := by
  rw [fatV_lo, fatV_hi]
  have := imok_le h hp
  omega

set_option maxHeartbeats 16000000 in
theorem ivMatFat_spec {lo hi m l2 h2 : Nat} {bd : Bool} {v vd : Value} {ds : List DE} {zd : List Int} (n : Int) (sd : Bool) (yd : Int) (hy1 : yd ≤ 9223372036854775807) (hy0 : -9223372036854775808 ≤ yd) (w : World) (hw : WfD ds) (r : Ivs lo hi w v ds m) (rd : Row .i64 bd l2 h2 w vd zd) :
    Calls Tryz.prog 24 #[.agg #[.int .i64 n, v], .agg #[.bool sd, vd, .int .i64 yd]] w fun e w' => ∃ v', e = .returned (.tuple #[.agg #[.int .i64 (hwN (fatC n ds m (sd, zd, yd)) (fatV (dv (-3000) (sd, zd, yd)) ds) (-3000) n), v'], .bool (hwB (fatC n ds m (sd, zd, yd)) (fatV (dv (-3000) (sd, zd, yd)) ds) (-3000) n)]) ∧ IvsO w.heap.size w'.heap.size w' v' (hwL (fatC n ds m (sd, zd, yd)) (fatV (dv (-3000) (sd, zd, yd)) ds) (-3000) n) (hwC (fatC n ds m (sd, zd, yd)) (fatV (dv (-3000) (sd, zd, yd)) ds) (-3000) n) ∧ Kept 0 0 w w' := by
  obtain ⟨W, hW⟩ : ∃ W, W = ((w.alloc (.cells #[.int .i64 n, v] 28)).alloc (.cells #[.bool sd, vd, .int .i64 yd] 52)).alloc (.cells #[.int .i64 0, .slice none 0 0] 28) := ⟨_, rfl⟩
  have k0 : Kept 0 0 w W := by rw [hW]; exact (((Kept.refl 0 0 w).alloc _).alloc _).alloc _
  have c0 : W.cell? ⟨w.heap.size, 0, none⟩ = some (.int .i64 n) := by rw [hW]; exact old_cell _ (old_cell _ (new_cell2 _ _ _ _ _ _ (by simp) rfl))
  have c1 : W.cell? ⟨w.heap.size, 1, none⟩ = some v := by rw [hW]; exact old_cell _ (old_cell _ (new_cell2 _ _ _ _ _ _ (by simp) rfl))
  have d0 : W.cell? ⟨w.heap.size + 1, 0, none⟩ = some (.bool sd) := by rw [hW]; exact old_cell _ (new_cell2 _ _ _ _ _ _ (by simp) rfl)
  have d1 : W.cell? ⟨w.heap.size + 1, 1, none⟩ = some vd := by rw [hW]; exact old_cell _ (new_cell2 _ _ _ _ _ _ (by simp) rfl)
  have d2 : W.cell? ⟨w.heap.size + 1, 2, none⟩ = some (.int .i64 yd) := by rw [hW]; exact old_cell _ (new_cell2 _ _ _ _ _ _ (by simp) rfl)
  have q0 : W.cell? ⟨w.heap.size + 2, 0, none⟩ = some (.int .i64 0) := by rw [hW]; exact new_cell2 _ _ _ _ _ _ (by simp) rfl
  have q1 : W.cell? ⟨w.heap.size + 2, 1, none⟩ = some (.slice none 0 0) := by rw [hW]; exact new_cell2 _ _ _ _ _ _ (by simp) rfl
  have f0 : W.frozen? ⟨w.heap.size + 2, 0, none⟩ = false := by rw [hW]; exact new_loose2 _ _ _ _ _ (by simp)
  have f1 : W.frozen? ⟨w.heap.size + 2, 1, none⟩ = false := by rw [hW]; exact new_loose2 _ _ _ _ _ (by simp)
  have sW : W.heap.size = w.heap.size + 3 := by rw [hW]; simp
  have r0 := r.kept k0 (by omega)
  have rd0 := rd.kept k0 (by omega)
  have ho := ivMatOk_spec n W hw r0
  obtain ⟨a, c, rfl, -, -⟩ := r.form
  obtain ⟨ad, cd, rfl⟩ := Row.form' rd
  obtain ⟨C, hC⟩ : ∃ q, q = fatC n ds m (sd, zd, yd) := ⟨_, rfl⟩
  obtain ⟨V, hV⟩ : ∃ q, q = fatV (dv (-3000) (sd, zd, yd)) ds := ⟨_, rfl⟩
  rw [← hC, ← hV]
  obtain ⟨NN, hNN⟩ : ∃ q, q = hwN C V (-3000) n := ⟨_, rfl⟩
  obtain ⟨LL, hLL⟩ : ∃ q, q = hwL C V (-3000) n := ⟨_, rfl⟩
  obtain ⟨CC, hCC⟩ : ∃ q, q = hwC C V (-3000) n := ⟨_, rfl⟩
  obtain ⟨BB, hBB⟩ : ∃ q, q = hwB C V (-3000) n := ⟨_, rfl⟩
  rw [← hNN, ← hLL, ← hCC, ← hBB]
  have HNO : Hid (C = false → NN = 0 ∧ LL = [] ∧ CC = 0 ∧ BB = false) := fun h => by rw [hNN, hLL, hCC, hBB, h]; exact ⟨rfl, rfl, rfl, rfl⟩
  have HANS := hide (And.intro hNN (And.intro hLL (And.intro hCC hBB)))
  have HC := hide hC
  have HV := hide hV
  rw [hW] at ho
  clear r rd hC hV hNN hLL hCC hBB hw
  go_enter Tryz.func24, Tryz.ntmps24
  go_wp2_with fail
  rw [← hW] at ho ⊢
  clear hW
  refine ho.mono ?_
  rintro e w1 ⟨rfl, k1⟩
  replace f0 := k1.loose0 (World.block_lt_of_cell? _ _ q0) f0
  replace f1 := k1.loose0 (World.block_lt_of_cell? _ _ q1) f1
  replace c0 := k1.cell0 c0
  replace c1 := k1.cell0 c1
  replace d0 := k1.cell0 d0
  replace d1 := k1.cell0 d1
  replace d2 := k1.cell0 d2
  replace q0 := k1.cell0 q0
  replace q1 := k1.cell0 q1
  replace r0 := r0.kept k1 (by omega)
  replace rd0 := rd0.kept k1 (by omega)
  have K1 := hide (k0.trans k1)
  have z1 := k1.size
  clear ho k0 k1
  cases hk : imokB n ds m
  · have HB := unhide HNO (by rw [unhide HC]; exact fatC_no1 hk)
    obtain ⟨h1, h2, h3, h4⟩ := HB
    subst h1; subst h2; subst h3; subst h4
    have K7 := hide (((unhide K1).setNew (p := ⟨w.heap.size + 2, 0, none⟩) (by dsimp only; omega) (.int .i64 0)).setNew (p := ⟨w.heap.size + 2, 1, none⟩) (by dsimp only; omega) (.slice none 0 0))
    clear r0 K1 hk rd0
    go_wp2
    exact bodyPost_ret (v := .tuple #[.agg #[.int .i64 0, .slice none 0 0], .bool false]) (by simp [results, Tryz.results24, go_sem, q0, q1]) rfl ⟨.slice none 0 0, rfl, IvsO.nil _ _ _, unhide K7⟩
  have hdk := dok_spec sd yd hy1 hy0 w1 rd0
  have HK := hide hk
  clear hk
  go_wp2_with fail
  refine hdk.mono ?_
  rintro e w2 ⟨rfl, k2⟩
  replace f0 := k2.loose0 (World.block_lt_of_cell? _ _ q0) f0
  replace f1 := k2.loose0 (World.block_lt_of_cell? _ _ q1) f1
  replace c0 := k2.cell0 c0
  replace c1 := k2.cell0 c1
  replace d0 := k2.cell0 d0
  replace d1 := k2.cell0 d1
  replace d2 := k2.cell0 d2
  replace q0 := k2.cell0 q0
  replace q1 := k2.cell0 q1
  replace r0 := r0.kept k2 (by omega)
  replace rd0 := rd0.kept k2 (by omega)
  replace K1 := hide ((unhide K1).trans k2)
  have z2 := k2.size
  clear hdk k2
  cases hd : dokB sd zd yd
  · have HB := unhide HNO (by rw [unhide HC]; exact fatC_no2 hd)
    obtain ⟨h1, h2, h3, h4⟩ := HB
    subst h1; subst h2; subst h3; subst h4
    have K7 := hide (((unhide K1).setNew (p := ⟨w.heap.size + 2, 0, none⟩) (by dsimp only; omega) (.int .i64 0)).setNew (p := ⟨w.heap.size + 2, 1, none⟩) (by dsimp only; omega) (.slice none 0 0))
    clear r0 K1 hd rd0
    go_wp2
    exact bodyPost_ret (v := .tuple #[.agg #[.int .i64 0, .slice none 0 0], .bool false]) (by simp [results, Tryz.results24, go_sem, q0, q1]) rfl ⟨.slice none 0 0, rfl, IvsO.nil _ _ _, unhide K7⟩
  cases hs : sd
  rotate_left
  · have HB := unhide HNO (by rw [unhide HC]; exact fatC_no3 hs)
    obtain ⟨h1, h2, h3, h4⟩ := HB
    subst h1; subst h2; subst h3; subst h4
    rw [hs] at d0
    have K7 := hide (((unhide K1).setNew (p := ⟨w.heap.size + 2, 0, none⟩) (by dsimp only; omega) (.int .i64 0)).setNew (p := ⟨w.heap.size + 2, 1, none⟩) (by dsimp only; omega) (.slice none 0 0))
    clear r0 K1 hd rd0 hs
    go_wp2
    exact bodyPost_ret (v := .tuple #[.agg #[.int .i64 0, .slice none 0 0], .bool false]) (by simp [results, Tryz.results24, go_sem, q0, q1]) rfl ⟨.slice none 0 0, rfl, IvsO.nil _ _ _, unhide K7⟩
  subst hs
  have hCt : C = true := by rw [unhide HC]; exact fatC_yes (unhide HK) hd rfl
  obtain ⟨u1, u2, u3, U⟩ := imok_parts (unhide HK)
  obtain ⟨k, rfl⟩ := Int.eq_ofNat_of_zero_le (show 0 ≤ n by omega)
  have hlen : m = k * k := by rw [← Int.natCast_mul] at u3; omega
  obtain ⟨bv, hbv⟩ : ∃ q, q = dv (-3000) (false, zd, yd) := ⟨_, rfl⟩
  have hVV : V = fatV bv ds := by rw [unhide HV, hbv]
  have hbp : 0 ≤ bv := by rw [hbv]; exact dv_pos _ _ (Int.not_lt.1 (of_decide_eq_false (wok_int (dok_parts hd).1).1.symm))
  obtain ⟨A, hA⟩ : ∃ A : Nat, A = 7600 := ⟨_, rfl⟩
  have hbl : bv.natAbs < 2 ^ A := by rw [hbv]; exact dv_lt (show dOkE (false, zd, yd) = true from hd) hA
  have hVL : ∀ q, q < 2 * m → (fatV bv ds q).natAbs < 2 ^ AA := fun q hq => fatV_lt (U q hq) hA hbl
  have hmono : ∀ p, p < k * k → fatV bv ds (2 * p) ≤ fatV bv ds (2 * p + 1) := fun p hp => fat_mono (unhide HK) hbp (by omega)
  obtain ⟨a1, a2, a3, a4⟩ := unhide HANS
  rw [hCt, hVV] at a1 a2 a3 a4
  have hop := fat8_spec w2 (show k ≤ 4 by omega) hlen U r0 (show dOkE (false, zd, yd) = true from hd) rd0
  rw [← hbv] at hop
  obtain ⟨PL, hPL⟩ : ∃ PL, PL = (List.range (2 * m)).map fun q => nE (fatV bv ds q) (-3000) := ⟨_, rfl⟩
  obtain ⟨w1', w2'⟩ := hw_wf (n := 2 * m) (V := fatV bv ds) (L := -3000) (by decide) (by decide) hVL
  obtain ⟨t1, t2, t3, t4⟩ := hw_fit (k := k) (V := fatV bv ds) (L := -3000) (by omega) (by omega) (by decide) hmono
  rw [← hlen, ← hPL] at t1 t2 t3 t4
  rw [← hPL] at hop w1' w2'
  rw [← a1] at t2
  rw [← a2] at t3
  rw [← a3] at t4
  rw [← a4] at t1
  have HWF := hide w1'
  have HWN := hide w2'
  have HT := hide (And.intro t1 (And.intro t2 (And.intro t3 t4)))
  clear hPL t1 t2 t3 t4 a1 a2 a3 a4 w1' w2' hVL hmono hbl hbp hVV hCt u1 u2 u3 U hlen r0 rd0 hd HANS HNO HC HV HK hbv
  go_wp2_with fail
  refine hop.mono ?_
  rintro e w3 ⟨v3, rfl, r3, k3⟩
  have hft := fits10_spec (k : Int) w3 (unhide HWF) (unhide HWN) r3.read
  rw [(unhide HT).1, (unhide HT).2.1, (unhide HT).2.2.1, (unhide HT).2.2.2] at hft
  obtain ⟨a3, e3, hv3⟩ := r3.form'
  subst hv3
  replace f0 := k3.loose0 (World.block_lt_of_cell? _ _ q0) f0
  replace f1 := k3.loose0 (World.block_lt_of_cell? _ _ q1) f1
  replace q0 := k3.cell0 q0
  replace q1 := k3.cell0 q1
  have K3 := hide ((unhide K1).trans k3)
  have z3 := k3.size
  clear hop r3 k3 K1 c0 c1 d0 d1 d2
  go_wp2_with fail
  refine hft.mono ?_
  rintro e w5 ⟨v5, rfl, r5, k5⟩
  obtain ⟨a5, e5, hv5⟩ := r5.form'
  subst hv5
  replace f0 := k5.loose0 (World.block_lt_of_cell? _ _ q0) f0
  replace f1 := k5.loose0 (World.block_lt_of_cell? _ _ q1) f1
  replace q0 := k5.cell0 q0
  replace q1 := k5.cell0 q1
  have z5 := k5.size
  have ks : Kept (w.heap.size + 2) (w.heap.size + 3) w5 ((w5.setCell ⟨w.heap.size + 2, 0, none⟩ (.int .i64 NN)).setCell ⟨w.heap.size + 2, 1, none⟩ (.slice a5 CC e5)) := ((Kept.refl _ _ _).setCell (p := ⟨w.heap.size + 2, 0, none⟩) (Nat.le_refl _) (Nat.lt_succ_self _) _).setCell (p := ⟨w.heap.size + 2, 1, none⟩) (Nat.le_refl _) (Nat.lt_succ_self _) _
  have K7 := hide (((unhide K3).trans k5).wide ks (by omega))
  have hsz : ((w5.setCell ⟨w.heap.size + 2, 0, none⟩ (.int .i64 NN)).setCell ⟨w.heap.size + 2, 1, none⟩ (.slice a5 CC e5)).heap.size = w5.heap.size := by rw [size_set, size_set]
  have R7 := hide ((r5.kept ks (by omega)).wider (lo' := w.heap.size) (hi' := ((w5.setCell ⟨w.heap.size + 2, 0, none⟩ (.int .i64 NN)).setCell ⟨w.heap.size + 2, 1, none⟩ (.slice a5 CC e5)).heap.size) (by omega) (by omega))
  clear hft r5 k5 ks hsz K3
  go_wp2
  exact bodyPost_ret (v := .tuple #[.agg #[.int .i64 NN, .slice a5 CC e5], .bool BB]) (by simp [results, Tryz.results24, go_sem, q0, q1]) rfl ⟨.slice a5 CC e5, rfl, unhide R7, unhide K7⟩

end Go.Proofs.YthahoabkehcgbaaGreatDoor


namespace Go.Proofs.YthahoabkehcgbaaGreatDoor
open Go.RowKit
set_option linter.unusedVariables false
set_option maxRecDepth 8000
set_option linter.unusedSimpArgs false

/-- A number in the block g. -/
def Pt (w : World) (g : Nat) (d : DE) : Prop := ∃ u, Num 0 w g u d.2.1 ∧ Sd w g d.1 ∧ Ex w g d.2.2
theorem Pt.kept {w w' : World} {g : Nat} {d : DE} (h : Pt w g d) (k : Kept 0 0 w w') : Pt w' g d := by
  obtain ⟨u, n, s, e⟩ := h
  exact ⟨u, n.kept k, s.kept k, e.kept k⟩

theorem in_widened1 : ∀ (w : World) (args : Array Value), (callFunc 128 args).run Tryz.prog w = .ok (.enter 128 args) w := enters Tryz.func128 (by decide) (fun h => by cases h)

set_option maxHeartbeats 8000000 in
theorem widened1_impl {V1 V2 bv : Int} {g1 g2 gb B : Nat} {a1 a2 ab : DE} (w : World) (p1 : Pt w g1 a1) (p2 : Pt w g2 a2) (pb : Pt w gb ab) (i1 : NV (-3000) V1 a1) (i2 : NV (-3000) V2 a2) (ib : NV (-3000) bv ab) (h1 : (V1 + -bv).natAbs < 2 ^ AA) (h2 : (V2 + bv).natAbs < 2 ^ AA) (cb : w.cell? ⟨B, 0, none⟩ = some (.pointer (some ⟨gb, 0, none⟩))) :
    Calls Tryz.prog 128 #[.agg #[.pointer (some ⟨g1, 0, none⟩), .pointer (some ⟨g2, 0, none⟩)], .pointer (some ⟨B, 0, none⟩)] w fun e w' => ∃ t1 t2 mid d1 d2, e = .returned (.agg #[.pointer (some ⟨t1, 0, none⟩), .pointer (some ⟨t2, 0, none⟩)]) ∧ Dw w.heap.size mid w' t1 d1 ∧ Dw mid w'.heap.size w' t2 d2 ∧ NV (-3000) (V1 + -bv) d1 ∧ NV (-3000) (V2 + bv) d2 ∧ w.heap.size ≤ mid ∧ mid ≤ w'.heap.size ∧ Kept 0 0 w w' := by
  obtain ⟨W, hW⟩ : ∃ W, W = (w.alloc (.cells #[.pointer (some ⟨g1, 0, none⟩), .pointer (some ⟨g2, 0, none⟩)] 79)).alloc (.cells #[.pointer none, .pointer none] 79) := ⟨_, rfl⟩
  have k0 : Kept 0 0 w W := by rw [hW]; exact ((Kept.refl 0 0 w).alloc _).alloc _
  have e0 : W.cell? ⟨w.heap.size, 0, none⟩ = some (.pointer (some ⟨g1, 0, none⟩)) := by rw [hW]; exact old_cell _ (new_cell2 _ _ _ _ _ _ rfl rfl)
  have e1 : W.cell? ⟨w.heap.size, 1, none⟩ = some (.pointer (some ⟨g2, 0, none⟩)) := by rw [hW]; exact old_cell _ (new_cell2 _ _ _ _ _ _ rfl rfl)
  have q0 : W.cell? ⟨w.heap.size + 1, 0, none⟩ = some (.pointer none) := by rw [hW]; exact new_cell2 _ _ _ _ _ _ (by simp) rfl
  have q1 : W.cell? ⟨w.heap.size + 1, 1, none⟩ = some (.pointer none) := by rw [hW]; exact new_cell2 _ _ _ _ _ _ (by simp) rfl
  have f0 : W.frozen? ⟨w.heap.size + 1, 0, none⟩ = false := by rw [hW]; exact new_loose2 _ _ _ _ _ (by simp)
  have f1 : W.frozen? ⟨w.heap.size + 1, 1, none⟩ = false := by rw [hW]; exact new_loose2 _ _ _ _ _ (by simp)
  have SW : Hid (W.heap.size = w.heap.size + 2) := by show _ = _; rw [hW]; simp
  have hcb := World.block_lt_of_cell? _ _ cb
  dsimp only at hcb
  have kz := (Kept.refl 0 0 W).drew
  have kd := k0.trans kz
  have P1 := hide (p1.kept kd)
  have P2 := hide (p2.kept kd)
  have PB := hide (pb.kept kd)
  have I1 := hide i1
  have I2 := hide i2
  have IB := hide ib
  have H1 := hide h1
  have H2 := hide h2
  have HCB := hide hcb
  replace cb := kd.cell0 cb
  replace f0 := kz.loose0 (World.block_lt_of_cell? _ _ q0) f0
  replace f1 := kz.loose0 (World.block_lt_of_cell? _ _ q1) f1
  replace e0 := kz.cell0 e0
  replace e1 := kz.cell0 e1
  replace q0 := kz.cell0 q0
  replace q1 := kz.cell0 q1
  have KD := hide kd
  clear p1 p2 pb i1 i2 ib h1 h2 hcb kd kz k0
  go_enter Tryz.func128, Tryz.ntmps128
  go_wp2_with fail
  rw [← hW]
  clear hW
  refine wp_region_held_drew (S := (fun w' => w'.cell? ⟨w.heap.size, 0, none⟩ = some (.pointer (some ⟨g1, 0, none⟩)) ∧ w'.cell? ⟨w.heap.size, 1, none⟩ = some (.pointer (some ⟨g2, 0, none⟩)) ∧ w'.cell? ⟨B, 0, none⟩ = some (.pointer (some ⟨gb, 0, none⟩)))) (by kernel_rfl) ?_ (fun hHeld => ?_)
  · exact ⟨e0, e1, cb⟩
  refine wpAnyH_take (i := 0) (oi := _) (v := .pointer (some ⟨w.heap.size, 0, none⟩)) rfl (by kernel_rfl) (by kernel_rfl) (by kernel_rfl) (fun _ _ _ h => h) (Or.inl ⟨by rfl, ?_⟩) hHeld ?_
  · intro wq hSw
    try dsimp only at hSw
    go_simp
  try simp only [Act.put, List.getElem_toArray, List.getElem_cons_succ, List.getElem_cons_zero, List.setIfInBounds_toArray, List.set_cons_zero, List.set_cons_succ]
  refine wpAnyH_take (i := 1) (oi := _) (v := .pointer (some ⟨g1, 0, none⟩)) rfl (by kernel_rfl) (by kernel_rfl) (by kernel_rfl) (fun _ _ _ h => h) (Or.inl ⟨by rfl, ?_⟩) hHeld ?_
  · intro wq hSw
    try dsimp only at hSw
    go_simp
  try simp only [Act.put, List.getElem_toArray, List.getElem_cons_succ, List.getElem_cons_zero, List.setIfInBounds_toArray, List.set_cons_zero, List.set_cons_succ]
  refine wpAnyH_take (i := 2) (oi := _) (v := .pointer (some ⟨gb, 0, none⟩)) rfl (by kernel_rfl) (by kernel_rfl) (by kernel_rfl) (fun _ _ _ h => h) (Or.inl ⟨by rfl, ?_⟩) hHeld ?_
  · intro wq hSw
    try dsimp only at hSw
    go_simp
  try simp only [Act.put, List.getElem_toArray, List.getElem_cons_succ, List.getElem_cons_zero, List.setIfInBounds_toArray, List.set_cons_zero, List.set_cons_succ]
  refine wpAnyH_take (i := 5) (oi := _) (v := .pointer (some ⟨w.heap.size, 1, none⟩)) rfl (by kernel_rfl) (by kernel_rfl) (by kernel_rfl) (fun _ _ _ h => h) (Or.inl ⟨by rfl, ?_⟩) hHeld ?_
  · intro wq hSw
    try dsimp only at hSw
    go_simp
  try simp only [Act.put, List.getElem_toArray, List.getElem_cons_succ, List.getElem_cons_zero, List.setIfInBounds_toArray, List.set_cons_zero, List.set_cons_succ]
  refine wpAnyH_take (i := 6) (oi := _) (v := .pointer (some ⟨g2, 0, none⟩)) rfl (by kernel_rfl) (by kernel_rfl) (by kernel_rfl) (fun _ _ _ h => h) (Or.inl ⟨by rfl, ?_⟩) hHeld ?_
  · intro wq hSw
    try dsimp only at hSw
    go_simp
  try simp only [Act.put, List.getElem_toArray, List.getElem_cons_succ, List.getElem_cons_zero, List.setIfInBounds_toArray, List.set_cons_zero, List.set_cons_succ]
  refine wpAnyH_take (i := 7) (oi := _) (v := .pointer (some ⟨gb, 0, none⟩)) rfl (by kernel_rfl) (by kernel_rfl) (by kernel_rfl) (fun _ _ _ h => h) (Or.inl ⟨by rfl, ?_⟩) hHeld ?_
  · intro wq hSw
    try dsimp only at hSw
    go_simp
  try simp only [Act.put, List.getElem_toArray, List.getElem_cons_succ, List.getElem_cons_zero, List.setIfInBounds_toArray, List.set_cons_zero, List.set_cons_succ]
  refine wpAnyH_ready (rs := [3]) (by kernel_rfl) (by simp) ?_
  refine AllReadyH.cons rfl (fun KK hK => ?_) AllReadyH.nil
  simp only [List.getElem_toArray, List.getElem_cons_succ, List.getElem_cons_zero]
  rw [if_pos (by rfl)]
  obtain ⟨ub, nb, sb, xb⟩ := unhide PB
  refine wps1 83 (.tmp 6) _ rfl in_oppD (.pointer (some ⟨gb, 0, none⟩)) rfl (oppD_impl _ nb sb xb (unhide IB)) ?_
  rintro e w3 ⟨g3, d3, rfl, D3, nv3, k3⟩
  refine ⟨_, rfl, ?_⟩
  have P3 : Hid (Pt w3 g3 d3) := D3.parts
  have N3 := hide nv3
  replace P1 := hide ((unhide P1).kept k3)
  replace P2 := hide ((unhide P2).kept k3)
  replace PB := hide ((unhide PB).kept k3)
  have K3 := hide ((unhide KD).trans k3)
  replace f0 := k3.loose0 (World.block_lt_of_cell? _ _ q0) f0
  replace f1 := k3.loose0 (World.block_lt_of_cell? _ _ q1) f1
  replace e0 := k3.cell0 e0
  replace e1 := k3.cell0 e1
  replace cb := k3.cell0 cb
  replace q0 := k3.cell0 q0
  replace q1 := k3.cell0 q1
  have Z3 := hide k3.size
  clear nb sb xb D3 nv3 k3 KD
  clear hHeld
  refine hK.out _ _ ?_ (fun hHeld => ?_)
  · exact ⟨e0, e1, cb⟩
  clear hK KK
  try simp only [Act.put, List.getElem_toArray, List.getElem_cons_succ, List.getElem_cons_zero, List.setIfInBounds_toArray, List.set_cons_zero, List.set_cons_succ]
  refine wpAnyH_ready (rs := [4]) (by kernel_rfl) (by simp) ?_
  refine AllReadyH.cons rfl (fun KK hK => ?_) AllReadyH.nil
  simp only [List.getElem_toArray, List.getElem_cons_succ, List.getElem_cons_zero]
  rw [if_pos (by rfl)]
  obtain ⟨u1, n1, s1, x1⟩ := unhide P1
  obtain ⟨u3, n3, s3, x3⟩ := unhide P3
  refine wps2 82 (.tmp 5) (.tmp 7) _ rfl in_plusD (.pointer (some ⟨g1, 0, none⟩)) (.pointer (some ⟨g3, 0, none⟩)) rfl rfl (plusD_impl _ (by decide) n1 s1 x1 n3 s3 x3 (unhide I1) (unhide N3) (unhide H1)) ?_
  rintro e w4 ⟨g4, d4, rfl, D4, nv4, k4⟩
  refine ⟨_, rfl, ?_⟩
  have W4 : Hid (Dw w3.heap.size w4.heap.size w4 g4 d4) := D4.dw
  have N4 := hide nv4
  replace P2 := hide ((unhide P2).kept k4)
  replace PB := hide ((unhide PB).kept k4)
  have K4 := hide ((unhide K3).trans k4)
  replace f0 := k4.loose0 (World.block_lt_of_cell? _ _ q0) f0
  replace f1 := k4.loose0 (World.block_lt_of_cell? _ _ q1) f1
  replace e0 := k4.cell0 e0
  replace e1 := k4.cell0 e1
  replace cb := k4.cell0 cb
  replace q0 := k4.cell0 q0
  replace q1 := k4.cell0 q1
  have Z4 := hide k4.size
  clear n1 s1 x1 n3 s3 x3 D4 nv4 k4 K3 P1 P3 I1 N3 H1
  clear hHeld
  refine hK.out _ _ ?_ (fun hHeld => ?_)
  · exact ⟨e0, e1, cb⟩
  clear hK KK
  try simp only [Act.put, List.getElem_toArray, List.getElem_cons_succ, List.getElem_cons_zero, List.setIfInBounds_toArray, List.set_cons_zero, List.set_cons_succ]
  refine wpAnyH_ready (rs := [8]) (by kernel_rfl) (by simp) ?_
  refine AllReadyH.cons rfl (fun KK hK => ?_) AllReadyH.nil
  simp only [List.getElem_toArray, List.getElem_cons_succ, List.getElem_cons_zero]
  rw [if_pos (by rfl)]
  obtain ⟨u2, n2, s2, x2⟩ := unhide P2
  obtain ⟨ub', nb, sb, xb⟩ := unhide PB
  refine wps2 82 (.tmp 10) (.tmp 11) _ rfl in_plusD (.pointer (some ⟨g2, 0, none⟩)) (.pointer (some ⟨gb, 0, none⟩)) rfl rfl (plusD_impl _ (by decide) n2 s2 x2 nb sb xb (unhide I2) (unhide IB) (unhide H2)) ?_
  rintro e w5 ⟨g5, d5, rfl, D5, nv5, k5⟩
  refine ⟨_, rfl, ?_⟩
  have W5 : Hid (Dw w4.heap.size w5.heap.size w5 g5 d5) := D5.dw
  have N5 := hide nv5
  replace W4 := hide (Dw.kept (unhide W4) k5)
  have K5 := hide ((unhide K4).trans k5)
  replace f0 := k5.loose0 (World.block_lt_of_cell? _ _ q0) f0
  replace f1 := k5.loose0 (World.block_lt_of_cell? _ _ q1) f1
  replace e0 := k5.cell0 e0
  replace e1 := k5.cell0 e1
  replace cb := k5.cell0 cb
  replace q0 := k5.cell0 q0
  replace q1 := k5.cell0 q1
  have Z5 := hide k5.size
  clear n2 s2 x2 nb sb xb D5 nv5 k5 K4 P2 PB I2 IB H2
  clear hHeld
  refine hK.out _ _ ?_ (fun hHeld => ?_)
  · exact ⟨e0, e1, cb⟩
  clear hK KK
  try simp only [Act.put, List.getElem_toArray, List.getElem_cons_succ, List.getElem_cons_zero, List.setIfInBounds_toArray, List.set_cons_zero, List.set_cons_succ]
  refine wpAnyH_take (i := 9) (oi := _) (v := .agg #[.pointer (some ⟨g4, 0, none⟩), .pointer (some ⟨g5, 0, none⟩)]) rfl (by kernel_rfl) (by kernel_rfl) (by kernel_rfl) (fun _ _ _ h => h) (Or.inl ⟨by rfl, ?_⟩) hHeld ?_
  · intro wq hSw
    try dsimp only at hSw
    go_simp
  try simp only [Act.put, List.getElem_toArray, List.getElem_cons_succ, List.getElem_cons_zero, List.setIfInBounds_toArray, List.set_cons_zero, List.set_cons_succ]
  refine wpAnyH_ready (rs := [10]) (by kernel_rfl) (by simp) ?_
  refine AllReadyH.cons rfl (fun KK hK => ?_) AllReadyH.nil
  simp only [List.getElem_toArray, List.getElem_cons_succ, List.getElem_cons_zero]
  rw [if_pos (by rfl)]
  go_simp
  have ks : Kept (w.heap.size + 1) (w.heap.size + 2) w5 ((w5.setCell ⟨w.heap.size + 1, 0, none⟩ (.pointer (some ⟨g4, 0, none⟩))).setCell ⟨w.heap.size + 1, 1, none⟩ (.pointer (some ⟨g5, 0, none⟩))) := ((Kept.refl _ _ _).setCell (p := ⟨w.heap.size + 1, 0, none⟩) (Nat.le_refl _) (Nat.lt_succ_self _) _).setCell (p := ⟨w.heap.size + 1, 1, none⟩) (Nat.le_refl _) (Nat.lt_succ_self _) _
  have hcb := unhide HCB
  replace e0 := ks.cellOut (by dsimp only; omega) e0
  replace e1 := ks.cellOut (by dsimp only; omega) e1
  replace cb := ks.cellOut (by dsimp only; omega) cb
  clear hHeld
  refine hK.out _ _ ?_ (fun hHeld => ?_)
  · exact ⟨e0, e1, cb⟩
  clear hK KK
  try simp only [Act.put, List.getElem_toArray, List.getElem_cons_succ, List.getElem_cons_zero, List.setIfInBounds_toArray, List.set_cons_zero, List.set_cons_succ]
  refine wpAnyH_done (by kernel_rfl) ?_ _
  clear hHeld hcb
  have sW := unhide SW
  have hdz : W.drew.heap.size = W.heap.size := rfl
  have z3 := unhide Z3
  have z4 := unhide Z4
  have z5 := unhide Z5
  have G0 := cell_off _ _ _ 1 (.pointer (some ⟨g5, 0, none⟩)) _ (cell_on _ _ _ (.pointer (some ⟨g4, 0, none⟩)) _ q0) (show (0 : Nat) ≠ 1 by omega)
  have G1 := cell_on _ _ _ (.pointer (some ⟨g5, 0, none⟩)) _ (cell_off _ _ _ 0 (.pointer (some ⟨g4, 0, none⟩)) _ q1 (show (1 : Nat) ≠ 0 by omega))
  have hsz : ((w5.setCell ⟨w.heap.size + 1, 0, none⟩ (.pointer (some ⟨g4, 0, none⟩))).setCell ⟨w.heap.size + 1, 1, none⟩ (.pointer (some ⟨g5, 0, none⟩))).heap.size = w5.heap.size := by rw [size_set, size_set]
  have D9 : Hid (Dw w.heap.size w4.heap.size ((w5.setCell ⟨w.heap.size + 1, 0, none⟩ (.pointer (some ⟨g4, 0, none⟩))).setCell ⟨w.heap.size + 1, 1, none⟩ (.pointer (some ⟨g5, 0, none⟩))) g4 d4 ∧ Dw w4.heap.size ((w5.setCell ⟨w.heap.size + 1, 0, none⟩ (.pointer (some ⟨g4, 0, none⟩))).setCell ⟨w.heap.size + 1, 1, none⟩ (.pointer (some ⟨g5, 0, none⟩))).heap.size ((w5.setCell ⟨w.heap.size + 1, 0, none⟩ (.pointer (some ⟨g4, 0, none⟩))).setCell ⟨w.heap.size + 1, 1, none⟩ (.pointer (some ⟨g5, 0, none⟩))) g5 d5 ∧ w.heap.size ≤ w4.heap.size ∧ w4.heap.size ≤ ((w5.setCell ⟨w.heap.size + 1, 0, none⟩ (.pointer (some ⟨g4, 0, none⟩))).setCell ⟨w.heap.size + 1, 1, none⟩ (.pointer (some ⟨g5, 0, none⟩))).heap.size) :=
    ⟨((unhide W4).mod ks.toModW (fun x h1 h2 h => by omega)).wider (by omega) (Nat.le_refl _), ((unhide W5).mod ks.toModW (fun x h1 h2 h => by omega)).wider (Nat.le_refl _) (by omega), by omega, by omega⟩
  have K9 := hide ((unhide K5).wide ks (by omega))
  clear W4 W5 ks hdz hsz K5 z3 z4 z5 sW Z3 Z4 Z5 e0 e1 cb
  go_wp2
  exact bodyPost_ret (v := .agg #[.pointer (some ⟨g4, 0, none⟩), .pointer (some ⟨g5, 0, none⟩)]) (by simp [results, Tryz.results128, go_sem, G0, G1]) rfl ⟨g4, g5, w4.heap.size, d4, d5, rfl, (unhide D9).1, (unhide D9).2.1, unhide N4, unhide N5, (unhide D9).2.2.1, (unhide D9).2.2.2, unhide K9⟩

set_option maxHeartbeats 8000000 in
theorem widened_impl {R n b gb : Nat} {S : Nat → Prop} {G : Nat → Nat} {ds : List DE} {ab : DE} {bv : Int} (w : World) (hn : n ≤ 1000) (sq : SqH S w R n n G) (nm : Nums b S w (2 * (n * n)) G (fun q => ds.getD q de0)) (U : ∀ q, q < 2 * (n * n) → dOkE (ds.getD q de0) = true) (pb : Pt w gb ab) (ib : NV (-3000) bv ab) (hV : ∀ q, q < 2 * (n * n) → (fatV bv ds q).natAbs < 2 ^ AA) :
    Calls Tryz.prog 64 #[.agg #[.slice (some ⟨R, 0, none⟩) n n], .pointer (some ⟨gb, 0, none⟩)] w fun e w' => ∃ R' G' S' F', e = .returned (.agg #[.slice (some ⟨R', 0, none⟩) n n]) ∧ SqH S' w' R' n n G' ∧ Nums w.heap.size S' w' (2 * (n * n)) G' F' ∧ (∀ q, q < 2 * (n * n) → NV (-3000) (fatV bv ds q) (F' q)) ∧ Kept 0 0 w w' := by
  obtain ⟨W, hW⟩ : ∃ W, W = ((w.alloc (.cells #[.slice (some ⟨R, 0, none⟩) n n] 76)).alloc (.cells #[.pointer (some ⟨gb, 0, none⟩)] 77)).alloc (.cells #[.slice none 0 0] 76) := ⟨_, rfl⟩
  have k0 : Kept 0 0 w W := by rw [hW]; exact (((Kept.refl 0 0 w).alloc _).alloc _).alloc _
  have c1 : W.cell? ⟨w.heap.size, 0, none⟩ = some (.slice (some ⟨R, 0, none⟩) n n) := by rw [hW]; exact old_cell _ (old_cell _ (new_cell_at _ _ _ _ rfl))
  have c0 : W.cell? ⟨w.heap.size + 1, 0, none⟩ = some (.pointer (some ⟨gb, 0, none⟩)) := by rw [hW]; exact old_cell _ (new_cell_at _ _ _ _ (by simp))
  have q0 : W.cell? ⟨w.heap.size + 2, 0, none⟩ = some (.slice none 0 0) := by rw [hW]; exact new_cell2 _ _ _ _ _ _ (by simp) rfl
  have qf : W.frozen? ⟨w.heap.size + 2, 0, none⟩ = false := by rw [hW]; exact new_loose2 _ _ _ _ _ (by simp)
  have sW : W.heap.size = w.heap.size + 3 := by rw [hW]; simp
  have hm := eachH_impl (FN := 128) (caps := #[.pointer (some ⟨w.heap.size + 1, 0, none⟩)]) (fun q d => NV (-3000) (fatV bv ds q) d) in_widened1 W hn (sq.kept k0) (fun p w' hp k => by
    have hh1 := hV (2 * p) (by omega)
    have hh2 := hV (2 * p + 1) (by omega)
    rw [fatV_lo] at hh1
    rw [fatV_hi] at hh2
    have := widened1_impl w' ((show Pt w (G (2 * p)) (ds.getD (2 * p) de0) from nm.at (by omega)).kept (k0.trans k)) ((show Pt w (G (2 * p + 1)) (ds.getD (2 * p + 1) de0) from nm.at (by omega)).kept (k0.trans k)) (pb.kept (k0.trans k)) (dok_nv (U (2 * p) (by omega)) (Int.le_refl (-3000))) (dok_nv (U (2 * p + 1) (by omega)) (Int.le_refl (-3000))) ib hh1 hh2 (k.cell0 c0)
    rw [← fatV_lo, ← fatV_hi] at this
    exact this)
  rw [hW] at hm c1
  have SW := hide sW
  clear sW c0 sq nm pb ib hV U
  go_enter Tryz.func64, Tryz.ntmps64
  go_wp2_with fail
  refine hm.mono ?_
  rw [← hW]
  rintro e w1 ⟨R', G', S', F', rfl, sq, nm, hQ, hS, hR, k1⟩
  have q1 := k1.cell0 q0
  have qf1 := k1.loose0 (World.block_lt_of_cell? _ _ q0) qf
  have sW := unhide SW
  have E1 := cell_on w1 (w.heap.size + 2) 0 (.slice (some ⟨R', 0, none⟩) n n) _ q1
  have ks : Kept (w.heap.size + 2) (w.heap.size + 2 + 1) w1 (w1.setCell ⟨w.heap.size + 2, 0, none⟩ (.slice (some ⟨R', 0, none⟩) n n)) := (Kept.refl _ _ _).setCell (p := ⟨w.heap.size + 2, 0, none⟩) (Nat.le_refl _) (Nat.lt_succ_self _) _
  have S2 : Hid (SqH S' (w1.setCell ⟨w.heap.size + 2, 0, none⟩ (.slice (some ⟨R', 0, none⟩) n n)) R' n n G' ∧ Nums w.heap.size S' (w1.setCell ⟨w.heap.size + 2, 0, none⟩ (.slice (some ⟨R', 0, none⟩) n n)) (2 * (n * n)) G' F') :=
    ⟨sq.keptY ks (by omega), (nm.win ks (by omega)).less (by omega)⟩
  have K2 := hide ((k0.trans k1).wide ks (by omega))
  have NQ := hide hQ
  clear hm sq nm hQ hS hR k1 ks sW q0 qf c1
  go_wp2
  exact bodyPost_ret (v := .agg #[.slice (some ⟨R', 0, none⟩) n n]) (by simp [results, Tryz.results64, go_sem, E1]) rfl ⟨R', G', S', F', rfl, (unhide S2).1, (unhide S2).2, unhide NQ, unhide K2⟩

end Go.Proofs.YthahoabkehcgbaaGreatDoor

