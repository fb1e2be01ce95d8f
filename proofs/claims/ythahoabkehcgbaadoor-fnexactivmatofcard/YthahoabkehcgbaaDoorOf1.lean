/-
  IvMatOf of the program.
-/
import Derived.Test.YthahoabkehcgbaaDoorIv3o
import Derived.Test.YthahoabkehcgbaaDoorHm1
namespace Go.Proofs.YthahoabkehcgbaaDoor
open Go.RowKit
set_option linter.unusedVariables false
set_option maxRecDepth 8000
set_option linter.unusedSimpArgs false

/-- A number that may be told is its own one form. -/
theorem dok_self {s : Bool} {l : List Int} {e : Int} (h : dokB s l e = true) : wsg (wval s l) = s ∧ dlm (wval s l) = l ∧ dex (wval s l) e = e := by
  obtain ⟨h1, h2, h3, h4, h5⟩ := dok_parts h
  obtain ⟨g1, g2, g3, g4⟩ := wok_int h1
  refine ⟨g1.symm, ?_⟩
  by_cases hz : wval s l = 0
  · have hl : l = [] := by rw [g2, hz]; exact limbs_zero
    refine ⟨by rw [hz, dlm_zero]; exact hl.symm, ?_⟩
    unfold dex
    rw [if_pos hz]
    exact (h4 hl).symm
  · have hl : l ≠ [] := fun e => hz (by rw [e]; exact wval_nil _)
    have hv := h5 hl
    have hn : (wval s l).natAbs % 2 = 1 := by
      unfold wval
      split <;> omega
    constructor
    · unfold dlm
      rw [tz_odd hn, Nat.pow_zero, Nat.div_one]
      exact g2.symm
    · unfold dex
      rw [if_neg hz, tz_odd hn]
      simp
/-- Each number twice. -/
def dbL (ds : List DE) (n : Nat) : List DE := (List.range (2 * n)).map (fun q => ds.getD (q / 2) de0)
theorem dbL_lo {ds : List DE} {n j : Nat} (h : j < n) : (dbL ds n).getD (2 * j) de0 = ds.getD j de0 := by unfold dbL; rw [map_at _ _ _ (by omega), show 2 * j / 2 = j by omega]
theorem dbL_hi {ds : List DE} {n j : Nat} (h : j < n) : (dbL ds n).getD (2 * j + 1) de0 = ds.getD j de0 := by unfold dbL; rw [map_at _ _ _ (by omega), show (2 * j + 1) / 2 = j by omega]
theorem dbL_len (ds : List DE) (n : Nat) : (dbL ds n).length = 2 * n := by unfold dbL; simp
def ofN (n : Int) (ds : List DE) : Int := if mokB n ds = true then n else 0
def ofL (n : Int) (ds : List DE) : List DE := if mokB n ds = true then dbL ds ds.length else []
def ofC (n : Int) (ds : List DE) : Nat := if mokB n ds = true then ds.length else 0
theorem of_yes {n : Int} {ds : List DE} (h : mokB n ds = true) : ofN n ds = n ∧ ofL n ds = dbL ds ds.length ∧ ofC n ds = ds.length := by
  unfold ofN ofL ofC; rw [if_pos h, if_pos h, if_pos h]; exact ⟨rfl, rfl, rfl⟩
theorem of_no {n : Int} {ds : List DE} (h : mokB n ds = false) : ofN n ds = 0 ∧ ofL n ds = [] ∧ ofC n ds = 0 := by
  unfold ofN ofL ofC; rw [if_neg (by rw [h]; simp), if_neg (by rw [h]; simp), if_neg (by rw [h]; simp)]; exact ⟨rfl, rfl, rfl⟩

set_option maxHeartbeats 4000000 in
theorem ivMatOf1_impl {lo hi : Nat} {u : Value} {z : List Int} (s : Bool) (y : Int) (w : World) (r : Row .i64 false lo hi w u z) (h : dOkE (s, z, y) = true) (T : TabB w) :
    Calls Tryd.prog 20 #[.agg #[.bool s, u, .int .i64 y]] w fun e w' => ∃ v1 v2 mid, e = .returned (.tuple #[.agg #[.bool s, v1, .int .i64 y, .bool s, v2, .int .i64 y], .bool true]) ∧ Row .i64 true w.heap.size mid w' v1 z ∧ Row .i64 true mid w'.heap.size w' v2 z ∧ w.heap.size ≤ mid ∧ mid ≤ w'.heap.size ∧ Kept 0 0 w w' := by
  obtain ⟨a0, c0, hv⟩ := Row.form' r
  subst hv
  obtain ⟨W, hW⟩ : ∃ W, W = (w.alloc (.cells #[.bool s, .slice a0 z.length c0, .int .i64 y] 52)).alloc (.cells #[.bool false, .slice none 0 0, .int .i64 0, .bool false, .slice none 0 0, .int .i64 0] 54) := ⟨_, rfl⟩
  have k0 : Kept 0 0 w W := by rw [hW]; exact ((Kept.refl 0 0 w).alloc _).alloc _
  have e0 : W.cell? ⟨w.heap.size, 0, none⟩ = some (.bool s) := by rw [hW]; exact old_cell _ (new_cell2 _ _ _ _ _ _ rfl rfl)
  have e1 : W.cell? ⟨w.heap.size, 1, none⟩ = some (.slice a0 z.length c0) := by rw [hW]; exact old_cell _ (new_cell2 _ _ _ _ _ _ rfl rfl)
  have e2 : W.cell? ⟨w.heap.size, 2, none⟩ = some (.int .i64 y) := by rw [hW]; exact old_cell _ (new_cell2 _ _ _ _ _ _ rfl rfl)
  have q0 : W.cell? ⟨w.heap.size + 1, 0, none⟩ = some (.bool false) := by rw [hW]; exact new_cell2 _ _ _ _ _ _ (by simp) rfl
  have f0 : W.frozen? ⟨w.heap.size + 1, 0, none⟩ = false := by rw [hW]; exact new_loose2 _ _ _ _ _ (by simp)
  have q1 : W.cell? ⟨w.heap.size + 1, 1, none⟩ = some (.slice none 0 0) := by rw [hW]; exact new_cell2 _ _ _ _ _ _ (by simp) rfl
  have f1 : W.frozen? ⟨w.heap.size + 1, 1, none⟩ = false := by rw [hW]; exact new_loose2 _ _ _ _ _ (by simp)
  have q2 : W.cell? ⟨w.heap.size + 1, 2, none⟩ = some (.int .i64 0) := by rw [hW]; exact new_cell2 _ _ _ _ _ _ (by simp) rfl
  have f2 : W.frozen? ⟨w.heap.size + 1, 2, none⟩ = false := by rw [hW]; exact new_loose2 _ _ _ _ _ (by simp)
  have q3 : W.cell? ⟨w.heap.size + 1, 3, none⟩ = some (.bool false) := by rw [hW]; exact new_cell2 _ _ _ _ _ _ (by simp) rfl
  have f3 : W.frozen? ⟨w.heap.size + 1, 3, none⟩ = false := by rw [hW]; exact new_loose2 _ _ _ _ _ (by simp)
  have q4 : W.cell? ⟨w.heap.size + 1, 4, none⟩ = some (.slice none 0 0) := by rw [hW]; exact new_cell2 _ _ _ _ _ _ (by simp) rfl
  have f4 : W.frozen? ⟨w.heap.size + 1, 4, none⟩ = false := by rw [hW]; exact new_loose2 _ _ _ _ _ (by simp)
  have q5 : W.cell? ⟨w.heap.size + 1, 5, none⟩ = some (.int .i64 0) := by rw [hW]; exact new_cell2 _ _ _ _ _ _ (by simp) rfl
  have f5 : W.frozen? ⟨w.heap.size + 1, 5, none⟩ = false := by rw [hW]; exact new_loose2 _ _ _ _ _ (by simp)
  have sW : W.heap.size = w.heap.size + 2 := by rw [hW]; simp
  have hk : dokB s z y = true := h
  have lz := dok_parts hk
  have hio := ivof_impl s y (by omega) (by omega) s y (by omega) (by omega) W (r.kept k0 (by omega)) (r.kept k0 (by omega)) (T.kept k0)
  obtain ⟨d1, d2, d3⟩ := dok_self hk
  have hC : ivC (iokB s z y s z y) (wval s z) y (wval s z) y = true := by unfold ivC; rw [iok_self, d1, d2, d3, hk]; rfl
  rw [hC, d1, d2, d3] at hio
  unfold IvAns at hio
  simp only [Bool.true_and, if_pos] at hio
  have K0 := hide k0
  have SW := hide sW
  rw [hW] at hio e0 e1 e2
  clear r h T k0 sW hk lz d1 d2 d3 hC
  go_enter Tryd.func20, Tryd.ntmps20
  go_wp2_with fail
  rw [← hW] at hio e0 e1 e2 ⊢
  clear hW
  refine hio.mono ?_
  rintro e w1 ⟨v1, v2, mid, rfl, r1, r2, m1, m2, k1⟩
  obtain ⟨a1, e1', hv⟩ := Row.form' r1
  subst hv
  obtain ⟨a2, e2', hv⟩ := Row.form' r2
  subst hv
  have sW := unhide SW
  replace f0 := k1.loose0 (World.block_lt_of_cell? _ _ q0) f0
  replace f1 := k1.loose0 (World.block_lt_of_cell? _ _ q1) f1
  replace f2 := k1.loose0 (World.block_lt_of_cell? _ _ q2) f2
  replace f3 := k1.loose0 (World.block_lt_of_cell? _ _ q3) f3
  replace f4 := k1.loose0 (World.block_lt_of_cell? _ _ q4) f4
  replace f5 := k1.loose0 (World.block_lt_of_cell? _ _ q5) f5
  replace q0 := k1.cell0 q0
  replace q1 := k1.cell0 q1
  replace q2 := k1.cell0 q2
  replace q3 := k1.cell0 q3
  replace q4 := k1.cell0 q4
  replace q5 := k1.cell0 q5
  have ks : Kept (w.heap.size + 1) (w.heap.size + 2) w1 ((((((w1.setCell ⟨w.heap.size + 1, 0, none⟩ (.bool s)).setCell ⟨w.heap.size + 1, 1, none⟩ (.slice a1 z.length e1')).setCell ⟨w.heap.size + 1, 2, none⟩ (.int .i64 y)).setCell ⟨w.heap.size + 1, 3, none⟩ (.bool s)).setCell ⟨w.heap.size + 1, 4, none⟩ (.slice a2 z.length e2')).setCell ⟨w.heap.size + 1, 5, none⟩ (.int .i64 y)) := (((((((Kept.refl (w.heap.size + 1) (w.heap.size + 2) w1).setCell (p := ⟨w.heap.size + 1, 0, none⟩) (Nat.le_refl _) (Nat.lt_succ_self _) (.bool s)).setCell (p := ⟨w.heap.size + 1, 1, none⟩) (Nat.le_refl _) (Nat.lt_succ_self _) (.slice a1 z.length e1')).setCell (p := ⟨w.heap.size + 1, 2, none⟩) (Nat.le_refl _) (Nat.lt_succ_self _) (.int .i64 y)).setCell (p := ⟨w.heap.size + 1, 3, none⟩) (Nat.le_refl _) (Nat.lt_succ_self _) (.bool s)).setCell (p := ⟨w.heap.size + 1, 4, none⟩) (Nat.le_refl _) (Nat.lt_succ_self _) (.slice a2 z.length e2')).setCell (p := ⟨w.heap.size + 1, 5, none⟩) (Nat.le_refl _) (Nat.lt_succ_self _) (.int .i64 y))
  have hsz : ((((((w1.setCell ⟨w.heap.size + 1, 0, none⟩ (.bool s)).setCell ⟨w.heap.size + 1, 1, none⟩ (.slice a1 z.length e1')).setCell ⟨w.heap.size + 1, 2, none⟩ (.int .i64 y)).setCell ⟨w.heap.size + 1, 3, none⟩ (.bool s)).setCell ⟨w.heap.size + 1, 4, none⟩ (.slice a2 z.length e2')).setCell ⟨w.heap.size + 1, 5, none⟩ (.int .i64 y)).heap.size = w1.heap.size := by rw [size_set, size_set, size_set, size_set, size_set, size_set]
  have R1 := hide ((r1.kept ks (by omega)).wider (lo' := w.heap.size) (by omega) (Nat.le_refl _))
  have R2 := hide ((r2.kept ks (by omega)).wider (lo' := mid) (hi' := ((((((w1.setCell ⟨w.heap.size + 1, 0, none⟩ (.bool s)).setCell ⟨w.heap.size + 1, 1, none⟩ (.slice a1 z.length e1')).setCell ⟨w.heap.size + 1, 2, none⟩ (.int .i64 y)).setCell ⟨w.heap.size + 1, 3, none⟩ (.bool s)).setCell ⟨w.heap.size + 1, 4, none⟩ (.slice a2 z.length e2')).setCell ⟨w.heap.size + 1, 5, none⟩ (.int .i64 y)).heap.size) (Nat.le_refl _) (by omega))
  have K7 := hide (((unhide K0).trans k1).wide ks (by omega))
  have HZ : Hid (w.heap.size ≤ mid ∧ mid ≤ ((((((w1.setCell ⟨w.heap.size + 1, 0, none⟩ (.bool s)).setCell ⟨w.heap.size + 1, 1, none⟩ (.slice a1 z.length e1')).setCell ⟨w.heap.size + 1, 2, none⟩ (.int .i64 y)).setCell ⟨w.heap.size + 1, 3, none⟩ (.bool s)).setCell ⟨w.heap.size + 1, 4, none⟩ (.slice a2 z.length e2')).setCell ⟨w.heap.size + 1, 5, none⟩ (.int .i64 y)).heap.size) := ⟨by omega, by omega⟩
  clear hio r1 r2 m1 m2 k1 ks hsz K0 sW e0 e1 e2
  go_wp2
  exact bodyPost_ret (v := .tuple #[.agg #[.bool s, .slice a1 z.length e1', .int .i64 y, .bool s, .slice a2 z.length e2', .int .i64 y], .bool true]) (by simp [results, Tryd.results20, go_sem, q0, q1, q2, q3, q4, q5]) rfl ⟨_, _, mid, rfl, unhide R1, unhide R2, (unhide HZ).1, (unhide HZ).2, unhide K7⟩

set_option maxHeartbeats 16000000 in
theorem toldAllO_impl {lo hi : Nat} {v : Value} {ds : List DE} (w : World) (hn : ds.length ≤ 100) (r : Dys lo hi w v ds) (U : ∀ i, i < ds.length → dOkE (ds.getD i de0) = true) (T : TabB w) :
    Calls Tryd.prog 35 #[v, .func (.func 20) #[] #[]] w fun e w' => ∃ v', e = .returned (.tuple #[v', .bool true]) ∧ IvsO w.heap.size w'.heap.size w' v' (dbL ds ds.length) ds.length ∧ Kept 0 0 w w' := by
  obtain ⟨n, hnn⟩ : ∃ n, n = ds.length := ⟨_, rfl⟩
  obtain ⟨a0, c0, rfl, -, -⟩ := r.form
  rw [← hnn] at hn r ⊢
  obtain ⟨DL, hDL⟩ : ∃ DL, DL = dbL ds n := ⟨_, rfl⟩
  rw [← hDL]
  have HDL := hide hDL
  have R := hide r
  have HU := hide U
  have TT := hide T
  have HN := hide hnn
  have HLEN : Hid (DL.length = 2 * n) := by show _ = _; rw [hDL]; exact dbL_len _ _
  clear r U T hDL hnn
  obtain ⟨i0, hi0, hz0, hz1, hz2⟩ := info_parts Tryd.infoIv
  have hb0 : i0.bytes * n ≤ 281474976710656 := by rw [hz2]; omega
  have hm0 : n ≤ maxLen := by unfold maxLen; omega
  have HM := hide (show 2 * n ≤ maxLen by unfold maxLen; omega)
  go_enter Tryd.func35, Tryd.ntmps35
  go_wp2_with (at_make; refine wpList_make_full _ rfl _ _ 26 rfl w.heap.size 54 i0 (.agg #[.bool false, .slice none 0 0, .int .i64 0, .bool false, .slice none 0 0, .int .i64 0]) 6 Tryd.underlying26 hi0 hz0 hz1 .i64 .i64 _ _ n rfl rfl rfl rfl hb0 hm0 (Nat.le_refl _) ?_; intro w1 hown hgrow)
  have F0 := made_fill6F (w := w) (ds := DL) hown
  have k1 : Kept 0 0 w w1 := ⟨hgrow.os, hgrow.tape, hgrow.output, hgrow.size, fun i hi _ => hgrow.block i hi (by simp)⟩
  clear hown hgrow hi0 hz0 hz1 hz2 hb0 hm0
  obtain ⟨g, hg⟩ : ∃ g, g = w.heap.size := ⟨_, rfl⟩
  rw [← hg] at F0
  rw [← hg]
  have F1 := hide F0
  have K2 := hide k1
  have HG := hide hg
  clear F0 k1 hg
  go_loopw [16] (fun s16 wr => ∃ j : Nat, s16 = .int .i64 j ∧ j ≤ n ∧ Hid (Fill 0 g (2 * n) DL (2 * j) wr) ∧ Hid (Kept 0 0 w wr) ∧ Hid (Kept g (g + 1) w1 wr)) (fun s16 _ => n - (intOf s16).toNat)
  case atStart => exact ⟨0, rfl, Nat.zero_le _, F1, K2, Kept.refl _ _ _⟩
  case round =>
    clear F1 K2
    obtain ⟨j, rfl, hj, hF, k, kg⟩ := hrel
    have hwj : IntKind.i64.wrap ((j : Int) + 1) = ((j + 1 : Nat) : Int) := by rw [IntKind.wrap_i64]; omega
    by_cases hlt : j < n
    · have hjl : j < ds.length := by rw [← unhide HN]; exact hlt
      have rk := (unhide R).kept (unhide k) (by omega)
      rw [unhide HN] at rk
      obtain ⟨gA, off, ln, rfl, -, -, -, b, kk, c0, c1, c2, hln, rr⟩ := rk.at (i := j) hjl
      have hk0 := unhide HU j hjl
      have HE0 : DL.getD (2 * j) de0 = ds.getD j de0 := by rw [unhide HDL]; exact dbL_lo hlt
      have HE1 : DL.getD (2 * j + 1) de0 = ds.getD j de0 := by rw [unhide HDL]; exact dbL_hi hlt
      obtain ⟨⟨s0, z0, y0⟩, hE⟩ : ∃ q, q = ds.getD j de0 := ⟨_, rfl⟩
      rw [← hE] at HE0 HE1 c0 c2 rr hk0
      dsimp only at c0 c2 rr
      have kA := (Kept.refl 0 0 wr).alloc (.cells #[.bool s0, .slice b ln kk, .int .i64 y0] 52)
      have t0 : (wr.alloc (.cells #[.bool s0, .slice b ln kk, .int .i64 y0] 52)).cell? ⟨wr.heap.size, 0, none⟩ = some (.bool s0) := new_cell2 _ _ _ _ _ _ rfl rfl
      have t1 : (wr.alloc (.cells #[.bool s0, .slice b ln kk, .int .i64 y0] 52)).cell? ⟨wr.heap.size, 1, none⟩ = some (.slice b ln kk) := new_cell2 _ _ _ _ _ _ rfl rfl
      have t2 : (wr.alloc (.cells #[.bool s0, .slice b ln kk, .int .i64 y0] 52)).cell? ⟨wr.heap.size, 2, none⟩ = some (.int .i64 y0) := new_cell2 _ _ _ _ _ _ rfl rfl
      have hc2 := ivMatOf1_impl s0 y0 (wr.alloc (.cells #[.bool s0, .slice b ln kk, .int .i64 y0] 52)) (rr.kept kA (by omega)) hk0 ((unhide TT).kept ((unhide k).trans kA))
      have hzA : (wr.alloc (.cells #[.bool s0, .slice b ln kk, .int .i64 y0] 52)).heap.size = wr.heap.size + 1 := by simp
      have KA := hide kA
      have HP0 := hide HE0
      have HP1 := hide HE1
      have HZA := hide hzA
      clear hE hln rr hjl kA rk hk0 HE0 HE1 hzA
      go_wp2_with fail
      refine hc2.mono ?_
      rintro e w3 ⟨v3, v4, mid, rfl, r3, r4, hm1, hm2, k3⟩
      obtain ⟨a3, d3, hv3⟩ := Row.form' r3
      subst hv3
      obtain ⟨a4, d4, hv4⟩ := Row.form' r4
      subst hv4
      have hzA := unhide HZA
      have kB := (Kept.refl 0 0 w3).alloc (.cells #[.bool s0, .slice a3 z0.length d3, .int .i64 y0, .bool s0, .slice a4 z0.length d4, .int .i64 y0] 54)
      have k4 : Kept 0 0 wr (w3.alloc (.cells #[.bool s0, .slice a3 z0.length d3, .int .i64 y0, .bool s0, .slice a4 z0.length d4, .int .i64 y0] 54)) := ((unhide KA).trans k3).trans kB
      have z34 : (w3.alloc (.cells #[.bool s0, .slice a3 z0.length d3, .int .i64 y0, .bool s0, .slice a4 z0.length d4, .int .i64 y0] 54)).heap.size = w3.heap.size + 1 := by simp
      have q3 := (r3.kept kB (by omega)).wider (lo' := wr.heap.size) (by omega) (Nat.le_refl _)
      have q4 := (r4.kept kB (by omega)).wider (lo' := mid) (hi' := (w3.alloc (.cells #[.bool s0, .slice a3 z0.length d3, .int .i64 y0, .bool s0, .slice a4 z0.length d4, .int .i64 y0] 54)).heap.size) (Nat.le_refl _) (by omega)
      have hmA : wr.heap.size ≤ mid := by omega
      have hFl := (unhide hF).lt
      have u0 : (w3.alloc (.cells #[.bool s0, .slice a3 z0.length d3, .int .i64 y0, .bool s0, .slice a4 z0.length d4, .int .i64 y0] 54)).cell? ⟨w3.heap.size, 0, none⟩ = some (.bool s0) := new_cell2 _ _ _ _ _ _ rfl rfl
      have u1 : (w3.alloc (.cells #[.bool s0, .slice a3 z0.length d3, .int .i64 y0, .bool s0, .slice a4 z0.length d4, .int .i64 y0] 54)).cell? ⟨w3.heap.size, 1, none⟩ = some (.slice a3 z0.length d3) := new_cell2 _ _ _ _ _ _ rfl rfl
      have u2 : (w3.alloc (.cells #[.bool s0, .slice a3 z0.length d3, .int .i64 y0, .bool s0, .slice a4 z0.length d4, .int .i64 y0] 54)).cell? ⟨w3.heap.size, 2, none⟩ = some (.int .i64 y0) := new_cell2 _ _ _ _ _ _ rfl rfl
      have u3 : (w3.alloc (.cells #[.bool s0, .slice a3 z0.length d3, .int .i64 y0, .bool s0, .slice a4 z0.length d4, .int .i64 y0] 54)).cell? ⟨w3.heap.size, 3, none⟩ = some (.bool s0) := new_cell2 _ _ _ _ _ _ rfl rfl
      have u4 : (w3.alloc (.cells #[.bool s0, .slice a3 z0.length d3, .int .i64 y0, .bool s0, .slice a4 z0.length d4, .int .i64 y0] 54)).cell? ⟨w3.heap.size, 4, none⟩ = some (.slice a4 z0.length d4) := new_cell2 _ _ _ _ _ _ rfl rfl
      have u5 : (w3.alloc (.cells #[.bool s0, .slice a3 z0.length d3, .int .i64 y0, .bool s0, .slice a4 z0.length d4, .int .i64 y0] 54)).cell? ⟨w3.heap.size, 5, none⟩ = some (.int .i64 y0) := new_cell2 _ _ _ _ _ _ rfl rfl
      obtain ⟨x0, hx0⟩ := (unhide hF).cell (j * 6) (by omega)
      have f0 := k4.loose0 (a := ⟨g, j * 6, none⟩) hFl ((unhide hF).loose (j * 6) (by omega))
      replace hx0 := k4.cell0 hx0
      obtain ⟨x1, hx1⟩ := (unhide hF).cell (j * 6 + 1) (by omega)
      have f1 := k4.loose0 (a := ⟨g, j * 6 + 1, none⟩) hFl ((unhide hF).loose (j * 6 + 1) (by omega))
      replace hx1 := k4.cell0 hx1
      obtain ⟨x2, hx2⟩ := (unhide hF).cell (j * 6 + 2) (by omega)
      have f2 := k4.loose0 (a := ⟨g, j * 6 + 2, none⟩) hFl ((unhide hF).loose (j * 6 + 2) (by omega))
      replace hx2 := k4.cell0 hx2
      obtain ⟨x3, hx3⟩ := (unhide hF).cell (j * 6 + 3) (by omega)
      have f3 := k4.loose0 (a := ⟨g, j * 6 + 3, none⟩) hFl ((unhide hF).loose (j * 6 + 3) (by omega))
      replace hx3 := k4.cell0 hx3
      obtain ⟨x4, hx4⟩ := (unhide hF).cell (j * 6 + 4) (by omega)
      have f4 := k4.loose0 (a := ⟨g, j * 6 + 4, none⟩) hFl ((unhide hF).loose (j * 6 + 4) (by omega))
      replace hx4 := k4.cell0 hx4
      obtain ⟨x5, hx5⟩ := (unhide hF).cell (j * 6 + 5) (by omega)
      have f5 := k4.loose0 (a := ⟨g, j * 6 + 5, none⟩) hFl ((unhide hF).loose (j * 6 + 5) (by omega))
      replace hx5 := k4.cell0 hx5
      have F5 := hide ((unhide hF).two hlt k4 q3 q4 hmA (by omega) (unhide HP0) (unhide HP1))
      have hgg := unhide HG
      have ks : Kept g (g + 1) (w3.alloc (.cells #[.bool s0, .slice a3 z0.length d3, .int .i64 y0, .bool s0, .slice a4 z0.length d4, .int .i64 y0] 54)) (((((((w3.alloc (.cells #[.bool s0, .slice a3 z0.length d3, .int .i64 y0, .bool s0, .slice a4 z0.length d4, .int .i64 y0] 54)).setCell ⟨g, j * 6, none⟩ (.bool s0)).setCell ⟨g, j * 6 + 1, none⟩ (.slice a3 z0.length d3)).setCell ⟨g, j * 6 + 2, none⟩ (.int .i64 y0)).setCell ⟨g, j * 6 + 3, none⟩ (.bool s0)).setCell ⟨g, j * 6 + 4, none⟩ (.slice a4 z0.length d4)).setCell ⟨g, j * 6 + 5, none⟩ (.int .i64 y0)) := (((((((Kept.refl g (g + 1) (w3.alloc (.cells #[.bool s0, .slice a3 z0.length d3, .int .i64 y0, .bool s0, .slice a4 z0.length d4, .int .i64 y0] 54))).setCell (p := ⟨g, j * 6, none⟩) (Nat.le_refl _) (Nat.lt_succ_self _) (.bool s0)).setCell (p := ⟨g, j * 6 + 1, none⟩) (Nat.le_refl _) (Nat.lt_succ_self _) (.slice a3 z0.length d3)).setCell (p := ⟨g, j * 6 + 2, none⟩) (Nat.le_refl _) (Nat.lt_succ_self _) (.int .i64 y0)).setCell (p := ⟨g, j * 6 + 3, none⟩) (Nat.le_refl _) (Nat.lt_succ_self _) (.bool s0)).setCell (p := ⟨g, j * 6 + 4, none⟩) (Nat.le_refl _) (Nat.lt_succ_self _) (.slice a4 z0.length d4)).setCell (p := ⟨g, j * 6 + 5, none⟩) (Nat.le_refl _) (Nat.lt_succ_self _) (.int .i64 y0))
      have K5 := hide (((unhide k).trans k4).wide ks (by omega))
      have KG5 := hide (((unhide kg).trans k4.any).trans ks)
      clear hgg ks q3 q4 hm1 hm2 z34 hmA hzA HZA KA hc2 r3 r4 k3 kB k4 hFl hF k kg t0 t1 t2 c0 c1 c2 HP0 HP1
      go_wp2
      go_roundw
      case rel => exact ⟨j + 1, by simp, hlt, F5, K5, KG5⟩
      case measure => simp [intOf]; omega
    · have hjn : j = n := by omega
      subst hjn
      have hgg := unhide HG
      have D := ivsO_done (unhide hF) (unhide HLEN) (unhide HM)
      have DD := hide (D.wider (lo' := w.heap.size) (hi' := wr.heap.size) (by omega) (by omega))
      have K7 := hide (unhide k)
      clear hF k kg D hgg
      go_wp2
      exact bodyPost_ret (v := .tuple #[.slice (some ⟨g, 0, none⟩) j j, .bool true]) (by simp [results, Tryd.results35, go_sem]) rfl ⟨.slice (some ⟨g, 0, none⟩) j j, rfl, unhide DD, unhide K7⟩

set_option maxHeartbeats 4000000 in
theorem toldIvMatO_impl {lo hi : Nat} {v : Value} {ds : List DE} (m : Int) (w : World) (hn : ds.length ≤ 100) (r : Dys lo hi w v ds) (U : ∀ i, i < ds.length → dOkE (ds.getD i de0) = true) (T : TabB w) :
    Calls Tryd.prog 19 #[.int .i64 m, v, .func (.func 20) #[] #[]] w fun e w' => ∃ v', e = .returned (.tuple #[.agg #[.int .i64 m, v'], .bool true]) ∧ IvsO w.heap.size w'.heap.size w' v' (dbL ds ds.length) ds.length ∧ Kept 0 0 w w' := by
  obtain ⟨W, hW⟩ : ∃ W, W = w.alloc (.cells #[.int .i64 0, .slice none 0 0] 28) := ⟨_, rfl⟩
  have k0 : Kept 0 0 w W := by rw [hW]; exact (Kept.refl 0 0 w).alloc _
  have q0 : W.cell? ⟨w.heap.size, 0, none⟩ = some (.int .i64 0) := by rw [hW]; exact new_cell2 _ _ _ _ _ _ rfl rfl
  have q1 : W.cell? ⟨w.heap.size, 1, none⟩ = some (.slice none 0 0) := by rw [hW]; exact new_cell2 _ _ _ _ _ _ rfl rfl
  have f0 : W.frozen? ⟨w.heap.size, 0, none⟩ = false := by rw [hW]; exact new_loose2 _ _ _ _ _ rfl
  have f1 : W.frozen? ⟨w.heap.size, 1, none⟩ = false := by rw [hW]; exact new_loose2 _ _ _ _ _ rfl
  have sW : W.heap.size = w.heap.size + 1 := by rw [hW]; simp
  have ta := toldAllO_impl W hn (r.kept k0 (by omega)) U (T.kept k0)
  obtain ⟨a0, c0, rfl, -, -⟩ := r.form
  obtain ⟨LL, hLL⟩ : ∃ x, x = dbL ds ds.length := ⟨_, rfl⟩
  obtain ⟨nn, hnn⟩ : ∃ x, x = ds.length := ⟨_, rfl⟩
  rw [← hLL] at ta ⊢
  have SW := hide sW
  have K0 := hide k0
  clear r U T hn hLL sW k0 hnn
  go_enter Tryd.func19, Tryd.ntmps19
  go_wp2_with fail
  rw [← hW]
  clear hW
  refine ta.mono ?_
  rintro e w1 ⟨v1, rfl, d1, k1⟩
  obtain ⟨a1, c1, hv1⟩ := d1.form'
  subst hv1
  have sW := unhide SW
  replace f0 := k1.loose0 (World.block_lt_of_cell? _ _ q0) f0
  replace f1 := k1.loose0 (World.block_lt_of_cell? _ _ q1) f1
  replace q0 := k1.cell0 q0
  replace q1 := k1.cell0 q1
  have z1 := k1.size
  have ks : Kept w.heap.size (w.heap.size + 1) w1 ((w1.setCell ⟨w.heap.size, 0, none⟩ (.int .i64 m)).setCell ⟨w.heap.size, 1, none⟩ (.slice a1 ds.length c1)) := ((Kept.refl _ _ _).setCell (p := ⟨w.heap.size, 0, none⟩) (Nat.le_refl _) (Nat.lt_succ_self _) _).setCell (p := ⟨w.heap.size, 1, none⟩) (Nat.le_refl _) (Nat.lt_succ_self _) _
  have hsz : ((w1.setCell ⟨w.heap.size, 0, none⟩ (.int .i64 m)).setCell ⟨w.heap.size, 1, none⟩ (.slice a1 ds.length c1)).heap.size = w1.heap.size := by rw [size_set, size_set]
  have DD := hide ((d1.kept ks (by omega)).wider (lo' := w.heap.size) (hi' := ((w1.setCell ⟨w.heap.size, 0, none⟩ (.int .i64 m)).setCell ⟨w.heap.size, 1, none⟩ (.slice a1 ds.length c1)).heap.size) (by omega) (by omega))
  have K7 := hide (((unhide K0).trans k1).wide ks (by omega))
  have G0 := cell_off _ _ _ 1 (.slice a1 ds.length c1) _ (cell_on _ _ _ (.int .i64 m) _ q0) (show (0 : Nat) ≠ 1 by omega)
  have G1 := cell_on _ _ _ (.slice a1 ds.length c1) _ (cell_off _ _ _ 0 (.int .i64 m) _ q1 (show (1 : Nat) ≠ 0 by omega))
  clear ta d1 k1 ks hsz K0 sW z1
  go_wp2
  exact bodyPost_ret (v := .tuple #[.agg #[.int .i64 m, .slice a1 ds.length c1], .bool true]) (by simp [results, Tryd.results19, go_sem, G0, G1]) rfl ⟨_, rfl, unhide DD, unhide K7⟩

set_option maxHeartbeats 8000000 in
theorem ivMatOf_impl {lo hi : Nat} {v : Value} {ds : List DE} (n : Int) (w : World) (hw : WfD ds) (r : Dys lo hi w v ds) (T : TabB w) :
    Calls Tryd.prog 7 #[.agg #[.int .i64 n, v]] w fun e w' => ∃ v', e = .returned (.tuple #[.agg #[.int .i64 (ofN n ds), v'], .bool (mokB n ds)]) ∧ IvsO w.heap.size w'.heap.size w' v' (ofL n ds) (ofC n ds) ∧ Kept 0 0 w w' := by
  obtain ⟨W, hW⟩ : ∃ W, W = (w.alloc (.cells #[.int .i64 n, v] 33)).alloc (.cells #[.int .i64 0, .slice none 0 0] 28) := ⟨_, rfl⟩
  have k0 : Kept 0 0 w W := by rw [hW]; exact ((Kept.refl 0 0 w).alloc _).alloc _
  have c0 : W.cell? ⟨w.heap.size, 0, none⟩ = some (.int .i64 n) := by rw [hW]; exact old_cell _ (new_cell2 _ _ _ _ _ _ (by simp) rfl)
  have c1 : W.cell? ⟨w.heap.size, 1, none⟩ = some v := by rw [hW]; exact old_cell _ (new_cell2 _ _ _ _ _ _ (by simp) rfl)
  have q0 : W.cell? ⟨w.heap.size + 1, 0, none⟩ = some (.int .i64 0) := by rw [hW]; exact new_cell2 _ _ _ _ _ _ (by simp) rfl
  have q1 : W.cell? ⟨w.heap.size + 1, 1, none⟩ = some (.slice none 0 0) := by rw [hW]; exact new_cell2 _ _ _ _ _ _ (by simp) rfl
  have f0 : W.frozen? ⟨w.heap.size + 1, 0, none⟩ = false := by rw [hW]; exact new_loose2 _ _ _ _ _ (by simp)
  have f1 : W.frozen? ⟨w.heap.size + 1, 1, none⟩ = false := by rw [hW]; exact new_loose2 _ _ _ _ _ (by simp)
  have sW : W.heap.size = w.heap.size + 2 := by rw [hW]; simp
  have r0 := r.kept k0 (by omega)
  have ho := matOk_impl n W hw r0
  obtain ⟨a, c, rfl, -, -⟩ := r.form
  obtain ⟨NN, hNN⟩ : ∃ q, q = ofN n ds := ⟨_, rfl⟩
  obtain ⟨LL, hLL⟩ : ∃ q, q = ofL n ds := ⟨_, rfl⟩
  obtain ⟨CC, hCC⟩ : ∃ q, q = ofC n ds := ⟨_, rfl⟩
  obtain ⟨BB, hBB⟩ : ∃ q, q = mokB n ds := ⟨_, rfl⟩
  rw [← hBB] at ho
  rw [← hNN, ← hLL, ← hCC, ← hBB]
  have HYES : Hid (BB = true → NN = n ∧ LL = dbL ds ds.length ∧ CC = ds.length) := fun h => by rw [hNN, hLL, hCC]; exact of_yes (by rw [← hBB]; exact h)
  have HNO : Hid (BB = false → NN = 0 ∧ LL = [] ∧ CC = 0) := fun h => by rw [hNN, hLL, hCC]; exact of_no (by rw [← hBB]; exact h)
  have HBB := hide hBB
  rw [hW] at ho
  clear r hNN hLL hCC hBB
  go_enter Tryd.func7, Tryd.ntmps7
  go_wp2_with fail
  rw [← hW] at ho ⊢
  clear hW
  refine ho.mono ?_
  rintro e w1 ⟨rfl, k1⟩
  replace f0 := k1.loose0 (World.block_lt_of_cell? _ _ q0) f0
  replace f1 := k1.loose0 (World.block_lt_of_cell? _ _ q1) f1
  replace c0 := k1.cell0 c0
  replace c1 := k1.cell0 c1
  replace q0 := k1.cell0 q0
  replace q1 := k1.cell0 q1
  replace r0 := r0.kept k1 (by omega)
  have K1 := hide (k0.trans k1)
  have z1 := k1.size
  clear ho k0 k1
  cases hb : BB
  · obtain ⟨h1, h2, h3⟩ := unhide HNO hb
    subst h1; subst h2; subst h3; subst hb
    have K7 := hide (((unhide K1).setNew (p := ⟨w.heap.size + 1, 0, none⟩) (by simp) (.int .i64 0)).setNew (p := ⟨w.heap.size + 1, 1, none⟩) (by simp) (.slice none 0 0))
    clear r0 K1 HYES HNO HBB
    go_wp2
    exact bodyPost_ret (v := .tuple #[.agg #[.int .i64 0, .slice none 0 0], .bool false]) (by simp [results, Tryd.results7, go_sem, q0, q1]) rfl ⟨.slice none 0 0, rfl, IvsO.nil _ _ _, unhide K7⟩
  obtain ⟨h1, h2, h3⟩ := unhide HYES hb
  have hk : mokB n ds = true := by rw [← unhide HBB]; exact hb
  subst hb
  have HH := hide (And.intro h1 (And.intro h2 h3))
  clear HYES HNO HBB h1 h2 h3
  obtain ⟨u1, u2, u3, U⟩ := mok_partsA hk
  have hlen : ds.length ≤ 100 := by
    obtain ⟨k, rfl⟩ := Int.eq_ofNat_of_zero_le (show 0 ≤ n by omega)
    have : ds.length = k * k := by rw [← Int.natCast_mul] at u3; omega
    have h16 : k * k ≤ 4 * 4 := Nat.mul_le_mul (by omega) (by omega)
    omega
  have HSW := hide (show w.heap.size + 2 ≤ w1.heap.size by omega)
  clear sW z1
  have ht := toldIvMatO_impl n w1 hlen r0 U (T.kept (unhide K1))
  clear r0 U T hlen hk
  go_wp2_with fail
  refine ht.mono ?_
  rintro e w5 ⟨v5, rfl, r5, k5⟩
  obtain ⟨a5, e5, hv5⟩ := r5.form'
  subst hv5
  have hsw := unhide HSW
  replace f0 := k5.loose0 (World.block_lt_of_cell? _ _ q0) f0
  replace f1 := k5.loose0 (World.block_lt_of_cell? _ _ q1) f1
  replace q0 := k5.cell0 q0
  replace q1 := k5.cell0 q1
  have z5 := k5.size
  have ks : Kept (w.heap.size + 1) (w.heap.size + 2) w5 ((w5.setCell ⟨w.heap.size + 1, 0, none⟩ (.int .i64 n)).setCell ⟨w.heap.size + 1, 1, none⟩ (.slice a5 ds.length e5)) := ((Kept.refl _ _ _).setCell (p := ⟨w.heap.size + 1, 0, none⟩) (Nat.le_refl _) (Nat.lt_succ_self _) _).setCell (p := ⟨w.heap.size + 1, 1, none⟩) (Nat.le_refl _) (Nat.lt_succ_self _) _
  have K7 := hide (((unhide K1).trans k5).wide ks (by omega))
  have hsz : ((w5.setCell ⟨w.heap.size + 1, 0, none⟩ (.int .i64 n)).setCell ⟨w.heap.size + 1, 1, none⟩ (.slice a5 ds.length e5)).heap.size = w5.heap.size := by rw [size_set, size_set]
  have R7 := hide ((r5.kept ks (by omega)).wider (lo' := w.heap.size) (hi' := ((w5.setCell ⟨w.heap.size + 1, 0, none⟩ (.int .i64 n)).setCell ⟨w.heap.size + 1, 1, none⟩ (.slice a5 ds.length e5)).heap.size) (by omega) (by omega))
  clear ht r5 k5 ks hsz K1 hsw z5 c0 c1
  go_wp2
  exact bodyPost_ret (v := .tuple #[.agg #[.int .i64 n, .slice a5 ds.length e5], .bool true]) (by simp [results, Tryd.results7, go_sem, q0, q1]) rfl ⟨.slice a5 ds.length e5, by rw [(unhide HH).1], by rw [(unhide HH).2.1, (unhide HH).2.2]; exact unhide R7, unhide K7⟩

end Go.Proofs.YthahoabkehcgbaaDoor
