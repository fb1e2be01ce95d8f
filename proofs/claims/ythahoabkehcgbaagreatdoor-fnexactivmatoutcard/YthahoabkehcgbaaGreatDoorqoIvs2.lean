/-
  Lists of intervals that a call owns: made, marked, held.
-/
import Derived.Test.YthahoabkehcgbaaGreatDoorqoIWCmp
import Derived.Test.YthahoabkehcgbaaGreatDoorqoDys4
namespace Go.Proofs.YthahoabkehcgbaaGreatDoor
open Go.RowKit
set_option linter.unusedVariables false
set_option maxRecDepth 8000
set_option linter.unusedSimpArgs false

/-- The list v has n intervals, and is a call's own. -/
def IvsO (lo hi : Nat) (w : World) (v : Value) (ds : List DE) (n : Nat) : Prop :=
  ∃ a c, v = .slice a n c ∧ n ≤ c ∧ c ≤ maxLen ∧ ds.length = 2 * n ∧ DysO lo hi w (.slice a ds.length ds.length) ds
theorem IvsO.read {lo hi n : Nat} {w : World} {v : Value} {ds : List DE} (r : IvsO lo hi w v ds n) : Ivs lo hi w v ds n := by
  obtain ⟨a, c, rfl, h1, h2, h3, h4⟩ := r
  refine ⟨a, c, rfl, h1, h2, h3, fun hz => ?_⟩
  obtain ⟨a', c', e, -, -, q⟩ := h4.read
  cases e
  exact q (fun e => by rw [e] at h3; simp at h3; omega)
theorem IvsO.kept {lo hi l h n : Nat} {w w' : World} {v : Value} {ds : List DE} (r : IvsO lo hi w v ds n) (q : Kept l h w w') (hd : hi ≤ l ∨ h ≤ lo ∨ h ≤ l) : IvsO lo hi w' v ds n := by
  obtain ⟨a, c, rfl, h1, h2, h3, h4⟩ := r
  exact ⟨a, c, rfl, h1, h2, h3, h4.kept q hd⟩
theorem IvsO.wider {lo hi lo' hi' n : Nat} {w : World} {v : Value} {ds : List DE} (r : IvsO lo hi w v ds n) (h1 : lo' ≤ lo) (h2 : hi ≤ hi') : IvsO lo' hi' w v ds n := by
  obtain ⟨a, c, rfl, q1, q2, q3, q4⟩ := r
  exact ⟨a, c, rfl, q1, q2, q3, q4.wider h1 h2⟩
theorem IvsO.form {lo hi n : Nat} {w : World} {v : Value} {ds : List DE} (r : IvsO lo hi w v ds n) : ∃ a c, v = .slice a n c ∧ n ≤ c ∧ c ≤ maxLen := by
  obtain ⟨a, c, rfl, h1, h2, -⟩ := r
  exact ⟨a, c, rfl, h1, h2⟩
theorem IvsO.form' {lo hi n : Nat} {w : World} {v : Value} {ds : List DE} (r : IvsO lo hi w v ds n) : ∃ a c, v = .slice a n c := by
  obtain ⟨a, c, rfl, -⟩ := r
  exact ⟨a, c, rfl⟩
theorem szT_szV {n : Nat} {ds : List DE} (h : ds.length = 2 * n) : szT ds = szV ds n + n := by unfold szT szV; rw [h]; omega
theorem IvsO.nil (lo hi : Nat) (w : World) : IvsO lo hi w (.slice none 0 0) [] 0 := ⟨none, 0, rfl, Nat.le_refl _, Nat.zero_le _, rfl, none, 0, rfl, Nat.le_refl _, Nat.zero_le _, fun h => absurd rfl h⟩

theorem made_fill6F {w w1 : World} {n : Nat} {ds : List DE} (hown : w1.ownsRow w.heap.size 102 6 (.slice (some ⟨w.heap.size, 0, none⟩) n n) n (madeCells (Value.agg #[.bool false, .slice none 0 0, .int .i64 0, .bool false, .slice none 0 0, .int .i64 0]).cells (n * 6)).toList) : Fill 0 w.heap.size (2 * n) ds (2 * 0) w1 := by
  obtain ⟨h1, h2⟩ := own6 hown
  refine ⟨h1, ⟨fun _ => 0, fun i hi => by omega, fun i i' _ hi => by omega⟩, fun k hk => ?_, fun k hk => ?_⟩
  · obtain ⟨u, hu⟩ := made6 (.agg #[.bool false, .slice none 0 0, .int .i64 0, .bool false, .slice none 0 0, .int .i64 0]) rfl n k (by omega)
    exact ⟨u, (h2 k u hu).1⟩
  · obtain ⟨u, hu⟩ := made6 (.agg #[.bool false, .slice none 0 0, .int .i64 0, .bool false, .slice none 0 0, .int .i64 0]) rfl n k (by omega)
    exact (h2 k u hu).2
/-- One more interval. -/
theorem Fill.two {g n j mid : Nat} {ds : List DE} {w w' : World} {s s' : Bool} {u u' : Value} {y y' : Int} {z z' : List Int} (f : Fill 0 g (2 * n) ds (2 * j) w) (hj : j < n) (k : Kept 0 0 w w') (r : Row .i64 true w.heap.size mid w' u z) (r' : Row .i64 true mid w'.heap.size w' u' z') (hm : w.heap.size ≤ mid) (hm' : mid ≤ w'.heap.size) (he : ds.getD (2 * j) de0 = (s, z, y)) (he' : ds.getD (2 * j + 1) de0 = (s', z', y')) :
    Fill 0 g (2 * n) ds (2 * (j + 1)) ((((((w'.setCell ⟨g, j * 6, none⟩ (.bool s)).setCell ⟨g, j * 6 + 1, none⟩ u).setCell ⟨g, j * 6 + 2, none⟩ (.int .i64 y)).setCell ⟨g, j * 6 + 3, none⟩ (.bool s')).setCell ⟨g, j * 6 + 4, none⟩ u').setCell ⟨g, j * 6 + 5, none⟩ (.int .i64 y')) := by
  obtain ⟨hlt, ⟨b, hb, hmono⟩, hcell, hloose⟩ := f
  obtain ⟨q, hq1, hq⟩ := r.block1
  obtain ⟨q', hq1', hq'⟩ := r'.block1
  have hz : (ds.getD (2 * j) de0).2.1 = z := by rw [he]
  have hz' : (ds.getD (2 * j + 1) de0).2.1 = z' := by rw [he']
  have hsz := k.size
  have hcell' : ∀ k, k < 2 * n * 3 → ∃ u, w'.cell? ⟨g, k, none⟩ = some u := fun k' hk' => by obtain ⟨x, hx⟩ := hcell k' hk'; exact ⟨x, k.cell0 hx⟩
  obtain ⟨W1, hW1⟩ : ∃ W1, W1 = ((w'.setCell ⟨g, j * 6, none⟩ (.bool s)).setCell ⟨g, j * 6 + 1, none⟩ u).setCell ⟨g, j * 6 + 2, none⟩ (.int .i64 y) := ⟨_, rfl⟩
  have k1 : Kept g (g + 1) w' W1 := by rw [hW1]; exact (((Kept.refl g (g + 1) w').setCell (p := ⟨g, j * 6, none⟩) (Nat.le_refl _) (Nat.lt_succ_self _) _).setCell (p := ⟨g, j * 6 + 1, none⟩) (Nat.le_refl _) (Nat.lt_succ_self _) _).setCell (p := ⟨g, j * 6 + 2, none⟩) (Nat.le_refl _) (Nat.lt_succ_self _) _
  have s1 : W1.heap.size = w'.heap.size := by rw [hW1, size_set, size_set, size_set]
  have hcell1 : ∀ k, k < 2 * n * 3 → ∃ u, W1.cell? ⟨g, k, none⟩ = some u := fun k' hk' => by
    obtain ⟨x, hx⟩ := hcell' k' hk'
    obtain ⟨x1, hx1⟩ := cells_of_setCell (p := j * 6) (u := .bool s) hx
    obtain ⟨x2, hx2⟩ := cells_of_setCell (p := j * 6 + 1) (u := u) hx1
    rw [hW1]
    exact cells_of_setCell (p := j * 6 + 2) (u := .int .i64 y) hx2
  have dA : DyAt true q (q + 1) W1 g (j * 6) (s, z, y) := by rw [hW1]; exact DyAt.store (hcell' _ (by omega)) (hcell' _ (by omega)) (hcell' _ (by omega)) hq (fun e => by have := hq1 e; omega)
  have rB : Row .i64 true q' (q' + 1) W1 u' z' := by
    by_cases e : z' = []
    · exact hq'.none e
    · exact hq'.kept k1 (by have := hq1' e; omega)
  rw [← hW1]
  have dB : DyAt true q' (q' + 1) (((W1.setCell ⟨g, j * 6 + 3, none⟩ (.bool s')).setCell ⟨g, j * 6 + 4, none⟩ u').setCell ⟨g, j * 6 + 5, none⟩ (.int .i64 y')) g (j * 6 + 3) (s', z', y') := DyAt.store (hcell1 _ (by omega)) (hcell1 _ (by omega)) (hcell1 _ (by omega)) rB (fun e => by have := hq1' e; omega)
  refine ⟨by rw [size_set, size_set, size_set, s1]; omega, ⟨fun i => if i = 2 * j then q else if i = 2 * j + 1 then q' else b i, fun i hi => ?_, fun i i' h1 h2 e1 e2 => ?_⟩, fun k' hk' => ?_, fun k' hk' => ?_⟩
  · dsimp only
    rw [size_set, size_set, size_set, s1]
    by_cases e : i = 2 * j
    · subst e
      rw [if_pos rfl, he, show 2 * j * 3 = j * 6 by omega]
      exact ⟨fun e => by have := hq1 e; omega, dA.stored _ _ _ (fun e => by have := hq1 e; omega) (by omega)⟩
    · by_cases e2 : i = 2 * j + 1
      · subst e2
        rw [if_neg e, if_pos rfl, he', show (2 * j + 1) * 3 = j * 6 + 3 by omega]
        exact ⟨fun e => by have := hq1' e; omega, dB⟩
      · rw [if_neg e, if_neg e2]
        obtain ⟨q1, q3⟩ := hb i (by omega)
        have q4 : DyAt true (b i) (b i + 1) W1 g (i * 3) (ds.getD i de0) := by rw [hW1]; exact (q3.keptE k (by omega) (by omega)).stored _ _ _ (fun e => by have := q1 e; omega) (by omega)
        exact ⟨fun e => by have := q1 e; omega, q4.stored _ _ _ (fun e => by have := q1 e; omega) (by omega)⟩
  · dsimp only
    by_cases e : i = 2 * j
    · subst e
      have e3 : i' = 2 * j + 1 := by omega
      subst e3
      rw [if_pos rfl, if_neg (by omega), if_pos rfl]
      rw [hz] at e1
      rw [hz'] at e2
      have := hq1 e1; have := hq1' e2; omega
    · have hi2 : ¬ i = 2 * j + 1 := by omega
      rw [if_neg e, if_neg hi2]
      have := (hb i (by omega)).1 e1
      by_cases e3 : i' = 2 * j
      · rw [if_pos e3]; subst e3; rw [hz] at e2; have := hq1 e2; omega
      · by_cases e4 : i' = 2 * j + 1
        · rw [if_neg e3, if_pos e4]; subst e4; rw [hz'] at e2; have := hq1' e2; omega
        · rw [if_neg e3, if_neg e4]; exact hmono i i' h1 (by omega) e1 e2
  · obtain ⟨x, hx⟩ := hcell1 k' hk'
    obtain ⟨x1, hx1⟩ := cells_of_setCell (p := j * 6 + 3) (u := .bool s') hx
    obtain ⟨x2, hx2⟩ := cells_of_setCell (p := j * 6 + 4) (u := u') hx1
    exact cells_of_setCell (p := j * 6 + 5) (u := .int .i64 y') hx2
  · rw [frozen_set, frozen_set, frozen_set, hW1, frozen_set, frozen_set, frozen_set]
    exact k.loose0 (a := ⟨g, k', none⟩) hlt (hloose k' hk')
theorem ivsO_done {g n : Nat} {ds : List DE} {w : World} (f : Fill 0 g (2 * n) ds (2 * n) w) (hn : ds.length = 2 * n) (hm : 2 * n ≤ maxLen) : IvsO g w.heap.size w (.slice (some ⟨g, 0, none⟩) n n) ds n := by
  have d := f.done hn.symm hm
  rw [← hn] at d
  exact ⟨_, _, rfl, Nat.le_refl _, by omega, hn, d⟩

set_option maxHeartbeats 4000000 in
theorem toIvS_own {lo hi n : Nat} {v : Value} {ds : List DE} (w : World) (hn : n ≤ 1048576) (hl : ∀ i, i < 2 * n → (ds.getD i de0).2.1.length ≤ 1099511627776) (r : Ivs lo hi w v ds n) :
    Calls Tryz.prog 41 #[v] w fun e w' => ∃ v', e = .returned v' ∧ IvsO w.heap.size w'.heap.size w' v' ds n ∧ Kept 0 0 w w' := by
  obtain ⟨a, c, rfl, hc1, hc2⟩ := r.form
  have HN := hide r.len
  have R := hide r
  have HL := hide hl
  obtain ⟨i0, hi0, hz0, hz1, hz2⟩ := info_parts Tryz.infoIv
  have hb0 : i0.bytes * n ≤ 281474976710656 := by rw [hz2]; omega
  have hm0 : n ≤ maxLen := by unfold maxLen; omega
  have HM := hide hm0
  clear r hc1 hc2 hl
  go_enter Tryz.func41, Tryz.ntmps41
  go_wp2_with (at_make; refine wpList_make_full _ rfl _ _ 26 rfl w.heap.size 102 i0 (.agg #[.bool false, .slice none 0 0, .int .i64 0, .bool false, .slice none 0 0, .int .i64 0]) 6 Tryz.underlying26 hi0 hz0 hz1 .i64 .i64 _ _ n rfl rfl rfl rfl hb0 hm0 (Nat.le_refl _) ?_; intro w1 hown hgrow)
  have F0 := hide (made_fill6F (ds := ds) hown)
  have k0 : Kept 0 0 w w1 := ⟨hgrow.os, hgrow.tape, hgrow.output, hgrow.size, fun i hi _ => hgrow.block i hi (by simp)⟩
  clear hown hgrow hi0 hz0 hz1 hz2 hb0 hm0
  go_loopw [4] (fun s4 wx => ∃ j : Nat, s4 = .int .i64 j ∧ j ≤ n ∧ Hid (Fill 0 w.heap.size (2 * n) ds (2 * j) wx) ∧ Kept 0 0 w wx) (fun s4 _ => n - (intOf s4).toNat)
  case atStart => exact ⟨0, rfl, Nat.zero_le _, F0, k0⟩
  case round =>
    clear F0 k0
    obtain ⟨j, rfl, hj, hF, k⟩ := hrel
    by_cases hlt : j < n
    · obtain ⟨g, off, ln, ln', rfl, -, -, -, b, kk, b', kk', c0, c1, c2, d0, d1, d2, hln, hln', rr, rr'⟩ := ((unhide R).kept k (by omega)).at (i := j) hlt
      obtain ⟨s0, hs0'⟩ : ∃ q, q = (ds.getD (2 * j) de0).1 := ⟨_, rfl⟩
      obtain ⟨y0, hy0⟩ : ∃ q, q = (ds.getD (2 * j) de0).2.2 := ⟨_, rfl⟩
      obtain ⟨z0, hz0⟩ : ∃ q, q = (ds.getD (2 * j) de0).2.1 := ⟨_, rfl⟩
      obtain ⟨s1, hs1'⟩ : ∃ q, q = (ds.getD (2 * j + 1) de0).1 := ⟨_, rfl⟩
      obtain ⟨y1, hy1⟩ : ∃ q, q = (ds.getD (2 * j + 1) de0).2.2 := ⟨_, rfl⟩
      obtain ⟨z1, hz1⟩ : ∃ q, q = (ds.getD (2 * j + 1) de0).2.1 := ⟨_, rfl⟩
      have hL := unhide HL (2 * j) (by omega)
      have hL' := unhide HL (2 * j + 1) (by omega)
      rw [← hs0'] at c0
      rw [← hy0] at c2
      rw [← hz0] at hln rr hL
      rw [← hs1'] at d0
      rw [← hy1] at d2
      rw [← hz1] at hln' rr' hL'
      have hE : Hid (ds.getD (2 * j) de0 = (s0, z0, y0)) := by show _ = _; rw [hs0', hy0, hz0]
      have hE' : Hid (ds.getD (2 * j + 1) de0 = (s1, z1, y1)) := by show _ = _; rw [hs1', hy1, hz1]
      clear hs0' hy0 hz0 hs1' hy1 hz1
      have hto := toIv_any s0 y0 s1 y1 wr hL hL' rr rr'
      clear hln rr hL hln' rr' hL'
      go_wp2_with fail
      refine hto.mono ?_
      rintro e w2 ⟨v2, u2, mid, rfl, r2, r2', hm1, hm2, k2⟩
      obtain ⟨a2, e2, hv2⟩ := Row.form' r2
      subst hv2
      obtain ⟨a3, e3, hv2⟩ := Row.form' r2'
      subst hv2
      have F2 := hide ((unhide hF).two hlt k2 r2 r2' hm1 hm2 (unhide hE) (unhide hE'))
      have hFc := (unhide hF).cell
      have hFl := (unhide hF).loose
      have hFs := (unhide hF).lt
      obtain ⟨x0, hx0⟩ := hFc (j * 6) (by omega)
      have f0 := k2.loose0 (a := ⟨w.heap.size, j * 6, none⟩) hFs (hFl (j * 6) (by omega))
      replace hx0 := k2.cell0 hx0
      obtain ⟨x1, hx1⟩ := hFc (j * 6 + 1) (by omega)
      have f1 := k2.loose0 (a := ⟨w.heap.size, j * 6 + 1, none⟩) hFs (hFl (j * 6 + 1) (by omega))
      replace hx1 := k2.cell0 hx1
      obtain ⟨x2, hx2⟩ := hFc (j * 6 + 2) (by omega)
      have f2 := k2.loose0 (a := ⟨w.heap.size, j * 6 + 2, none⟩) hFs (hFl (j * 6 + 2) (by omega))
      replace hx2 := k2.cell0 hx2
      obtain ⟨x3, hx3⟩ := hFc (j * 6 + 3) (by omega)
      have f3 := k2.loose0 (a := ⟨w.heap.size, j * 6 + 3, none⟩) hFs (hFl (j * 6 + 3) (by omega))
      replace hx3 := k2.cell0 hx3
      obtain ⟨x4, hx4⟩ := hFc (j * 6 + 4) (by omega)
      have f4 := k2.loose0 (a := ⟨w.heap.size, j * 6 + 4, none⟩) hFs (hFl (j * 6 + 4) (by omega))
      replace hx4 := k2.cell0 hx4
      obtain ⟨x5, hx5⟩ := hFc (j * 6 + 5) (by omega)
      have f5 := k2.loose0 (a := ⟨w.heap.size, j * 6 + 5, none⟩) hFs (hFl (j * 6 + 5) (by omega))
      replace hx5 := k2.cell0 hx5
      have K2 := hide (((((((k.trans k2).wide ((Kept.refl w.heap.size (w.heap.size + 1) _).setCell (p := ⟨w.heap.size, j * 6, none⟩) (Nat.le_refl _) (Nat.lt_succ_self _) (.bool s0)) (Nat.le_refl _)).wide ((Kept.refl w.heap.size (w.heap.size + 1) _).setCell (p := ⟨w.heap.size, j * 6 + 1, none⟩) (Nat.le_refl _) (Nat.lt_succ_self _) (.slice a2 z0.length e2)) (Nat.le_refl _)).wide ((Kept.refl w.heap.size (w.heap.size + 1) _).setCell (p := ⟨w.heap.size, j * 6 + 2, none⟩) (Nat.le_refl _) (Nat.lt_succ_self _) (.int .i64 y0)) (Nat.le_refl _)).wide ((Kept.refl w.heap.size (w.heap.size + 1) _).setCell (p := ⟨w.heap.size, j * 6 + 3, none⟩) (Nat.le_refl _) (Nat.lt_succ_self _) (.bool s1)) (Nat.le_refl _)).wide ((Kept.refl w.heap.size (w.heap.size + 1) _).setCell (p := ⟨w.heap.size, j * 6 + 4, none⟩) (Nat.le_refl _) (Nat.lt_succ_self _) (.slice a3 z1.length e3)) (Nat.le_refl _)).wide ((Kept.refl w.heap.size (w.heap.size + 1) _).setCell (p := ⟨w.heap.size, j * 6 + 5, none⟩) (Nat.le_refl _) (Nat.lt_succ_self _) (.int .i64 y1)) (Nat.le_refl _))
      clear hF hFc hFl hto k k2 r2 r2' hFs c0 c1 c2 d0 d1 d2
      go_wp2
      go_roundw
      case rel => exact ⟨j + 1, by simp, hlt, F2, unhide K2⟩
      case measure => simp [intOf]; omega
    · have hjn : j = n := by omega
      subst hjn
      have D := hide (ivsO_done (unhide hF) (unhide HN) (by unfold maxLen; omega))
      clear hF
      go_wp2
      go_ret
      exact ⟨_, rfl, unhide D, k⟩

set_option maxHeartbeats 4000000 in
theorem toIvMat_own {lo hi n : Nat} {v : Value} {ds : List DE} (m : Int) (w : World) (hn : n ≤ 1048576) (hl : ∀ i, i < 2 * n → (ds.getD i de0).2.1.length ≤ 1099511627776) (r : Ivs lo hi w v ds n) :
    Calls Tryz.prog 12 #[.agg #[.int .i64 m, v]] w fun e w' => ∃ v', e = .returned (.agg #[.int .i64 m, v']) ∧ IvsO w.heap.size w'.heap.size w' v' ds n ∧ Kept 0 0 w w' := by
  obtain ⟨W, hW⟩ : ∃ W, W = ((w.alloc (.cells #[.int .i64 m, v] 24)).alloc (.cells #[.int .i64 0, .slice none 0 0] 28)).alloc (.cells #[.int .i64 m, .slice none 0 0] 28) := ⟨_, rfl⟩
  have k0 : Kept 0 0 w W := by rw [hW]; exact (((Kept.refl 0 0 w).alloc _).alloc _).alloc _
  have r0 := r.kept k0 (by omega)
  have A0 : W.cell? ⟨w.heap.size, 0, none⟩ = some (.int .i64 m) := by rw [hW]; exact old_cell _ (old_cell _ (new_cell2 _ _ _ _ _ _ (by simp) rfl))
  have A1 : W.cell? ⟨w.heap.size, 1, none⟩ = some v := by rw [hW]; exact old_cell _ (old_cell _ (new_cell2 _ _ _ _ _ _ (by simp) rfl))
  have R0 : W.cell? ⟨w.heap.size + 1, 0, none⟩ = some (.int .i64 0) := by rw [hW]; exact old_cell _ (new_cell2 _ _ _ _ _ _ (by simp) rfl)
  have R1 : W.cell? ⟨w.heap.size + 1, 1, none⟩ = some (.slice none 0 0) := by rw [hW]; exact old_cell _ (new_cell2 _ _ _ _ _ _ (by simp) rfl)
  have Rf0 : W.frozen? ⟨w.heap.size + 1, 0, none⟩ = false := by rw [hW]; exact ((Kept.refl 0 0 _).alloc _).loose0 (by simp) (new_loose2 _ _ _ _ _ (by simp))
  have Rf1 : W.frozen? ⟨w.heap.size + 1, 1, none⟩ = false := by rw [hW]; exact ((Kept.refl 0 0 _).alloc _).loose0 (by simp) (new_loose2 _ _ _ _ _ (by simp))
  have O0 : W.cell? ⟨w.heap.size + 1 + 1, 0, none⟩ = some (.int .i64 m) := by rw [hW]; exact new_cell2 _ _ _ _ _ _ (by simp) rfl
  have O1 : W.cell? ⟨w.heap.size + 1 + 1, 1, none⟩ = some (.slice none 0 0) := by rw [hW]; exact new_cell2 _ _ _ _ _ _ (by simp) rfl
  have Of0 : W.frozen? ⟨w.heap.size + 1 + 1, 0, none⟩ = false := by rw [hW]; exact new_loose2 _ _ _ _ _ (by simp)
  have Of1 : W.frozen? ⟨w.heap.size + 1 + 1, 1, none⟩ = false := by rw [hW]; exact new_loose2 _ _ _ _ _ (by simp)
  have s0 : W.heap.size = w.heap.size + 3 := by rw [hW]; simp
  obtain ⟨a, c, rfl, -, -⟩ := r.form
  clear r
  have ht := toIvS_own W hn hl r0
  have S0 := hide s0
  have K0 := hide k0
  rw [hW] at ht A0 A1 R0 R1 Rf0 Rf1 O0 O1 Of0 Of1
  clear hn hl r0 s0 k0
  go_enter Tryz.func12, Tryz.ntmps12
  go_wp2_with fail
  rw [← hW] at ht A0 A1 R0 R1 Rf0 Rf1 O0 O1 Of0 Of1 ⊢
  clear hW
  refine ht.mono ?_
  rintro e w1 ⟨v1, rfl, d1, k1⟩
  obtain ⟨a1, c1, hv1, -, -⟩ := d1.form
  subst hv1
  have R0' := k1.cell0 R0
  have R1' := k1.cell0 R1
  have O0' := k1.cell0 O0
  have O1' := k1.cell0 O1
  have Rf0' := k1.loose0 (World.block_lt_of_cell? _ _ R0) Rf0
  have Rf1' := k1.loose0 (World.block_lt_of_cell? _ _ R1) Rf1
  have Of0' := k1.loose0 (World.block_lt_of_cell? _ _ O0) Of0
  have Of1' := k1.loose0 (World.block_lt_of_cell? _ _ O1) Of1
  have s0 := unhide S0
  have kA : Kept (w.heap.size + 1 + 1) (w.heap.size + 1 + 1 + 1) w1 (w1.setCell ⟨w.heap.size + 1 + 1, 1, none⟩ (.slice a1 n c1)) := (Kept.refl _ _ _).setCell (p := ⟨w.heap.size + 1 + 1, 1, none⟩) (Nat.le_refl _) (Nat.lt_succ_self _) _
  have kB : Kept (w.heap.size + 1) (w.heap.size + 1 + 1) (w1.setCell ⟨w.heap.size + 1 + 1, 1, none⟩ (.slice a1 n c1)) (((w1.setCell ⟨w.heap.size + 1 + 1, 1, none⟩ (.slice a1 n c1)).setCell ⟨w.heap.size + 1, 0, none⟩ (.int .i64 m)).setCell ⟨w.heap.size + 1, 1, none⟩ (.slice a1 n c1)) := ((Kept.refl _ _ _).setCell (p := ⟨w.heap.size + 1, 0, none⟩) (Nat.le_refl _) (Nat.lt_succ_self _) _).setCell (p := ⟨w.heap.size + 1, 1, none⟩) (Nat.le_refl _) (Nat.lt_succ_self _) _
  have K2 := hide ((((unhide K0).trans k1).wide kA (by omega)).wide kB (by omega))
  have D2 := hide (((d1.kept kA (by omega)).kept kB (by omega)).wider (lo' := w.heap.size) (hi' := w1.heap.size) (by omega) (Nat.le_refl _))
  have hs2 : (((w1.setCell ⟨w.heap.size + 1 + 1, 1, none⟩ (.slice a1 n c1)).setCell ⟨w.heap.size + 1, 0, none⟩ (.int .i64 m)).setCell ⟨w.heap.size + 1, 1, none⟩ (.slice a1 n c1)).heap.size = w1.heap.size := by rw [size_set, size_set, size_set]
  have HS2 := hide hs2
  have E0 : (((w1.setCell ⟨w.heap.size + 1 + 1, 1, none⟩ (.slice a1 n c1)).setCell ⟨w.heap.size + 1, 0, none⟩ (.int .i64 m)).setCell ⟨w.heap.size + 1, 1, none⟩ (.slice a1 n c1)).cell? ⟨w.heap.size + 1, 0, none⟩ = some (.int .i64 m) :=
    cell_off _ _ _ _ _ _ (cell_on _ _ _ _ _ (cell_aside _ (by dsimp only; omega) R0')) (by omega)
  have E1 : (((w1.setCell ⟨w.heap.size + 1 + 1, 1, none⟩ (.slice a1 n c1)).setCell ⟨w.heap.size + 1, 0, none⟩ (.int .i64 m)).setCell ⟨w.heap.size + 1, 1, none⟩ (.slice a1 n c1)).cell? ⟨w.heap.size + 1, 1, none⟩ = some (.slice a1 n c1) :=
    cell_on _ _ _ _ _ (cell_off _ _ _ _ _ _ (cell_aside _ (by dsimp only; omega) R1') (by omega))
  clear ht d1 k1 s0 kA kB hs2 R0 R1 O0 O1 Rf0 Rf1 Of0 Of1 A0 A1
  go_wp2
  exact bodyPost_ret (v := .agg #[.int .i64 m, .slice a1 n c1]) (by simp [results, Tryz.results12, go_sem, E0, E1]) rfl ⟨_, rfl, by rw [unhide HS2]; exact unhide D2, unhide K2⟩

set_option maxHeartbeats 16000000 in
theorem markIvS_any {lo hi n : Nat} {v : Value} {ds : List DE} (w : World) (s : Int) (hs0 : 0 ≤ s) (hs1 : s ≤ 900000000) (hn : szT ds ≤ 2097152) (r : IvsO lo hi w v ds n) :
    Calls Tryz.prog 45 #[v, .int .i64 s] w fun e w' => e = .returned (.int .i64 (kAt ds s ds.length)) ∧ IvsO lo hi w' v (mkL ds s) n ∧ Kept lo hi w w' := by
  obtain ⟨a, c, rfl, hc1, hc2, hlen, ro⟩ := r
  obtain ⟨hsl, hs00⟩ := szT_len ds
  by_cases hne : ds = []
  · subst hne
    have hn0 : n = 0 := by simp at hlen; omega
    subst hn0
    go_enter Tryz.func45, Tryz.ntmps45
    go_wp2
    go_loopw [1, 5] (fun s1 s5 wr => s1 = .int .i64 s ∧ s5 = .int .i64 0 ∧ wr = w) (fun _ _ _ => 0)
    case atStart => exact ⟨rfl, rfl, rfl⟩
    case round =>
      obtain ⟨rfl, rfl, rfl⟩ := hrel
      go_wp2
      go_ret
      exact ⟨by rw [kAt_zero]; rfl, ⟨a, c, rfl, hc1, hc2, rfl, ro⟩, Kept.refl _ _ _⟩
  obtain ⟨g, off, b, rfl, W0⟩ := ro.open hne
  have heach : ∀ i, i < ds.length → ((ds.getD i de0).2.1.length : Int) ≤ szT ds := szT_each ds
  have hkb : ∀ i, i ≤ ds.length → 0 ≤ kAt ds s i ∧ kAt ds s i ≤ s + 3 * szT ds := fun i hi => by
    have h1 := limT_mono ds (a := i) (b := ds.length) hi
    have h2 : szT ds = ds.length + limT ds ds.length := rfl
    unfold kAt
    omega
  have HN : Hid (2 * n = ds.length) := hlen.symm
  have HE := hide heach
  have HKB := hide hkb
  have HC1 := hide hc1
  have HC2 := hide hc2
  have hn16 : 2 * n ≤ 2097152 := by omega
  rw [hlen] at W0 ⊢
  have W1 : Hid (DysW lo hi g off (2 * n) b (mkJ ds s (2 * 0)) w) := by
    show DysW _ _ _ _ _ _ _ _
    have e : mkJ ds s (2 * 0) = fun i => ds.getD i de0 := by funext i; simp [mkJ]
    rw [e]; exact W0
  obtain ⟨SZ, hSZ⟩ : ∃ SZ, SZ = szT ds := ⟨_, rfl⟩
  have HSZ := hide hSZ
  rw [← hSZ] at hn hsl
  clear ro W0 heach hkb hc1 hc2 hSZ hs00 hsl hlen
  go_enter Tryz.func45, Tryz.ntmps45
  go_wp2
  go_loopw [1, 5] (fun s1 s5 wr => ∃ (j : Nat) (k : Int), s1 = .int .i64 k ∧ s5 = .int .i64 j ∧ j ≤ n ∧ Hid (k = kAt ds s (2 * j)) ∧ Hid (DysW lo hi g off (2 * n) b (mkJ ds s (2 * j)) wr) ∧ Kept lo hi w wr) (fun _ s5 _ => n - (intOf s5).toNat)
  case atStart => exact ⟨0, s, rfl, rfl, Nat.zero_le _, by show _ = _; rw [Nat.mul_zero, kAt_zero], W1, Kept.refl _ _ _⟩
  case round =>
    clear W1
    obtain ⟨j, k, rfl, rfl, hj, hk0e, hW, kp⟩ := hrel
    by_cases hlt : j < n
    · have hJ0 : 2 * j < 2 * n := by omega
      have hJ1 : 2 * j + 1 < 2 * n := by omega
      have hb0 := unhide HKB (2 * j) (by have := unhide HN; omega)
      have hb1 := unhide HE (2 * j) (by have := unhide HN; omega)
      have hb2 := unhide HE (2 * j + 1) (by have := unhide HN; omega)
      rw [← unhide hk0e, ← unhide HSZ] at hb0
      rw [← unhide HSZ] at hb1 hb2
      obtain ⟨z0, hz0⟩ : ∃ z, z = (ds.getD (2 * j) de0).2.1 := ⟨_, rfl⟩
      obtain ⟨z1, hz1⟩ : ∃ z, z = (ds.getD (2 * j + 1) de0).2.1 := ⟨_, rfl⟩
      rw [← hz0] at hb1
      rw [← hz1] at hb2
      obtain ⟨k1, hk0a⟩ : ∃ x : Int, x = k + 1 + (z0.length : Int) := ⟨_, rfl⟩
      obtain ⟨k2, hk2⟩ : ∃ x : Int, x = k1 + 1 := ⟨_, rfl⟩
      obtain ⟨k3, hk1a⟩ : ∃ x : Int, x = k2 + 1 + (z1.length : Int) := ⟨_, rfl⟩
      have hk1e : Hid (k2 = kAt ds s (2 * j + 1)) := by show _ = _; rw [kAt_succ, ← unhide hk0e, ← hz0, hk2, hk0a]; omega
      have hk4e : Hid (k3 + 1 = kAt ds s (2 * (j + 1))) := by show _ = _; rw [show 2 * (j + 1) = 2 * j + 1 + 1 by omega, kAt_succ, ← unhide hk1e, ← hz1, hk1a]; omega
      have hwk : IntKind.i64.wrap (k + 1) = k + 1 := by rw [IntKind.wrap_i64]; omega
      have hwk1 : IntKind.i64.wrap (k1 + 1) = k2 := by rw [IntKind.wrap_i64]; omega
      have hwk2 : IntKind.i64.wrap (k2 + 1) = k2 + 1 := by rw [IntKind.wrap_i64]; omega
      have hwk3 : IntKind.i64.wrap (k3 + 1) = k3 + 1 := by rw [IntKind.wrap_i64]; omega
      have hwj : IntKind.i64.wrap ((j : Int) + 1) = ((j + 1 : Nat) : Int) := by rw [IntKind.wrap_i64]; omega
      have hkn0 : 0 ≤ k2 := by omega
      have hzb1 : (k2 + 1 + (z1.length : Int)) ≤ 1000000000 := by omega
      have V0 := unhide hW
      have hd0 : (mkJ ds s (2 * j) (2 * j)).2.1 = z0 := by unfold mkJ; rw [if_neg (Nat.lt_irrefl _), hz0]
      obtain ⟨fd0, hfd0⟩ : ∃ fd, fd = mkJ ds s (2 * j) := ⟨_, rfl⟩
      rw [← hfd0] at V0 hd0
      have eO0 : off + (2 * j) * 3 = off + j * 6 := by omega
      obtain ⟨p0, q0, a0, c0, e00, e01, e02, rr0, -, -⟩ := V0.row hJ0
      have V0s := V0.setS hJ0 (k % 3 == 0)
      obtain ⟨p0', q0', a0', c0', -, e01', -, rr0', hp01, hp02⟩ := V0s.row hJ0
      have e03 := cell_off wr g (off + (2 * j) * 3 + 1) (off + (2 * j) * 3) (.bool (k % 3 == 0)) _ e01 (by omega)
      rw [upE_same] at rr0' hp01 hp02 e01'
      rw [e03] at e01'
      cases e01'
      have f00 := V0.loose ((2 * j) * 3) (by omega)
      rw [hd0] at rr0' e01 rr0 e03 hp01 hp02
      have e03' : (wr.setCell ⟨g, off + (2 * j) * 3, none⟩ (.bool (k % 3 == 0))).cell? ⟨g, off + (2 * j) * 3 + 1, none⟩ = some (.slice a0 (upE fd0 (2 * j) ((k % 3 == 0), (fd0 (2 * j)).2.1, (fd0 (2 * j)).2.2) (2 * j)).2.1.length c0) := by rw [upE_same]; dsimp only; rw [hd0]; exact e03
      have hmk0 := markIntS_wide _ (k + 1) (by omega) (by omega) (by omega) rr0'
      rw [← hk0a] at hmk0
      have hgb0 := hide (V0.el (2 * j) hJ0).1
      have V0S := hide V0s
      have P01 := hide hp01
      have P02 := hide hp02
      have E03 := hide e03'
      have HD0 := hide hd0
      have HF0 := hide hfd0
      have e02w := e02
      rw [eO0] at e00 e01 e02 f00 e03 hmk0
      have HZ0 := hide hz0
      have HZ1 := hide hz1
      have HK0a := hide hk0a.symm
      have HK1a := hide hk1a.symm
      have kp2 : Kept lo hi w (wr.setCell ⟨g, off + j * 6, none⟩ (.bool (k % 3 == 0))) := kp.setCell (p := ⟨g, off + j * 6, none⟩) V0.g1 V0.g2 _
      have KP2 := hide kp2
      have gg := hide (And.intro V0.g1 V0.g2)
      clear V0 V0s hp01 hp02 e03' hd0 hfd0 rr0 e03 rr0' kp kp2 hW hz0 hz1 e02w hk0a hk2
      go_wp2_with fail
      refine hmk0.mono ?_
      rintro e w3 ⟨rfl, rw3, kw3, -⟩
      have V0t := (unhide V0S).turn (z := marks .i64 (k + 1) z0.length) hJ0 (unhide E03) (by rw [upE_same]; dsimp only; rw [unhide HD0]; exact unhide P01) (by rw [upE_same]; dsimp only; rw [unhide HD0]; exact unhide P02) (by rw [eO0]; exact kw3) (by rw [upE_same]; dsimp only; rw [unhide HD0]; exact rw3) (by rw [upE_same]; dsimp only; rw [unhide HD0]; exact marks_nil_iff _ _ _)
      have V0y := V0t.setY hJ0 k1
      rw [upE3, upE_same, upE_same] at V0y
      obtain ⟨-, -, -, -, -, -, g02, -, -, -⟩ := V0t.row hJ0
      have f02 : w3.frozen? ⟨g, off + j * 6 + 2, none⟩ = false := by have := V0t.loose ((2 * j) * 3 + 2) (by omega); rw [← Nat.add_assoc, eO0] at this; exact this
      have ek0 : mkE ds s (2 * j) = (k % 3 == 0, marks .i64 (k + 1) z0.length, k1) := by unfold mkE; rw [← unhide hk0e, ← unhide HZ0, unhide HK0a]
      dsimp only at V0y
      rw [← ek0, unhide HF0, mkJ_step] at V0y
      rw [eO0] at g02 V0y
      have kk0 : Kept lo hi (wr.setCell ⟨g, off + j * 6, none⟩ (.bool (k % 3 == 0))) w3 := by
        rw [← eO0]
        by_cases ez : z0 = []
        · obtain ⟨rfl, rfl⟩ := unhide P02 ez; rw [eO0]; exact kw3.any
        · obtain ⟨rfl, rfl⟩ := unhide P01 ez
          have := unhide hgb0 (by rw [unhide HD0]; exact ez)
          rw [eO0]
          exact kw3.wider (by omega) (by omega)
      generalize hy0 : (upE (upE fd0 (2 * j) (k % 3 == 0, (fd0 (2 * j)).2.1, (fd0 (2 * j)).2.2)) (2 * j) _ (2 * j)).2.2 = y0 at g02
      clear hy0
      have V1 := V0y
      have K3 := hide (((unhide KP2).trans kk0).setCell (p := ⟨g, off + j * 6 + 2, none⟩) (unhide gg).1 (unhide gg).2 (.int .i64 k1))
      have hz1 := unhide HZ1
      have hd1 : (mkJ ds s (2 * j + 1) (2 * j + 1)).2.1 = z1 := by unfold mkJ; rw [if_neg (Nat.lt_irrefl _), hz1]
      obtain ⟨fd1, hfd1⟩ : ∃ fd, fd = mkJ ds s (2 * j + 1) := ⟨_, rfl⟩
      rw [← hfd1] at V1 hd1
      have eO1 : off + (2 * j + 1) * 3 = off + j * 6 + 3 := by omega
      obtain ⟨p1, q1, a1, c1, e10, e11, e12, rr1, -, -⟩ := V1.row hJ1
      have V1s := V1.setS hJ1 (k2 % 3 == 0)
      obtain ⟨p1', q1', a1', c1', -, e11', -, rr1', hp11, hp12⟩ := V1s.row hJ1
      have e13 := cell_off (w3.setCell ⟨g, off + j * 6 + 2, none⟩ (.int .i64 k1)) g (off + (2 * j + 1) * 3 + 1) (off + (2 * j + 1) * 3) (.bool (k2 % 3 == 0)) _ e11 (by omega)
      rw [upE_same] at rr1' hp11 hp12 e11'
      rw [e13] at e11'
      cases e11'
      have f10 := V1.loose ((2 * j + 1) * 3) (by omega)
      rw [hd1] at rr1' e11 rr1 e13 hp11 hp12
      have e13' : ((w3.setCell ⟨g, off + j * 6 + 2, none⟩ (.int .i64 k1)).setCell ⟨g, off + (2 * j + 1) * 3, none⟩ (.bool (k2 % 3 == 0))).cell? ⟨g, off + (2 * j + 1) * 3 + 1, none⟩ = some (.slice a1 (upE fd1 (2 * j + 1) ((k2 % 3 == 0), (fd1 (2 * j + 1)).2.1, (fd1 (2 * j + 1)).2.2) (2 * j + 1)).2.1.length c1) := by rw [upE_same]; dsimp only; rw [hd1]; exact e13
      have hmk1 := markIntS_wide _ (k2 + 1) (by omega) (by omega) (by omega) rr1'
      rw [← hk1a] at hmk1
      have hgb1 := hide (V1.el (2 * j + 1) hJ1).1
      have V1S := hide V1s
      have P11 := hide hp11
      have P12 := hide hp12
      have E13 := hide e13'
      have HD1 := hide hd1
      have HF1 := hide hfd1
      have e12w := e12
      rw [eO1] at e10 e11 e12 f10 e13 hmk1
      have K4 := hide ((unhide K3).setCell (p := ⟨g, off + j * 6 + 3, none⟩) (unhide gg).1 (unhide gg).2 (.bool (k2 % 3 == 0)))
      clear V0t V0y V1 V1s hp11 hp12 e13' hd1 hfd1 rr1 e13 rr1' rw3 kw3 kk0 ek0 hmk0 e12w K3 hz1 hk1a e00 e01 e02 f00 KP2 V0S
      go_wp2_with fail
      refine hmk1.mono ?_
      rintro e w5 ⟨rfl, rw5, kw5, -⟩
      have V1t := (unhide V1S).turn (z := marks .i64 (k2 + 1) z1.length) hJ1 (unhide E13) (by rw [upE_same]; dsimp only; rw [unhide HD1]; exact unhide P11) (by rw [upE_same]; dsimp only; rw [unhide HD1]; exact unhide P12) (by rw [eO1]; exact kw5) (by rw [upE_same]; dsimp only; rw [unhide HD1]; exact rw5) (by rw [upE_same]; dsimp only; rw [unhide HD1]; exact marks_nil_iff _ _ _)
      have V1y := V1t.setY hJ1 k3
      rw [upE3, upE_same, upE_same] at V1y
      obtain ⟨-, -, -, -, -, -, g12, -, -, -⟩ := V1t.row hJ1
      have f12 : w5.frozen? ⟨g, off + j * 6 + 3 + 2, none⟩ = false := by have := V1t.loose ((2 * j + 1) * 3 + 2) (by omega); rw [← Nat.add_assoc, eO1] at this; exact this
      have ek1 : mkE ds s (2 * j + 1) = (k2 % 3 == 0, marks .i64 (k2 + 1) z1.length, k3) := by unfold mkE; rw [← unhide hk1e, ← unhide HZ1, unhide HK1a]
      dsimp only at V1y
      rw [← ek1, unhide HF1, mkJ_step] at V1y
      rw [eO1] at g12 V1y
      have kk1 : Kept lo hi ((w3.setCell ⟨g, off + j * 6 + 2, none⟩ (.int .i64 k1)).setCell ⟨g, off + j * 6 + 3, none⟩ (.bool (k2 % 3 == 0))) w5 := by
        rw [← eO1]
        by_cases ez : z1 = []
        · obtain ⟨rfl, rfl⟩ := unhide P12 ez; rw [eO1]; exact kw5.any
        · obtain ⟨rfl, rfl⟩ := unhide P11 ez
          have := unhide hgb1 (by rw [unhide HD1]; exact ez)
          rw [eO1]
          exact kw5.wider (by omega) (by omega)
      generalize hy1 : (upE (upE fd1 (2 * j + 1) (k2 % 3 == 0, (fd1 (2 * j + 1)).2.1, (fd1 (2 * j + 1)).2.2)) (2 * j + 1) _ (2 * j + 1)).2.2 = y1 at g12
      clear hy1
      have K5 := hide (((unhide K4).trans kk1).setCell (p := ⟨g, off + j * 6 + 3 + 2, none⟩) (unhide gg).1 (unhide gg).2 (.int .i64 k3))
      have VF : Hid (DysW lo hi g off (2 * n) b (mkJ ds s (2 * (j + 1))) (w5.setCell ⟨g, off + j * 6 + 3 + 2, none⟩ (.int .i64 k3))) := V1y
      clear V1t V1y rw5 kw5 kk1 ek1 hmk1 e10 e11 e12 f10 hwk hwk1 hwk2 K4
      go_wp2
      go_roundw
      case rel => exact ⟨j + 1, k3 + 1, rfl, by simp, hlt, hk4e, VF, unhide K5⟩
      case measure => simp [intOf]; omega
    · have hjn : j = n := by omega
      subst hjn
      have hfin : kAt ds s (2 * j) = k := (unhide hk0e).symm
      have D := unhide hW
      have D2 : IvsO lo hi wr (.slice (some ⟨g, off, none⟩) j c) (mkL ds s) j := by
        have hl := unhide HN
        have hml : (mkL ds s).length = 2 * j := by rw [mkL_length, hl]
        have := DysW.shut (ds := mkL ds s) (c := (mkL ds s).length) (f := mkJ ds s (2 * j)) (by rw [hml]; exact D) (fun i hi => by rw [hml] at hi; rw [mkL_at _ _ _ (by omega)]; unfold mkJ; rw [if_pos hi]) (Nat.le_refl _) (by rw [hml]; unfold maxLen; omega)
        exact ⟨_, c, rfl, unhide HC1, unhide HC2, hml, this⟩
      have DD := hide D2
      have HFN := hide hfin
      clear D D2 hfin hW
      go_wp2
      go_ret
      exact ⟨by rw [unhide HFN]; rfl, unhide DD, kp⟩

set_option maxHeartbeats 2000000 in
theorem markIvMat_wide {lo hi n : Nat} {v : Value} {ds : List DE} (m : Int) (w : World) (s : Int) (hs0 : 0 ≤ s) (hs1 : s ≤ 900000000) (hn : szT ds ≤ 2097152) (r : IvsO lo hi w v ds n) :
    Calls Tryz.prog 15 #[.agg #[.int .i64 m, v], .int .i64 s] w fun e w' => e = .returned (.int .i64 (kAt ds s ds.length)) ∧ IvsO lo hi w' v (mkL ds s) n ∧ Kept lo hi w w' := by
  have k0 := (Kept.refl 0 0 w).alloc (.cells #[.int .i64 m, v] 28)
  have r0 := r.kept k0 (by omega)
  have c1 : (w.alloc (.cells #[.int .i64 m, v] 28)).cell? ⟨w.heap.size, 1, none⟩ = some v := new_cell2 _ _ _ _ _ _ rfl rfl
  obtain ⟨a, c, rfl⟩ := r.form'
  clear r
  have hm := markIvS_any _ s hs0 hs1 hn r0
  obtain ⟨A, hA⟩ : ∃ A, kAt ds s ds.length = A := ⟨_, rfl⟩
  rw [hA] at hm ⊢
  clear hA
  go_enter Tryz.func15, Tryz.ntmps15
  go_wp2_with fail
  refine hm.mono ?_
  rintro e w1 ⟨rfl, d1, k1⟩
  have K1 := hide ((k0.any (lo := lo) (hi := hi)).trans k1)
  have D1 := hide d1
  clear hm k0 k1 d1 r0
  go_wp2
  go_ret
  exact ⟨rfl, unhide D1, unhide K1⟩

set_option maxHeartbeats 16000000 in
theorem heldIvS_any {lo hi n : Nat} {v : Value} {ds : List DE} (w : World) (s : Int) (hs0 : 0 ≤ s) (hs1 : s ≤ 500000) (hn : szT ds ≤ 100000) (r : Ivs lo hi w v (mkL ds s) n) :
    Calls Tryz.prog 46 #[v, .int .i64 s] w fun e w' => e = .returned (.int .i64 (kAt ds s ds.length)) ∧ w' = w := by
  obtain ⟨a, c, rfl, hc1, hc2⟩ := r.form
  obtain ⟨hsl, hs00⟩ := szT_len ds
  have hlen := r.len
  rw [mkL_length] at hlen
  have heach : ∀ i, i < ds.length → ((ds.getD i de0).2.1.length : Int) ≤ szT ds := szT_each ds
  have hkb : ∀ i, i ≤ ds.length → 0 ≤ kAt ds s i ∧ kAt ds s i ≤ s + 3 * szT ds := fun i hi => by
    have h1 := limT_mono ds (a := i) (b := ds.length) hi
    have h2 : szT ds = ds.length + limT ds ds.length := rfl
    unfold kAt
    omega
  have HN : Hid (2 * n = ds.length) := hlen.symm
  have HE := hide heach
  have HKB := hide hkb
  have hn16 : 2 * n ≤ 100000 := by omega
  rw [hlen]
  obtain ⟨SZ, hSZ⟩ : ∃ SZ, SZ = szT ds := ⟨_, rfl⟩
  have HSZ := hide hSZ
  rw [← hSZ] at hn
  have R := hide r
  clear r heach hkb hc1 hc2 hSZ hs00 hsl hlen
  go_enter Tryz.func46, Tryz.ntmps46
  go_wp2
  go_loopw [1, 5] (fun s1 s5 wr => ∃ (j : Nat) (k : Int), s1 = .int .i64 k ∧ s5 = .int .i64 j ∧ j ≤ n ∧ Hid (k = kAt ds s (2 * j)) ∧ wr = w) (fun _ s5 _ => n - (intOf s5).toNat)
  case atStart => exact ⟨0, s, rfl, rfl, Nat.zero_le _, by show _ = _; rw [Nat.mul_zero, kAt_zero], rfl⟩
  case round =>
    obtain ⟨j, k, rfl, rfl, hj, hk, rfl⟩ := hrel
    by_cases hlt : j < n
    · have hl0 : 2 * j < ds.length := by have := unhide HN; omega
      have hl1 : 2 * j + 1 < ds.length := by have := unhide HN; omega
      have hb0 := unhide HKB (2 * j) (by omega)
      have hb1 := unhide HE (2 * j) hl0
      have hb2 := unhide HE (2 * j + 1) hl1
      rw [← unhide hk, ← unhide HSZ] at hb0
      rw [← unhide HSZ] at hb1 hb2
      obtain ⟨g, off, ln, ln', rfl, -, -, -, b, kk, b', kk', c0, c1, c2, d0, d1, d2, hln, hln', rr, rr'⟩ := (unhide R).at (i := j) hlt
      rw [mkL_at _ _ _ hl0] at c0 c2 hln rr
      rw [mkL_at _ _ _ hl1] at d0 d2 hln' rr'
      obtain ⟨z0, hz0⟩ : ∃ z, z = (ds.getD (2 * j) de0).2.1 := ⟨_, rfl⟩
      obtain ⟨z1, hz1⟩ : ∃ z, z = (ds.getD (2 * j + 1) de0).2.1 := ⟨_, rfl⟩
      rw [← hz0] at hb1
      rw [← hz1] at hb2
      obtain ⟨k1, hk0a⟩ : ∃ x : Int, x = k + 1 + (z0.length : Int) := ⟨_, rfl⟩
      obtain ⟨k2, hk2⟩ : ∃ x : Int, x = k1 + 1 := ⟨_, rfl⟩
      obtain ⟨k3, hk1a⟩ : ∃ x : Int, x = k2 + 1 + (z1.length : Int) := ⟨_, rfl⟩
      have hk1e : k2 = kAt ds s (2 * j + 1) := by rw [kAt_succ, ← unhide hk, ← hz0, hk2, hk0a]; omega
      have hk4e : Hid (k3 + 1 = kAt ds s (2 * (j + 1))) := by show _ = _; rw [show 2 * (j + 1) = 2 * j + 1 + 1 by omega, kAt_succ, ← hk1e, ← hz1, hk1a]; omega
      have ek0 : mkE ds s (2 * j) = (k % 3 == 0, marks .i64 (k + 1) z0.length, k1) := by unfold mkE; rw [← unhide hk, ← hz0, hk0a]
      have ek1 : mkE ds s (2 * j + 1) = (k2 % 3 == 0, marks .i64 (k2 + 1) z1.length, k3) := by unfold mkE; rw [← hk1e, ← hz1, hk1a]
      rw [ek0] at c0 c2 hln rr
      rw [ek1] at d0 d2 hln' rr'
      dsimp only at c0 c2 hln rr d0 d2 hln' rr'
      rw [marks_length] at hln hln'
      have hh0 := heldIntS_any _ (k + 1) (by omega) (by omega) (by omega) rr
      have hh1 := heldIntS_any _ (k2 + 1) (by omega) (by omega) (by omega) rr'
      rw [← hk0a] at hh0
      rw [← hk1a] at hh1
      have hwk : IntKind.i64.wrap (k + 1) = k + 1 := by rw [IntKind.wrap_i64]; omega
      have hwk1 : IntKind.i64.wrap (k1 + 1) = k2 := by rw [IntKind.wrap_i64]; omega
      have hwk2 : IntKind.i64.wrap (k2 + 1) = k2 + 1 := by rw [IntKind.wrap_i64]; omega
      have hwk3 : IntKind.i64.wrap (k3 + 1) = k3 + 1 := by rw [IntKind.wrap_i64]; omega
      have hwj : IntKind.i64.wrap ((j : Int) + 1) = ((j + 1 : Nat) : Int) := by rw [IntKind.wrap_i64]; omega
      have hn1 : ¬ (k1 < 0) := by omega
      have hn3 : ¬ (k3 < 0) := by omega
      have hkn0 : 0 ≤ k2 := by omega
      have hkn1 : 0 ≤ k := by omega
      clear hz0 hz1 ek0 ek1 hln hln' rr rr' hk1e hk0a hk2 hk1a
      go_wp2_with fail
      refine hh0.mono ?_
      rintro e w3 ⟨rfl, rfl⟩
      clear hh0
      go_wp2_with fail
      refine hh1.mono ?_
      rintro e w3 ⟨rfl, rfl⟩
      clear hh1
      go_wp2
      go_roundw
      case rel => exact ⟨j + 1, k3 + 1, rfl, by simp, hlt, hk4e, trivial⟩
      case measure => simp [intOf]; omega
    · have hjn : j = n := by omega
      subst hjn
      have hfin : kAt ds s (2 * j) = k := (unhide hk).symm
      have HFN := hide hfin
      clear hfin
      go_wp2
      go_ret
      exact ⟨by rw [unhide HFN]; rfl, rfl⟩

set_option maxHeartbeats 2000000 in
theorem heldIvMat_any {lo hi n : Nat} {v : Value} {ds : List DE} (m : Int) (w : World) (s : Int) (hs0 : 0 ≤ s) (hs1 : s ≤ 500000) (hn : szT ds ≤ 100000) (r : Ivs lo hi w v (mkL ds s) n) :
    Calls Tryz.prog 16 #[.agg #[.int .i64 m, v], .int .i64 s] w fun e w' => e = .returned (.int .i64 (kAt ds s ds.length)) ∧ Kept 0 0 w w' := by
  have k0 := (Kept.refl 0 0 w).alloc (.cells #[.int .i64 m, v] 28)
  have r0 := r.kept k0 (by omega)
  have c1 : (w.alloc (.cells #[.int .i64 m, v] 28)).cell? ⟨w.heap.size, 1, none⟩ = some v := new_cell2 _ _ _ _ _ _ rfl rfl
  obtain ⟨a, c, rfl⟩ := r.form'
  clear r
  have hm := heldIvS_any _ s hs0 hs1 hn r0
  have hpos : ¬ kAt ds s ds.length < 0 := by unfold kAt; omega
  obtain ⟨A, hA⟩ : ∃ A, kAt ds s ds.length = A := ⟨_, rfl⟩
  rw [hA] at hm hpos ⊢
  clear hA
  go_enter Tryz.func16, Tryz.ntmps16
  go_wp2_with fail
  refine hm.mono ?_
  rintro e w1 ⟨rfl, rfl⟩
  clear hm r0
  go_wp2
  go_ret
  exact ⟨rfl, k0⟩

theorem in_toX : ∀ (w : World) (args : Array Value), (callFunc 12 args).run Tryz.prog w = .ok (.enter 12 args) w := enters Tryz.func12 (by decide) (fun h => by cases h)

theorem in_eqX : ∀ (w : World) (args : Array Value), (callFunc 14 args).run Tryz.prog w = .ok (.enter 14 args) w := enters Tryz.func14 (by decide) (fun h => by cases h)

end Go.Proofs.YthahoabkehcgbaaGreatDoor

