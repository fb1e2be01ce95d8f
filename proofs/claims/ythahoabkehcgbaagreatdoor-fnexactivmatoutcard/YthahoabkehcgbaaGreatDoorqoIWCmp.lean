/-
  The contract of the program's WholeCmp.
-/
import Derived.Test.YthahoabkehcgbaaGreatDoorqoDys6
import Derived.Test.YthahoabkehcgbaaGreatDoorqoBJ
import Derived.Test.YthahoabkehcgbaaGreatDoorqoBC
import Derived.Test.YthahoabkehcgbaaGreatDoorqoDy3
import Derived.Test.YthahoabkehcgbaaGreatDoorqoBI
import Derived.Deep.DeepCutAuto
namespace Go.Proofs.YthahoabkehcgbaaGreatDoor
open Go.RowKit
set_option linter.unusedVariables false
set_option maxRecDepth 8000
set_option linter.unusedSimpArgs false

/-- The slice value v has n intervals as its elements: the numbers ds, two for each. -/
def Ivs (lo hi : Nat) (w : World) (v : Value) (ds : List DE) (n : Nat) : Prop :=
  ∃ a c, v = .slice a n c ∧ n ≤ c ∧ c ≤ maxLen ∧ ds.length = 2 * n ∧
    (n ≠ 0 → ∃ g off, a = some ⟨g, off, none⟩ ∧ lo ≤ g ∧ g < hi ∧ g < w.heap.size ∧ ∀ k, k < ds.length → DyAt false lo hi w g (off + k * 3) (ds.getD k de0))
theorem Ivs.kept {lo hi l h n : Nat} {w w' : World} {v : Value} {ds : List DE} (r : Ivs lo hi w v ds n) (q : Kept l h w w') (hd : hi ≤ l ∨ h ≤ lo ∨ h ≤ l) : Ivs lo hi w' v ds n := by
  obtain ⟨a, c, rfl, h1, h2, h4, h3⟩ := r
  refine ⟨a, c, rfl, h1, h2, h4, fun hz => ?_⟩
  obtain ⟨g, off, rfl, hl, hh, hs, hc⟩ := h3 hz
  exact ⟨g, off, rfl, hl, hh, Nat.lt_of_lt_of_le hs q.size, fun i hi' => (hc i hi').kept q hd (by omega)⟩
theorem Ivs.form {lo hi n : Nat} {w : World} {v : Value} {ds : List DE} (r : Ivs lo hi w v ds n) : ∃ a c, v = .slice a n c ∧ n ≤ c ∧ c ≤ maxLen := by
  obtain ⟨a, c, rfl, q1, q2, _⟩ := r
  exact ⟨a, c, rfl, q1, q2⟩
theorem Ivs.form' {lo hi n : Nat} {w : World} {v : Value} {ds : List DE} (r : Ivs lo hi w v ds n) : ∃ a c, v = .slice a n c := by
  obtain ⟨a, c, rfl, _⟩ := r
  exact ⟨a, c, rfl⟩
theorem Ivs.len {lo hi n : Nat} {w : World} {v : Value} {ds : List DE} (r : Ivs lo hi w v ds n) : ds.length = 2 * n := by
  obtain ⟨a, c, rfl, _, _, h, _⟩ := r
  exact h
/-- An interval's six cells. -/
theorem Ivs.at {lo hi n m c : Nat} {w : World} {a : Option Addr} {ds : List DE} (r : Ivs lo hi w (.slice a m c) ds n) {i : Nat} (hi' : i < n) :
    ∃ g off l l', a = some ⟨g, off, none⟩ ∧ lo ≤ g ∧ g < hi ∧ g < w.heap.size ∧ ∃ b k b' k', w.cell? ⟨g, off + i * 6, none⟩ = some (.bool (ds.getD (2 * i) de0).1) ∧ w.cell? ⟨g, off + i * 6 + 1, none⟩ = some (.slice b l k) ∧ w.cell? ⟨g, off + i * 6 + 2, none⟩ = some (.int .i64 (ds.getD (2 * i) de0).2.2) ∧ w.cell? ⟨g, off + i * 6 + 3, none⟩ = some (.bool (ds.getD (2 * i + 1) de0).1) ∧ w.cell? ⟨g, off + i * 6 + 4, none⟩ = some (.slice b' l' k') ∧ w.cell? ⟨g, off + i * 6 + 5, none⟩ = some (.int .i64 (ds.getD (2 * i + 1) de0).2.2) ∧ l = (ds.getD (2 * i) de0).2.1.length ∧ l' = (ds.getD (2 * i + 1) de0).2.1.length ∧ Row .i64 false lo hi w (.slice b l k) (ds.getD (2 * i) de0).2.1 ∧ Row .i64 false lo hi w (.slice b' l' k') (ds.getD (2 * i + 1) de0).2.1 := by
  obtain ⟨a', c', e, q1, q2, q4, q3⟩ := r
  cases e
  obtain ⟨g, off, rfl, hl, hh, hs, hc⟩ := q3 (by omega)
  obtain ⟨u, c0, c1, c2, r⟩ := hc (2 * i) (by omega)
  obtain ⟨u', d0, d1, d2, r'⟩ := hc (2 * i + 1) (by omega)
  obtain ⟨b, k, rfl⟩ := Row.form' r
  obtain ⟨b', k', rfl⟩ := Row.form' r'
  rw [show off + 2 * i * 3 = off + i * 6 by omega] at c0 c1 c2
  rw [show off + (2 * i + 1) * 3 = off + i * 6 + 3 by omega] at d0 d1 d2
  exact ⟨g, off, _, _, rfl, hl, hh, hs, b, k, b', k', c0, c1, c2, d0, d1, d2, rfl, rfl, r, r'⟩

/-- What a list of them takes. -/
def szV (ds : List DE) (n : Nat) : Int := n + limT ds (2 * n)
theorem szV_len (ds : List DE) (n : Nat) : (n : Int) ≤ szV ds n ∧ 0 ≤ szV ds n := by unfold szV; omega
theorem szV_each (ds : List DE) (n i : Nat) (h : i < 2 * n) : ((ds.getD i de0).2.1.length : Int) ≤ szV ds n := by
  have h1 : limT ds (i + 1) = limT ds i + (ds.getD i de0).2.1.length := rfl
  have h2 := limT_mono ds (a := i + 1) (b := 2 * n) h
  unfold szV
  omega
theorem limT_two (ds : List DE) (j : Nat) : limT ds (2 * (j + 1)) = limT ds (2 * j) + ((ds.getD (2 * j) de0).2.1.length + (ds.getD (2 * j + 1) de0).2.1.length) := by
  rw [show 2 * (j + 1) = 2 * j + 1 + 1 by omega]
  show limT ds (2 * j) + _ + _ = _
  omega

theorem own6 {w : World} {base n g c : Nat} {e : TypeId} {xs : List Value} (h : w.ownsRow base e 6 (.slice (some ⟨g, 0, none⟩) n c) n xs) : g < w.heap.size ∧ ∀ k u, xs[k]? = some u → w.cell? ⟨g, k, none⟩ = some u ∧ w.frozen? ⟨g, k, none⟩ = false := by
  rcases h.2 with ⟨e1, h0⟩ | ⟨g', cap, cur, e1, hb, hg, hle, hm, hs, htake⟩
  · cases e1
  · cases e1
    refine ⟨(Array.getElem?_eq_some_iff.1 hg).1, fun k u hk => ⟨?_, by simp [World.frozen?, hg]⟩⟩
    rw [← htake, List.getElem?_take] at hk
    by_cases hlt : k < n * 6
    · rw [if_pos hlt] at hk
      simpa [World.cell?, hg] using hk
    · rw [if_neg hlt] at hk; cases hk
theorem made6 (z : Value) (hz : z.cells.size = 6) (n k : Nat) (hk : k < n * 6) : ∃ u, (madeCells z.cells (n * 6)).toList[k]? = some u := by
  have : (madeCells z.cells (n * 6)).toList.length = n * 6 := by simp [madeCells]
  exact ⟨_, List.getElem?_eq_getElem (by omega)⟩
theorem Tryz.infoIv : (Tryz.prog.info? 102).map (fun i => (i.zero, i.size, i.bytes)) = some (some (.agg #[.bool false, .slice none 0 0, .int .i64 0, .bool false, .slice none 0 0, .int .i64 0]), 6, 80) := by kernel_rfl
/-- One more interval. -/
theorem FillP.two {B g n j mid : Nat} {ds : List DE} {w w' : World} {s s' : Bool} {u u' : Value} {y y' : Int} {z z' : List Int} (f : FillP B g (2 * n) ds (fun i => i < 2 * j) w) (hj : j < n) (k : Kept 0 0 w w') (r : Row .i64 true w.heap.size mid w' u z) (r' : Row .i64 true mid w'.heap.size w' u' z') (hm : w.heap.size ≤ mid) (hm' : mid ≤ w'.heap.size) (he : ds.getD (2 * j) de0 = (s, z, y)) (he' : ds.getD (2 * j + 1) de0 = (s', z', y')) :
    FillP B g (2 * n) ds (fun i => i < 2 * (j + 1)) ((((((w'.setCell ⟨g, j * 6, none⟩ (.bool s)).setCell ⟨g, j * 6 + 1, none⟩ u).setCell ⟨g, j * 6 + 2, none⟩ (.int .i64 y)).setCell ⟨g, j * 6 + 3, none⟩ (.bool s')).setCell ⟨g, j * 6 + 4, none⟩ u').setCell ⟨g, j * 6 + 5, none⟩ (.int .i64 y')) := by
  have hl := f.lt
  have f1 := f.step (P' := fun i => i < 2 * j + 1) (j := 2 * j) (by omega) k r.read (fun _ => .inl (by omega)) he (fun i hi => by omega)
  have kk : Kept g (g + 1) w' (((w'.setCell ⟨g, 2 * j * 3, none⟩ (.bool s)).setCell ⟨g, 2 * j * 3 + 1, none⟩ u).setCell ⟨g, 2 * j * 3 + 2, none⟩ (.int .i64 y)) := (((Kept.refl g (g + 1) w').setCell (p := ⟨g, 2 * j * 3, none⟩) (Nat.le_refl _) (Nat.lt_succ_self _) _).setCell (p := ⟨g, 2 * j * 3 + 1, none⟩) (Nat.le_refl _) (Nat.lt_succ_self _) _).setCell (p := ⟨g, 2 * j * 3 + 2, none⟩) (Nat.le_refl _) (Nat.lt_succ_self _) _
  have q := r'.read.kept kk (by omega)
  have f2 := f1.step (P' := fun i => i < 2 * (j + 1)) (j := 2 * j + 1) (by omega) (Kept.refl 0 0 _) q (fun _ => .inl (by omega)) he' (fun i hi => by omega)
  rw [show (2 * j + 1) * 3 = j * 6 + 3 by omega, show 2 * j * 3 = j * 6 by omega] at f2
  exact f2
theorem Ivs.wider {lo hi lo' hi' n : Nat} {w : World} {v : Value} {ds : List DE} (r : Ivs lo hi w v ds n) (h1 : lo' ≤ lo) (h2 : hi ≤ hi') : Ivs lo' hi' w v ds n := by
  obtain ⟨a, c, rfl, q1, q2, q4, q3⟩ := r
  refine ⟨a, c, rfl, q1, q2, q4, fun hz => ?_⟩
  obtain ⟨g, off, rfl, hl, hh, hs, hc⟩ := q3 hz
  refine ⟨g, off, rfl, by omega, by omega, hs, fun i hi => ?_⟩
  obtain ⟨u, c0, c1, c2, r⟩ := hc i hi
  exact ⟨u, c0, c1, c2, r.wider h1 h2⟩

set_option maxHeartbeats 4000000 in
theorem szIvS_any {lo hi n : Nat} {v : Value} {ds : List DE} (w : World) (s : Int) (hs0 : 0 ≤ s) (hs1 : s ≤ 1048576) (r : Ivs lo hi w v ds n) :
    Calls Tryz.prog 37 #[v, .int .i64 s] w fun e w' => e = .returned (.int .i64 (if szV ds n ≤ s then s - szV ds n else -1)) ∧ Kept 0 0 w w' := by
  obtain ⟨a, c, rfl, hc1, hc2⟩ := r.form
  have hm : n ≤ 9223372036854775807 := by unfold maxLen at hc2; omega
  have R := hide r
  obtain ⟨A, hA⟩ : ∃ A : Int, A = if szV ds n ≤ s then s - szV ds n else -1 := ⟨_, rfl⟩
  rw [← hA]
  have HA := hide hA
  have hw0 : IntKind.i64.wrap (s - (n : Int)) = s - n := by rw [IntKind.wrap_i64]; omega
  clear r hA hc1 hc2
  by_cases h0 : s - (n : Int) < 0
  · have HB : A = -1 := by
      rw [unhide HA, if_neg]
      unfold szV
      omega
    clear HA
    go_enter Tryz.func37, Tryz.ntmps37
    go_wp2
    go_ret
    exact ⟨by rw [HB]; rfl, Kept.refl _ _ _⟩
  go_enter Tryz.func37, Tryz.ntmps37
  go_wp2
  go_loopw [1, 5] (fun s1 s5 wr => ∃ (j : Nat) (l : Int), s1 = .int .i64 l ∧ s5 = .int .i64 j ∧ j ≤ n ∧ Hid (l = s - n - limT ds (2 * j)) ∧ 0 ≤ l ∧ l ≤ 1048576 ∧ Kept 0 0 w wr) (fun _ s5 _ => n - (intOf s5).toNat)
  case atStart => exact ⟨0, s - n, rfl, rfl, Nat.zero_le _, by show _ = _; simp [limT], by omega, by omega, Kept.refl _ _ _⟩
  case round =>
    obtain ⟨j, l, rfl, rfl, hj, hl, hl0, hl1, k⟩ := hrel
    by_cases hlt : j < n
    · obtain ⟨g, off, ln, ln', rfl, -, -, -, b, kk, b', kk', c0, c1, c2, d0, d1, d2, hln, hln', rr, rr'⟩ := ((unhide R).kept k (by omega)).at (i := j) hlt
      obtain ⟨s0, hs0'⟩ : ∃ q, q = (ds.getD (2 * j) de0).1 := ⟨_, rfl⟩
      obtain ⟨y0, hy0⟩ : ∃ q, q = (ds.getD (2 * j) de0).2.2 := ⟨_, rfl⟩
      obtain ⟨z0, hz0⟩ : ∃ q, q = (ds.getD (2 * j) de0).2.1 := ⟨_, rfl⟩
      obtain ⟨s1, hs1'⟩ : ∃ q, q = (ds.getD (2 * j + 1) de0).1 := ⟨_, rfl⟩
      obtain ⟨y1, hy1⟩ : ∃ q, q = (ds.getD (2 * j + 1) de0).2.2 := ⟨_, rfl⟩
      obtain ⟨z1, hz1⟩ : ∃ q, q = (ds.getD (2 * j + 1) de0).2.1 := ⟨_, rfl⟩
      rw [← hs0'] at c0
      rw [← hy0] at c2
      rw [← hz0] at hln rr
      rw [← hs1'] at d0
      rw [← hy1] at d2
      rw [← hz1] at hln' rr'
      clear hs0' hy0 hs1' hy1
      have hsz := szIv_any s0 y0 s1 y1 wr l hl0 hl1 rr rr'
      have HS : Hid (limT ds (2 * (j + 1)) = limT ds (2 * j) + (z0.length + z1.length)) := by show _ = _; rw [limT_two, hz0, hz1]
      have hfull : limT ds (2 * (j + 1)) ≤ limT ds (2 * n) := limT_mono ds (by omega)
      clear hz0 hln rr hz1 hln' rr'
      go_wp2_with fail
      refine hsz.mono ?_
      rintro e w2 ⟨rfl, k2⟩
      have K2 := hide (k.trans k2)
      clear hsz k k2
      obtain ⟨Z, hZ⟩ : ∃ Z : Int, (z0.length : Int) + (z1.length : Int) = Z := ⟨_, rfl⟩
      rw [hZ]
      by_cases hf : Z ≤ l
      · rw [if_pos hf]
        have hneg : ¬ (l - Z < 0) := by omega
        have hw1 : IntKind.i64.wrap ((j : Int) + 1) = ((j + 1 : Nat) : Int) := by rw [IntKind.wrap_i64]; omega
        have HZ : Hid ((z0.length : Int) + (z1.length : Int) = Z) := hZ
        have hl1' : l - Z ≤ 1048576 := by omega
        clear hf hZ
        go_wp2
        go_roundw
        case rel => exact ⟨j + 1, l - Z, rfl, by simp, hlt, by have := unhide hl; have := unhide HS; have := unhide HZ; show _ = _; omega, by omega, by omega, unhide K2⟩
        case measure => simp [intOf]; omega
      · rw [if_neg hf]
        have HB : A = -1 := by
          rw [unhide HA, if_neg]
          unfold szV
          have := unhide hl
          have := unhide HS
          omega
        clear hf HA hZ
        go_wp2
        go_ret
        exact ⟨by rw [HB]; rfl, unhide K2⟩
    · have hjn : j = n := by omega
      subst hjn
      have HB : A = l := by
        have hl' := unhide hl
        rw [unhide HA, if_pos]
        · unfold szV; omega
        · unfold szV; omega
      clear HA
      go_wp2
      go_ret
      exact ⟨by rw [HB]; rfl, k⟩

set_option maxHeartbeats 8000000 in
theorem eqIvS_same {l1 h1 l2 h2 n : Nat} {v1 v2 : Value} {ds : List DE} (w : World) (r1 : Ivs l1 h1 w v1 ds n) (r2 : Ivs l2 h2 w v2 ds n) :
    Calls Tryz.prog 44 #[v1, v2] w fun e w' => e = .returned (.bool true) ∧ Kept 0 0 w w' := by
  obtain ⟨a1, d1, rfl, hc1, hc2⟩ := r1.form
  obtain ⟨a2, d2, rfl, -, -⟩ := r2.form
  have hm : n ≤ 9223372036854775807 := by unfold maxLen at hc2; omega
  have R1 := hide r1
  have R2 := hide r2
  clear r1 r2 hc1 hc2
  go_enter Tryz.func44, Tryz.ntmps44
  go_wp2
  go_loopw [5] (fun s5 wx => ∃ j : Nat, s5 = .int .i64 j ∧ j ≤ n ∧ Kept 0 0 w wx) (fun s5 _ => n - (intOf s5).toNat)
  case atStart => exact ⟨0, rfl, Nat.zero_le _, Kept.refl _ _ _⟩
  case round =>
    obtain ⟨j, rfl, hj, k⟩ := hrel
    by_cases hlt : j < n
    · have kd := k.drew
      obtain ⟨g1, o1, n1, m1, rfl, -, -, -, b1, k1, p1, q1, c10, c11, c12, d10, d11, d12, hn1, hm1, rr1, ss1⟩ := ((unhide R1).kept kd (by omega)).at (i := j) hlt
      obtain ⟨g2, o2, n2, m2, rfl, -, -, -, b2, k2, p2, q2, c20, c21, c22, d20, d21, d22, hn2, hm2, rr2, ss2⟩ := ((unhide R2).kept kd (by omega)).at (i := j) hlt
      obtain ⟨s0, hs0'⟩ : ∃ q, q = (ds.getD (2 * j) de0).1 := ⟨_, rfl⟩
      obtain ⟨y0, hy0⟩ : ∃ q, q = (ds.getD (2 * j) de0).2.2 := ⟨_, rfl⟩
      obtain ⟨z0, hz0⟩ : ∃ q, q = (ds.getD (2 * j) de0).2.1 := ⟨_, rfl⟩
      obtain ⟨s1, hs1'⟩ : ∃ q, q = (ds.getD (2 * j + 1) de0).1 := ⟨_, rfl⟩
      obtain ⟨y1, hy1⟩ : ∃ q, q = (ds.getD (2 * j + 1) de0).2.2 := ⟨_, rfl⟩
      obtain ⟨z1, hz1⟩ : ∃ q, q = (ds.getD (2 * j + 1) de0).2.1 := ⟨_, rfl⟩
      rw [← hs0'] at c10 c20
      rw [← hy0] at c12 c22
      rw [← hz0] at hn1 hn2 rr1 rr2
      rw [← hs1'] at d10 d20
      rw [← hy1] at d12 d22
      rw [← hz1] at hm1 hm2 ss1 ss2
      clear hs0' hy0 hz0 hn1 hn2 hs1' hy1 hz1 hm1 hm2
      go_wp2_with fail
      refine wp_region_held_drew (S := (fun w' => w'.cell? ⟨g1, o1 + j * 6, none⟩ = some (.bool s0) ∧ w'.cell? ⟨g1, o1 + j * 6 + 1, none⟩ = some (.slice b1 n1 k1) ∧ w'.cell? ⟨g1, o1 + j * 6 + 2, none⟩ = some (.int .i64 y0) ∧ w'.cell? ⟨g1, o1 + j * 6 + 3, none⟩ = some (.bool s1) ∧ w'.cell? ⟨g1, o1 + j * 6 + 4, none⟩ = some (.slice p1 m1 q1) ∧ w'.cell? ⟨g1, o1 + j * 6 + 5, none⟩ = some (.int .i64 y1) ∧ w'.cell? ⟨g2, o2 + j * 6, none⟩ = some (.bool s0) ∧ w'.cell? ⟨g2, o2 + j * 6 + 1, none⟩ = some (.slice b2 n2 k2) ∧ w'.cell? ⟨g2, o2 + j * 6 + 2, none⟩ = some (.int .i64 y0) ∧ w'.cell? ⟨g2, o2 + j * 6 + 3, none⟩ = some (.bool s1) ∧ w'.cell? ⟨g2, o2 + j * 6 + 4, none⟩ = some (.slice p2 m2 q2) ∧ w'.cell? ⟨g2, o2 + j * 6 + 5, none⟩ = some (.int .i64 y1))) (by kernel_rfl) ?_ (fun hHeld => ?_)
      · exact ⟨c10, c11, c12, d10, d11, d12, c20, c21, c22, d20, d21, d22⟩
      refine wpAnyH_take (i := 0) (oi := _) (v := .slice (some ⟨g1, o1, none⟩) n d1) rfl (by kernel_rfl) (by kernel_rfl) (by kernel_rfl) (fun _ _ _ h => h) (Or.inl ⟨by rfl, ?_⟩) hHeld ?_
      · intro wq hSw
        try dsimp only at hSw
        go_simp
      try simp only [Act.put, List.getElem_toArray, List.getElem_cons_succ, List.getElem_cons_zero, List.setIfInBounds_toArray, List.set_cons_zero, List.set_cons_succ]
      refine wpAnyH_take (i := 1) (oi := _) (v := .int .i64 (j : Int)) rfl (by kernel_rfl) (by kernel_rfl) (by kernel_rfl) (fun _ _ _ h => h) (Or.inl ⟨by rfl, ?_⟩) hHeld ?_
      · intro wq hSw
        try dsimp only at hSw
        go_simp
      try simp only [Act.put, List.getElem_toArray, List.getElem_cons_succ, List.getElem_cons_zero, List.setIfInBounds_toArray, List.set_cons_zero, List.set_cons_succ]
      refine wpAnyH_take (i := 2) (oi := _) (v := .pointer (some ⟨g1, o1 + j * 6, none⟩)) rfl (by kernel_rfl) (by kernel_rfl) (by kernel_rfl) (fun _ _ _ h => h) (Or.inl ⟨by rfl, ?_⟩) hHeld ?_
      · intro wq hSw
        try dsimp only at hSw
        go_simp
      try simp only [Act.put, List.getElem_toArray, List.getElem_cons_succ, List.getElem_cons_zero, List.setIfInBounds_toArray, List.set_cons_zero, List.set_cons_succ]
      refine wpAnyH_take (i := 3) (oi := _) (v := .agg #[.bool s0, .slice b1 n1 k1, .int .i64 y0, .bool s1, .slice p1 m1 q1, .int .i64 y1]) rfl (by kernel_rfl) (by kernel_rfl) (by kernel_rfl) (fun _ _ _ h => h) (Or.inl ⟨by rfl, ?_⟩) hHeld ?_
      · intro wq hSw
        try dsimp only at hSw
        go_simp
      try simp only [Act.put, List.getElem_toArray, List.getElem_cons_succ, List.getElem_cons_zero, List.setIfInBounds_toArray, List.set_cons_zero, List.set_cons_succ]
      refine wpAnyH_take (i := 4) (oi := _) (v := .slice (some ⟨g2, o2, none⟩) n d2) rfl (by kernel_rfl) (by kernel_rfl) (by kernel_rfl) (fun _ _ _ h => h) (Or.inl ⟨by rfl, ?_⟩) hHeld ?_
      · intro wq hSw
        try dsimp only at hSw
        go_simp
      try simp only [Act.put, List.getElem_toArray, List.getElem_cons_succ, List.getElem_cons_zero, List.setIfInBounds_toArray, List.set_cons_zero, List.set_cons_succ]
      refine wpAnyH_take (i := 5) (oi := _) (v := .int .i64 (j : Int)) rfl (by kernel_rfl) (by kernel_rfl) (by kernel_rfl) (fun _ _ _ h => h) (Or.inl ⟨by rfl, ?_⟩) hHeld ?_
      · intro wq hSw
        try dsimp only at hSw
        go_simp
      try simp only [Act.put, List.getElem_toArray, List.getElem_cons_succ, List.getElem_cons_zero, List.setIfInBounds_toArray, List.set_cons_zero, List.set_cons_succ]
      refine wpAnyH_take (i := 6) (oi := _) (v := .pointer (some ⟨g2, o2 + j * 6, none⟩)) rfl (by kernel_rfl) (by kernel_rfl) (by kernel_rfl) (fun _ _ _ h => h) (Or.inl ⟨by rfl, ?_⟩) hHeld ?_
      · intro wq hSw
        try dsimp only at hSw
        go_simp
      try simp only [Act.put, List.getElem_toArray, List.getElem_cons_succ, List.getElem_cons_zero, List.setIfInBounds_toArray, List.set_cons_zero, List.set_cons_succ]
      refine wpAnyH_take (i := 7) (oi := _) (v := .agg #[.bool s0, .slice b2 n2 k2, .int .i64 y0, .bool s1, .slice p2 m2 q2, .int .i64 y1]) rfl (by kernel_rfl) (by kernel_rfl) (by kernel_rfl) (fun _ _ _ h => h) (Or.inl ⟨by rfl, ?_⟩) hHeld ?_
      · intro wq hSw
        try dsimp only at hSw
        go_simp
      try simp only [Act.put, List.getElem_toArray, List.getElem_cons_succ, List.getElem_cons_zero, List.setIfInBounds_toArray, List.set_cons_zero, List.set_cons_succ]
      refine wpAnyH_ready (rs := [8]) (by kernel_rfl) (by simp) ?_
      refine AllReadyH.cons rfl (fun KK hK => ?_) AllReadyH.nil
      simp only [List.getElem_toArray, List.getElem_cons_succ, List.getElem_cons_zero]
      rw [if_pos (by rfl)]
      refine wps2 93 (.tmp 20) (.tmp 24) _ rfl in_eqV (.agg #[.bool s0, .slice b1 n1 k1, .int .i64 y0, .bool s1, .slice p1 m1 q1, .int .i64 y1]) (.agg #[.bool s0, .slice b2 n2 k2, .int .i64 y0, .bool s1, .slice p2 m2 q2, .int .i64 y1]) rfl rfl (eqIv_same s0 y0 s1 y1 _ rr1 ss1 rr2 ss2) ?_
      rintro e w3 ⟨rfl, k3⟩
      refine ⟨_, rfl, ?_⟩
      replace c10 := k3.cell0 c10
      replace c11 := k3.cell0 c11
      replace c12 := k3.cell0 c12
      replace d10 := k3.cell0 d10
      replace d11 := k3.cell0 d11
      replace d12 := k3.cell0 d12
      replace c20 := k3.cell0 c20
      replace c21 := k3.cell0 c21
      replace c22 := k3.cell0 c22
      replace d20 := k3.cell0 d20
      replace d21 := k3.cell0 d21
      replace d22 := k3.cell0 d22
      have K3 := hide (kd.trans k3)
      clear k3 rr1 rr2 ss1 ss2 k kd
      clear hHeld
      refine hK.out _ _ ?_ (fun hHeld => ?_)
      · exact ⟨c10, c11, c12, d10, d11, d12, c20, c21, c22, d20, d21, d22⟩
      clear hK KK
      try simp only [Act.put, List.getElem_toArray, List.getElem_cons_succ, List.getElem_cons_zero, List.setIfInBounds_toArray, List.set_cons_zero, List.set_cons_succ]
      refine wpAnyH_take (i := 9) (oi := _) (v := .bool false) rfl (by kernel_rfl) (by kernel_rfl) (by kernel_rfl) (fun _ _ _ h => h) (Or.inl ⟨by rfl, ?_⟩) hHeld ?_
      · intro wq hSw
        try dsimp only at hSw
        go_simp
      try simp only [Act.put, List.getElem_toArray, List.getElem_cons_succ, List.getElem_cons_zero, List.setIfInBounds_toArray, List.set_cons_zero, List.set_cons_succ]
      refine wpAnyH_done (by kernel_rfl) ?_ _
      clear hHeld c10 c11 c12 c20 c21 c22 d10 d11 d12 d20 d21 d22
      go_wp2
      go_roundw
      case rel => exact ⟨j + 1, by simp, hlt, unhide K3⟩
      case measure => simp [intOf]; omega
    · have hjn : j = n := by omega
      subst hjn
      go_wp2
      go_ret
      exact ⟨rfl, k⟩

set_option maxHeartbeats 2000000 in
theorem szIvMat_any {lo hi n : Nat} {v : Value} {ds : List DE} (m : Int) (w : World) (s : Int) (hs0 : 0 ≤ s) (hs1 : s ≤ 1048576) (r : Ivs lo hi w v ds n) :
    Calls Tryz.prog 10 #[.agg #[.int .i64 m, v], .int .i64 s] w fun e w' => e = .returned (.int .i64 (if szV ds n ≤ s then s - szV ds n else -1)) ∧ Kept 0 0 w w' := by
  have k0 := (Kept.refl 0 0 w).alloc (.cells #[.int .i64 m, v] 24)
  have r0 := r.kept k0 (by omega)
  have c1 : (w.alloc (.cells #[.int .i64 m, v] 24)).cell? ⟨w.heap.size, 1, none⟩ = some v := new_cell2 _ _ _ _ _ _ rfl rfl
  obtain ⟨a, c, rfl, -, -⟩ := r.form
  clear r
  obtain ⟨A, hA⟩ : ∃ A : Int, A = if szV ds n ≤ s then s - szV ds n else -1 := ⟨_, rfl⟩
  have hsz := szIvS_any _ s hs0 hs1 r0
  rw [← hA] at hsz ⊢
  have hA' : A < 0 → A = -1 := by intro h; rw [hA] at h ⊢; split at h <;> first | omega | rfl
  have HA := hide hA'
  clear hA hA'
  go_enter Tryz.func10, Tryz.ntmps10
  go_wp2_with fail
  refine hsz.mono ?_
  rintro e w1 ⟨rfl, k1⟩
  have K1 := hide (k0.trans k1)
  clear hsz k0 k1 r0
  by_cases h : A < 0
  · go_wp2
    go_ret
    exact ⟨by rw [unhide HA h]; rfl, unhide K1⟩
  · go_wp2
    go_ret
    exact ⟨rfl, unhide K1⟩

set_option maxHeartbeats 2000000 in
theorem eqIvMat_same {l1 h1 l2 h2 n : Nat} {v1 v2 : Value} {ds : List DE} (m : Int) (w : World) (r1 : Ivs l1 h1 w v1 ds n) (r2 : Ivs l2 h2 w v2 ds n) :
    Calls Tryz.prog 14 #[.agg #[.int .i64 m, v1], .agg #[.int .i64 m, v2]] w fun e w' => e = .returned (.bool true) ∧ Kept 0 0 w w' := by
  have k0 := ((Kept.refl 0 0 w).alloc (.cells #[.int .i64 m, v1] 28)).alloc (.cells #[.int .i64 m, v2] 28)
  have q1 := r1.kept k0 (by omega)
  have q2 := r2.kept k0 (by omega)
  have c10 : ((w.alloc (.cells #[.int .i64 m, v1] 28)).alloc (.cells #[.int .i64 m, v2] 28)).cell? ⟨w.heap.size, 0, none⟩ = some (.int .i64 m) := old_cell _ (new_cell2 _ _ _ _ _ _ (by simp) rfl)
  have c11 : ((w.alloc (.cells #[.int .i64 m, v1] 28)).alloc (.cells #[.int .i64 m, v2] 28)).cell? ⟨w.heap.size, 1, none⟩ = some v1 := old_cell _ (new_cell2 _ _ _ _ _ _ (by simp) rfl)
  have c20 : ((w.alloc (.cells #[.int .i64 m, v1] 28)).alloc (.cells #[.int .i64 m, v2] 28)).cell? ⟨w.heap.size + 1, 0, none⟩ = some (.int .i64 m) := new_cell2 _ _ _ _ _ _ (by simp) rfl
  have c21 : ((w.alloc (.cells #[.int .i64 m, v1] 28)).alloc (.cells #[.int .i64 m, v2] 28)).cell? ⟨w.heap.size + 1, 1, none⟩ = some v2 := new_cell2 _ _ _ _ _ _ (by simp) rfl
  obtain ⟨a1, d1, rfl, -, -⟩ := r1.form
  obtain ⟨a2, d2, rfl, -, -⟩ := r2.form
  clear r1 r2
  have he := eqIvS_same _ q1 q2
  go_enter Tryz.func14, Tryz.ntmps14
  go_wp2_with fail
  refine he.mono ?_
  rintro e w1 ⟨rfl, k1⟩
  have K1 := hide (k0.trans k1)
  clear he k0 k1 q1 q2
  go_wp2
  go_ret
  exact ⟨rfl, unhide K1⟩

end Go.Proofs.YthahoabkehcgbaaGreatDoor


namespace Go.Proofs.YthahoabkehcgbaaGreatDoor
open Go.RowKit
set_option linter.unusedVariables false
set_option maxRecDepth 8000
set_option linter.unusedSimpArgs false

set_option maxHeartbeats 2000000 in
theorem cmp4_spec {b1 b2 : Bool} {l1 h1 l2 h2 : Nat} {v1 v2 : Value} {xs ys : List Int} (s1 s2 : Bool) (x1 x2 : Int) (w : World) (r1 : Row .i64 b1 l1 h1 w v1 xs) (r2 : Row .i64 b2 l2 h2 w v2 ys) (o1 : dokB s1 xs x1 = true) (o2 : dokB s2 ys x2 = true) :
    Calls Tryz.prog 158 #[.agg #[.bool s1, v1, .int .i64 x1], .agg #[.bool s2, v2, .int .i64 x2]] w fun e w' => e = .returned (.int .i64 (cmpDI (wval s1 xs) x1 (wval s2 ys) x2)) ∧ Kept 0 0 w w' := by
  have k0 : Kept 0 0 w ((w.alloc (.cells #[.bool s1, v1, .int .i64 x1] 52)).alloc (.cells #[.bool s2, v2, .int .i64 x2] 52)) := (((Kept.refl 0 0 w).alloc (.cells #[.bool s1, v1, .int .i64 x1] 52)).alloc (.cells #[.bool s2, v2, .int .i64 x2] 52))
  have p0 : ((w.alloc (.cells #[.bool s1, v1, .int .i64 x1] 52)).alloc (.cells #[.bool s2, v2, .int .i64 x2] 52)).cell? ⟨w.heap.size, 0, none⟩ = some (.bool s1) := old_cell _ (new_cell2 _ _ _ _ _ _ (by simp) rfl)
  have p1 : ((w.alloc (.cells #[.bool s1, v1, .int .i64 x1] 52)).alloc (.cells #[.bool s2, v2, .int .i64 x2] 52)).cell? ⟨w.heap.size, 1, none⟩ = some (v1) := old_cell _ (new_cell2 _ _ _ _ _ _ (by simp) rfl)
  have p2 : ((w.alloc (.cells #[.bool s1, v1, .int .i64 x1] 52)).alloc (.cells #[.bool s2, v2, .int .i64 x2] 52)).cell? ⟨w.heap.size, 2, none⟩ = some (.int .i64 x1) := old_cell _ (new_cell2 _ _ _ _ _ _ (by simp) rfl)
  have t0 : ((w.alloc (.cells #[.bool s1, v1, .int .i64 x1] 52)).alloc (.cells #[.bool s2, v2, .int .i64 x2] 52)).cell? ⟨w.heap.size + 1, 0, none⟩ = some (.bool s2) := new_cell2 _ _ _ _ _ _ (by simp) rfl
  have t1 : ((w.alloc (.cells #[.bool s1, v1, .int .i64 x1] 52)).alloc (.cells #[.bool s2, v2, .int .i64 x2] 52)).cell? ⟨w.heap.size + 1, 1, none⟩ = some (v2) := new_cell2 _ _ _ _ _ _ (by simp) rfl
  have t2 : ((w.alloc (.cells #[.bool s1, v1, .int .i64 x1] 52)).alloc (.cells #[.bool s2, v2, .int .i64 x2] 52)).cell? ⟨w.heap.size + 1, 2, none⟩ = some (.int .i64 x2) := new_cell2 _ _ _ _ _ _ (by simp) rfl
  replace r1 := r1.kept k0 (by omega)
  replace r2 := r2.kept k0 (by omega)
  have s0 : ((w.alloc (.cells #[.bool s1, v1, .int .i64 x1] 52)).alloc (.cells #[.bool s2, v2, .int .i64 x2] 52)).heap.size = w.heap.size + 2 := by simp
  obtain ⟨a1, c1, hv⟩ := Row.form' r1
  subst hv
  obtain ⟨a2, c2, hv⟩ := Row.form' r2
  subst hv
  have K := hide (k0)
  clear k0
  have S0 := hide s0
  clear s0
  go_enter Tryz.func158, Tryz.ntmps158
  go_wp2_with fail
  generalize ((w.alloc (.cells #[.bool s1, .slice a1 xs.length c1, .int .i64 x1] 52)).alloc (.cells #[.bool s2, .slice a2 ys.length c2, .int .i64 x2] 52)) = W at *
  refine (align4_spec s1 s2 x1 x2 _ r1 r2 o1 o2).mono ?_
  rintro e w1 ⟨u1, u2, sA, sB, zA, zB, E, rfl, ra, rb, ⟨m1, m2, -, -, al, f1, f2⟩, k1⟩
  replace r1 := r1.kept k1 (by omega)
  replace r2 := r2.kept k1 (by omega)
  replace p0 := k1.cell0 p0
  replace p1 := k1.cell0 p1
  replace p2 := k1.cell0 p2
  replace t0 := k1.cell0 t0
  replace t1 := k1.cell0 t1
  replace t2 := k1.cell0 t2
  replace K := hide ((unhide K).trans k1)
  have z2 := k1.size
  clear k1
  have EQ := hide (cmp_alg al)
  rw [← f1, ← f2] at EQ
  clear al f1 f2
  obtain ⟨a5, c5, hv⟩ := Row.form' ra
  subst hv
  obtain ⟨a6, c6, hv⟩ := Row.form' rb
  subst hv
  have kn := (Kept.refl 0 0 w1).alloc (.cells #[.bool sA, .slice a5 zA.length c5] 50)
  have d0 : (w1.alloc (.cells #[.bool sA, .slice a5 zA.length c5] 50)).cell? ⟨w1.heap.size, 0, none⟩ = some (.bool sA) := new_cell2 _ _ _ _ _ _ (by simp) rfl
  have d1 : (w1.alloc (.cells #[.bool sA, .slice a5 zA.length c5] 50)).cell? ⟨w1.heap.size, 1, none⟩ = some (.slice a5 zA.length c5) := new_cell2 _ _ _ _ _ _ (by simp) rfl
  have sz3 : w1.heap.size + 1 ≤ (w1.alloc (.cells #[.bool sA, .slice a5 zA.length c5] 50)).heap.size := by simp
  replace r1 := r1.kept kn (by omega)
  replace r2 := r2.kept kn (by omega)
  replace ra := ra.kept kn (by omega)
  replace rb := rb.kept kn (by omega)
  replace p0 := kn.cell0 p0
  replace p1 := kn.cell0 p1
  replace p2 := kn.cell0 p2
  replace t0 := kn.cell0 t0
  replace t1 := kn.cell0 t1
  replace t2 := kn.cell0 t2
  replace K := hide ((unhide K).trans kn)
  have z4 := kn.size
  clear kn
  have kn := (Kept.refl 0 0 (w1.alloc (.cells #[.bool sA, .slice a5 zA.length c5] 50))).alloc (.cells #[.bool sB, .slice a6 zB.length c6] 50)
  have e0 : ((w1.alloc (.cells #[.bool sA, .slice a5 zA.length c5] 50)).alloc (.cells #[.bool sB, .slice a6 zB.length c6] 50)).cell? ⟨w1.heap.size + 1, 0, none⟩ = some (.bool sB) := new_cell2 _ _ _ _ _ _ (by simp) rfl
  have e1 : ((w1.alloc (.cells #[.bool sA, .slice a5 zA.length c5] 50)).alloc (.cells #[.bool sB, .slice a6 zB.length c6] 50)).cell? ⟨w1.heap.size + 1, 1, none⟩ = some (.slice a6 zB.length c6) := new_cell2 _ _ _ _ _ _ (by simp) rfl
  have sz5 : (w1.alloc (.cells #[.bool sA, .slice a5 zA.length c5] 50)).heap.size + 1 ≤ ((w1.alloc (.cells #[.bool sA, .slice a5 zA.length c5] 50)).alloc (.cells #[.bool sB, .slice a6 zB.length c6] 50)).heap.size := by simp
  replace r1 := r1.kept kn (by omega)
  replace r2 := r2.kept kn (by omega)
  replace ra := ra.kept kn (by omega)
  replace rb := rb.kept kn (by omega)
  replace p0 := kn.cell0 p0
  replace p1 := kn.cell0 p1
  replace p2 := kn.cell0 p2
  replace t0 := kn.cell0 t0
  replace t1 := kn.cell0 t1
  replace t2 := kn.cell0 t2
  replace d0 := kn.cell0 d0
  replace d1 := kn.cell0 d1
  replace K := hide ((unhide K).trans kn)
  have z6 := kn.size
  clear kn
  go_wp2_with fail
  generalize ((w1.alloc (.cells #[.bool sA, .slice a5 zA.length c5] 50)).alloc (.cells #[.bool sB, .slice a6 zB.length c6] 50)) = wn7 at *
  refine (cmp3_wn sA sB _ ra rb m1 m2).mono ?_
  rintro e w8 ⟨rfl, k8⟩
  replace r1 := r1.kept k8 (by omega)
  replace r2 := r2.kept k8 (by omega)
  replace ra := ra.kept k8 (by omega)
  replace rb := rb.kept k8 (by omega)
  replace p0 := k8.cell0 p0
  replace p1 := k8.cell0 p1
  replace p2 := k8.cell0 p2
  replace t0 := k8.cell0 t0
  replace t1 := k8.cell0 t1
  replace t2 := k8.cell0 t2
  replace d0 := k8.cell0 d0
  replace d1 := k8.cell0 d1
  replace e0 := k8.cell0 e0
  replace e1 := k8.cell0 e1
  replace K := hide ((unhide K).trans k8)
  have z9 := k8.size
  clear k8
  clear r1 r2 ra rb m1 m2
  go_wp2_with fail
  go_ret
  exact ⟨by rw [← unhide EQ]; rfl, unhide K⟩

/-- What DyCmp tells. -/
def cmpD (s1 : Bool) (xs : List Int) (x1 : Int) (s2 : Bool) (ys : List Int) (x2 : Int) : Int := if dokB s1 xs x1 = true ∧ dokB s2 ys x2 = true then cmpDI (wval s1 xs) x1 (wval s2 ys) x2 else 0
theorem cmpD_bad1 {s1 s2 : Bool} {xs ys : List Int} {x1 x2 : Int} (h : dokB s1 xs x1 = false) : cmpD s1 xs x1 s2 ys x2 = 0 := by unfold cmpD; rw [if_neg (fun e => by rw [h] at e; cases e.1)]
theorem cmpD_bad2 {s1 s2 : Bool} {xs ys : List Int} {x1 x2 : Int} (h : dokB s2 ys x2 = false) : cmpD s1 xs x1 s2 ys x2 = 0 := by unfold cmpD; rw [if_neg (fun e => by rw [h] at e; cases e.2)]
theorem cmpD_ok {s1 s2 : Bool} {xs ys : List Int} {x1 x2 : Int} (h1 : dokB s1 xs x1 = true) (h2 : dokB s2 ys x2 = true) : cmpD s1 xs x1 s2 ys x2 = cmpDI (wval s1 xs) x1 (wval s2 ys) x2 := by unfold cmpD; rw [if_pos ⟨h1, h2⟩]

end Go.Proofs.YthahoabkehcgbaaGreatDoor


namespace Go.Proofs.YthahoabkehcgbaaGreatDoor
open Go.RowKit
set_option linter.unusedVariables false
set_option maxRecDepth 8000
set_option linter.unusedSimpArgs false

end Go.Proofs.YthahoabkehcgbaaGreatDoor

