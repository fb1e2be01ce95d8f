/-
  Lists of intervals in memory: the numbers of them, two for each; the laws' helpers on them and on matrices of intervals.
-/
import Derived.Test.YthahoabkehcgbaaDoorDys6
import Derived.Test.YthahoabkehcgbaaDoorBJ
import Derived.Test.YthahoabkehcgbaaDoorBC
namespace Go.Proofs.YthahoabkehcgbaaDoor
open Go.RowKit
set_option linter.unusedVariables false
set_option maxRecDepth 8000
set_option linter.unusedSimpArgs false

/-- The slice value v has n intervals as its elements: the numbers ds, two for each. -/
def Ivs (lo hi : Nat) (w : World) (v : Value) (ds : List DE) (n : Nat) : Prop :=
  ∃ a c, v = .slice a n c ∧ n ≤ c ∧ c ≤ maxLen ∧ ds.length = 2 * n ∧
    (n ≠ 0 → ∃ g off, a = some ⟨g, off, none⟩ ∧ lo ≤ g ∧ g < hi ∧ g < w.heap.size ∧ ∀ k, k < ds.length → DyAt false lo hi w g (off + k * 3) (ds.getD k de0))
theorem Ivs.kept {lo hi l h n : Nat} {w w' : World} {v : Value} {ds : List DE} (r : Ivs lo hi w v ds n) (q : Kept l h w w') (hd : hi ≤ l ∨ h ≤ lo ∨ h ≤ l) : Ivs lo hi w' v ds n := by
  obtain ⟨a, c, rfl, h1, h2, h4, h3⟩ := r
  refine ⟨a, c, rfl, h1, h2, h4, fun hz => ?_⟩
  obtain ⟨g, off, rfl, hl, hh, hs, hc⟩ := h3 hz
  exact ⟨g, off, rfl, hl, hh, Nat.lt_of_lt_of_le hs q.size, fun i hi' => (hc i hi').kept q hd (by omega)⟩
theorem Ivs.form {lo hi n : Nat} {w : World} {v : Value} {ds : List DE} (r : Ivs lo hi w v ds n) : ∃ a c, v = .slice a n c ∧ n ≤ c ∧ c ≤ maxLen := by
  obtain ⟨a, c, rfl, q1, q2, _⟩ := r
  exact ⟨a, c, rfl, q1, q2⟩
theorem Ivs.form' {lo hi n : Nat} {w : World} {v : Value} {ds : List DE} (r : Ivs lo hi w v ds n) : ∃ a c, v = .slice a n c := by
  obtain ⟨a, c, rfl, _⟩ := r
  exact ⟨a, c, rfl⟩
theorem Ivs.len {lo hi n : Nat} {w : World} {v : Value} {ds : List DE} (r : Ivs lo hi w v ds n) : ds.length = 2 * n := by
  obtain ⟨a, c, rfl, _, _, h, _⟩ := r
  exact h
/-- An interval's six cells. -/
theorem Ivs.at {lo hi n m c : Nat} {w : World} {a : Option Addr} {ds : List DE} (r : Ivs lo hi w (.slice a m c) ds n) {i : Nat} (hi' : i < n) :
    ∃ g off l l', a = some ⟨g, off, none⟩ ∧ lo ≤ g ∧ g < hi ∧ g < w.heap.size ∧ ∃ b k b' k', w.cell? ⟨g, off + i * 6, none⟩ = some (.bool (ds.getD (2 * i) de0).1) ∧ w.cell? ⟨g, off + i * 6 + 1, none⟩ = some (.slice b l k) ∧ w.cell? ⟨g, off + i * 6 + 2, none⟩ = some (.int .i64 (ds.getD (2 * i) de0).2.2) ∧ w.cell? ⟨g, off + i * 6 + 3, none⟩ = some (.bool (ds.getD (2 * i + 1) de0).1) ∧ w.cell? ⟨g, off + i * 6 + 4, none⟩ = some (.slice b' l' k') ∧ w.cell? ⟨g, off + i * 6 + 5, none⟩ = some (.int .i64 (ds.getD (2 * i + 1) de0).2.2) ∧ l = (ds.getD (2 * i) de0).2.1.length ∧ l' = (ds.getD (2 * i + 1) de0).2.1.length ∧ Row .i64 false lo hi w (.slice b l k) (ds.getD (2 * i) de0).2.1 ∧ Row .i64 false lo hi w (.slice b' l' k') (ds.getD (2 * i + 1) de0).2.1 := by
  obtain ⟨a', c', e, q1, q2, q4, q3⟩ := r
  cases e
  obtain ⟨g, off, rfl, hl, hh, hs, hc⟩ := q3 (by omega)
  obtain ⟨u, c0, c1, c2, r⟩ := hc (2 * i) (by omega)
  obtain ⟨u', d0, d1, d2, r'⟩ := hc (2 * i + 1) (by omega)
  obtain ⟨b, k, rfl⟩ := Row.form' r
  obtain ⟨b', k', rfl⟩ := Row.form' r'
  rw [show off + 2 * i * 3 = off + i * 6 by omega] at c0 c1 c2
  rw [show off + (2 * i + 1) * 3 = off + i * 6 + 3 by omega] at d0 d1 d2
  exact ⟨g, off, _, _, rfl, hl, hh, hs, b, k, b', k', c0, c1, c2, d0, d1, d2, rfl, rfl, r, r'⟩

/-- What a list of them takes. -/
def szV (ds : List DE) (n : Nat) : Int := n + limT ds (2 * n)
theorem szV_len (ds : List DE) (n : Nat) : (n : Int) ≤ szV ds n ∧ 0 ≤ szV ds n := by unfold szV; omega
theorem szV_each (ds : List DE) (n i : Nat) (h : i < 2 * n) : ((ds.getD i de0).2.1.length : Int) ≤ szV ds n := by
  have h1 : limT ds (i + 1) = limT ds i + (ds.getD i de0).2.1.length := rfl
  have h2 := limT_mono ds (a := i + 1) (b := 2 * n) h
  unfold szV
  omega
theorem limT_two (ds : List DE) (j : Nat) : limT ds (2 * (j + 1)) = limT ds (2 * j) + ((ds.getD (2 * j) de0).2.1.length + (ds.getD (2 * j + 1) de0).2.1.length) := by
  rw [show 2 * (j + 1) = 2 * j + 1 + 1 by omega]
  show limT ds (2 * j) + _ + _ = _
  omega

theorem own6 {w : World} {base n g c : Nat} {e : TypeId} {xs : List Value} (h : w.ownsRow base e 6 (.slice (some ⟨g, 0, none⟩) n c) n xs) : g < w.heap.size ∧ ∀ k u, xs[k]? = some u → w.cell? ⟨g, k, none⟩ = some u ∧ w.frozen? ⟨g, k, none⟩ = false := by
  rcases h.2 with ⟨e1, h0⟩ | ⟨g', cap, cur, e1, hb, hg, hle, hm, hs, htake⟩
  · cases e1
  · cases e1
    refine ⟨(Array.getElem?_eq_some_iff.1 hg).1, fun k u hk => ⟨?_, by simp [World.frozen?, hg]⟩⟩
    rw [← htake, List.getElem?_take] at hk
    by_cases hlt : k < n * 6
    · rw [if_pos hlt] at hk
      simpa [World.cell?, hg] using hk
    · rw [if_neg hlt] at hk; cases hk
theorem made6 (z : Value) (hz : z.cells.size = 6) (n k : Nat) (hk : k < n * 6) : ∃ u, (madeCells z.cells (n * 6)).toList[k]? = some u := by
  have : (madeCells z.cells (n * 6)).toList.length = n * 6 := by simp [madeCells]
  exact ⟨_, List.getElem?_eq_getElem (by omega)⟩
theorem Tryd.infoIv : (Tryd.prog.info? 54).map (fun i => (i.zero, i.size, i.bytes)) = some (some (.agg #[.bool false, .slice none 0 0, .int .i64 0, .bool false, .slice none 0 0, .int .i64 0]), 6, 80) := by kernel_rfl
theorem made_fill6 {w w1 : World} {n : Nat} {ds : List DE} (hown : w1.ownsRow w.heap.size 54 6 (.slice (some ⟨w.heap.size, 0, none⟩) n n) n (madeCells (Value.agg #[.bool false, .slice none 0 0, .int .i64 0, .bool false, .slice none 0 0, .int .i64 0]).cells (n * 6)).toList) : FillP 0 w.heap.size (2 * n) ds (fun i => i < 2 * 0) w1 := by
  obtain ⟨h1, h2⟩ := own6 hown
  refine ⟨h1, Nat.zero_le _, fun i hi h => by omega, fun k hk => ?_, fun k hk => ?_⟩
  · obtain ⟨u, hu⟩ := made6 (.agg #[.bool false, .slice none 0 0, .int .i64 0, .bool false, .slice none 0 0, .int .i64 0]) rfl n k (by omega)
    exact ⟨u, (h2 k u hu).1⟩
  · obtain ⟨u, hu⟩ := made6 (.agg #[.bool false, .slice none 0 0, .int .i64 0, .bool false, .slice none 0 0, .int .i64 0]) rfl n k (by omega)
    exact (h2 k u hu).2
/-- One more interval. -/
theorem FillP.two {B g n j mid : Nat} {ds : List DE} {w w' : World} {s s' : Bool} {u u' : Value} {y y' : Int} {z z' : List Int} (f : FillP B g (2 * n) ds (fun i => i < 2 * j) w) (hj : j < n) (k : Kept 0 0 w w') (r : Row .i64 true w.heap.size mid w' u z) (r' : Row .i64 true mid w'.heap.size w' u' z') (hm : w.heap.size ≤ mid) (hm' : mid ≤ w'.heap.size) (he : ds.getD (2 * j) de0 = (s, z, y)) (he' : ds.getD (2 * j + 1) de0 = (s', z', y')) :
    FillP B g (2 * n) ds (fun i => i < 2 * (j + 1)) ((((((w'.setCell ⟨g, j * 6, none⟩ (.bool s)).setCell ⟨g, j * 6 + 1, none⟩ u).setCell ⟨g, j * 6 + 2, none⟩ (.int .i64 y)).setCell ⟨g, j * 6 + 3, none⟩ (.bool s')).setCell ⟨g, j * 6 + 4, none⟩ u').setCell ⟨g, j * 6 + 5, none⟩ (.int .i64 y')) := by
  have hl := f.lt
  have f1 := f.step (P' := fun i => i < 2 * j + 1) (j := 2 * j) (by omega) k r.read (fun _ => .inl (by omega)) he (fun i hi => by omega)
  have kk : Kept g (g + 1) w' (((w'.setCell ⟨g, 2 * j * 3, none⟩ (.bool s)).setCell ⟨g, 2 * j * 3 + 1, none⟩ u).setCell ⟨g, 2 * j * 3 + 2, none⟩ (.int .i64 y)) := (((Kept.refl g (g + 1) w').setCell (p := ⟨g, 2 * j * 3, none⟩) (Nat.le_refl _) (Nat.lt_succ_self _) _).setCell (p := ⟨g, 2 * j * 3 + 1, none⟩) (Nat.le_refl _) (Nat.lt_succ_self _) _).setCell (p := ⟨g, 2 * j * 3 + 2, none⟩) (Nat.le_refl _) (Nat.lt_succ_self _) _
  have q := r'.read.kept kk (by omega)
  have f2 := f1.step (P' := fun i => i < 2 * (j + 1)) (j := 2 * j + 1) (by omega) (Kept.refl 0 0 _) q (fun _ => .inl (by omega)) he' (fun i hi => by omega)
  rw [show (2 * j + 1) * 3 = j * 6 + 3 by omega, show 2 * j * 3 = j * 6 by omega] at f2
  exact f2
theorem ivs_done {g n : Nat} {ds : List DE} {w : World} (f : FillP 0 g (2 * n) ds (fun i => i < 2 * n) w) (hn : ds.length = 2 * n) (hm : n ≤ maxLen) : Ivs g w.heap.size w (.slice (some ⟨g, 0, none⟩) n n) ds n := by
  refine ⟨_, _, rfl, Nat.le_refl _, hm, hn, fun _ => ⟨g, 0, rfl, Nat.le_refl _, f.lt, f.lt, fun i hi => ?_⟩⟩
  obtain ⟨l, h, h1, u, c0, c1, c2, r⟩ := f.got i (by omega) (by omega)
  rw [Nat.zero_add]
  refine ⟨u, c0, c1, c2, ?_⟩
  by_cases e : (ds.getD i de0).2.1 = []
  · exact r.none e
  · have hb := h1 e
    obtain ⟨b, hb1, -⟩ := r.block1
    have := hb1 e
    exact r.tight.wider (by omega) (Nat.le_refl _)
theorem Ivs.wider {lo hi lo' hi' n : Nat} {w : World} {v : Value} {ds : List DE} (r : Ivs lo hi w v ds n) (h1 : lo' ≤ lo) (h2 : hi ≤ hi') : Ivs lo' hi' w v ds n := by
  obtain ⟨a, c, rfl, q1, q2, q4, q3⟩ := r
  refine ⟨a, c, rfl, q1, q2, q4, fun hz => ?_⟩
  obtain ⟨g, off, rfl, hl, hh, hs, hc⟩ := q3 hz
  refine ⟨g, off, rfl, by omega, by omega, hs, fun i hi => ?_⟩
  obtain ⟨u, c0, c1, c2, r⟩ := hc i hi
  exact ⟨u, c0, c1, c2, r.wider h1 h2⟩

set_option maxHeartbeats 8000000 in
theorem eqIvS_same {l1 h1 l2 h2 n : Nat} {v1 v2 : Value} {ds : List DE} (w : World) (r1 : Ivs l1 h1 w v1 ds n) (r2 : Ivs l2 h2 w v2 ds n) :
    Calls Tryd.prog 22 #[v1, v2] w fun e w' => e = .returned (.bool true) ∧ Kept 0 0 w w' := by
  obtain ⟨a1, d1, rfl, hc1, hc2⟩ := r1.form
  obtain ⟨a2, d2, rfl, -, -⟩ := r2.form
  have hm : n ≤ 9223372036854775807 := by unfold maxLen at hc2; omega
  have R1 := hide r1
  have R2 := hide r2
  clear r1 r2 hc1 hc2
  go_enter Tryd.func22, Tryd.ntmps22
  go_wp2
  go_loopw [5] (fun s5 wx => ∃ j : Nat, s5 = .int .i64 j ∧ j ≤ n ∧ Kept 0 0 w wx) (fun s5 _ => n - (intOf s5).toNat)
  case atStart => exact ⟨0, rfl, Nat.zero_le _, Kept.refl _ _ _⟩
  case round =>
    obtain ⟨j, rfl, hj, k⟩ := hrel
    by_cases hlt : j < n
    · have kd := k.drew
      obtain ⟨g1, o1, n1, m1, rfl, -, -, -, b1, k1, p1, q1, c10, c11, c12, d10, d11, d12, hn1, hm1, rr1, ss1⟩ := ((unhide R1).kept kd (by omega)).at (i := j) hlt
      obtain ⟨g2, o2, n2, m2, rfl, -, -, -, b2, k2, p2, q2, c20, c21, c22, d20, d21, d22, hn2, hm2, rr2, ss2⟩ := ((unhide R2).kept kd (by omega)).at (i := j) hlt
      obtain ⟨s0, hs0'⟩ : ∃ q, q = (ds.getD (2 * j) de0).1 := ⟨_, rfl⟩
      obtain ⟨y0, hy0⟩ : ∃ q, q = (ds.getD (2 * j) de0).2.2 := ⟨_, rfl⟩
      obtain ⟨z0, hz0⟩ : ∃ q, q = (ds.getD (2 * j) de0).2.1 := ⟨_, rfl⟩
      obtain ⟨s1, hs1'⟩ : ∃ q, q = (ds.getD (2 * j + 1) de0).1 := ⟨_, rfl⟩
      obtain ⟨y1, hy1⟩ : ∃ q, q = (ds.getD (2 * j + 1) de0).2.2 := ⟨_, rfl⟩
      obtain ⟨z1, hz1⟩ : ∃ q, q = (ds.getD (2 * j + 1) de0).2.1 := ⟨_, rfl⟩
      rw [← hs0'] at c10 c20
      rw [← hy0] at c12 c22
      rw [← hz0] at hn1 hn2 rr1 rr2
      rw [← hs1'] at d10 d20
      rw [← hy1] at d12 d22
      rw [← hz1] at hm1 hm2 ss1 ss2
      clear hs0' hy0 hz0 hn1 hn2 hs1' hy1 hz1 hm1 hm2
      go_wp2_with fail
      refine wp_region_held_drew (S := (fun w' => w'.cell? ⟨g1, o1 + j * 6, none⟩ = some (.bool s0) ∧ w'.cell? ⟨g1, o1 + j * 6 + 1, none⟩ = some (.slice b1 n1 k1) ∧ w'.cell? ⟨g1, o1 + j * 6 + 2, none⟩ = some (.int .i64 y0) ∧ w'.cell? ⟨g1, o1 + j * 6 + 3, none⟩ = some (.bool s1) ∧ w'.cell? ⟨g1, o1 + j * 6 + 4, none⟩ = some (.slice p1 m1 q1) ∧ w'.cell? ⟨g1, o1 + j * 6 + 5, none⟩ = some (.int .i64 y1) ∧ w'.cell? ⟨g2, o2 + j * 6, none⟩ = some (.bool s0) ∧ w'.cell? ⟨g2, o2 + j * 6 + 1, none⟩ = some (.slice b2 n2 k2) ∧ w'.cell? ⟨g2, o2 + j * 6 + 2, none⟩ = some (.int .i64 y0) ∧ w'.cell? ⟨g2, o2 + j * 6 + 3, none⟩ = some (.bool s1) ∧ w'.cell? ⟨g2, o2 + j * 6 + 4, none⟩ = some (.slice p2 m2 q2) ∧ w'.cell? ⟨g2, o2 + j * 6 + 5, none⟩ = some (.int .i64 y1))) (by kernel_rfl) ?_ (fun hHeld => ?_)
      · exact ⟨c10, c11, c12, d10, d11, d12, c20, c21, c22, d20, d21, d22⟩
      refine wpAnyH_take (i := 0) (oi := _) (v := .slice (some ⟨g1, o1, none⟩) n d1) rfl (by kernel_rfl) (by kernel_rfl) (by kernel_rfl) (fun _ _ _ h => h) (Or.inl ⟨by rfl, ?_⟩) hHeld ?_
      · intro wq hSw
        try dsimp only at hSw
        go_simp
      try simp only [Act.put, List.getElem_toArray, List.getElem_cons_succ, List.getElem_cons_zero, List.setIfInBounds_toArray, List.set_cons_zero, List.set_cons_succ]
      refine wpAnyH_take (i := 1) (oi := _) (v := .int .i64 (j : Int)) rfl (by kernel_rfl) (by kernel_rfl) (by kernel_rfl) (fun _ _ _ h => h) (Or.inl ⟨by rfl, ?_⟩) hHeld ?_
      · intro wq hSw
        try dsimp only at hSw
        go_simp
      try simp only [Act.put, List.getElem_toArray, List.getElem_cons_succ, List.getElem_cons_zero, List.setIfInBounds_toArray, List.set_cons_zero, List.set_cons_succ]
      refine wpAnyH_take (i := 2) (oi := _) (v := .pointer (some ⟨g1, o1 + j * 6, none⟩)) rfl (by kernel_rfl) (by kernel_rfl) (by kernel_rfl) (fun _ _ _ h => h) (Or.inl ⟨by rfl, ?_⟩) hHeld ?_
      · intro wq hSw
        try dsimp only at hSw
        go_simp
      try simp only [Act.put, List.getElem_toArray, List.getElem_cons_succ, List.getElem_cons_zero, List.setIfInBounds_toArray, List.set_cons_zero, List.set_cons_succ]
      refine wpAnyH_take (i := 3) (oi := _) (v := .agg #[.bool s0, .slice b1 n1 k1, .int .i64 y0, .bool s1, .slice p1 m1 q1, .int .i64 y1]) rfl (by kernel_rfl) (by kernel_rfl) (by kernel_rfl) (fun _ _ _ h => h) (Or.inl ⟨by rfl, ?_⟩) hHeld ?_
      · intro wq hSw
        try dsimp only at hSw
        go_simp
      try simp only [Act.put, List.getElem_toArray, List.getElem_cons_succ, List.getElem_cons_zero, List.setIfInBounds_toArray, List.set_cons_zero, List.set_cons_succ]
      refine wpAnyH_take (i := 4) (oi := _) (v := .slice (some ⟨g2, o2, none⟩) n d2) rfl (by kernel_rfl) (by kernel_rfl) (by kernel_rfl) (fun _ _ _ h => h) (Or.inl ⟨by rfl, ?_⟩) hHeld ?_
      · intro wq hSw
        try dsimp only at hSw
        go_simp
      try simp only [Act.put, List.getElem_toArray, List.getElem_cons_succ, List.getElem_cons_zero, List.setIfInBounds_toArray, List.set_cons_zero, List.set_cons_succ]
      refine wpAnyH_take (i := 5) (oi := _) (v := .int .i64 (j : Int)) rfl (by kernel_rfl) (by kernel_rfl) (by kernel_rfl) (fun _ _ _ h => h) (Or.inl ⟨by rfl, ?_⟩) hHeld ?_
      · intro wq hSw
        try dsimp only at hSw
        go_simp
      try simp only [Act.put, List.getElem_toArray, List.getElem_cons_succ, List.getElem_cons_zero, List.setIfInBounds_toArray, List.set_cons_zero, List.set_cons_succ]
      refine wpAnyH_take (i := 6) (oi := _) (v := .pointer (some ⟨g2, o2 + j * 6, none⟩)) rfl (by kernel_rfl) (by kernel_rfl) (by kernel_rfl) (fun _ _ _ h => h) (Or.inl ⟨by rfl, ?_⟩) hHeld ?_
      · intro wq hSw
        try dsimp only at hSw
        go_simp
      try simp only [Act.put, List.getElem_toArray, List.getElem_cons_succ, List.getElem_cons_zero, List.setIfInBounds_toArray, List.set_cons_zero, List.set_cons_succ]
      refine wpAnyH_take (i := 7) (oi := _) (v := .agg #[.bool s0, .slice b2 n2 k2, .int .i64 y0, .bool s1, .slice p2 m2 q2, .int .i64 y1]) rfl (by kernel_rfl) (by kernel_rfl) (by kernel_rfl) (fun _ _ _ h => h) (Or.inl ⟨by rfl, ?_⟩) hHeld ?_
      · intro wq hSw
        try dsimp only at hSw
        go_simp
      try simp only [Act.put, List.getElem_toArray, List.getElem_cons_succ, List.getElem_cons_zero, List.setIfInBounds_toArray, List.set_cons_zero, List.set_cons_succ]
      refine wpAnyH_ready (rs := [8]) (by kernel_rfl) (by simp) ?_
      refine AllReadyH.cons rfl (fun KK hK => ?_) AllReadyH.nil
      simp only [List.getElem_toArray, List.getElem_cons_succ, List.getElem_cons_zero]
      rw [if_pos (by rfl)]
      refine wps2 41 (.tmp 20) (.tmp 24) _ rfl in_eqV (.agg #[.bool s0, .slice b1 n1 k1, .int .i64 y0, .bool s1, .slice p1 m1 q1, .int .i64 y1]) (.agg #[.bool s0, .slice b2 n2 k2, .int .i64 y0, .bool s1, .slice p2 m2 q2, .int .i64 y1]) rfl rfl (eqIv_same s0 y0 s1 y1 _ rr1 ss1 rr2 ss2) ?_
      rintro e w3 ⟨rfl, k3⟩
      refine ⟨_, rfl, ?_⟩
      replace c10 := k3.cell0 c10
      replace c11 := k3.cell0 c11
      replace c12 := k3.cell0 c12
      replace d10 := k3.cell0 d10
      replace d11 := k3.cell0 d11
      replace d12 := k3.cell0 d12
      replace c20 := k3.cell0 c20
      replace c21 := k3.cell0 c21
      replace c22 := k3.cell0 c22
      replace d20 := k3.cell0 d20
      replace d21 := k3.cell0 d21
      replace d22 := k3.cell0 d22
      have K3 := hide (kd.trans k3)
      clear k3 rr1 rr2 ss1 ss2 k kd
      clear hHeld
      refine hK.out _ _ ?_ (fun hHeld => ?_)
      · exact ⟨c10, c11, c12, d10, d11, d12, c20, c21, c22, d20, d21, d22⟩
      clear hK KK
      try simp only [Act.put, List.getElem_toArray, List.getElem_cons_succ, List.getElem_cons_zero, List.setIfInBounds_toArray, List.set_cons_zero, List.set_cons_succ]
      refine wpAnyH_take (i := 9) (oi := _) (v := .bool false) rfl (by kernel_rfl) (by kernel_rfl) (by kernel_rfl) (fun _ _ _ h => h) (Or.inl ⟨by rfl, ?_⟩) hHeld ?_
      · intro wq hSw
        try dsimp only at hSw
        go_simp
      try simp only [Act.put, List.getElem_toArray, List.getElem_cons_succ, List.getElem_cons_zero, List.setIfInBounds_toArray, List.set_cons_zero, List.set_cons_succ]
      refine wpAnyH_done (by kernel_rfl) ?_ _
      clear hHeld c10 c11 c12 c20 c21 c22 d10 d11 d12 d20 d21 d22
      go_wp2
      go_roundw
      case rel => exact ⟨j + 1, by simp, hlt, unhide K3⟩
      case measure => simp [intOf]; omega
    · have hjn : j = n := by omega
      subst hjn
      go_wp2
      go_ret
      exact ⟨rfl, k⟩

set_option maxHeartbeats 2000000 in
theorem eqIvMat_same {l1 h1 l2 h2 n : Nat} {v1 v2 : Value} {ds : List DE} (m : Int) (w : World) (r1 : Ivs l1 h1 w v1 ds n) (r2 : Ivs l2 h2 w v2 ds n) :
    Calls Tryd.prog 8 #[.agg #[.int .i64 m, v1], .agg #[.int .i64 m, v2]] w fun e w' => e = .returned (.bool true) ∧ Kept 0 0 w w' := by
  have k0 := ((Kept.refl 0 0 w).alloc (.cells #[.int .i64 m, v1] 28)).alloc (.cells #[.int .i64 m, v2] 28)
  have q1 := r1.kept k0 (by omega)
  have q2 := r2.kept k0 (by omega)
  have c10 : ((w.alloc (.cells #[.int .i64 m, v1] 28)).alloc (.cells #[.int .i64 m, v2] 28)).cell? ⟨w.heap.size, 0, none⟩ = some (.int .i64 m) := old_cell _ (new_cell2 _ _ _ _ _ _ (by simp) rfl)
  have c11 : ((w.alloc (.cells #[.int .i64 m, v1] 28)).alloc (.cells #[.int .i64 m, v2] 28)).cell? ⟨w.heap.size, 1, none⟩ = some v1 := old_cell _ (new_cell2 _ _ _ _ _ _ (by simp) rfl)
  have c20 : ((w.alloc (.cells #[.int .i64 m, v1] 28)).alloc (.cells #[.int .i64 m, v2] 28)).cell? ⟨w.heap.size + 1, 0, none⟩ = some (.int .i64 m) := new_cell2 _ _ _ _ _ _ (by simp) rfl
  have c21 : ((w.alloc (.cells #[.int .i64 m, v1] 28)).alloc (.cells #[.int .i64 m, v2] 28)).cell? ⟨w.heap.size + 1, 1, none⟩ = some v2 := new_cell2 _ _ _ _ _ _ (by simp) rfl
  obtain ⟨a1, d1, rfl, -, -⟩ := r1.form
  obtain ⟨a2, d2, rfl, -, -⟩ := r2.form
  clear r1 r2
  have he := eqIvS_same _ q1 q2
  go_enter Tryd.func8, Tryd.ntmps8
  go_wp2_with fail
  refine he.mono ?_
  rintro e w1 ⟨rfl, k1⟩
  have K1 := hide (k0.trans k1)
  clear he k0 k1 q1 q2
  go_wp2
  go_ret
  exact ⟨rfl, unhide K1⟩

theorem in_eqIM : ∀ (w : World) (args : Array Value), (callFunc 8 args).run Tryd.prog w = .ok (.enter 8 args) w := enters Tryd.func8 (by decide) (fun h => by cases h)

end Go.Proofs.YthahoabkehcgbaaDoor
