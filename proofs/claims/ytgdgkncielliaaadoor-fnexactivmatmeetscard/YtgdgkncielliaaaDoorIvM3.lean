/-
  IvMatMeets of the program and of the model: both are what they must be, and each interval meets its like.
-/
import Derived.Test.YtgdgkncielliaaaDoorIvM1D
import Derived.Test.YtgdgkncielliaaaDoorIv5
import Derived.Test.YtgdgkncielliaaaDoorDy4
import Derived.Test.YtgdgkncielliaaaDoorBC
namespace Go.Proofs.YtgdgkncielliaaaDoor
open Go.RowKit
set_option linter.unusedVariables false
set_option maxRecDepth 8000
set_option linter.unusedSimpArgs false

/-- Whether IvMeet tells an interval. -/
def metC (s1 : Bool) (l1 : List Int) (e1 : Int) (s2 : Bool) (l2 : List Int) (e2 : Int) (s3 : Bool) (l3 : List Int) (e3 : Int) (s4 : Bool) (l4 : List Int) (e4 : Int) : Bool := ivC (iokB s1 l1 e1 s2 l2 e2 && iokB s3 l3 e3 s4 l4 e4 && iokB (pk (mxB s1 l1 e1 s3 l3 e3) s1 s3) (pk (mxB s1 l1 e1 s3 l3 e3) l1 l3) (pk (mxB s1 l1 e1 s3 l3 e3) e1 e3) (pk (mnB s2 l2 e2 s4 l4 e4) s2 s4) (pk (mnB s2 l2 e2 s4 l4 e4) l2 l4) (pk (mnB s2 l2 e2 s4 l4 e4) e2 e4)) (wval (pk (mxB s1 l1 e1 s3 l3 e3) s1 s3) (pk (mxB s1 l1 e1 s3 l3 e3) l1 l3)) (pk (mxB s1 l1 e1 s3 l3 e3) e1 e3) (wval (pk (mnB s2 l2 e2 s4 l4 e4) s2 s4) (pk (mnB s2 l2 e2 s4 l4 e4) l2 l4)) (pk (mnB s2 l2 e2 s4 l4 e4) e2 e4)
theorem metC_eq {s1 s2 s3 s4 : Bool} {l1 l2 l3 l4 : List Int} {e1 e2 e3 e4 : Int} (h : iokB s1 l1 e1 s2 l2 e2 = true) (h' : iokB s3 l3 e3 s4 l4 e4 = true) :
    metC s1 l1 e1 s2 l2 e2 s3 l3 e3 s4 l4 e4 = (decide (cmpD s1 l1 e1 s4 l4 e4 ≤ 0) && decide (cmpD s3 l3 e3 s2 l2 e2 ≤ 0)) := by
  obtain ⟨o1, o2, c12⟩ := iok_parts h
  obtain ⟨o3, o4, c34⟩ := iok_parts h'
  have O1 := dok_pk (mxB s1 l1 e1 s3 l3 e3) o1 o3
  have O2 := dok_pk (mnB s2 l2 e2 s4 l4 e4) o2 o4
  obtain ⟨a1, a2, a3⟩ := d_back O1
  obtain ⟨b1, b2, b3⟩ := d_back O2
  unfold metC ivC
  rw [a1, a2, a3, b1, b2, b3, O1, O2, h, h']
  unfold iokB
  rw [O1, O2]
  simp only [Bool.true_and, Bool.and_true]
  rw [cmpD_val o1 o2] at c12
  rw [cmpD_val o3 o4] at c34
  rw [cmpD_val O1 O2, cmpD_val o1 o4, cmpD_val o3 o2]
  have key : ∀ (A E : Int), (cmpI A E ≤ 0) = (A ≤ E) := fun A E => by rcases cmpI_tri A E with ⟨e, g⟩ | ⟨e, g⟩ | ⟨e, g⟩ <;> rw [e] <;> apply propext <;> constructor <;> omega
  rw [key] at c12 c34
  have q1 : mxB s1 l1 e1 s3 l3 e3 = decide (cmpI (vD s1 l1 e1) (vD s3 l3 e3) < 0) := by unfold mxB; rw [cmpD_val o1 o3]
  have q2 : mnB s2 l2 e2 s4 l4 e4 = decide (0 < cmpI (vD s2 l2 e2) (vD s4 l4 e4)) := by unfold mnB; rw [cmpD_val o2 o4]
  rw [Bool.eq_iff_iff]
  simp only [Bool.and_eq_true, decide_eq_true_eq, key]
  rcases cmpI_tri (vD s1 l1 e1) (vD s3 l3 e3) with ⟨e, g⟩ | ⟨e, g⟩ | ⟨e, g⟩ <;> rcases cmpI_tri (vD s2 l2 e2) (vD s4 l4 e4) with ⟨e', g'⟩ | ⟨e', g'⟩ | ⟨e', g'⟩ <;> rw [q1, q2, e, e'] <;> simp [pk] <;> omega
def metE (ds es : List DE) (i : Nat) : Bool := metC (ds.getD (2 * i) de0).1 (ds.getD (2 * i) de0).2.1 (ds.getD (2 * i) de0).2.2 (ds.getD (2 * i + 1) de0).1 (ds.getD (2 * i + 1) de0).2.1 (ds.getD (2 * i + 1) de0).2.2 (es.getD (2 * i) de0).1 (es.getD (2 * i) de0).2.1 (es.getD (2 * i) de0).2.2 (es.getD (2 * i + 1) de0).1 (es.getD (2 * i + 1) de0).2.1 (es.getD (2 * i + 1) de0).2.2
def allT (ds es : List DE) (m : Nat) : Bool := (List.range m).all (metE ds es)
/-- What IvMatMeets answers. -/
def immB (n : Int) (ds : List DE) (m : Nat) (k : Int) (es : List DE) (p : Nat) : Bool := imokB n ds m && (imokB k es p && (decide (m = p) && allT ds es m))
theorem allT_no {ds es : List DE} {j m : Nat} (hj : j < m) (hf : metE ds es j = false) : allT ds es m = false := by
  unfold allT
  rw [← Bool.not_eq_true, List.all_eq_true]
  intro h2
  have := h2 j (List.mem_range.2 hj)
  rw [this] at hf; cases hf
theorem allT_yes {ds es : List DE} {m : Nat} (h : ∀ i, i < m → metE ds es i = true) : allT ds es m = true := by
  unfold allT
  rw [List.all_eq_true]
  intro i hi
  exact h i (List.mem_range.1 hi)
theorem imok_parts3 {n : Int} {ds : List DE} {m : Nat} (h : imokB n ds m = true) : 1 ≤ n ∧ n ≤ 4 ∧ (m : Int) = n * n ∧ ∀ i, i < m → ivE ds i = true := by
  unfold imokB ivAll at h
  simp only [Bool.and_eq_true, decide_eq_true_eq, List.all_eq_true] at h
  obtain ⟨⟨h1, h2⟩, h3, h4⟩ := h
  exact ⟨h1, h2, h3, fun i hi => h4 i (List.mem_range.2 hi)⟩

set_option maxHeartbeats 4000000 in
theorem meets1_impl {b1 b2 b3 b4 : Bool} {w1l w1h w2l w2h w3l w3h w4l w4h : Nat} {v1 v2 v3 v4 : Value} {l1 l2 l3 l4 : List Int} (s1 : Bool) (e1 : Int) (hu1 : e1 ≤ 9223372036854775807) (hd1 : -9223372036854775808 ≤ e1) (s2 : Bool) (e2 : Int) (hu2 : e2 ≤ 9223372036854775807) (hd2 : -9223372036854775808 ≤ e2) (s3 : Bool) (e3 : Int) (hu3 : e3 ≤ 9223372036854775807) (hd3 : -9223372036854775808 ≤ e3) (s4 : Bool) (e4 : Int) (hu4 : e4 ≤ 9223372036854775807) (hd4 : -9223372036854775808 ≤ e4) (w : World) (r1 : Row .i64 b1 w1l w1h w v1 l1) (r2 : Row .i64 b2 w2l w2h w v2 l2) (r3 : Row .i64 b3 w3l w3h w v3 l3) (r4 : Row .i64 b4 w4l w4h w v4 l4) (T : TabB w) :
    Calls Tryd.prog 15 #[.agg #[.bool s1, v1, .int .i64 e1, .bool s2, v2, .int .i64 e2], .agg #[.bool s3, v3, .int .i64 e3, .bool s4, v4, .int .i64 e4]] w fun e w' => e = .returned (.bool (metC s1 l1 e1 s2 l2 e2 s3 l3 e3 s4 l4 e4)) ∧ Kept 0 0 w w' := by
  replace r1 := r1.tight
  replace r2 := r2.tight
  replace r3 := r3.tight
  replace r4 := r4.tight
  have k0 : Kept 0 0 w ((w.alloc (.cells #[.bool s1, v1, .int .i64 e1, .bool s2, v2, .int .i64 e2] 42)).alloc (.cells #[.bool s3, v3, .int .i64 e3, .bool s4, v4, .int .i64 e4] 42)) := ((Kept.refl 0 0 w).alloc _).alloc _
  have p10 : ((w.alloc (.cells #[.bool s1, v1, .int .i64 e1, .bool s2, v2, .int .i64 e2] 42)).alloc (.cells #[.bool s3, v3, .int .i64 e3, .bool s4, v4, .int .i64 e4] 42)).cell? ⟨w.heap.size, 0, none⟩ = some (.bool s1) := old_cell _ (new_cell2 _ _ _ _ _ _ (by simp) rfl)
  have p11 : ((w.alloc (.cells #[.bool s1, v1, .int .i64 e1, .bool s2, v2, .int .i64 e2] 42)).alloc (.cells #[.bool s3, v3, .int .i64 e3, .bool s4, v4, .int .i64 e4] 42)).cell? ⟨w.heap.size, 1, none⟩ = some (v1) := old_cell _ (new_cell2 _ _ _ _ _ _ (by simp) rfl)
  have p12 : ((w.alloc (.cells #[.bool s1, v1, .int .i64 e1, .bool s2, v2, .int .i64 e2] 42)).alloc (.cells #[.bool s3, v3, .int .i64 e3, .bool s4, v4, .int .i64 e4] 42)).cell? ⟨w.heap.size, 2, none⟩ = some (.int .i64 e1) := old_cell _ (new_cell2 _ _ _ _ _ _ (by simp) rfl)
  have p13 : ((w.alloc (.cells #[.bool s1, v1, .int .i64 e1, .bool s2, v2, .int .i64 e2] 42)).alloc (.cells #[.bool s3, v3, .int .i64 e3, .bool s4, v4, .int .i64 e4] 42)).cell? ⟨w.heap.size, 3, none⟩ = some (.bool s2) := old_cell _ (new_cell2 _ _ _ _ _ _ (by simp) rfl)
  have p14 : ((w.alloc (.cells #[.bool s1, v1, .int .i64 e1, .bool s2, v2, .int .i64 e2] 42)).alloc (.cells #[.bool s3, v3, .int .i64 e3, .bool s4, v4, .int .i64 e4] 42)).cell? ⟨w.heap.size, 4, none⟩ = some (v2) := old_cell _ (new_cell2 _ _ _ _ _ _ (by simp) rfl)
  have p15 : ((w.alloc (.cells #[.bool s1, v1, .int .i64 e1, .bool s2, v2, .int .i64 e2] 42)).alloc (.cells #[.bool s3, v3, .int .i64 e3, .bool s4, v4, .int .i64 e4] 42)).cell? ⟨w.heap.size, 5, none⟩ = some (.int .i64 e2) := old_cell _ (new_cell2 _ _ _ _ _ _ (by simp) rfl)
  have p20 : ((w.alloc (.cells #[.bool s1, v1, .int .i64 e1, .bool s2, v2, .int .i64 e2] 42)).alloc (.cells #[.bool s3, v3, .int .i64 e3, .bool s4, v4, .int .i64 e4] 42)).cell? ⟨w.heap.size + 1, 0, none⟩ = some (.bool s3) := new_cell2 _ _ _ _ _ _ (by simp) rfl
  have p21 : ((w.alloc (.cells #[.bool s1, v1, .int .i64 e1, .bool s2, v2, .int .i64 e2] 42)).alloc (.cells #[.bool s3, v3, .int .i64 e3, .bool s4, v4, .int .i64 e4] 42)).cell? ⟨w.heap.size + 1, 1, none⟩ = some (v3) := new_cell2 _ _ _ _ _ _ (by simp) rfl
  have p22 : ((w.alloc (.cells #[.bool s1, v1, .int .i64 e1, .bool s2, v2, .int .i64 e2] 42)).alloc (.cells #[.bool s3, v3, .int .i64 e3, .bool s4, v4, .int .i64 e4] 42)).cell? ⟨w.heap.size + 1, 2, none⟩ = some (.int .i64 e3) := new_cell2 _ _ _ _ _ _ (by simp) rfl
  have p23 : ((w.alloc (.cells #[.bool s1, v1, .int .i64 e1, .bool s2, v2, .int .i64 e2] 42)).alloc (.cells #[.bool s3, v3, .int .i64 e3, .bool s4, v4, .int .i64 e4] 42)).cell? ⟨w.heap.size + 1, 3, none⟩ = some (.bool s4) := new_cell2 _ _ _ _ _ _ (by simp) rfl
  have p24 : ((w.alloc (.cells #[.bool s1, v1, .int .i64 e1, .bool s2, v2, .int .i64 e2] 42)).alloc (.cells #[.bool s3, v3, .int .i64 e3, .bool s4, v4, .int .i64 e4] 42)).cell? ⟨w.heap.size + 1, 4, none⟩ = some (v4) := new_cell2 _ _ _ _ _ _ (by simp) rfl
  have p25 : ((w.alloc (.cells #[.bool s1, v1, .int .i64 e1, .bool s2, v2, .int .i64 e2] 42)).alloc (.cells #[.bool s3, v3, .int .i64 e3, .bool s4, v4, .int .i64 e4] 42)).cell? ⟨w.heap.size + 1, 5, none⟩ = some (.int .i64 e4) := new_cell2 _ _ _ _ _ _ (by simp) rfl
  obtain ⟨C, hC⟩ : ∃ C, metC s1 l1 e1 s2 l2 e2 s3 l3 e3 s4 l4 e4 = C := ⟨_, rfl⟩
  have hc := ivmeet_impl s1 e1 hu1 hd1 s2 e2 hu2 hd2 s3 e3 hu3 hd3 s4 e4 hu4 hd4 _ (r1.kept k0 (by omega)) (r2.kept k0 (by omega)) (r3.kept k0 (by omega)) (r4.kept k0 (by omega)) (T.kept k0)
  rw [show (ivC (iokB s1 l1 e1 s2 l2 e2 && iokB s3 l3 e3 s4 l4 e4 && iokB (pk (mxB s1 l1 e1 s3 l3 e3) s1 s3) (pk (mxB s1 l1 e1 s3 l3 e3) l1 l3) (pk (mxB s1 l1 e1 s3 l3 e3) e1 e3) (pk (mnB s2 l2 e2 s4 l4 e4) s2 s4) (pk (mnB s2 l2 e2 s4 l4 e4) l2 l4) (pk (mnB s2 l2 e2 s4 l4 e4) e2 e4)) (wval (pk (mxB s1 l1 e1 s3 l3 e3) s1 s3) (pk (mxB s1 l1 e1 s3 l3 e3) l1 l3)) (pk (mxB s1 l1 e1 s3 l3 e3) e1 e3) (wval (pk (mnB s2 l2 e2 s4 l4 e4) s2 s4) (pk (mnB s2 l2 e2 s4 l4 e4) l2 l4)) (pk (mnB s2 l2 e2 s4 l4 e4) e2 e4)) = metC s1 l1 e1 s2 l2 e2 s3 l3 e3 s4 l4 e4 from rfl, hC] at hc
  rw [hC]
  obtain ⟨x1, y1, hv⟩ := r1.form'
  subst hv
  obtain ⟨x2, y2, hv⟩ := r2.form'
  subst hv
  obtain ⟨x3, y3, hv⟩ := r3.form'
  subst hv
  obtain ⟨x4, y4, hv⟩ := r4.form'
  subst hv
  clear r1 r2 r3 r4 hC
  go_enter Tryd.func15, Tryd.ntmps15
  go_wp2_with fail
  generalize ((w.alloc (.cells #[.bool s1, .slice x1 l1.length y1, .int .i64 e1, .bool s2, .slice x2 l2.length y2, .int .i64 e2] 42)).alloc (.cells #[.bool s3, .slice x3 l3.length y3, .int .i64 e3, .bool s4, .slice x4 l4.length y4, .int .i64 e4] 42)) = W at *
  refine hc.mono ?_
  rintro e w2 ⟨va, vb, mid, rfl, ra, rb, m1, m2, kk⟩
  obtain ⟨xa, ya, hv⟩ := ra.form'
  subst hv
  obtain ⟨xb, yb, hv⟩ := rb.form'
  subst hv
  have K2 := hide (k0.trans kk)
  clear hc ra rb m1 m2 kk k0 p10 p11 p12 p13 p14 p15 p20 p21 p22 p23 p24 p25
  generalize (if C = true then _ else [] : List Int).length = na
  generalize (if C = true then _ else [] : List Int).length = nb
  cases C <;> (go_wp2; go_ret; exact ⟨rfl, (unhide K2).alloc _⟩)

set_option maxHeartbeats 4000000 in
theorem equalMeets_impl {l1 h1 l2 h2 m n : Nat} {v1 v2 : Value} {ds es : List DE} (w : World) (hw1 : WfD ds) (hw2 : WfD es) (r1 : Ivs l1 h1 w v1 ds m) (r2 : Ivs l2 h2 w v2 es n) (T : TabB w) :
    Calls Tryd.prog 14 #[v1, v2, .func (.func 15) #[] #[]] w fun e w' => e = .returned (.bool (decide (m = n) && allT ds es m)) ∧ Kept 0 0 w w' := by
  obtain ⟨a1, d1, rfl, hc1, hc2⟩ := r1.form
  obtain ⟨a2, d2, rfl, -, -⟩ := r2.form
  have hm : m ≤ 9223372036854775807 := by unfold maxLen at hc2; omega
  have hlen := r1.len
  have hlen2 := r2.len
  by_cases hnm : m = n
  rotate_left
  · have hni : ¬ ((m : Int) = (n : Int)) := by omega
    rw [decide_eq_false hnm]
    clear r1 r2
    go_enter Tryd.func14, Tryd.ntmps14
    go_wp2
    go_ret
    exact ⟨rfl, Kept.refl _ _ _⟩
  subst hnm
  rw [decide_eq_true rfl, Bool.true_and]
  have HL := hide hlen
  have HL2 := hide hlen2
  have R1 := hide r1
  have R2 := hide r2
  have HW1 := hide hw1
  have HW2 := hide hw2
  have HT := hide T
  clear r1 r2 hc1 hc2 hw1 hw2 hlen hlen2 T
  go_enter Tryd.func14, Tryd.ntmps14
  go_wp2
  go_loopw [17] (fun s17 wr => ∃ j : Nat, s17 = .int .i64 j ∧ j ≤ m ∧ Hid (∀ i, i < j → metE ds es i = true) ∧ Kept 0 0 w wr) (fun s17 _ => m - (intOf s17).toNat)
  case atStart => exact ⟨0, rfl, Nat.zero_le _, fun i hi => by omega, Kept.refl _ _ _⟩
  case round =>
    obtain ⟨j, rfl, hj, hall, k⟩ := hrel
    by_cases hlt : j < m
    · obtain ⟨g1, o1, n1, n1', rfl, -, -, -, b1, k1, b1', k1', c10, c11, c12, d10, d11, d12, hn1, hn1', rr1, rr1'⟩ := ((unhide R1).kept k (by omega)).at (i := j) hlt
      obtain ⟨g2, o2, n2, n2', rfl, -, -, -, b2, k2, b2', k2', c20, c21, c22, d20, d21, d22, hn2, hn2', rr2, rr2'⟩ := ((unhide R2).kept k (by omega)).at (i := j) hlt
      have hq1 := unhide HW1 (2 * j) (by rw [unhide HL]; omega)
      have hq3 := unhide HW1 (2 * j + 1) (by rw [unhide HL]; omega)
      have hq2 := unhide HW2 (2 * j) (by rw [unhide HL2]; omega)
      have hq4 := unhide HW2 (2 * j + 1) (by rw [unhide HL2]; omega)
      obtain ⟨s1, hs1⟩ : ∃ q, q = (ds.getD (2 * j) de0).1 := ⟨_, rfl⟩
      obtain ⟨y1, hy1⟩ : ∃ q, q = (ds.getD (2 * j) de0).2.2 := ⟨_, rfl⟩
      obtain ⟨z1, hz1⟩ : ∃ q, q = (ds.getD (2 * j) de0).2.1 := ⟨_, rfl⟩
      rw [← hs1] at c10
      rw [← hy1] at c12 hq1
      rw [← hz1] at hn1 rr1
      obtain ⟨s3, hs3⟩ : ∃ q, q = (ds.getD (2 * j + 1) de0).1 := ⟨_, rfl⟩
      obtain ⟨y3, hy3⟩ : ∃ q, q = (ds.getD (2 * j + 1) de0).2.2 := ⟨_, rfl⟩
      obtain ⟨z3, hz3⟩ : ∃ q, q = (ds.getD (2 * j + 1) de0).2.1 := ⟨_, rfl⟩
      rw [← hs3] at d10
      rw [← hy3] at d12 hq3
      rw [← hz3] at hn1' rr1'
      obtain ⟨s2, hs2⟩ : ∃ q, q = (es.getD (2 * j) de0).1 := ⟨_, rfl⟩
      obtain ⟨y2, hy2⟩ : ∃ q, q = (es.getD (2 * j) de0).2.2 := ⟨_, rfl⟩
      obtain ⟨z2, hz2⟩ : ∃ q, q = (es.getD (2 * j) de0).2.1 := ⟨_, rfl⟩
      rw [← hs2] at c20
      rw [← hy2] at c22 hq2
      rw [← hz2] at hn2 rr2
      obtain ⟨s4, hs4⟩ : ∃ q, q = (es.getD (2 * j + 1) de0).1 := ⟨_, rfl⟩
      obtain ⟨y4, hy4⟩ : ∃ q, q = (es.getD (2 * j + 1) de0).2.2 := ⟨_, rfl⟩
      obtain ⟨z4, hz4⟩ : ∃ q, q = (es.getD (2 * j + 1) de0).2.1 := ⟨_, rfl⟩
      rw [← hs4] at d20
      rw [← hy4] at d22 hq4
      rw [← hz4] at hn2' rr2'
      obtain ⟨C, hC⟩ : ∃ C, metC s1 z1 y1 s3 z3 y3 s2 z2 y2 s4 z4 y4 = C := ⟨_, rfl⟩
      have hE : Hid (metE ds es j = C) := by show _ = _; rw [← hC, hs1, hy1, hz1, hs3, hy3, hz3, hs2, hy2, hz2, hs4, hy4, hz4]; rfl
      have hJ := hide hlt
      clear hs1 hy1 hz1 hs2 hy2 hz2 hs3 hy3 hz3 hs4 hy4 hz4 hn1 hn1' hn2 hn2'
      have kA := (Kept.refl 0 0 wr).alloc (.cells #[.bool s1, .slice b1 n1 k1, .int .i64 y1, .bool s3, .slice b1' n1' k1', .int .i64 y3] 42)
      have kB : Kept 0 0 wr ((wr.alloc (.cells #[.bool s1, .slice b1 n1 k1, .int .i64 y1, .bool s3, .slice b1' n1' k1', .int .i64 y3] 42)).alloc (.cells #[.bool s2, .slice b2 n2 k2, .int .i64 y2, .bool s4, .slice b2' n2' k2', .int .i64 y4] 42)) := kA.alloc _
      have fc20 := kA.cell0 c20
      have fc21 := kA.cell0 c21
      have fc22 := kA.cell0 c22
      have fd20 := kA.cell0 d20
      have fd21 := kA.cell0 d21
      have fd22 := kA.cell0 d22
      have e10 : ((wr.alloc (.cells #[.bool s1, .slice b1 n1 k1, .int .i64 y1, .bool s3, .slice b1' n1' k1', .int .i64 y3] 42)).alloc (.cells #[.bool s2, .slice b2 n2 k2, .int .i64 y2, .bool s4, .slice b2' n2' k2', .int .i64 y4] 42)).cell? ⟨wr.heap.size, 0, none⟩ = some (.bool s1) := old_cell _ (new_cell2 _ _ _ _ _ _ (by simp) rfl)
      have e11 : ((wr.alloc (.cells #[.bool s1, .slice b1 n1 k1, .int .i64 y1, .bool s3, .slice b1' n1' k1', .int .i64 y3] 42)).alloc (.cells #[.bool s2, .slice b2 n2 k2, .int .i64 y2, .bool s4, .slice b2' n2' k2', .int .i64 y4] 42)).cell? ⟨wr.heap.size, 1, none⟩ = some (.slice b1 n1 k1) := old_cell _ (new_cell2 _ _ _ _ _ _ (by simp) rfl)
      have e12 : ((wr.alloc (.cells #[.bool s1, .slice b1 n1 k1, .int .i64 y1, .bool s3, .slice b1' n1' k1', .int .i64 y3] 42)).alloc (.cells #[.bool s2, .slice b2 n2 k2, .int .i64 y2, .bool s4, .slice b2' n2' k2', .int .i64 y4] 42)).cell? ⟨wr.heap.size, 2, none⟩ = some (.int .i64 y1) := old_cell _ (new_cell2 _ _ _ _ _ _ (by simp) rfl)
      have e13 : ((wr.alloc (.cells #[.bool s1, .slice b1 n1 k1, .int .i64 y1, .bool s3, .slice b1' n1' k1', .int .i64 y3] 42)).alloc (.cells #[.bool s2, .slice b2 n2 k2, .int .i64 y2, .bool s4, .slice b2' n2' k2', .int .i64 y4] 42)).cell? ⟨wr.heap.size, 3, none⟩ = some (.bool s3) := old_cell _ (new_cell2 _ _ _ _ _ _ (by simp) rfl)
      have e14 : ((wr.alloc (.cells #[.bool s1, .slice b1 n1 k1, .int .i64 y1, .bool s3, .slice b1' n1' k1', .int .i64 y3] 42)).alloc (.cells #[.bool s2, .slice b2 n2 k2, .int .i64 y2, .bool s4, .slice b2' n2' k2', .int .i64 y4] 42)).cell? ⟨wr.heap.size, 4, none⟩ = some (.slice b1' n1' k1') := old_cell _ (new_cell2 _ _ _ _ _ _ (by simp) rfl)
      have e15 : ((wr.alloc (.cells #[.bool s1, .slice b1 n1 k1, .int .i64 y1, .bool s3, .slice b1' n1' k1', .int .i64 y3] 42)).alloc (.cells #[.bool s2, .slice b2 n2 k2, .int .i64 y2, .bool s4, .slice b2' n2' k2', .int .i64 y4] 42)).cell? ⟨wr.heap.size, 5, none⟩ = some (.int .i64 y3) := old_cell _ (new_cell2 _ _ _ _ _ _ (by simp) rfl)
      have e20 : ((wr.alloc (.cells #[.bool s1, .slice b1 n1 k1, .int .i64 y1, .bool s3, .slice b1' n1' k1', .int .i64 y3] 42)).alloc (.cells #[.bool s2, .slice b2 n2 k2, .int .i64 y2, .bool s4, .slice b2' n2' k2', .int .i64 y4] 42)).cell? ⟨wr.heap.size + 1, 0, none⟩ = some (.bool s2) := new_cell2 _ _ _ _ _ _ (by simp) rfl
      have e21 : ((wr.alloc (.cells #[.bool s1, .slice b1 n1 k1, .int .i64 y1, .bool s3, .slice b1' n1' k1', .int .i64 y3] 42)).alloc (.cells #[.bool s2, .slice b2 n2 k2, .int .i64 y2, .bool s4, .slice b2' n2' k2', .int .i64 y4] 42)).cell? ⟨wr.heap.size + 1, 1, none⟩ = some (.slice b2 n2 k2) := new_cell2 _ _ _ _ _ _ (by simp) rfl
      have e22 : ((wr.alloc (.cells #[.bool s1, .slice b1 n1 k1, .int .i64 y1, .bool s3, .slice b1' n1' k1', .int .i64 y3] 42)).alloc (.cells #[.bool s2, .slice b2 n2 k2, .int .i64 y2, .bool s4, .slice b2' n2' k2', .int .i64 y4] 42)).cell? ⟨wr.heap.size + 1, 2, none⟩ = some (.int .i64 y2) := new_cell2 _ _ _ _ _ _ (by simp) rfl
      have e23 : ((wr.alloc (.cells #[.bool s1, .slice b1 n1 k1, .int .i64 y1, .bool s3, .slice b1' n1' k1', .int .i64 y3] 42)).alloc (.cells #[.bool s2, .slice b2 n2 k2, .int .i64 y2, .bool s4, .slice b2' n2' k2', .int .i64 y4] 42)).cell? ⟨wr.heap.size + 1, 3, none⟩ = some (.bool s4) := new_cell2 _ _ _ _ _ _ (by simp) rfl
      have e24 : ((wr.alloc (.cells #[.bool s1, .slice b1 n1 k1, .int .i64 y1, .bool s3, .slice b1' n1' k1', .int .i64 y3] 42)).alloc (.cells #[.bool s2, .slice b2 n2 k2, .int .i64 y2, .bool s4, .slice b2' n2' k2', .int .i64 y4] 42)).cell? ⟨wr.heap.size + 1, 4, none⟩ = some (.slice b2' n2' k2') := new_cell2 _ _ _ _ _ _ (by simp) rfl
      have e25 : ((wr.alloc (.cells #[.bool s1, .slice b1 n1 k1, .int .i64 y1, .bool s3, .slice b1' n1' k1', .int .i64 y3] 42)).alloc (.cells #[.bool s2, .slice b2 n2 k2, .int .i64 y2, .bool s4, .slice b2' n2' k2', .int .i64 y4] 42)).cell? ⟨wr.heap.size + 1, 5, none⟩ = some (.int .i64 y4) := new_cell2 _ _ _ _ _ _ (by simp) rfl
      have hc := meets1_impl s1 y1 hq1.1 hq1.2 s3 y3 hq3.1 hq3.2 s2 y2 hq2.1 hq2.2 s4 y4 hq4.1 hq4.2 _ (rr1.kept kB (by omega)) (rr1'.kept kB (by omega)) (rr2.kept kB (by omega)) (rr2'.kept kB (by omega)) ((unhide HT).kept (k.trans kB))
      rw [hC] at hc
      clear hC rr1 rr1' rr2 rr2' hq1 hq2 hq3 hq4
      have hw1 : IntKind.i64.wrap ((j : Int) + 1) = ((j + 1 : Nat) : Int) := by rw [IntKind.wrap_i64]; omega
      have KB := hide (k.trans kB)
      clear kA kB k
      go_wp2_with fail
      refine hc.mono ?_
      rintro e w2 ⟨rfl, k2'⟩
      have K2 := hide ((unhide KB).trans k2')
      clear hc k2' KB c10 c11 c12 d10 d11 d12 c20 c21 c22 d20 d21 d22 e10 e11 e12 e13 e14 e15 e20 e21 e22 e23 e24 e25 fc20 fc21 fc22 fd20 fd21 fd22
      cases hd : C
      · have HD : Hid (metE ds es j = false) := by show _ = _; rw [unhide hE, hd]
        clear hE
        subst hd
        go_wp2
        go_ret
        exact ⟨by rw [allT_no (unhide hJ) (unhide HD)]; rfl, unhide K2⟩
      · have HD : Hid (metE ds es j = true) := by show _ = _; rw [unhide hE, hd]
        clear hE
        subst hd
        go_wp2
        go_roundw
        case rel => exact ⟨j + 1, by simp, hlt, fun i hi => by rcases Nat.lt_succ_iff_lt_or_eq.1 hi with h | h; exact unhide hall i h; subst h; exact unhide HD, unhide K2⟩
        case measure => simp [intOf]; omega
    · have hjn : j = m := by omega
      subst hjn
      go_wp2
      go_ret
      exact ⟨by rw [allT_yes (fun i hi => unhide hall i hi)]; rfl, k⟩

set_option maxHeartbeats 8000000 in
theorem ivMatMeets_impl {l1 h1 l2 h2 m p : Nat} {v1 v2 : Value} {ds es : List DE} (n k : Int) (w : World) (hw1 : WfD ds) (hw2 : WfD es) (r1 : Ivs l1 h1 w v1 ds m) (r2 : Ivs l2 h2 w v2 es p) (T : TabB w) :
    Calls Tryd.prog 7 #[.agg #[.int .i64 n, v1], .agg #[.int .i64 k, v2]] w fun e w' => e = .returned (.bool (immB n ds m k es p)) ∧ Kept 0 0 w w' := by
  have k0 : Kept 0 0 w ((w.alloc (.cells #[.int .i64 n, v1] 29)).alloc (.cells #[.int .i64 k, v2] 29)) := ((Kept.refl 0 0 w).alloc _).alloc _
  have p10 : ((w.alloc (.cells #[.int .i64 n, v1] 29)).alloc (.cells #[.int .i64 k, v2] 29)).cell? ⟨w.heap.size, 0, none⟩ = some (.int .i64 n) := old_cell _ (new_cell2 _ _ _ _ _ _ (by simp) rfl)
  have p11 : ((w.alloc (.cells #[.int .i64 n, v1] 29)).alloc (.cells #[.int .i64 k, v2] 29)).cell? ⟨w.heap.size, 1, none⟩ = some (v1) := old_cell _ (new_cell2 _ _ _ _ _ _ (by simp) rfl)
  have p20 : ((w.alloc (.cells #[.int .i64 n, v1] 29)).alloc (.cells #[.int .i64 k, v2] 29)).cell? ⟨w.heap.size + 1, 0, none⟩ = some (.int .i64 k) := new_cell2 _ _ _ _ _ _ (by simp) rfl
  have p21 : ((w.alloc (.cells #[.int .i64 n, v1] 29)).alloc (.cells #[.int .i64 k, v2] 29)).cell? ⟨w.heap.size + 1, 1, none⟩ = some (v2) := new_cell2 _ _ _ _ _ _ (by simp) rfl
  replace r1 := r1.kept k0 (by omega)
  replace r2 := r2.kept k0 (by omega)
  obtain ⟨a1, d1, rfl, -, -⟩ := r1.form
  obtain ⟨a2, d2, rfl, -, -⟩ := r2.form
  have ho1 := ivMatOk_impl n _ hw1 r1
  go_enter Tryd.func7, Tryd.ntmps7
  go_wp2_with fail
  generalize ((w.alloc (.cells #[.int .i64 n, .slice a1 m d1] 29)).alloc (.cells #[.int .i64 k, .slice a2 p d2] 29)) = W at *
  refine ho1.mono ?_
  rintro e w1 ⟨rfl, k1⟩
  replace p10 := k1.cell0 p10
  replace p11 := k1.cell0 p11
  replace p20 := k1.cell0 p20
  replace p21 := k1.cell0 p21
  replace r1 := r1.kept k1 (by omega)
  replace r2 := r2.kept k1 (by omega)
  have K1 := hide (k0.trans k1)
  clear ho1 k0 k1
  cases hk1 : imokB n ds m
  · have HB : Hid ((immB n ds m k es p) = false) := by show _ = _; unfold immB; rw [hk1]; rfl
    clear hk1 r1 r2
    go_wp2
    go_ret
    exact ⟨by rw [unhide HB]; rfl, unhide K1⟩
  have ho2 := ivMatOk_impl k _ hw2 r2
  have HK1 := hide hk1
  clear hk1
  go_wp2_with fail
  refine ho2.mono ?_
  rintro e w2 ⟨rfl, k2⟩
  replace p10 := k2.cell0 p10
  replace p11 := k2.cell0 p11
  replace p20 := k2.cell0 p20
  replace p21 := k2.cell0 p21
  replace r1 := r1.kept k2 (by omega)
  replace r2 := r2.kept k2 (by omega)
  have K2 := hide ((unhide K1).trans k2)
  clear ho2 k2
  cases hk2 : imokB k es p
  · have HB : Hid ((immB n ds m k es p) = false) := by show _ = _; unfold immB; rw [hk2]; simp
    clear hk2 r1 r2
    go_wp2
    go_ret
    exact ⟨by rw [unhide HB]; rfl, unhide K2⟩
  have he := equalMeets_impl _ hw1 hw2 r1 r2 (T.kept (unhide K2))
  have hB : (decide (m = p) && allT ds es m) = immB n ds m k es p := by unfold immB; rw [unhide HK1, hk2]; simp
  rw [hB] at he
  obtain ⟨B, hB'⟩ : ∃ B, B = immB n ds m k es p := ⟨_, rfl⟩
  rw [← hB'] at he
  have HB := hide hB'
  clear hk2 r1 r2 hB hB'
  go_wp2_with fail
  refine he.mono ?_
  rintro e w3 ⟨rfl, k3⟩
  have K3 := hide ((unhide K2).trans k3)
  clear he k3
  go_wp2
  go_ret
  exact ⟨by rw [← unhide HB]; rfl, unhide K3⟩

set_option maxHeartbeats 8000000 in
theorem l10both_spec {l1 h1 l2 h2 m p : Nat} {v1 v2 : Value} {ds es : List DE} (n k : Int) (w : World) (hw1 : WfD ds) (hw2 : WfD es) (r1 : Ivs l1 h1 w v1 ds m) (r2 : Ivs l2 h2 w v2 es p) :
    Calls Tryd.prog 10 #[.agg #[.int .i64 n, v1], .agg #[.int .i64 k, v2]] w fun e w' => e = .returned (.bool (imokB n ds m && (imokB k es p && decide (n = k)))) ∧ Kept 0 0 w w' := by
  have k0 : Kept 0 0 w ((w.alloc (.cells #[.int .i64 n, v1] 29)).alloc (.cells #[.int .i64 k, v2] 29)) := ((Kept.refl 0 0 w).alloc _).alloc _
  have p10 : ((w.alloc (.cells #[.int .i64 n, v1] 29)).alloc (.cells #[.int .i64 k, v2] 29)).cell? ⟨w.heap.size, 0, none⟩ = some (.int .i64 n) := old_cell _ (new_cell2 _ _ _ _ _ _ (by simp) rfl)
  have p11 : ((w.alloc (.cells #[.int .i64 n, v1] 29)).alloc (.cells #[.int .i64 k, v2] 29)).cell? ⟨w.heap.size, 1, none⟩ = some (v1) := old_cell _ (new_cell2 _ _ _ _ _ _ (by simp) rfl)
  have p20 : ((w.alloc (.cells #[.int .i64 n, v1] 29)).alloc (.cells #[.int .i64 k, v2] 29)).cell? ⟨w.heap.size + 1, 0, none⟩ = some (.int .i64 k) := new_cell2 _ _ _ _ _ _ (by simp) rfl
  have p21 : ((w.alloc (.cells #[.int .i64 n, v1] 29)).alloc (.cells #[.int .i64 k, v2] 29)).cell? ⟨w.heap.size + 1, 1, none⟩ = some (v2) := new_cell2 _ _ _ _ _ _ (by simp) rfl
  replace r1 := r1.kept k0 (by omega)
  replace r2 := r2.kept k0 (by omega)
  obtain ⟨a1, d1, rfl, -, -⟩ := r1.form
  obtain ⟨a2, d2, rfl, -, -⟩ := r2.form
  have ho1 := ivMatOk_spec n _ hw1 r1
  go_enter Tryd.func10, Tryd.ntmps10
  go_wp2_with fail
  generalize ((w.alloc (.cells #[.int .i64 n, .slice a1 m d1] 29)).alloc (.cells #[.int .i64 k, .slice a2 p d2] 29)) = W at *
  refine ho1.mono ?_
  rintro e w1 ⟨rfl, k1⟩
  replace p10 := k1.cell0 p10
  replace p11 := k1.cell0 p11
  replace p20 := k1.cell0 p20
  replace p21 := k1.cell0 p21
  replace r1 := r1.kept k1 (by omega)
  replace r2 := r2.kept k1 (by omega)
  have K1 := hide (k0.trans k1)
  clear ho1 k0 k1
  cases hk1 : imokB n ds m
  · have HB : Hid ((imokB n ds m && (imokB k es p && decide (n = k))) = false) := by show _ = _; rw [hk1]; rfl
    clear hk1 r1 r2
    go_wp2
    go_ret
    exact ⟨by rw [unhide HB]; rfl, unhide K1⟩
  have ho2 := ivMatOk_spec k _ hw2 r2
  have HK1 := hide hk1
  clear hk1
  go_wp2_with fail
  refine ho2.mono ?_
  rintro e w2 ⟨rfl, k2⟩
  replace p10 := k2.cell0 p10
  replace p11 := k2.cell0 p11
  replace p20 := k2.cell0 p20
  replace p21 := k2.cell0 p21
  replace r1 := r1.kept k2 (by omega)
  replace r2 := r2.kept k2 (by omega)
  have K2 := hide ((unhide K1).trans k2)
  clear ho2 k2
  cases hk2 : imokB k es p
  · have HB : Hid ((imokB n ds m && (imokB k es p && decide (n = k))) = false) := by show _ = _; rw [hk2]; simp
    clear hk2 r1 r2
    go_wp2
    go_ret
    exact ⟨by rw [unhide HB]; rfl, unhide K2⟩
  have HB : Hid ((imokB n ds m && (imokB k es p && decide (n = k))) = (n == k)) := by show _ = _; rw [unhide HK1, hk2]; by_cases h : n = k <;> simp [h]
  clear hk2 r1 r2
  go_wp2
  go_ret
  exact ⟨by rw [unhide HB]; rfl, unhide K2⟩

theorem side_eqT {n m : Int} (h1 : 1 ≤ n) (h2 : n ≤ 4) (h3 : 1 ≤ m) (h4 : m ≤ 4) (h : n * n = m * m) : n = m := by
  have a : n = 1 ∨ n = 2 ∨ n = 3 ∨ n = 4 := by omega
  have b : m = 1 ∨ m = 2 ∨ m = 3 ∨ m = 4 := by omega
  rcases a with h | h | h | h <;> rcases b with h' | h' | h' | h' <;> subst h <;> subst h' <;> first | rfl | omega

theorem in_l4cmpT : ∀ (w : World) (args : Array Value), (callFunc 11 args).run Tryd.prog w = .ok (.enter 11 args) w := enters Tryd.func11 (by decide) (fun h => by cases h)

theorem in_spec_IvMatMeets : ∀ (w : World) (args : Array Value), (callFunc 5 args).run Tryd.prog w = .ok (.enter 5 args) w := enters Tryd.func5 (by decide) (fun h => by cases h)

theorem in_impl_IvMatMeets : ∀ (w : World) (args : Array Value), (callFunc 7 args).run Tryd.prog w = .ok (.enter 7 args) w := enters Tryd.func7 (by decide) (fun h => by cases h)

set_option maxHeartbeats 8000000 in
theorem ivMatMeets_spec {l1 h1 l2 h2 m p : Nat} {v1 v2 : Value} {ds es : List DE} (n k : Int) (w : World) (hw1 : WfD ds) (hw2 : WfD es) (r1 : Ivs l1 h1 w v1 ds m) (r2 : Ivs l2 h2 w v2 es p) :
    Calls Tryd.prog 5 #[.agg #[.int .i64 n, v1], .agg #[.int .i64 k, v2]] w fun e w' => e = .returned (.bool (immB n ds m k es p)) ∧ Kept 0 0 w w' := by
  have k0 : Kept 0 0 w ((w.alloc (.cells #[.int .i64 n, v1] 29)).alloc (.cells #[.int .i64 k, v2] 29)) := ((Kept.refl 0 0 w).alloc _).alloc _
  have p10 : ((w.alloc (.cells #[.int .i64 n, v1] 29)).alloc (.cells #[.int .i64 k, v2] 29)).cell? ⟨w.heap.size, 0, none⟩ = some (.int .i64 n) := old_cell _ (new_cell2 _ _ _ _ _ _ (by simp) rfl)
  have p11 : ((w.alloc (.cells #[.int .i64 n, v1] 29)).alloc (.cells #[.int .i64 k, v2] 29)).cell? ⟨w.heap.size, 1, none⟩ = some (v1) := old_cell _ (new_cell2 _ _ _ _ _ _ (by simp) rfl)
  have p20 : ((w.alloc (.cells #[.int .i64 n, v1] 29)).alloc (.cells #[.int .i64 k, v2] 29)).cell? ⟨w.heap.size + 1, 0, none⟩ = some (.int .i64 k) := new_cell2 _ _ _ _ _ _ (by simp) rfl
  have p21 : ((w.alloc (.cells #[.int .i64 n, v1] 29)).alloc (.cells #[.int .i64 k, v2] 29)).cell? ⟨w.heap.size + 1, 1, none⟩ = some (v2) := new_cell2 _ _ _ _ _ _ (by simp) rfl
  replace r1 := r1.kept k0 (by omega)
  replace r2 := r2.kept k0 (by omega)
  obtain ⟨a1, d1, rfl, -, -⟩ := r1.form
  obtain ⟨a2, d2, rfl, -, -⟩ := r2.form
  have ho := l10both_spec n k _ hw1 hw2 r1 r2
  obtain ⟨Q, hQ⟩ : ∃ Q, (imokB n ds m && (imokB k es p && decide (n = k))) = Q := ⟨_, rfl⟩
  rw [hQ] at ho
  have HQ := hide hQ
  clear hQ
  go_enter Tryd.func5, Tryd.ntmps5
  go_wp2_with fail
  generalize ((w.alloc (.cells #[.int .i64 n, .slice a1 m d1] 29)).alloc (.cells #[.int .i64 k, .slice a2 p d2] 29)) = W at *
  refine ho.mono ?_
  rintro e w2 ⟨rfl, k2⟩
  replace p10 := k2.cell0 p10
  replace p11 := k2.cell0 p11
  replace p20 := k2.cell0 p20
  replace p21 := k2.cell0 p21
  replace r1 := r1.kept k2 (by omega)
  replace r2 := r2.kept k2 (by omega)
  have K2 := hide (k0.trans k2)
  clear ho k0 k2
  cases hq : Q
  · have HB : Hid (immB n ds m k es p = false) := by
      show _ = _
      have h := (unhide HQ).trans hq
      unfold immB
      cases q1 : imokB n ds m
      · rfl
      cases q2 : imokB k es p
      · rfl
      rw [q1, q2] at h
      obtain ⟨u1, u2, u3, -⟩ := imok_parts3 q1
      obtain ⟨t1, t2, t3, -⟩ := imok_parts3 q2
      rw [decide_eq_false]
      · rfl
      · intro e
        subst e
        have : n = k := side_eqT u1 u2 t1 t2 (by rw [← u3, ← t3])
        subst this
        simp at h
    subst hq
    clear r1 r2 HQ
    go_wp2
    go_ret
    exact ⟨by rw [unhide HB]; rfl, unhide K2⟩
  have hqq := (unhide HQ).trans hq
  simp only [Bool.and_eq_true, decide_eq_true_eq] at hqq
  obtain ⟨hk1, hk2, hnm⟩ := hqq
  subst hnm
  subst hq
  obtain ⟨u1, u2, u3, U1⟩ := imok_parts3 hk1
  obtain ⟨t1, t2, t3, U2⟩ := imok_parts3 hk2
  have hle : m = p := by omega
  subst hle
  have hB : immB n ds m n es m = allT ds es m := by unfold immB; rw [hk1, hk2]; simp
  have HB := hide hB
  have hd16 : m ≤ 16 := by
    have h5 : n = 1 ∨ n = 2 ∨ n = 3 ∨ n = 4 := by omega
    rcases h5 with h | h | h | h <;> subst h <;> omega
  have R1 := hide r1
  have R2 := hide r2
  have HU1 := hide U1
  have HU2 := hide U2
  clear hk1 hk2 r1 r2 hB u1 u2 u3 t1 t2 t3 U1 U2 hw1 hw2 HQ
  go_wp2_with fail
  go_loopw [5] (fun s5 wr => ∃ j : Nat, s5 = .int .i64 j ∧ j ≤ m ∧ Hid (∀ i, i < j → metE ds es i = true) ∧ Kept 0 0 w2 wr) (fun s5 _ => m - (intOf s5).toNat)
  case atStart => exact ⟨0, rfl, Nat.zero_le _, fun i hi => by omega, Kept.refl _ _ _⟩
  case round =>
    obtain ⟨j, rfl, hj, hall, k⟩ := hrel
    have p11' := k.cell0 p11
    have p21' := k.cell0 p21
    by_cases hlt : j < m
    · have kd := k.drew
      obtain ⟨g1, o1, n1, n1', rfl, -, -, -, b1, k1, b1', k1', c10, c11, c12, d10, d11, d12, hn1, hn1', rr1, rr1'⟩ := ((unhide R1).kept kd (by omega)).at (i := j) hlt
      obtain ⟨g2, o2, n2, n2', rfl, -, -, -, b2, k2, b2', k2', c20, c21, c22, d20, d21, d22, hn2, hn2', rr2, rr2'⟩ := ((unhide R2).kept kd (by omega)).at (i := j) hlt
      have hiv := unhide HU1 j hlt
      have hiw := unhide HU2 j hlt
      have P11 := kd.cell0 p11
      have P21 := kd.cell0 p21
      unfold ivE at hiv hiw
      obtain ⟨s1, hs1⟩ : ∃ q, q = (ds.getD (2 * j) de0).1 := ⟨_, rfl⟩
      obtain ⟨y1, hy1⟩ : ∃ q, q = (ds.getD (2 * j) de0).2.2 := ⟨_, rfl⟩
      obtain ⟨z1, hz1⟩ : ∃ q, q = (ds.getD (2 * j) de0).2.1 := ⟨_, rfl⟩
      rw [← hs1] at c10
      rw [← hy1] at c12 hiv
      rw [← hz1] at hn1 rr1
      obtain ⟨s3, hs3⟩ : ∃ q, q = (ds.getD (2 * j + 1) de0).1 := ⟨_, rfl⟩
      obtain ⟨y3, hy3⟩ : ∃ q, q = (ds.getD (2 * j + 1) de0).2.2 := ⟨_, rfl⟩
      obtain ⟨z3, hz3⟩ : ∃ q, q = (ds.getD (2 * j + 1) de0).2.1 := ⟨_, rfl⟩
      rw [← hs3] at d10
      rw [← hy3] at d12 hiv
      rw [← hz3] at hn1' rr1'
      obtain ⟨s2, hs2⟩ : ∃ q, q = (es.getD (2 * j) de0).1 := ⟨_, rfl⟩
      obtain ⟨y2, hy2⟩ : ∃ q, q = (es.getD (2 * j) de0).2.2 := ⟨_, rfl⟩
      obtain ⟨z2, hz2⟩ : ∃ q, q = (es.getD (2 * j) de0).2.1 := ⟨_, rfl⟩
      rw [← hs2] at c20
      rw [← hy2] at c22 hiw
      rw [← hz2] at hn2 rr2
      obtain ⟨s4, hs4⟩ : ∃ q, q = (es.getD (2 * j + 1) de0).1 := ⟨_, rfl⟩
      obtain ⟨y4, hy4⟩ : ∃ q, q = (es.getD (2 * j + 1) de0).2.2 := ⟨_, rfl⟩
      obtain ⟨z4, hz4⟩ : ∃ q, q = (es.getD (2 * j + 1) de0).2.1 := ⟨_, rfl⟩
      rw [← hs4] at d20
      rw [← hy4] at d22 hiw
      rw [← hz4] at hn2' rr2'
      rw [← hs1, ← hz1, ← hs3, ← hz3] at hiv
      rw [← hs2, ← hz2, ← hs4, ← hz4] at hiw
      obtain ⟨ok1, ok3, -⟩ := iok_parts hiv
      obtain ⟨ok2, ok4, -⟩ := iok_parts hiw
      obtain ⟨C, hC⟩ : ∃ C, cmpD s1 z1 y1 s4 z4 y4 = C := ⟨_, rfl⟩
      obtain ⟨D, hD⟩ : ∃ D, cmpD s2 z2 y2 s3 z3 y3 = D := ⟨_, rfl⟩
      have hE : Hid (metE ds es j = (decide (C ≤ 0) && decide (D ≤ 0))) := by show _ = _; unfold metE; rw [← hs1, ← hy1, ← hz1, ← hs3, ← hy3, ← hz3, ← hs2, ← hy2, ← hz2, ← hs4, ← hy4, ← hz4, metC_eq hiv hiw, hC, hD]
      rw [cmpD_ok ok1 ok4] at hC
      rw [cmpD_ok ok2 ok3] at hD
      have hJ := hide hlt
      clear hs1 hy1 hz1 hs2 hy2 hz2 hs3 hy3 hz3 hs4 hy4 hz4 hn1 hn1' hn2 hn2' p11 p21 hiv hiw
      have hw1 : IntKind.i64.wrap ((j : Int) + 1) = ((j + 1 : Nat) : Int) := by rw [IntKind.wrap_i64]; omega
      have hc := fun w r1 r2 => cmp4_spec (b1 := false) (b2 := false) (l1 := l1) (h1 := h1) (l2 := l2) (h2 := h2) (v1 := .slice b1 n1 k1) (v2 := .slice b2' n2' k2') (xs := z1) (ys := z4) s1 s4 y1 y4 w r1 r2 ok1 ok4
      have hc' := fun w r1 r2 => cmp4_spec (b1 := false) (b2 := false) (l1 := l2) (h1 := h2) (l2 := l1) (h2 := h1) (v1 := .slice b2 n2 k2) (v2 := .slice b1' n1' k1') (xs := z2) (ys := z3) s2 s3 y2 y3 w r1 r2 ok2 ok3
      rw [hC] at hc
      rw [hD] at hc'
      clear hC hD ok1 ok2 ok3 ok4
      go_wp2_with fail
      refine wp_region_held_drew (S := (fun w' => w'.cell? ⟨w.heap.size, 1, none⟩ = some (.slice (some ⟨g1, o1, none⟩) m d1) ∧ w'.cell? ⟨w.heap.size + 1, 1, none⟩ = some (.slice (some ⟨g2, o2, none⟩) m d2) ∧ w'.cell? ⟨g1, o1 + j * 6, none⟩ = some (.bool s1) ∧ w'.cell? ⟨g1, o1 + j * 6 + 1, none⟩ = some (.slice b1 n1 k1) ∧ w'.cell? ⟨g1, o1 + j * 6 + 2, none⟩ = some (.int .i64 y1) ∧ w'.cell? ⟨g1, o1 + j * 6 + 3, none⟩ = some (.bool s3) ∧ w'.cell? ⟨g1, o1 + j * 6 + 3 + 1, none⟩ = some (.slice b1' n1' k1') ∧ w'.cell? ⟨g1, o1 + j * 6 + 3 + 2, none⟩ = some (.int .i64 y3) ∧ w'.cell? ⟨g2, o2 + j * 6, none⟩ = some (.bool s2) ∧ w'.cell? ⟨g2, o2 + j * 6 + 1, none⟩ = some (.slice b2 n2 k2) ∧ w'.cell? ⟨g2, o2 + j * 6 + 2, none⟩ = some (.int .i64 y2) ∧ w'.cell? ⟨g2, o2 + j * 6 + 3, none⟩ = some (.bool s4) ∧ w'.cell? ⟨g2, o2 + j * 6 + 3 + 1, none⟩ = some (.slice b2' n2' k2') ∧ w'.cell? ⟨g2, o2 + j * 6 + 3 + 2, none⟩ = some (.int .i64 y4))) (by kernel_rfl) ?_ (fun hHeld => ?_)
      · exact ⟨P11, P21, c10, c11, c12, d10, d11, d12, c20, c21, c22, d20, d21, d22⟩
      refine wpAnyH_take (i := 0) (oi := _) (v := .pointer (some ⟨w.heap.size, 1, none⟩)) rfl (by kernel_rfl) (by kernel_rfl) (by kernel_rfl) (fun _ _ _ h => h) (Or.inl ⟨by rfl, ?_⟩) hHeld ?_
      · intro wq hSw
        try dsimp only at hSw
        go_simp
      try simp only [Act.put, List.getElem_toArray, List.getElem_cons_succ, List.getElem_cons_zero, List.setIfInBounds_toArray, List.set_cons_zero, List.set_cons_succ]
      refine wpAnyH_take (i := 1) (oi := _) (v := .slice (some ⟨g1, o1, none⟩) m d1) rfl (by kernel_rfl) (by kernel_rfl) (by kernel_rfl) (fun _ _ _ h => h) (Or.inl ⟨by rfl, ?_⟩) hHeld ?_
      · intro wq hSw
        try dsimp only at hSw
        go_simp
      try simp only [Act.put, List.getElem_toArray, List.getElem_cons_succ, List.getElem_cons_zero, List.setIfInBounds_toArray, List.set_cons_zero, List.set_cons_succ]
      refine wpAnyH_take (i := 2) (oi := _) (v := .int .i64 (j : Int)) rfl (by kernel_rfl) (by kernel_rfl) (by kernel_rfl) (fun _ _ _ h => h) (Or.inl ⟨by rfl, ?_⟩) hHeld ?_
      · intro wq hSw
        try dsimp only at hSw
        go_simp
      try simp only [Act.put, List.getElem_toArray, List.getElem_cons_succ, List.getElem_cons_zero, List.setIfInBounds_toArray, List.set_cons_zero, List.set_cons_succ]
      refine wpAnyH_take (i := 3) (oi := _) (v := .pointer (some ⟨g1, o1 + j * 6, none⟩)) rfl (by kernel_rfl) (by kernel_rfl) (by kernel_rfl) (fun _ _ _ h => h) (Or.inl ⟨by rfl, ?_⟩) hHeld ?_
      · intro wq hSw
        try dsimp only at hSw
        go_simp
      try simp only [Act.put, List.getElem_toArray, List.getElem_cons_succ, List.getElem_cons_zero, List.setIfInBounds_toArray, List.set_cons_zero, List.set_cons_succ]
      refine wpAnyH_take (i := 4) (oi := _) (v := .pointer (some ⟨g1, o1 + j * 6, none⟩)) rfl (by kernel_rfl) (by kernel_rfl) (by kernel_rfl) (fun _ _ _ h => h) (Or.inl ⟨by rfl, ?_⟩) hHeld ?_
      · intro wq hSw
        try dsimp only at hSw
        go_simp
      try simp only [Act.put, List.getElem_toArray, List.getElem_cons_succ, List.getElem_cons_zero, List.setIfInBounds_toArray, List.set_cons_zero, List.set_cons_succ]
      refine wpAnyH_take (i := 5) (oi := _) (v := .agg #[.bool s1, .slice b1 n1 k1, .int .i64 y1]) rfl (by kernel_rfl) (by kernel_rfl) (by kernel_rfl) (fun _ _ _ h => h) (Or.inl ⟨by rfl, ?_⟩) hHeld ?_
      · intro wq hSw
        try dsimp only at hSw
        go_simp
      try simp only [Act.put, List.getElem_toArray, List.getElem_cons_succ, List.getElem_cons_zero, List.setIfInBounds_toArray, List.set_cons_zero, List.set_cons_succ]
      refine wpAnyH_take (i := 6) (oi := _) (v := .pointer (some ⟨w.heap.size + 1, 1, none⟩)) rfl (by kernel_rfl) (by kernel_rfl) (by kernel_rfl) (fun _ _ _ h => h) (Or.inl ⟨by rfl, ?_⟩) hHeld ?_
      · intro wq hSw
        try dsimp only at hSw
        go_simp
      try simp only [Act.put, List.getElem_toArray, List.getElem_cons_succ, List.getElem_cons_zero, List.setIfInBounds_toArray, List.set_cons_zero, List.set_cons_succ]
      refine wpAnyH_take (i := 7) (oi := _) (v := .slice (some ⟨g2, o2, none⟩) m d2) rfl (by kernel_rfl) (by kernel_rfl) (by kernel_rfl) (fun _ _ _ h => h) (Or.inl ⟨by rfl, ?_⟩) hHeld ?_
      · intro wq hSw
        try dsimp only at hSw
        go_simp
      try simp only [Act.put, List.getElem_toArray, List.getElem_cons_succ, List.getElem_cons_zero, List.setIfInBounds_toArray, List.set_cons_zero, List.set_cons_succ]
      refine wpAnyH_take (i := 8) (oi := _) (v := .int .i64 (j : Int)) rfl (by kernel_rfl) (by kernel_rfl) (by kernel_rfl) (fun _ _ _ h => h) (Or.inl ⟨by rfl, ?_⟩) hHeld ?_
      · intro wq hSw
        try dsimp only at hSw
        go_simp
      try simp only [Act.put, List.getElem_toArray, List.getElem_cons_succ, List.getElem_cons_zero, List.setIfInBounds_toArray, List.set_cons_zero, List.set_cons_succ]
      refine wpAnyH_take (i := 9) (oi := _) (v := .pointer (some ⟨g2, o2 + j * 6, none⟩)) rfl (by kernel_rfl) (by kernel_rfl) (by kernel_rfl) (fun _ _ _ h => h) (Or.inl ⟨by rfl, ?_⟩) hHeld ?_
      · intro wq hSw
        try dsimp only at hSw
        go_simp
      try simp only [Act.put, List.getElem_toArray, List.getElem_cons_succ, List.getElem_cons_zero, List.setIfInBounds_toArray, List.set_cons_zero, List.set_cons_succ]
      refine wpAnyH_take (i := 10) (oi := _) (v := .pointer (some ⟨g2, o2 + j * 6 + 3, none⟩)) rfl (by kernel_rfl) (by kernel_rfl) (by kernel_rfl) (fun _ _ _ h => h) (Or.inl ⟨by rfl, ?_⟩) hHeld ?_
      · intro wq hSw
        try dsimp only at hSw
        go_simp
      try simp only [Act.put, List.getElem_toArray, List.getElem_cons_succ, List.getElem_cons_zero, List.setIfInBounds_toArray, List.set_cons_zero, List.set_cons_succ]
      refine wpAnyH_take (i := 11) (oi := _) (v := .agg #[.bool s4, .slice b2' n2' k2', .int .i64 y4]) rfl (by kernel_rfl) (by kernel_rfl) (by kernel_rfl) (fun _ _ _ h => h) (Or.inl ⟨by rfl, ?_⟩) hHeld ?_
      · intro wq hSw
        try dsimp only at hSw
        go_simp
      try simp only [Act.put, List.getElem_toArray, List.getElem_cons_succ, List.getElem_cons_zero, List.setIfInBounds_toArray, List.set_cons_zero, List.set_cons_succ]
      refine wpAnyH_ready (rs := [12]) (by kernel_rfl) (by simp) ?_
      refine AllReadyH.cons rfl (fun KK hK => ?_) AllReadyH.nil
      simp only [List.getElem_toArray, List.getElem_cons_succ, List.getElem_cons_zero]
      rw [if_pos (by rfl)]
      refine wps2 11 (.tmp 22) (.tmp 28) _ rfl in_l4cmpT (.agg #[.bool s1, .slice b1 n1 k1, .int .i64 y1]) (.agg #[.bool s4, .slice b2' n2' k2', .int .i64 y4]) rfl rfl (hc _ rr1 rr2') ?_
      rintro e w3 ⟨rfl, kx⟩
      refine ⟨_, rfl, ?_⟩
      replace P11 := kx.cell0 P11
      replace P21 := kx.cell0 P21
      replace c10 := kx.cell0 c10
      replace c11 := kx.cell0 c11
      replace c12 := kx.cell0 c12
      replace d10 := kx.cell0 d10
      replace d11 := kx.cell0 d11
      replace d12 := kx.cell0 d12
      replace c20 := kx.cell0 c20
      replace c21 := kx.cell0 c21
      replace c22 := kx.cell0 c22
      replace d20 := kx.cell0 d20
      replace d21 := kx.cell0 d21
      replace d22 := kx.cell0 d22
      replace rr1 := rr1.kept kx (by omega)
      replace rr1' := rr1'.kept kx (by omega)
      replace rr2 := rr2.kept kx (by omega)
      replace rr2' := rr2'.kept kx (by omega)
      replace kd := kd.trans kx
      clear kx
      clear hHeld
      refine hK.out _ _ ?_ (fun hHeld => ?_)
      · exact ⟨P11, P21, c10, c11, c12, d10, d11, d12, c20, c21, c22, d20, d21, d22⟩
      clear hK KK
      try simp only [Act.put, List.getElem_toArray, List.getElem_cons_succ, List.getElem_cons_zero, List.setIfInBounds_toArray, List.set_cons_zero, List.set_cons_succ]
      by_cases hC0 : 0 < C
      · have HD : Hid (metE ds es j = false) := by show _ = _; rw [unhide hE, decide_eq_false (show ¬ C ≤ 0 by omega)]; rfl
        refine wpAnyH_take (i := 13) (oi := _) (v := .bool true) rfl (by kernel_rfl) (by kernel_rfl) (by kernel_rfl) (fun _ _ _ h => h) (Or.inl ⟨by rfl, ?_⟩) hHeld ?_
        · intro wq hSw
          try dsimp only at hSw
          go_simp
        try simp only [Act.put, List.getElem_toArray, List.getElem_cons_succ, List.getElem_cons_zero, List.setIfInBounds_toArray, List.set_cons_zero, List.set_cons_succ]
        refine wpAnyH_take (i := 14) (oi := _) (v := .bool true) rfl (by kernel_rfl) (by kernel_rfl) (by kernel_rfl) (fun _ _ _ h => h) (Or.inl ⟨by rfl, ?_⟩) hHeld ?_
        · intro wq hSw
          try dsimp only at hSw
          go_simp
        try simp only [Act.put, List.getElem_toArray, List.getElem_cons_succ, List.getElem_cons_zero, List.setIfInBounds_toArray, List.set_cons_zero, List.set_cons_succ]
        refine wpAnyH_take (i := 15) (v := undef) rfl (by kernel_rfl) (by kernel_rfl) (by kernel_rfl) (fun _ _ _ h => h) (Or.inr ⟨by rfl, rfl⟩) hHeld ?_
        try simp only [Act.put, List.getElem_toArray, List.getElem_cons_succ, List.getElem_cons_zero, List.setIfInBounds_toArray, List.set_cons_zero, List.set_cons_succ]
        refine wpAnyH_take (i := 16) (v := undef) rfl (by kernel_rfl) (by kernel_rfl) (by kernel_rfl) (fun _ _ _ h => h) (Or.inr ⟨by rfl, rfl⟩) hHeld ?_
        try simp only [Act.put, List.getElem_toArray, List.getElem_cons_succ, List.getElem_cons_zero, List.setIfInBounds_toArray, List.set_cons_zero, List.set_cons_succ]
        refine wpAnyH_take (i := 17) (v := undef) rfl (by kernel_rfl) (by kernel_rfl) (by kernel_rfl) (fun _ _ _ h => h) (Or.inr ⟨by rfl, rfl⟩) hHeld ?_
        try simp only [Act.put, List.getElem_toArray, List.getElem_cons_succ, List.getElem_cons_zero, List.setIfInBounds_toArray, List.set_cons_zero, List.set_cons_succ]
        refine wpAnyH_take (i := 18) (v := undef) rfl (by kernel_rfl) (by kernel_rfl) (by kernel_rfl) (fun _ _ _ h => h) (Or.inr ⟨by rfl, rfl⟩) hHeld ?_
        try simp only [Act.put, List.getElem_toArray, List.getElem_cons_succ, List.getElem_cons_zero, List.setIfInBounds_toArray, List.set_cons_zero, List.set_cons_succ]
        refine wpAnyH_take (i := 19) (v := undef) rfl (by kernel_rfl) (by kernel_rfl) (by kernel_rfl) (fun _ _ _ h => h) (Or.inr ⟨by rfl, rfl⟩) hHeld ?_
        try simp only [Act.put, List.getElem_toArray, List.getElem_cons_succ, List.getElem_cons_zero, List.setIfInBounds_toArray, List.set_cons_zero, List.set_cons_succ]
        refine wpAnyH_take (i := 20) (v := undef) rfl (by kernel_rfl) (by kernel_rfl) (by kernel_rfl) (fun _ _ _ h => h) (Or.inr ⟨by rfl, rfl⟩) hHeld ?_
        try simp only [Act.put, List.getElem_toArray, List.getElem_cons_succ, List.getElem_cons_zero, List.setIfInBounds_toArray, List.set_cons_zero, List.set_cons_succ]
        refine wpAnyH_take (i := 21) (v := undef) rfl (by kernel_rfl) (by kernel_rfl) (by kernel_rfl) (fun _ _ _ h => h) (Or.inr ⟨by rfl, rfl⟩) hHeld ?_
        try simp only [Act.put, List.getElem_toArray, List.getElem_cons_succ, List.getElem_cons_zero, List.setIfInBounds_toArray, List.set_cons_zero, List.set_cons_succ]
        refine wpAnyH_take (i := 22) (v := undef) rfl (by kernel_rfl) (by kernel_rfl) (by kernel_rfl) (fun _ _ _ h => h) (Or.inr ⟨by rfl, rfl⟩) hHeld ?_
        try simp only [Act.put, List.getElem_toArray, List.getElem_cons_succ, List.getElem_cons_zero, List.setIfInBounds_toArray, List.set_cons_zero, List.set_cons_succ]
        refine wpAnyH_take (i := 23) (v := undef) rfl (by kernel_rfl) (by kernel_rfl) (by kernel_rfl) (fun _ _ _ h => h) (Or.inr ⟨by rfl, rfl⟩) hHeld ?_
        try simp only [Act.put, List.getElem_toArray, List.getElem_cons_succ, List.getElem_cons_zero, List.setIfInBounds_toArray, List.set_cons_zero, List.set_cons_succ]
        refine wpAnyH_take (i := 24) (v := undef) rfl (by kernel_rfl) (by kernel_rfl) (by kernel_rfl) (fun _ _ _ h => h) (Or.inr ⟨by rfl, rfl⟩) hHeld ?_
        try simp only [Act.put, List.getElem_toArray, List.getElem_cons_succ, List.getElem_cons_zero, List.setIfInBounds_toArray, List.set_cons_zero, List.set_cons_succ]
        refine wpAnyH_take (i := 25) (v := undef) rfl (by kernel_rfl) (by kernel_rfl) (by kernel_rfl) (fun _ _ _ h => h) (Or.inr ⟨by rfl, rfl⟩) hHeld ?_
        try simp only [Act.put, List.getElem_toArray, List.getElem_cons_succ, List.getElem_cons_zero, List.setIfInBounds_toArray, List.set_cons_zero, List.set_cons_succ]
        refine wpAnyH_take (i := 26) (v := undef) rfl (by kernel_rfl) (by kernel_rfl) (by kernel_rfl) (fun _ _ _ h => h) (Or.inr ⟨by rfl, rfl⟩) hHeld ?_
        try simp only [Act.put, List.getElem_toArray, List.getElem_cons_succ, List.getElem_cons_zero, List.setIfInBounds_toArray, List.set_cons_zero, List.set_cons_succ]
        refine wpAnyH_take (i := 27) (v := undef) rfl (by kernel_rfl) (by kernel_rfl) (by kernel_rfl) (fun _ _ _ h => h) (Or.inr ⟨by rfl, rfl⟩) hHeld ?_
        try simp only [Act.put, List.getElem_toArray, List.getElem_cons_succ, List.getElem_cons_zero, List.setIfInBounds_toArray, List.set_cons_zero, List.set_cons_succ]
        refine wpAnyH_take (i := 28) (v := undef) rfl (by kernel_rfl) (by kernel_rfl) (by kernel_rfl) (fun _ _ _ h => h) (Or.inr ⟨by rfl, rfl⟩) hHeld ?_
        try simp only [Act.put, List.getElem_toArray, List.getElem_cons_succ, List.getElem_cons_zero, List.setIfInBounds_toArray, List.set_cons_zero, List.set_cons_succ]
        refine wpAnyH_take (i := 29) (oi := _) (v := .bool true) rfl (by kernel_rfl) (by kernel_rfl) (by kernel_rfl) (fun _ _ _ h => h) (Or.inl ⟨by rfl, ?_⟩) hHeld ?_
        · intro wq hSw
          try dsimp only at hSw
          go_simp
        try simp only [Act.put, List.getElem_toArray, List.getElem_cons_succ, List.getElem_cons_zero, List.setIfInBounds_toArray, List.set_cons_zero, List.set_cons_succ]
        refine wpAnyH_done (by kernel_rfl) ?_ _
        clear hHeld P11 P21 c10 c11 c12 d10 d11 d12 c20 c21 c22 d20 d21 d22 rr1 rr1' rr2 rr2' hc hc'
        have K3 := hide kd
        clear kd k
        go_wp2
        go_ret
        exact ⟨by rw [unhide HB, allT_no (unhide hJ) (unhide HD)]; rfl, (unhide K2).trans (unhide K3)⟩
      refine wpAnyH_take (i := 13) (oi := _) (v := .bool false) rfl (by kernel_rfl) (by kernel_rfl) (by kernel_rfl) (fun _ _ _ h => h) (Or.inl ⟨by rfl, ?_⟩) hHeld ?_
      · intro wq hSw
        try dsimp only at hSw
        go_simp
      try simp only [Act.put, List.getElem_toArray, List.getElem_cons_succ, List.getElem_cons_zero, List.setIfInBounds_toArray, List.set_cons_zero, List.set_cons_succ]
      refine wpAnyH_take (i := 14) (oi := _) (v := .bool false) rfl (by kernel_rfl) (by kernel_rfl) (by kernel_rfl) (fun _ _ _ h => h) (Or.inl ⟨by rfl, ?_⟩) hHeld ?_
      · intro wq hSw
        try dsimp only at hSw
        go_simp
      try simp only [Act.put, List.getElem_toArray, List.getElem_cons_succ, List.getElem_cons_zero, List.setIfInBounds_toArray, List.set_cons_zero, List.set_cons_succ]
      refine wpAnyH_take (i := 15) (oi := _) (v := .pointer (some ⟨w.heap.size + 1, 1, none⟩)) rfl (by kernel_rfl) (by kernel_rfl) (by kernel_rfl) (fun _ _ _ h => h) (Or.inl ⟨by rfl, ?_⟩) hHeld ?_
      · intro wq hSw
        try dsimp only at hSw
        go_simp
      try simp only [Act.put, List.getElem_toArray, List.getElem_cons_succ, List.getElem_cons_zero, List.setIfInBounds_toArray, List.set_cons_zero, List.set_cons_succ]
      refine wpAnyH_take (i := 16) (oi := _) (v := .slice (some ⟨g2, o2, none⟩) m d2) rfl (by kernel_rfl) (by kernel_rfl) (by kernel_rfl) (fun _ _ _ h => h) (Or.inl ⟨by rfl, ?_⟩) hHeld ?_
      · intro wq hSw
        try dsimp only at hSw
        go_simp
      try simp only [Act.put, List.getElem_toArray, List.getElem_cons_succ, List.getElem_cons_zero, List.setIfInBounds_toArray, List.set_cons_zero, List.set_cons_succ]
      refine wpAnyH_take (i := 17) (oi := _) (v := .int .i64 (j : Int)) rfl (by kernel_rfl) (by kernel_rfl) (by kernel_rfl) (fun _ _ _ h => h) (Or.inl ⟨by rfl, ?_⟩) hHeld ?_
      · intro wq hSw
        try dsimp only at hSw
        go_simp
      try simp only [Act.put, List.getElem_toArray, List.getElem_cons_succ, List.getElem_cons_zero, List.setIfInBounds_toArray, List.set_cons_zero, List.set_cons_succ]
      refine wpAnyH_take (i := 18) (oi := _) (v := .pointer (some ⟨g2, o2 + j * 6, none⟩)) rfl (by kernel_rfl) (by kernel_rfl) (by kernel_rfl) (fun _ _ _ h => h) (Or.inl ⟨by rfl, ?_⟩) hHeld ?_
      · intro wq hSw
        try dsimp only at hSw
        go_simp
      try simp only [Act.put, List.getElem_toArray, List.getElem_cons_succ, List.getElem_cons_zero, List.setIfInBounds_toArray, List.set_cons_zero, List.set_cons_succ]
      refine wpAnyH_take (i := 19) (oi := _) (v := .pointer (some ⟨g2, o2 + j * 6, none⟩)) rfl (by kernel_rfl) (by kernel_rfl) (by kernel_rfl) (fun _ _ _ h => h) (Or.inl ⟨by rfl, ?_⟩) hHeld ?_
      · intro wq hSw
        try dsimp only at hSw
        go_simp
      try simp only [Act.put, List.getElem_toArray, List.getElem_cons_succ, List.getElem_cons_zero, List.setIfInBounds_toArray, List.set_cons_zero, List.set_cons_succ]
      refine wpAnyH_take (i := 20) (oi := _) (v := .agg #[.bool s2, .slice b2 n2 k2, .int .i64 y2]) rfl (by kernel_rfl) (by kernel_rfl) (by kernel_rfl) (fun _ _ _ h => h) (Or.inl ⟨by rfl, ?_⟩) hHeld ?_
      · intro wq hSw
        try dsimp only at hSw
        go_simp
      try simp only [Act.put, List.getElem_toArray, List.getElem_cons_succ, List.getElem_cons_zero, List.setIfInBounds_toArray, List.set_cons_zero, List.set_cons_succ]
      refine wpAnyH_take (i := 21) (oi := _) (v := .pointer (some ⟨w.heap.size, 1, none⟩)) rfl (by kernel_rfl) (by kernel_rfl) (by kernel_rfl) (fun _ _ _ h => h) (Or.inl ⟨by rfl, ?_⟩) hHeld ?_
      · intro wq hSw
        try dsimp only at hSw
        go_simp
      try simp only [Act.put, List.getElem_toArray, List.getElem_cons_succ, List.getElem_cons_zero, List.setIfInBounds_toArray, List.set_cons_zero, List.set_cons_succ]
      refine wpAnyH_take (i := 22) (oi := _) (v := .slice (some ⟨g1, o1, none⟩) m d1) rfl (by kernel_rfl) (by kernel_rfl) (by kernel_rfl) (fun _ _ _ h => h) (Or.inl ⟨by rfl, ?_⟩) hHeld ?_
      · intro wq hSw
        try dsimp only at hSw
        go_simp
      try simp only [Act.put, List.getElem_toArray, List.getElem_cons_succ, List.getElem_cons_zero, List.setIfInBounds_toArray, List.set_cons_zero, List.set_cons_succ]
      refine wpAnyH_take (i := 23) (oi := _) (v := .int .i64 (j : Int)) rfl (by kernel_rfl) (by kernel_rfl) (by kernel_rfl) (fun _ _ _ h => h) (Or.inl ⟨by rfl, ?_⟩) hHeld ?_
      · intro wq hSw
        try dsimp only at hSw
        go_simp
      try simp only [Act.put, List.getElem_toArray, List.getElem_cons_succ, List.getElem_cons_zero, List.setIfInBounds_toArray, List.set_cons_zero, List.set_cons_succ]
      refine wpAnyH_take (i := 24) (oi := _) (v := .pointer (some ⟨g1, o1 + j * 6, none⟩)) rfl (by kernel_rfl) (by kernel_rfl) (by kernel_rfl) (fun _ _ _ h => h) (Or.inl ⟨by rfl, ?_⟩) hHeld ?_
      · intro wq hSw
        try dsimp only at hSw
        go_simp
      try simp only [Act.put, List.getElem_toArray, List.getElem_cons_succ, List.getElem_cons_zero, List.setIfInBounds_toArray, List.set_cons_zero, List.set_cons_succ]
      refine wpAnyH_take (i := 25) (oi := _) (v := .pointer (some ⟨g1, o1 + j * 6 + 3, none⟩)) rfl (by kernel_rfl) (by kernel_rfl) (by kernel_rfl) (fun _ _ _ h => h) (Or.inl ⟨by rfl, ?_⟩) hHeld ?_
      · intro wq hSw
        try dsimp only at hSw
        go_simp
      try simp only [Act.put, List.getElem_toArray, List.getElem_cons_succ, List.getElem_cons_zero, List.setIfInBounds_toArray, List.set_cons_zero, List.set_cons_succ]
      refine wpAnyH_take (i := 26) (oi := _) (v := .agg #[.bool s3, .slice b1' n1' k1', .int .i64 y3]) rfl (by kernel_rfl) (by kernel_rfl) (by kernel_rfl) (fun _ _ _ h => h) (Or.inl ⟨by rfl, ?_⟩) hHeld ?_
      · intro wq hSw
        try dsimp only at hSw
        go_simp
      try simp only [Act.put, List.getElem_toArray, List.getElem_cons_succ, List.getElem_cons_zero, List.setIfInBounds_toArray, List.set_cons_zero, List.set_cons_succ]
      refine wpAnyH_ready (rs := [27]) (by kernel_rfl) (by simp) ?_
      refine AllReadyH.cons rfl (fun KK hK => ?_) AllReadyH.nil
      simp only [List.getElem_toArray, List.getElem_cons_succ, List.getElem_cons_zero]
      rw [if_pos (by rfl)]
      refine wps2 11 (.tmp 37) (.tmp 43) _ rfl in_l4cmpT (.agg #[.bool s2, .slice b2 n2 k2, .int .i64 y2]) (.agg #[.bool s3, .slice b1' n1' k1', .int .i64 y3]) rfl rfl (hc' _ rr2 rr1') ?_
      rintro e w4 ⟨rfl, kx⟩
      refine ⟨_, rfl, ?_⟩
      replace P11 := kx.cell0 P11
      replace P21 := kx.cell0 P21
      replace c10 := kx.cell0 c10
      replace c11 := kx.cell0 c11
      replace c12 := kx.cell0 c12
      replace d10 := kx.cell0 d10
      replace d11 := kx.cell0 d11
      replace d12 := kx.cell0 d12
      replace c20 := kx.cell0 c20
      replace c21 := kx.cell0 c21
      replace c22 := kx.cell0 c22
      replace d20 := kx.cell0 d20
      replace d21 := kx.cell0 d21
      replace d22 := kx.cell0 d22
      replace rr1 := rr1.kept kx (by omega)
      replace rr1' := rr1'.kept kx (by omega)
      replace rr2 := rr2.kept kx (by omega)
      replace rr2' := rr2'.kept kx (by omega)
      replace kd := kd.trans kx
      clear kx
      clear hHeld
      refine hK.out _ _ ?_ (fun hHeld => ?_)
      · exact ⟨P11, P21, c10, c11, c12, d10, d11, d12, c20, c21, c22, d20, d21, d22⟩
      clear hK KK
      try simp only [Act.put, List.getElem_toArray, List.getElem_cons_succ, List.getElem_cons_zero, List.setIfInBounds_toArray, List.set_cons_zero, List.set_cons_succ]
      by_cases hD0 : 0 < D
      · have HD : Hid (metE ds es j = false) := by show _ = _; rw [unhide hE, decide_eq_false (show ¬ D ≤ 0 by omega), Bool.and_false]
        refine wpAnyH_take (i := 28) (oi := _) (v := .bool true) rfl (by kernel_rfl) (by kernel_rfl) (by kernel_rfl) (fun _ _ _ h => h) (Or.inl ⟨by rfl, ?_⟩) hHeld ?_
        · intro wq hSw
          try dsimp only at hSw
          go_simp
        try simp only [Act.put, List.getElem_toArray, List.getElem_cons_succ, List.getElem_cons_zero, List.setIfInBounds_toArray, List.set_cons_zero, List.set_cons_succ]
        refine wpAnyH_take (i := 29) (oi := _) (v := .bool true) rfl (by kernel_rfl) (by kernel_rfl) (by kernel_rfl) (fun _ _ _ h => h) (Or.inl ⟨by rfl, ?_⟩) hHeld ?_
        · intro wq hSw
          try dsimp only at hSw
          go_simp
        try simp only [Act.put, List.getElem_toArray, List.getElem_cons_succ, List.getElem_cons_zero, List.setIfInBounds_toArray, List.set_cons_zero, List.set_cons_succ]
        refine wpAnyH_done (by kernel_rfl) ?_ _
        clear hHeld P11 P21 c10 c11 c12 d10 d11 d12 c20 c21 c22 d20 d21 d22 rr1 rr1' rr2 rr2' hc hc'
        have K3 := hide kd
        clear kd k
        go_wp2
        go_ret
        exact ⟨by rw [unhide HB, allT_no (unhide hJ) (unhide HD)]; rfl, (unhide K2).trans (unhide K3)⟩
      have HD : Hid (metE ds es j = true) := by show _ = _; rw [unhide hE, decide_eq_true (show C ≤ 0 by omega), decide_eq_true (show D ≤ 0 by omega)]; rfl
      refine wpAnyH_take (i := 28) (oi := _) (v := .bool false) rfl (by kernel_rfl) (by kernel_rfl) (by kernel_rfl) (fun _ _ _ h => h) (Or.inl ⟨by rfl, ?_⟩) hHeld ?_
      · intro wq hSw
        try dsimp only at hSw
        go_simp
      try simp only [Act.put, List.getElem_toArray, List.getElem_cons_succ, List.getElem_cons_zero, List.setIfInBounds_toArray, List.set_cons_zero, List.set_cons_succ]
      refine wpAnyH_take (i := 29) (oi := _) (v := .bool false) rfl (by kernel_rfl) (by kernel_rfl) (by kernel_rfl) (fun _ _ _ h => h) (Or.inl ⟨by rfl, ?_⟩) hHeld ?_
      · intro wq hSw
        try dsimp only at hSw
        go_simp
      try simp only [Act.put, List.getElem_toArray, List.getElem_cons_succ, List.getElem_cons_zero, List.setIfInBounds_toArray, List.set_cons_zero, List.set_cons_succ]
      refine wpAnyH_done (by kernel_rfl) ?_ _
      clear hHeld P11 P21 c10 c11 c12 d10 d11 d12 c20 c21 c22 d20 d21 d22 rr1 rr1' rr2 rr2' hc hc'
      have K3 := hide kd
      clear kd k
      go_wp2
      go_roundw
      case rel => exact ⟨j + 1, by simp, hlt, fun i hi => by rcases Nat.lt_succ_iff_lt_or_eq.1 hi with h | h; exact unhide hall i h; subst h; exact unhide HD, unhide K3⟩
      case measure => simp [intOf]; omega
    · have hjn : j = m := by omega
      subst hjn
      clear p11 p21
      go_wp2
      go_ret
      exact ⟨by rw [unhide HB, allT_yes (fun i hi => unhide hall i hi)]; rfl, (unhide K2).trans k⟩

end Go.Proofs.YtgdgkncielliaaaDoor
