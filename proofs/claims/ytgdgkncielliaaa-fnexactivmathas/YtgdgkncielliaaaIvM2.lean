/-
  IvMatHas of the program and of the model: both are what they must be, and each interval has its number.
-/
import Derived.Test.YtgdgkncielliaaaIvM1
import Derived.Test.YtgdgkncielliaaaDy4
import Derived.Test.YtgdgkncielliaaaBC
namespace Go.Proofs.Ytgdgkncielliaaa
open Go.RowKit
set_option linter.unusedVariables false
set_option maxRecDepth 8000
set_option linter.unusedSimpArgs false

/-- An interval has its number. -/
def hasE (ds es : List DE) (i : Nat) : Bool := ihB (ds.getD (2 * i) de0).1 (ds.getD (2 * i) de0).2.1 (ds.getD (2 * i) de0).2.2 (ds.getD (2 * i + 1) de0).1 (ds.getD (2 * i + 1) de0).2.1 (ds.getD (2 * i + 1) de0).2.2 (es.getD i de0).1 (es.getD i de0).2.1 (es.getD i de0).2.2
def allH (ds es : List DE) (m : Nat) : Bool := (List.range m).all (hasE ds es)
/-- What IvMatHas answers. -/
def imhB (n : Int) (ds : List DE) (m : Nat) (k : Int) (es : List DE) : Bool := imokB n ds m && (mokB k es && (decide (m = es.length) && allH ds es m))
theorem allH_no {ds es : List DE} {j m : Nat} (hj : j < m) (hf : hasE ds es j = false) : allH ds es m = false := by
  unfold allH
  rw [← Bool.not_eq_true, List.all_eq_true]
  intro h2
  have := h2 j (List.mem_range.2 hj)
  rw [this] at hf; cases hf
theorem allH_yes {ds es : List DE} {m : Nat} (h : ∀ i, i < m → hasE ds es i = true) : allH ds es m = true := by
  unfold allH
  rw [List.all_eq_true]
  intro i hi
  exact h i (List.mem_range.1 hi)
theorem mok_parts2 {n : Int} {ds : List DE} (h : mokB n ds = true) : 1 ≤ n ∧ n ≤ 4 ∧ (ds.length : Int) = n * n ∧ ∀ i, i < ds.length → dokB (ds.getD i de0).1 (ds.getD i de0).2.1 (ds.getD i de0).2.2 = true := by
  unfold mokB at h
  simp only [Bool.and_eq_true, decide_eq_true_eq] at h
  obtain ⟨⟨h1, h2⟩, h3, h4⟩ := h
  refine ⟨h1, h2, h3, fun i hi => ?_⟩
  rw [List.all_eq_true] at h4
  exact h4 (ds.getD i de0) (by simp [List.getD, hi])
theorem imok_parts2 {n : Int} {ds : List DE} {m : Nat} (h : imokB n ds m = true) : 1 ≤ n ∧ n ≤ 4 ∧ (m : Int) = n * n ∧ ∀ i, i < m → ivE ds i = true := by
  unfold imokB ivAll at h
  simp only [Bool.and_eq_true, decide_eq_true_eq, List.all_eq_true] at h
  obtain ⟨⟨h1, h2⟩, h3, h4⟩ := h
  exact ⟨h1, h2, h3, fun i hi => h4 i (List.mem_range.2 hi)⟩

set_option maxHeartbeats 4000000 in
theorem equalHas_impl {l1 h1 l2 h2 m : Nat} {v1 v2 : Value} {ds es : List DE} (w : World) (hw1 : WfD ds) (hw2 : WfD es) (r1 : Ivs l1 h1 w v1 ds m) (r2 : Dys l2 h2 w v2 es) :
    Calls Try.prog 21 #[v1, v2, .func (.func 22) #[] #[]] w fun e w' => e = .returned (.bool (decide (m = es.length) && allH ds es m)) ∧ Kept 0 0 w w' := by
  obtain ⟨a1, d1, rfl, hc1, hc2⟩ := r1.form
  obtain ⟨a2, d2, rfl, -, -⟩ := r2.form
  obtain ⟨n, hn⟩ : ∃ n, n = es.length := ⟨_, rfl⟩
  have hm : m ≤ 9223372036854775807 := by unfold maxLen at hc2; omega
  have hlen := r1.len
  rw [← hn] at r2 ⊢
  by_cases hnm : m = n
  rotate_left
  · have hni : ¬ ((m : Int) = (n : Int)) := by omega
    rw [decide_eq_false hnm]
    clear r1 r2 hn
    go_enter Try.func21, Try.ntmps21
    go_wp2
    go_ret
    exact ⟨rfl, Kept.refl _ _ _⟩
  subst hnm
  rw [decide_eq_true rfl, Bool.true_and]
  have HN := hide hn
  have HL := hide hlen
  have R1 := hide r1
  have R2 := hide r2
  have HW1 := hide hw1
  have HW2 := hide hw2
  clear r1 r2 hn hc1 hc2 hw1 hw2 hlen
  go_enter Try.func21, Try.ntmps21
  go_wp2
  go_loopw [17] (fun s17 wr => ∃ j : Nat, s17 = .int .i64 j ∧ j ≤ m ∧ Hid (∀ i, i < j → hasE ds es i = true) ∧ Kept 0 0 w wr) (fun s17 _ => m - (intOf s17).toNat)
  case atStart => exact ⟨0, rfl, Nat.zero_le _, fun i hi => by omega, Kept.refl _ _ _⟩
  case round =>
    obtain ⟨j, rfl, hj, hall, k⟩ := hrel
    by_cases hlt : j < m
    · have hj2 : j < es.length := by rw [← unhide HN]; exact hlt
      obtain ⟨g1, o1, n1, n1', rfl, -, -, -, b1, k1, b1', k1', c10, c11, c12, d10, d11, d12, hn1, hn1', rr1, rr1'⟩ := ((unhide R1).kept k (by omega)).at (i := j) hlt
      obtain ⟨g2, o2, n2, rfl, -, -, -, b2, k2, c20, c21, c22, hn2, rr2⟩ := ((unhide R2).kept k (by omega)).at (i := j) hj2
      have hq1 := unhide HW1 (2 * j) (by rw [unhide HL]; omega)
      have hq3 := unhide HW1 (2 * j + 1) (by rw [unhide HL]; omega)
      have hq2 := unhide HW2 j hj2
      obtain ⟨s1, hs1⟩ : ∃ q, q = (ds.getD (2 * j) de0).1 := ⟨_, rfl⟩
      obtain ⟨y1, hy1⟩ : ∃ q, q = (ds.getD (2 * j) de0).2.2 := ⟨_, rfl⟩
      obtain ⟨z1, hz1⟩ : ∃ q, q = (ds.getD (2 * j) de0).2.1 := ⟨_, rfl⟩
      rw [← hs1] at c10
      rw [← hy1] at c12 hq1
      rw [← hz1] at hn1 rr1
      obtain ⟨s3, hs3⟩ : ∃ q, q = (ds.getD (2 * j + 1) de0).1 := ⟨_, rfl⟩
      obtain ⟨y3, hy3⟩ : ∃ q, q = (ds.getD (2 * j + 1) de0).2.2 := ⟨_, rfl⟩
      obtain ⟨z3, hz3⟩ : ∃ q, q = (ds.getD (2 * j + 1) de0).2.1 := ⟨_, rfl⟩
      rw [← hs3] at d10
      rw [← hy3] at d12 hq3
      rw [← hz3] at hn1' rr1'
      obtain ⟨s2, hs2⟩ : ∃ q, q = (es.getD (j) de0).1 := ⟨_, rfl⟩
      obtain ⟨y2, hy2⟩ : ∃ q, q = (es.getD (j) de0).2.2 := ⟨_, rfl⟩
      obtain ⟨z2, hz2⟩ : ∃ q, q = (es.getD (j) de0).2.1 := ⟨_, rfl⟩
      rw [← hs2] at c20
      rw [← hy2] at c22 hq2
      rw [← hz2] at hn2 rr2
      obtain ⟨C, hC⟩ : ∃ C, ihB s1 z1 y1 s3 z3 y3 s2 z2 y2 = C := ⟨_, rfl⟩
      have hE : Hid (hasE ds es j = C) := by show _ = _; rw [← hC, hs1, hy1, hz1, hs3, hy3, hz3, hs2, hy2, hz2]; rfl
      have hJ := hide hlt
      clear hs1 hy1 hz1 hs2 hy2 hz2 hs3 hy3 hz3 hn1 hn1' hn2 hj2
      have kA := (Kept.refl 0 0 wr).alloc (.cells #[.bool s1, .slice b1 n1 k1, .int .i64 y1, .bool s3, .slice b1' n1' k1', .int .i64 y3] 55)
      have kB : Kept 0 0 wr ((wr.alloc (.cells #[.bool s1, .slice b1 n1 k1, .int .i64 y1, .bool s3, .slice b1' n1' k1', .int .i64 y3] 55)).alloc (.cells #[.bool s2, .slice b2 n2 k2, .int .i64 y2] 53)) := kA.alloc _
      have f20 := kA.cell0 c20
      have f21 := kA.cell0 c21
      have f22 := kA.cell0 c22
      have e10 : ((wr.alloc (.cells #[.bool s1, .slice b1 n1 k1, .int .i64 y1, .bool s3, .slice b1' n1' k1', .int .i64 y3] 55)).alloc (.cells #[.bool s2, .slice b2 n2 k2, .int .i64 y2] 53)).cell? ⟨wr.heap.size, 0, none⟩ = some (.bool s1) := old_cell _ (new_cell2 _ _ _ _ _ _ (by simp) rfl)
      have e11 : ((wr.alloc (.cells #[.bool s1, .slice b1 n1 k1, .int .i64 y1, .bool s3, .slice b1' n1' k1', .int .i64 y3] 55)).alloc (.cells #[.bool s2, .slice b2 n2 k2, .int .i64 y2] 53)).cell? ⟨wr.heap.size, 1, none⟩ = some (.slice b1 n1 k1) := old_cell _ (new_cell2 _ _ _ _ _ _ (by simp) rfl)
      have e12 : ((wr.alloc (.cells #[.bool s1, .slice b1 n1 k1, .int .i64 y1, .bool s3, .slice b1' n1' k1', .int .i64 y3] 55)).alloc (.cells #[.bool s2, .slice b2 n2 k2, .int .i64 y2] 53)).cell? ⟨wr.heap.size, 2, none⟩ = some (.int .i64 y1) := old_cell _ (new_cell2 _ _ _ _ _ _ (by simp) rfl)
      have e13 : ((wr.alloc (.cells #[.bool s1, .slice b1 n1 k1, .int .i64 y1, .bool s3, .slice b1' n1' k1', .int .i64 y3] 55)).alloc (.cells #[.bool s2, .slice b2 n2 k2, .int .i64 y2] 53)).cell? ⟨wr.heap.size, 3, none⟩ = some (.bool s3) := old_cell _ (new_cell2 _ _ _ _ _ _ (by simp) rfl)
      have e14 : ((wr.alloc (.cells #[.bool s1, .slice b1 n1 k1, .int .i64 y1, .bool s3, .slice b1' n1' k1', .int .i64 y3] 55)).alloc (.cells #[.bool s2, .slice b2 n2 k2, .int .i64 y2] 53)).cell? ⟨wr.heap.size, 4, none⟩ = some (.slice b1' n1' k1') := old_cell _ (new_cell2 _ _ _ _ _ _ (by simp) rfl)
      have e15 : ((wr.alloc (.cells #[.bool s1, .slice b1 n1 k1, .int .i64 y1, .bool s3, .slice b1' n1' k1', .int .i64 y3] 55)).alloc (.cells #[.bool s2, .slice b2 n2 k2, .int .i64 y2] 53)).cell? ⟨wr.heap.size, 5, none⟩ = some (.int .i64 y3) := old_cell _ (new_cell2 _ _ _ _ _ _ (by simp) rfl)
      have e20 : ((wr.alloc (.cells #[.bool s1, .slice b1 n1 k1, .int .i64 y1, .bool s3, .slice b1' n1' k1', .int .i64 y3] 55)).alloc (.cells #[.bool s2, .slice b2 n2 k2, .int .i64 y2] 53)).cell? ⟨wr.heap.size + 1, 0, none⟩ = some (.bool s2) := new_cell2 _ _ _ _ _ _ (by simp) rfl
      have e21 : ((wr.alloc (.cells #[.bool s1, .slice b1 n1 k1, .int .i64 y1, .bool s3, .slice b1' n1' k1', .int .i64 y3] 55)).alloc (.cells #[.bool s2, .slice b2 n2 k2, .int .i64 y2] 53)).cell? ⟨wr.heap.size + 1, 1, none⟩ = some (.slice b2 n2 k2) := new_cell2 _ _ _ _ _ _ (by simp) rfl
      have e22 : ((wr.alloc (.cells #[.bool s1, .slice b1 n1 k1, .int .i64 y1, .bool s3, .slice b1' n1' k1', .int .i64 y3] 55)).alloc (.cells #[.bool s2, .slice b2 n2 k2, .int .i64 y2] 53)).cell? ⟨wr.heap.size + 1, 2, none⟩ = some (.int .i64 y2) := new_cell2 _ _ _ _ _ _ (by simp) rfl
      have hc := ivhas_impl s1 y1 hq1.1 hq1.2 s3 y3 hq3.1 hq3.2 s2 y2 hq2.1 hq2.2 _ (rr1.kept kB (by omega)) (rr1'.kept kB (by omega)) (rr2.kept kB (by omega))
      rw [hC] at hc
      clear hC rr1 rr1' rr2 hq1 hq2 hq3
      have hw1 : IntKind.i64.wrap ((j : Int) + 1) = ((j + 1 : Nat) : Int) := by rw [IntKind.wrap_i64]; omega
      have KB := hide (k.trans kB)
      clear kA kB k
      go_wp2_with fail
      refine hc.mono ?_
      rintro e w2 ⟨rfl, k2'⟩
      have K2 := hide ((unhide KB).trans k2')
      clear hc k2' KB c10 c11 c12 d10 d11 d12 c20 c21 c22 e10 e11 e12 e13 e14 e15 e20 e21 e22 f20 f21 f22
      cases hd : C
      · have HD : Hid (hasE ds es j = false) := by show _ = _; rw [unhide hE, hd]
        clear hE
        subst hd
        go_wp2
        go_ret
        exact ⟨by rw [allH_no (unhide hJ) (unhide HD)]; rfl, unhide K2⟩
      · have HD : Hid (hasE ds es j = true) := by show _ = _; rw [unhide hE, hd]
        clear hE
        subst hd
        go_wp2
        go_roundw
        case rel => exact ⟨j + 1, by simp, hlt, fun i hi => by rcases Nat.lt_succ_iff_lt_or_eq.1 hi with h | h; exact unhide hall i h; subst h; exact unhide HD, unhide K2⟩
        case measure => simp [intOf]; omega
    · have hjn : j = m := by omega
      subst hjn
      go_wp2
      go_ret
      exact ⟨by rw [allH_yes (fun i hi => unhide hall i hi)]; rfl, k⟩

set_option maxHeartbeats 8000000 in
theorem ivMatHas_impl {l1 h1 l2 h2 m : Nat} {v1 v2 : Value} {ds es : List DE} (n k : Int) (w : World) (hw1 : WfD ds) (hw2 : WfD es) (r1 : Ivs l1 h1 w v1 ds m) (r2 : Dys l2 h2 w v2 es) :
    Calls Try.prog 9 #[.agg #[.int .i64 n, v1], .agg #[.int .i64 k, v2]] w fun e w' => e = .returned (.bool (imhB n ds m k es)) ∧ Kept 0 0 w w' := by
  have k0 : Kept 0 0 w ((w.alloc (.cells #[.int .i64 n, v1] 33)).alloc (.cells #[.int .i64 k, v2] 37)) := ((Kept.refl 0 0 w).alloc _).alloc _
  have p10 : ((w.alloc (.cells #[.int .i64 n, v1] 33)).alloc (.cells #[.int .i64 k, v2] 37)).cell? ⟨w.heap.size, 0, none⟩ = some (.int .i64 n) := old_cell _ (new_cell2 _ _ _ _ _ _ (by simp) rfl)
  have p11 : ((w.alloc (.cells #[.int .i64 n, v1] 33)).alloc (.cells #[.int .i64 k, v2] 37)).cell? ⟨w.heap.size, 1, none⟩ = some (v1) := old_cell _ (new_cell2 _ _ _ _ _ _ (by simp) rfl)
  have p20 : ((w.alloc (.cells #[.int .i64 n, v1] 33)).alloc (.cells #[.int .i64 k, v2] 37)).cell? ⟨w.heap.size + 1, 0, none⟩ = some (.int .i64 k) := new_cell2 _ _ _ _ _ _ (by simp) rfl
  have p21 : ((w.alloc (.cells #[.int .i64 n, v1] 33)).alloc (.cells #[.int .i64 k, v2] 37)).cell? ⟨w.heap.size + 1, 1, none⟩ = some (v2) := new_cell2 _ _ _ _ _ _ (by simp) rfl
  replace r1 := r1.kept k0 (by omega)
  replace r2 := r2.kept k0 (by omega)
  obtain ⟨a1, d1, rfl, -, -⟩ := r1.form
  obtain ⟨a2, d2, rfl, -, -⟩ := r2.form
  have ho1 := ivMatOk_impl n _ hw1 r1
  go_enter Try.func9, Try.ntmps9
  go_wp2_with fail
  generalize ((w.alloc (.cells #[.int .i64 n, .slice a1 m d1] 33)).alloc (.cells #[.int .i64 k, .slice a2 es.length d2] 37)) = W at *
  refine ho1.mono ?_
  rintro e w1 ⟨rfl, k1⟩
  replace p10 := k1.cell0 p10
  replace p11 := k1.cell0 p11
  replace p20 := k1.cell0 p20
  replace p21 := k1.cell0 p21
  replace r1 := r1.kept k1 (by omega)
  replace r2 := r2.kept k1 (by omega)
  have K1 := hide (k0.trans k1)
  clear ho1 k0 k1
  cases hk1 : imokB n ds m
  · have HB : Hid (imhB n ds m k es = false) := by show _ = _; unfold imhB; rw [hk1]; rfl
    clear hk1 r1 r2
    go_wp2
    go_ret
    exact ⟨by rw [unhide HB]; rfl, unhide K1⟩
  have ho2 := matOk_impl k _ hw2 r2
  have HK1 := hide hk1
  clear hk1
  go_wp2_with fail
  refine ho2.mono ?_
  rintro e w2 ⟨rfl, k2⟩
  replace p10 := k2.cell0 p10
  replace p11 := k2.cell0 p11
  replace p20 := k2.cell0 p20
  replace p21 := k2.cell0 p21
  replace r1 := r1.kept k2 (by omega)
  replace r2 := r2.kept k2 (by omega)
  have K2 := hide ((unhide K1).trans k2)
  clear ho2 k2
  cases hk2 : mokB k es
  · have HB : Hid (imhB n ds m k es = false) := by show _ = _; unfold imhB; rw [hk2]; simp
    clear hk2 r1 r2
    go_wp2
    go_ret
    exact ⟨by rw [unhide HB]; rfl, unhide K2⟩
  have he := equalHas_impl _ hw1 hw2 r1 r2
  have hB : (decide (m = es.length) && allH ds es m) = imhB n ds m k es := by unfold imhB; rw [unhide HK1, hk2]; simp
  rw [hB] at he
  obtain ⟨B, hB'⟩ : ∃ B, B = imhB n ds m k es := ⟨_, rfl⟩
  rw [← hB'] at he
  have HB := hide hB'
  clear hk2 r1 r2 hB hB'
  go_wp2_with fail
  refine he.mono ?_
  rintro e w3 ⟨rfl, k3⟩
  have K3 := hide ((unhide K2).trans k3)
  clear he k3
  go_wp2
  go_ret
  exact ⟨by rw [← unhide HB]; rfl, unhide K3⟩

theorem side_eqV {n m : Int} (h1 : 1 ≤ n) (h2 : n ≤ 4) (h3 : 1 ≤ m) (h4 : m ≤ 4) (h : n * n = m * m) : n = m := by
  have a : n = 1 ∨ n = 2 ∨ n = 3 ∨ n = 4 := by omega
  have b : m = 1 ∨ m = 2 ∨ m = 3 ∨ m = 4 := by omega
  rcases a with h | h | h | h <;> rcases b with h' | h' | h' | h' <;> subst h <;> subst h' <;> first | rfl | omega

theorem in_l4cmpH : ∀ (w : World) (args : Array Value), (callFunc 16 args).run Try.prog w = .ok (.enter 16 args) w := enters Try.func16 (by decide) (fun h => by cases h)

theorem in_spec_IvMatHas : ∀ (w : World) (args : Array Value), (callFunc 6 args).run Try.prog w = .ok (.enter 6 args) w := enters Try.func6 (by decide) (fun h => by cases h)

theorem in_impl_IvMatHas : ∀ (w : World) (args : Array Value), (callFunc 9 args).run Try.prog w = .ok (.enter 9 args) w := enters Try.func9 (by decide) (fun h => by cases h)

set_option maxHeartbeats 8000000 in
theorem ivMatHas_spec {l1 h1 l2 h2 m : Nat} {v1 v2 : Value} {ds es : List DE} (n k : Int) (w : World) (hw1 : WfD ds) (hw2 : WfD es) (r1 : Ivs l1 h1 w v1 ds m) (r2 : Dys l2 h2 w v2 es) :
    Calls Try.prog 6 #[.agg #[.int .i64 n, v1], .agg #[.int .i64 k, v2]] w fun e w' => e = .returned (.bool (imhB n ds m k es)) ∧ Kept 0 0 w w' := by
  have k0 : Kept 0 0 w ((w.alloc (.cells #[.int .i64 n, v1] 33)).alloc (.cells #[.int .i64 k, v2] 37)) := ((Kept.refl 0 0 w).alloc _).alloc _
  have p10 : ((w.alloc (.cells #[.int .i64 n, v1] 33)).alloc (.cells #[.int .i64 k, v2] 37)).cell? ⟨w.heap.size, 0, none⟩ = some (.int .i64 n) := old_cell _ (new_cell2 _ _ _ _ _ _ (by simp) rfl)
  have p11 : ((w.alloc (.cells #[.int .i64 n, v1] 33)).alloc (.cells #[.int .i64 k, v2] 37)).cell? ⟨w.heap.size, 1, none⟩ = some (v1) := old_cell _ (new_cell2 _ _ _ _ _ _ (by simp) rfl)
  have p20 : ((w.alloc (.cells #[.int .i64 n, v1] 33)).alloc (.cells #[.int .i64 k, v2] 37)).cell? ⟨w.heap.size + 1, 0, none⟩ = some (.int .i64 k) := new_cell2 _ _ _ _ _ _ (by simp) rfl
  have p21 : ((w.alloc (.cells #[.int .i64 n, v1] 33)).alloc (.cells #[.int .i64 k, v2] 37)).cell? ⟨w.heap.size + 1, 1, none⟩ = some (v2) := new_cell2 _ _ _ _ _ _ (by simp) rfl
  replace r1 := r1.kept k0 (by omega)
  replace r2 := r2.kept k0 (by omega)
  obtain ⟨a1, d1, rfl, -, -⟩ := r1.form
  obtain ⟨a2, d2, rfl, -, -⟩ := r2.form
  have ho1 := ivMatOk_spec n _ hw1 r1
  go_enter Try.func6, Try.ntmps6
  go_wp2_with fail
  generalize ((w.alloc (.cells #[.int .i64 n, .slice a1 m d1] 33)).alloc (.cells #[.int .i64 k, .slice a2 es.length d2] 37)) = W at *
  refine ho1.mono ?_
  rintro e w1 ⟨rfl, k1⟩
  replace p10 := k1.cell0 p10
  replace p11 := k1.cell0 p11
  replace p20 := k1.cell0 p20
  replace p21 := k1.cell0 p21
  replace r1 := r1.kept k1 (by omega)
  replace r2 := r2.kept k1 (by omega)
  have K1 := hide (k0.trans k1)
  clear ho1 k0 k1
  cases hk1 : imokB n ds m
  · have HB : Hid (imhB n ds m k es = false) := by show _ = _; unfold imhB; rw [hk1]; rfl
    clear hk1 r1 r2
    go_wp2
    go_ret
    exact ⟨by rw [unhide HB]; rfl, unhide K1⟩
  have ho2 := matOk_spec k _ hw2 r2
  have HK1 := hide hk1
  clear hk1
  go_wp2_with fail
  refine ho2.mono ?_
  rintro e w2 ⟨rfl, k2⟩
  replace p10 := k2.cell0 p10
  replace p11 := k2.cell0 p11
  replace p20 := k2.cell0 p20
  replace p21 := k2.cell0 p21
  replace r1 := r1.kept k2 (by omega)
  replace r2 := r2.kept k2 (by omega)
  have K2 := hide ((unhide K1).trans k2)
  clear ho2 k2
  cases hk2 : mokB k es
  · have HB : Hid (imhB n ds m k es = false) := by show _ = _; unfold imhB; rw [hk2]; simp
    clear hk2 r1 r2
    go_wp2
    go_ret
    exact ⟨by rw [unhide HB]; rfl, unhide K2⟩
  obtain ⟨u1, u2, u3, U1⟩ := imok_parts2 (unhide HK1)
  obtain ⟨t1, t2, t3, U2⟩ := mok_parts2 hk2
  have hB : imhB n ds m k es = (decide (m = es.length) && allH ds es m) := by unfold imhB; rw [unhide HK1, hk2]; simp
  by_cases hnm : n = k
  rotate_left
  · have HB : Hid (imhB n ds m k es = false) := by
      show _ = _
      rw [hB, decide_eq_false]
      · rfl
      · intro e
        exact hnm (side_eqV u1 u2 t1 t2 (by rw [← u3, ← t3, e]))
    clear hk2 r1 r2 hB u1 u2 u3 t1 t2 t3
    go_wp2
    go_ret
    exact ⟨by rw [unhide HB]; rfl, unhide K2⟩
  subst hnm
  have hle : m = es.length := by omega
  rw [decide_eq_true hle, Bool.true_and] at hB
  have HB := hide hB
  have hd16 : m ≤ 16 := by
    have h5 : n = 1 ∨ n = 2 ∨ n = 3 ∨ n = 4 := by omega
    rcases h5 with h | h | h | h <;> subst h <;> omega
  rw [← hle] at r2 p21
  have HM := hide hle
  have R1 := hide r1
  have R2 := hide r2
  have HU1 := hide U1
  have HU2 := hide U2
  clear hk2 r1 r2 hB u1 u2 u3 t1 t2 t3 hle U1 U2 hw1 hw2
  go_wp2_with fail
  go_loopw [5] (fun s5 wr => ∃ j : Nat, s5 = .int .i64 j ∧ j ≤ m ∧ Hid (∀ i, i < j → hasE ds es i = true) ∧ Kept 0 0 w2 wr) (fun s5 _ => m - (intOf s5).toNat)
  case atStart => exact ⟨0, rfl, Nat.zero_le _, fun i hi => by omega, Kept.refl _ _ _⟩
  case round =>
    obtain ⟨j, rfl, hj, hall, k⟩ := hrel
    have p11' := k.cell0 p11
    have p21' := k.cell0 p21
    by_cases hlt : j < m
    · have hj2 : j < es.length := by rw [← unhide HM]; exact hlt
      have kd := k.drew
      obtain ⟨g1, o1, n1, n1', rfl, -, -, -, b1, k1, b1', k1', c10, c11, c12, d10, d11, d12, hn1, hn1', rr1, rr1'⟩ := ((unhide R1).kept kd (by omega)).at (i := j) hlt
      obtain ⟨g2, o2, n2, rfl, -, -, -, b2, k2, c20, c21, c22, hn2, rr2⟩ := ((unhide R2).kept kd (by omega)).at (i := j) hj2
      have hiv := unhide HU1 j hlt
      have hq2 := unhide HU2 j hj2
      have P11 := kd.cell0 p11
      have P21 := kd.cell0 p21
      unfold ivE at hiv
      obtain ⟨s1, hs1⟩ : ∃ q, q = (ds.getD (2 * j) de0).1 := ⟨_, rfl⟩
      obtain ⟨y1, hy1⟩ : ∃ q, q = (ds.getD (2 * j) de0).2.2 := ⟨_, rfl⟩
      obtain ⟨z1, hz1⟩ : ∃ q, q = (ds.getD (2 * j) de0).2.1 := ⟨_, rfl⟩
      rw [← hs1] at c10
      rw [← hy1] at c12 hiv
      rw [← hz1] at hn1 rr1
      obtain ⟨s3, hs3⟩ : ∃ q, q = (ds.getD (2 * j + 1) de0).1 := ⟨_, rfl⟩
      obtain ⟨y3, hy3⟩ : ∃ q, q = (ds.getD (2 * j + 1) de0).2.2 := ⟨_, rfl⟩
      obtain ⟨z3, hz3⟩ : ∃ q, q = (ds.getD (2 * j + 1) de0).2.1 := ⟨_, rfl⟩
      rw [← hs3] at d10
      rw [← hy3] at d12 hiv
      rw [← hz3] at hn1' rr1'
      obtain ⟨s2, hs2⟩ : ∃ q, q = (es.getD (j) de0).1 := ⟨_, rfl⟩
      obtain ⟨y2, hy2⟩ : ∃ q, q = (es.getD (j) de0).2.2 := ⟨_, rfl⟩
      obtain ⟨z2, hz2⟩ : ∃ q, q = (es.getD (j) de0).2.1 := ⟨_, rfl⟩
      rw [← hs2] at c20
      rw [← hy2] at c22 hq2
      rw [← hz2] at hn2 rr2
      rw [← hs1, ← hz1, ← hs3, ← hz3] at hiv
      rw [← hs2, ← hz2] at hq2
      obtain ⟨ok1, ok3, -⟩ := iok_parts hiv
      obtain ⟨C, hC⟩ : ∃ C, cmpD s1 z1 y1 s2 z2 y2 = C := ⟨_, rfl⟩
      obtain ⟨D, hD⟩ : ∃ D, cmpD s2 z2 y2 s3 z3 y3 = D := ⟨_, rfl⟩
      have hE : Hid (hasE ds es j = (decide (C ≤ 0) && decide (D ≤ 0))) := by show _ = _; unfold hasE ihB; rw [← hs1, ← hy1, ← hz1, ← hs3, ← hy3, ← hz3, ← hs2, ← hy2, ← hz2, hiv, hq2, hC, hD]; rfl
      rw [cmpD_ok ok1 hq2] at hC
      rw [cmpD_ok hq2 ok3] at hD
      have hJ := hide hlt
      clear hs1 hy1 hz1 hs2 hy2 hz2 hs3 hy3 hz3 hn1 hn1' hn2 hj2 p11 p21 hiv
      have hw1 : IntKind.i64.wrap ((j : Int) + 1) = ((j + 1 : Nat) : Int) := by rw [IntKind.wrap_i64]; omega
      have hc := fun w r1 r2 => cmp4_spec (b1 := false) (b2 := false) (l1 := l1) (h1 := h1) (l2 := l2) (h2 := h2) (v1 := .slice b1 n1 k1) (v2 := .slice b2 n2 k2) (xs := z1) (ys := z2) s1 s2 y1 y2 w r1 r2 ok1 hq2
      have hc' := fun w r1 r2 => cmp4_spec (b1 := false) (b2 := false) (l1 := l2) (h1 := h2) (l2 := l1) (h2 := h1) (v1 := .slice b2 n2 k2) (v2 := .slice b1' n1' k1') (xs := z2) (ys := z3) s2 s3 y2 y3 w r1 r2 hq2 ok3
      rw [hC] at hc
      rw [hD] at hc'
      clear hC hD ok1 ok3 hq2
      go_wp2_with fail
      refine wp_region_held_drew (S := (fun w' => w'.cell? ⟨w.heap.size, 1, none⟩ = some (.slice (some ⟨g1, o1, none⟩) m d1) ∧ w'.cell? ⟨w.heap.size + 1, 1, none⟩ = some (.slice (some ⟨g2, o2, none⟩) m d2) ∧ w'.cell? ⟨g1, o1 + j * 6, none⟩ = some (.bool s1) ∧ w'.cell? ⟨g1, o1 + j * 6 + 1, none⟩ = some (.slice b1 n1 k1) ∧ w'.cell? ⟨g1, o1 + j * 6 + 2, none⟩ = some (.int .i64 y1) ∧ w'.cell? ⟨g1, o1 + j * 6 + 3, none⟩ = some (.bool s3) ∧ w'.cell? ⟨g1, o1 + j * 6 + 3 + 1, none⟩ = some (.slice b1' n1' k1') ∧ w'.cell? ⟨g1, o1 + j * 6 + 3 + 2, none⟩ = some (.int .i64 y3) ∧ w'.cell? ⟨g2, o2 + j * 3, none⟩ = some (.bool s2) ∧ w'.cell? ⟨g2, o2 + j * 3 + 1, none⟩ = some (.slice b2 n2 k2) ∧ w'.cell? ⟨g2, o2 + j * 3 + 2, none⟩ = some (.int .i64 y2))) (by kernel_rfl) ?_ (fun hHeld => ?_)
      · exact ⟨P11, P21, c10, c11, c12, d10, d11, d12, c20, c21, c22⟩
      refine wpAnyH_take (i := 0) (oi := _) (v := .pointer (some ⟨w.heap.size, 1, none⟩)) rfl (by kernel_rfl) (by kernel_rfl) (by kernel_rfl) (fun _ _ _ h => h) (Or.inl ⟨by rfl, ?_⟩) hHeld ?_
      · intro wq hSw
        try dsimp only at hSw
        go_simp
      try simp only [Act.put, List.getElem_toArray, List.getElem_cons_succ, List.getElem_cons_zero, List.setIfInBounds_toArray, List.set_cons_zero, List.set_cons_succ]
      refine wpAnyH_take (i := 1) (oi := _) (v := .slice (some ⟨g1, o1, none⟩) m d1) rfl (by kernel_rfl) (by kernel_rfl) (by kernel_rfl) (fun _ _ _ h => h) (Or.inl ⟨by rfl, ?_⟩) hHeld ?_
      · intro wq hSw
        try dsimp only at hSw
        go_simp
      try simp only [Act.put, List.getElem_toArray, List.getElem_cons_succ, List.getElem_cons_zero, List.setIfInBounds_toArray, List.set_cons_zero, List.set_cons_succ]
      refine wpAnyH_take (i := 2) (oi := _) (v := .int .i64 (j : Int)) rfl (by kernel_rfl) (by kernel_rfl) (by kernel_rfl) (fun _ _ _ h => h) (Or.inl ⟨by rfl, ?_⟩) hHeld ?_
      · intro wq hSw
        try dsimp only at hSw
        go_simp
      try simp only [Act.put, List.getElem_toArray, List.getElem_cons_succ, List.getElem_cons_zero, List.setIfInBounds_toArray, List.set_cons_zero, List.set_cons_succ]
      refine wpAnyH_take (i := 3) (oi := _) (v := .pointer (some ⟨g1, o1 + j * 6, none⟩)) rfl (by kernel_rfl) (by kernel_rfl) (by kernel_rfl) (fun _ _ _ h => h) (Or.inl ⟨by rfl, ?_⟩) hHeld ?_
      · intro wq hSw
        try dsimp only at hSw
        go_simp
      try simp only [Act.put, List.getElem_toArray, List.getElem_cons_succ, List.getElem_cons_zero, List.setIfInBounds_toArray, List.set_cons_zero, List.set_cons_succ]
      refine wpAnyH_take (i := 4) (oi := _) (v := .pointer (some ⟨g1, o1 + j * 6, none⟩)) rfl (by kernel_rfl) (by kernel_rfl) (by kernel_rfl) (fun _ _ _ h => h) (Or.inl ⟨by rfl, ?_⟩) hHeld ?_
      · intro wq hSw
        try dsimp only at hSw
        go_simp
      try simp only [Act.put, List.getElem_toArray, List.getElem_cons_succ, List.getElem_cons_zero, List.setIfInBounds_toArray, List.set_cons_zero, List.set_cons_succ]
      refine wpAnyH_take (i := 5) (oi := _) (v := .agg #[.bool s1, .slice b1 n1 k1, .int .i64 y1]) rfl (by kernel_rfl) (by kernel_rfl) (by kernel_rfl) (fun _ _ _ h => h) (Or.inl ⟨by rfl, ?_⟩) hHeld ?_
      · intro wq hSw
        try dsimp only at hSw
        go_simp
      try simp only [Act.put, List.getElem_toArray, List.getElem_cons_succ, List.getElem_cons_zero, List.setIfInBounds_toArray, List.set_cons_zero, List.set_cons_succ]
      refine wpAnyH_take (i := 6) (oi := _) (v := .pointer (some ⟨w.heap.size + 1, 1, none⟩)) rfl (by kernel_rfl) (by kernel_rfl) (by kernel_rfl) (fun _ _ _ h => h) (Or.inl ⟨by rfl, ?_⟩) hHeld ?_
      · intro wq hSw
        try dsimp only at hSw
        go_simp
      try simp only [Act.put, List.getElem_toArray, List.getElem_cons_succ, List.getElem_cons_zero, List.setIfInBounds_toArray, List.set_cons_zero, List.set_cons_succ]
      refine wpAnyH_take (i := 7) (oi := _) (v := .slice (some ⟨g2, o2, none⟩) m d2) rfl (by kernel_rfl) (by kernel_rfl) (by kernel_rfl) (fun _ _ _ h => h) (Or.inl ⟨by rfl, ?_⟩) hHeld ?_
      · intro wq hSw
        try dsimp only at hSw
        go_simp
      try simp only [Act.put, List.getElem_toArray, List.getElem_cons_succ, List.getElem_cons_zero, List.setIfInBounds_toArray, List.set_cons_zero, List.set_cons_succ]
      refine wpAnyH_take (i := 8) (oi := _) (v := .int .i64 (j : Int)) rfl (by kernel_rfl) (by kernel_rfl) (by kernel_rfl) (fun _ _ _ h => h) (Or.inl ⟨by rfl, ?_⟩) hHeld ?_
      · intro wq hSw
        try dsimp only at hSw
        go_simp
      try simp only [Act.put, List.getElem_toArray, List.getElem_cons_succ, List.getElem_cons_zero, List.setIfInBounds_toArray, List.set_cons_zero, List.set_cons_succ]
      refine wpAnyH_take (i := 9) (oi := _) (v := .pointer (some ⟨g2, o2 + j * 3, none⟩)) rfl (by kernel_rfl) (by kernel_rfl) (by kernel_rfl) (fun _ _ _ h => h) (Or.inl ⟨by rfl, ?_⟩) hHeld ?_
      · intro wq hSw
        try dsimp only at hSw
        go_simp
      try simp only [Act.put, List.getElem_toArray, List.getElem_cons_succ, List.getElem_cons_zero, List.setIfInBounds_toArray, List.set_cons_zero, List.set_cons_succ]
      refine wpAnyH_take (i := 10) (oi := _) (v := .agg #[.bool s2, .slice b2 n2 k2, .int .i64 y2]) rfl (by kernel_rfl) (by kernel_rfl) (by kernel_rfl) (fun _ _ _ h => h) (Or.inl ⟨by rfl, ?_⟩) hHeld ?_
      · intro wq hSw
        try dsimp only at hSw
        go_simp
      try simp only [Act.put, List.getElem_toArray, List.getElem_cons_succ, List.getElem_cons_zero, List.setIfInBounds_toArray, List.set_cons_zero, List.set_cons_succ]
      refine wpAnyH_ready (rs := [11]) (by kernel_rfl) (by simp) ?_
      refine AllReadyH.cons rfl (fun KK hK => ?_) AllReadyH.nil
      simp only [List.getElem_toArray, List.getElem_cons_succ, List.getElem_cons_zero]
      rw [if_pos (by rfl)]
      refine wps2 16 (.tmp 33) (.tmp 38) _ rfl in_l4cmpH (.agg #[.bool s1, .slice b1 n1 k1, .int .i64 y1]) (.agg #[.bool s2, .slice b2 n2 k2, .int .i64 y2]) rfl rfl (hc _ rr1 rr2) ?_
      rintro e w3 ⟨rfl, kx⟩
      refine ⟨_, rfl, ?_⟩
      replace P11 := kx.cell0 P11
      replace P21 := kx.cell0 P21
      replace c10 := kx.cell0 c10
      replace c11 := kx.cell0 c11
      replace c12 := kx.cell0 c12
      replace d10 := kx.cell0 d10
      replace d11 := kx.cell0 d11
      replace d12 := kx.cell0 d12
      replace c20 := kx.cell0 c20
      replace c21 := kx.cell0 c21
      replace c22 := kx.cell0 c22
      replace rr1 := rr1.kept kx (by omega)
      replace rr1' := rr1'.kept kx (by omega)
      replace rr2 := rr2.kept kx (by omega)
      replace kd := kd.trans kx
      clear kx
      clear hHeld
      refine hK.out _ _ ?_ (fun hHeld => ?_)
      · exact ⟨P11, P21, c10, c11, c12, d10, d11, d12, c20, c21, c22⟩
      clear hK KK
      try simp only [Act.put, List.getElem_toArray, List.getElem_cons_succ, List.getElem_cons_zero, List.setIfInBounds_toArray, List.set_cons_zero, List.set_cons_succ]
      by_cases hC0 : 0 < C
      · have HD : Hid (hasE ds es j = false) := by show _ = _; rw [unhide hE, decide_eq_false (show ¬ C ≤ 0 by omega)]; rfl
        refine wpAnyH_take (i := 12) (oi := _) (v := .bool true) rfl (by kernel_rfl) (by kernel_rfl) (by kernel_rfl) (fun _ _ _ h => h) (Or.inl ⟨by rfl, ?_⟩) hHeld ?_
        · intro wq hSw
          try dsimp only at hSw
          go_simp
        try simp only [Act.put, List.getElem_toArray, List.getElem_cons_succ, List.getElem_cons_zero, List.setIfInBounds_toArray, List.set_cons_zero, List.set_cons_succ]
        refine wpAnyH_take (i := 13) (oi := _) (v := .bool true) rfl (by kernel_rfl) (by kernel_rfl) (by kernel_rfl) (fun _ _ _ h => h) (Or.inl ⟨by rfl, ?_⟩) hHeld ?_
        · intro wq hSw
          try dsimp only at hSw
          go_simp
        try simp only [Act.put, List.getElem_toArray, List.getElem_cons_succ, List.getElem_cons_zero, List.setIfInBounds_toArray, List.set_cons_zero, List.set_cons_succ]
        refine wpAnyH_take (i := 14) (v := undef) rfl (by kernel_rfl) (by kernel_rfl) (by kernel_rfl) (fun _ _ _ h => h) (Or.inr ⟨by rfl, rfl⟩) hHeld ?_
        try simp only [Act.put, List.getElem_toArray, List.getElem_cons_succ, List.getElem_cons_zero, List.setIfInBounds_toArray, List.set_cons_zero, List.set_cons_succ]
        refine wpAnyH_take (i := 15) (v := undef) rfl (by kernel_rfl) (by kernel_rfl) (by kernel_rfl) (fun _ _ _ h => h) (Or.inr ⟨by rfl, rfl⟩) hHeld ?_
        try simp only [Act.put, List.getElem_toArray, List.getElem_cons_succ, List.getElem_cons_zero, List.setIfInBounds_toArray, List.set_cons_zero, List.set_cons_succ]
        refine wpAnyH_take (i := 16) (v := undef) rfl (by kernel_rfl) (by kernel_rfl) (by kernel_rfl) (fun _ _ _ h => h) (Or.inr ⟨by rfl, rfl⟩) hHeld ?_
        try simp only [Act.put, List.getElem_toArray, List.getElem_cons_succ, List.getElem_cons_zero, List.setIfInBounds_toArray, List.set_cons_zero, List.set_cons_succ]
        refine wpAnyH_take (i := 17) (v := undef) rfl (by kernel_rfl) (by kernel_rfl) (by kernel_rfl) (fun _ _ _ h => h) (Or.inr ⟨by rfl, rfl⟩) hHeld ?_
        try simp only [Act.put, List.getElem_toArray, List.getElem_cons_succ, List.getElem_cons_zero, List.setIfInBounds_toArray, List.set_cons_zero, List.set_cons_succ]
        refine wpAnyH_take (i := 18) (v := undef) rfl (by kernel_rfl) (by kernel_rfl) (by kernel_rfl) (fun _ _ _ h => h) (Or.inr ⟨by rfl, rfl⟩) hHeld ?_
        try simp only [Act.put, List.getElem_toArray, List.getElem_cons_succ, List.getElem_cons_zero, List.setIfInBounds_toArray, List.set_cons_zero, List.set_cons_succ]
        refine wpAnyH_take (i := 19) (v := undef) rfl (by kernel_rfl) (by kernel_rfl) (by kernel_rfl) (fun _ _ _ h => h) (Or.inr ⟨by rfl, rfl⟩) hHeld ?_
        try simp only [Act.put, List.getElem_toArray, List.getElem_cons_succ, List.getElem_cons_zero, List.setIfInBounds_toArray, List.set_cons_zero, List.set_cons_succ]
        refine wpAnyH_take (i := 20) (v := undef) rfl (by kernel_rfl) (by kernel_rfl) (by kernel_rfl) (fun _ _ _ h => h) (Or.inr ⟨by rfl, rfl⟩) hHeld ?_
        try simp only [Act.put, List.getElem_toArray, List.getElem_cons_succ, List.getElem_cons_zero, List.setIfInBounds_toArray, List.set_cons_zero, List.set_cons_succ]
        refine wpAnyH_take (i := 21) (v := undef) rfl (by kernel_rfl) (by kernel_rfl) (by kernel_rfl) (fun _ _ _ h => h) (Or.inr ⟨by rfl, rfl⟩) hHeld ?_
        try simp only [Act.put, List.getElem_toArray, List.getElem_cons_succ, List.getElem_cons_zero, List.setIfInBounds_toArray, List.set_cons_zero, List.set_cons_succ]
        refine wpAnyH_take (i := 22) (v := undef) rfl (by kernel_rfl) (by kernel_rfl) (by kernel_rfl) (fun _ _ _ h => h) (Or.inr ⟨by rfl, rfl⟩) hHeld ?_
        try simp only [Act.put, List.getElem_toArray, List.getElem_cons_succ, List.getElem_cons_zero, List.setIfInBounds_toArray, List.set_cons_zero, List.set_cons_succ]
        refine wpAnyH_take (i := 23) (v := undef) rfl (by kernel_rfl) (by kernel_rfl) (by kernel_rfl) (fun _ _ _ h => h) (Or.inr ⟨by rfl, rfl⟩) hHeld ?_
        try simp only [Act.put, List.getElem_toArray, List.getElem_cons_succ, List.getElem_cons_zero, List.setIfInBounds_toArray, List.set_cons_zero, List.set_cons_succ]
        refine wpAnyH_take (i := 24) (v := undef) rfl (by kernel_rfl) (by kernel_rfl) (by kernel_rfl) (fun _ _ _ h => h) (Or.inr ⟨by rfl, rfl⟩) hHeld ?_
        try simp only [Act.put, List.getElem_toArray, List.getElem_cons_succ, List.getElem_cons_zero, List.setIfInBounds_toArray, List.set_cons_zero, List.set_cons_succ]
        refine wpAnyH_take (i := 25) (v := undef) rfl (by kernel_rfl) (by kernel_rfl) (by kernel_rfl) (fun _ _ _ h => h) (Or.inr ⟨by rfl, rfl⟩) hHeld ?_
        try simp only [Act.put, List.getElem_toArray, List.getElem_cons_succ, List.getElem_cons_zero, List.setIfInBounds_toArray, List.set_cons_zero, List.set_cons_succ]
        refine wpAnyH_take (i := 26) (v := undef) rfl (by kernel_rfl) (by kernel_rfl) (by kernel_rfl) (fun _ _ _ h => h) (Or.inr ⟨by rfl, rfl⟩) hHeld ?_
        try simp only [Act.put, List.getElem_toArray, List.getElem_cons_succ, List.getElem_cons_zero, List.setIfInBounds_toArray, List.set_cons_zero, List.set_cons_succ]
        refine wpAnyH_take (i := 27) (oi := _) (v := .bool true) rfl (by kernel_rfl) (by kernel_rfl) (by kernel_rfl) (fun _ _ _ h => h) (Or.inl ⟨by rfl, ?_⟩) hHeld ?_
        · intro wq hSw
          try dsimp only at hSw
          go_simp
        try simp only [Act.put, List.getElem_toArray, List.getElem_cons_succ, List.getElem_cons_zero, List.setIfInBounds_toArray, List.set_cons_zero, List.set_cons_succ]
        refine wpAnyH_done (by kernel_rfl) ?_ _
        clear hHeld P11 P21 c10 c11 c12 d10 d11 d12 c20 c21 c22 rr1 rr1' rr2 hc hc'
        have K3 := hide kd
        clear kd k
        go_wp2
        go_ret
        exact ⟨by rw [unhide HB, allH_no (unhide hJ) (unhide HD)]; rfl, (unhide K2).trans (unhide K3)⟩
      refine wpAnyH_take (i := 12) (oi := _) (v := .bool false) rfl (by kernel_rfl) (by kernel_rfl) (by kernel_rfl) (fun _ _ _ h => h) (Or.inl ⟨by rfl, ?_⟩) hHeld ?_
      · intro wq hSw
        try dsimp only at hSw
        go_simp
      try simp only [Act.put, List.getElem_toArray, List.getElem_cons_succ, List.getElem_cons_zero, List.setIfInBounds_toArray, List.set_cons_zero, List.set_cons_succ]
      refine wpAnyH_take (i := 13) (oi := _) (v := .bool false) rfl (by kernel_rfl) (by kernel_rfl) (by kernel_rfl) (fun _ _ _ h => h) (Or.inl ⟨by rfl, ?_⟩) hHeld ?_
      · intro wq hSw
        try dsimp only at hSw
        go_simp
      try simp only [Act.put, List.getElem_toArray, List.getElem_cons_succ, List.getElem_cons_zero, List.setIfInBounds_toArray, List.set_cons_zero, List.set_cons_succ]
      refine wpAnyH_take (i := 14) (oi := _) (v := .pointer (some ⟨w.heap.size + 1, 1, none⟩)) rfl (by kernel_rfl) (by kernel_rfl) (by kernel_rfl) (fun _ _ _ h => h) (Or.inl ⟨by rfl, ?_⟩) hHeld ?_
      · intro wq hSw
        try dsimp only at hSw
        go_simp
      try simp only [Act.put, List.getElem_toArray, List.getElem_cons_succ, List.getElem_cons_zero, List.setIfInBounds_toArray, List.set_cons_zero, List.set_cons_succ]
      refine wpAnyH_take (i := 15) (oi := _) (v := .slice (some ⟨g2, o2, none⟩) m d2) rfl (by kernel_rfl) (by kernel_rfl) (by kernel_rfl) (fun _ _ _ h => h) (Or.inl ⟨by rfl, ?_⟩) hHeld ?_
      · intro wq hSw
        try dsimp only at hSw
        go_simp
      try simp only [Act.put, List.getElem_toArray, List.getElem_cons_succ, List.getElem_cons_zero, List.setIfInBounds_toArray, List.set_cons_zero, List.set_cons_succ]
      refine wpAnyH_take (i := 16) (oi := _) (v := .int .i64 (j : Int)) rfl (by kernel_rfl) (by kernel_rfl) (by kernel_rfl) (fun _ _ _ h => h) (Or.inl ⟨by rfl, ?_⟩) hHeld ?_
      · intro wq hSw
        try dsimp only at hSw
        go_simp
      try simp only [Act.put, List.getElem_toArray, List.getElem_cons_succ, List.getElem_cons_zero, List.setIfInBounds_toArray, List.set_cons_zero, List.set_cons_succ]
      refine wpAnyH_take (i := 17) (oi := _) (v := .pointer (some ⟨g2, o2 + j * 3, none⟩)) rfl (by kernel_rfl) (by kernel_rfl) (by kernel_rfl) (fun _ _ _ h => h) (Or.inl ⟨by rfl, ?_⟩) hHeld ?_
      · intro wq hSw
        try dsimp only at hSw
        go_simp
      try simp only [Act.put, List.getElem_toArray, List.getElem_cons_succ, List.getElem_cons_zero, List.setIfInBounds_toArray, List.set_cons_zero, List.set_cons_succ]
      refine wpAnyH_take (i := 18) (oi := _) (v := .agg #[.bool s2, .slice b2 n2 k2, .int .i64 y2]) rfl (by kernel_rfl) (by kernel_rfl) (by kernel_rfl) (fun _ _ _ h => h) (Or.inl ⟨by rfl, ?_⟩) hHeld ?_
      · intro wq hSw
        try dsimp only at hSw
        go_simp
      try simp only [Act.put, List.getElem_toArray, List.getElem_cons_succ, List.getElem_cons_zero, List.setIfInBounds_toArray, List.set_cons_zero, List.set_cons_succ]
      refine wpAnyH_take (i := 19) (oi := _) (v := .pointer (some ⟨w.heap.size, 1, none⟩)) rfl (by kernel_rfl) (by kernel_rfl) (by kernel_rfl) (fun _ _ _ h => h) (Or.inl ⟨by rfl, ?_⟩) hHeld ?_
      · intro wq hSw
        try dsimp only at hSw
        go_simp
      try simp only [Act.put, List.getElem_toArray, List.getElem_cons_succ, List.getElem_cons_zero, List.setIfInBounds_toArray, List.set_cons_zero, List.set_cons_succ]
      refine wpAnyH_take (i := 20) (oi := _) (v := .slice (some ⟨g1, o1, none⟩) m d1) rfl (by kernel_rfl) (by kernel_rfl) (by kernel_rfl) (fun _ _ _ h => h) (Or.inl ⟨by rfl, ?_⟩) hHeld ?_
      · intro wq hSw
        try dsimp only at hSw
        go_simp
      try simp only [Act.put, List.getElem_toArray, List.getElem_cons_succ, List.getElem_cons_zero, List.setIfInBounds_toArray, List.set_cons_zero, List.set_cons_succ]
      refine wpAnyH_take (i := 21) (oi := _) (v := .int .i64 (j : Int)) rfl (by kernel_rfl) (by kernel_rfl) (by kernel_rfl) (fun _ _ _ h => h) (Or.inl ⟨by rfl, ?_⟩) hHeld ?_
      · intro wq hSw
        try dsimp only at hSw
        go_simp
      try simp only [Act.put, List.getElem_toArray, List.getElem_cons_succ, List.getElem_cons_zero, List.setIfInBounds_toArray, List.set_cons_zero, List.set_cons_succ]
      refine wpAnyH_take (i := 22) (oi := _) (v := .pointer (some ⟨g1, o1 + j * 6, none⟩)) rfl (by kernel_rfl) (by kernel_rfl) (by kernel_rfl) (fun _ _ _ h => h) (Or.inl ⟨by rfl, ?_⟩) hHeld ?_
      · intro wq hSw
        try dsimp only at hSw
        go_simp
      try simp only [Act.put, List.getElem_toArray, List.getElem_cons_succ, List.getElem_cons_zero, List.setIfInBounds_toArray, List.set_cons_zero, List.set_cons_succ]
      refine wpAnyH_take (i := 23) (oi := _) (v := .pointer (some ⟨g1, o1 + j * 6 + 3, none⟩)) rfl (by kernel_rfl) (by kernel_rfl) (by kernel_rfl) (fun _ _ _ h => h) (Or.inl ⟨by rfl, ?_⟩) hHeld ?_
      · intro wq hSw
        try dsimp only at hSw
        go_simp
      try simp only [Act.put, List.getElem_toArray, List.getElem_cons_succ, List.getElem_cons_zero, List.setIfInBounds_toArray, List.set_cons_zero, List.set_cons_succ]
      refine wpAnyH_take (i := 24) (oi := _) (v := .agg #[.bool s3, .slice b1' n1' k1', .int .i64 y3]) rfl (by kernel_rfl) (by kernel_rfl) (by kernel_rfl) (fun _ _ _ h => h) (Or.inl ⟨by rfl, ?_⟩) hHeld ?_
      · intro wq hSw
        try dsimp only at hSw
        go_simp
      try simp only [Act.put, List.getElem_toArray, List.getElem_cons_succ, List.getElem_cons_zero, List.setIfInBounds_toArray, List.set_cons_zero, List.set_cons_succ]
      refine wpAnyH_ready (rs := [25]) (by kernel_rfl) (by simp) ?_
      refine AllReadyH.cons rfl (fun KK hK => ?_) AllReadyH.nil
      simp only [List.getElem_toArray, List.getElem_cons_succ, List.getElem_cons_zero]
      rw [if_pos (by rfl)]
      refine wps2 16 (.tmp 46) (.tmp 52) _ rfl in_l4cmpH (.agg #[.bool s2, .slice b2 n2 k2, .int .i64 y2]) (.agg #[.bool s3, .slice b1' n1' k1', .int .i64 y3]) rfl rfl (hc' _ rr2 rr1') ?_
      rintro e w4 ⟨rfl, kx⟩
      refine ⟨_, rfl, ?_⟩
      replace P11 := kx.cell0 P11
      replace P21 := kx.cell0 P21
      replace c10 := kx.cell0 c10
      replace c11 := kx.cell0 c11
      replace c12 := kx.cell0 c12
      replace d10 := kx.cell0 d10
      replace d11 := kx.cell0 d11
      replace d12 := kx.cell0 d12
      replace c20 := kx.cell0 c20
      replace c21 := kx.cell0 c21
      replace c22 := kx.cell0 c22
      replace rr1 := rr1.kept kx (by omega)
      replace rr1' := rr1'.kept kx (by omega)
      replace rr2 := rr2.kept kx (by omega)
      replace kd := kd.trans kx
      clear kx
      clear hHeld
      refine hK.out _ _ ?_ (fun hHeld => ?_)
      · exact ⟨P11, P21, c10, c11, c12, d10, d11, d12, c20, c21, c22⟩
      clear hK KK
      try simp only [Act.put, List.getElem_toArray, List.getElem_cons_succ, List.getElem_cons_zero, List.setIfInBounds_toArray, List.set_cons_zero, List.set_cons_succ]
      by_cases hD0 : 0 < D
      · have HD : Hid (hasE ds es j = false) := by show _ = _; rw [unhide hE, decide_eq_false (show ¬ D ≤ 0 by omega), Bool.and_false]
        refine wpAnyH_take (i := 26) (oi := _) (v := .bool true) rfl (by kernel_rfl) (by kernel_rfl) (by kernel_rfl) (fun _ _ _ h => h) (Or.inl ⟨by rfl, ?_⟩) hHeld ?_
        · intro wq hSw
          try dsimp only at hSw
          go_simp
        try simp only [Act.put, List.getElem_toArray, List.getElem_cons_succ, List.getElem_cons_zero, List.setIfInBounds_toArray, List.set_cons_zero, List.set_cons_succ]
        refine wpAnyH_take (i := 27) (oi := _) (v := .bool true) rfl (by kernel_rfl) (by kernel_rfl) (by kernel_rfl) (fun _ _ _ h => h) (Or.inl ⟨by rfl, ?_⟩) hHeld ?_
        · intro wq hSw
          try dsimp only at hSw
          go_simp
        try simp only [Act.put, List.getElem_toArray, List.getElem_cons_succ, List.getElem_cons_zero, List.setIfInBounds_toArray, List.set_cons_zero, List.set_cons_succ]
        refine wpAnyH_done (by kernel_rfl) ?_ _
        clear hHeld P11 P21 c10 c11 c12 d10 d11 d12 c20 c21 c22 rr1 rr1' rr2 hc hc'
        have K3 := hide kd
        clear kd k
        go_wp2
        go_ret
        exact ⟨by rw [unhide HB, allH_no (unhide hJ) (unhide HD)]; rfl, (unhide K2).trans (unhide K3)⟩
      have HD : Hid (hasE ds es j = true) := by show _ = _; rw [unhide hE, decide_eq_true (show C ≤ 0 by omega), decide_eq_true (show D ≤ 0 by omega)]; rfl
      refine wpAnyH_take (i := 26) (oi := _) (v := .bool false) rfl (by kernel_rfl) (by kernel_rfl) (by kernel_rfl) (fun _ _ _ h => h) (Or.inl ⟨by rfl, ?_⟩) hHeld ?_
      · intro wq hSw
        try dsimp only at hSw
        go_simp
      try simp only [Act.put, List.getElem_toArray, List.getElem_cons_succ, List.getElem_cons_zero, List.setIfInBounds_toArray, List.set_cons_zero, List.set_cons_succ]
      refine wpAnyH_take (i := 27) (oi := _) (v := .bool false) rfl (by kernel_rfl) (by kernel_rfl) (by kernel_rfl) (fun _ _ _ h => h) (Or.inl ⟨by rfl, ?_⟩) hHeld ?_
      · intro wq hSw
        try dsimp only at hSw
        go_simp
      try simp only [Act.put, List.getElem_toArray, List.getElem_cons_succ, List.getElem_cons_zero, List.setIfInBounds_toArray, List.set_cons_zero, List.set_cons_succ]
      refine wpAnyH_done (by kernel_rfl) ?_ _
      clear hHeld P11 P21 c10 c11 c12 d10 d11 d12 c20 c21 c22 rr1 rr1' rr2 hc hc'
      have K3 := hide kd
      clear kd k
      go_wp2
      go_roundw
      case rel => exact ⟨j + 1, by simp, hlt, fun i hi => by rcases Nat.lt_succ_iff_lt_or_eq.1 hi with h | h; exact unhide hall i h; subst h; exact unhide HD, unhide K3⟩
      case measure => simp [intOf]; omega
    · have hjn : j = m := by omega
      subst hjn
      clear p11 p21
      go_wp2
      go_ret
      exact ⟨by rw [unhide HB, allH_yes (fun i hi => unhide hall i hi)]; rfl, (unhide K2).trans k⟩

end Go.Proofs.Ytgdgkncielliaaa
