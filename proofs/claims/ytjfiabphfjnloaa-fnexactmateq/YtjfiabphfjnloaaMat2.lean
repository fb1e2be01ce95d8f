/-
  MatEq of the program and of the model: both are matrices, and their numbers are alike, one by one.
-/
import Derived.Test.YtjfiabphfjnloaaMat1
import Derived.Test.YtjfiabphfjnloaaDy4
import Derived.Test.YtjfiabphfjnloaaIDyCmp7
namespace Go.Proofs.Ytjfiabphfjnloaa
open Go.RowKit
set_option linter.unusedVariables false
set_option maxRecDepth 8000
set_option linter.unusedSimpArgs false

/-- Two numbers are alike. -/
def eqE (d e : DE) : Bool := decide (cmpD d.1 d.2.1 d.2.2 e.1 e.2.1 e.2.2 = 0)
def allE (ds es : List DE) : Bool := (List.range ds.length).all fun i => eqE (ds.getD i de0) (es.getD i de0)
/-- What MatEq answers. -/
def meqB (n : Int) (ds : List DE) (m : Int) (es : List DE) : Bool := mokB n ds && (mokB m es && (decide (ds.length = es.length) && allE ds es))
theorem allE_no {ds es : List DE} {j : Nat} (hj : j < ds.length) (hf : eqE (ds.getD j de0) (es.getD j de0) = false) : allE ds es = false := by
  unfold allE
  rw [← Bool.not_eq_true, List.all_eq_true]
  intro h2
  have := h2 j (List.mem_range.2 hj)
  rw [this] at hf; cases hf
theorem allE_yes {ds es : List DE} (h : ∀ i, i < ds.length → eqE (ds.getD i de0) (es.getD i de0) = true) : allE ds es = true := by
  unfold allE
  rw [List.all_eq_true]
  intro i hi
  exact h i (List.mem_range.1 hi)
theorem mok_parts {n : Int} {ds : List DE} (h : mokB n ds = true) : 1 ≤ n ∧ n ≤ 4 ∧ (ds.length : Int) = n * n ∧ ∀ i, i < ds.length → dokB (ds.getD i de0).1 (ds.getD i de0).2.1 (ds.getD i de0).2.2 = true := by
  unfold mokB at h
  simp only [Bool.and_eq_true, decide_eq_true_eq] at h
  obtain ⟨⟨h1, h2⟩, h3, h4⟩ := h
  refine ⟨h1, h2, h3, fun i hi => ?_⟩
  rw [List.all_eq_true] at h4
  exact h4 (ds.getD i de0) (by simp [List.getD, hi])

theorem matEq1_impl {b1 b2 : Bool} {l1 h1 l2 h2 : Nat} {v1 v2 : Value} {xs ys : List Int} (s1 s2 : Bool) (y1 y2 : Int) (hx1 : y1 ≤ 9223372036854775807) (hx0 : -9223372036854775808 ≤ y1) (hy1 : y2 ≤ 9223372036854775807) (hy0 : -9223372036854775808 ≤ y2) (w : World) (r1 : Row .i64 b1 l1 h1 w v1 xs) (r2 : Row .i64 b2 l2 h2 w v2 ys) :
    Calls Try.prog 20 #[.agg #[.bool s1, v1, .int .i64 y1], .agg #[.bool s2, v2, .int .i64 y2]] w fun e w' => e = .returned (.bool (decide (cmpD s1 xs y1 s2 ys y2 = 0))) ∧ Kept 0 0 w w' := by
  have k0 : Kept 0 0 w ((w.alloc (.cells #[.bool s1, v1, .int .i64 y1] 42)).alloc (.cells #[.bool s2, v2, .int .i64 y2] 42)) := ((Kept.refl 0 0 w).alloc _).alloc _
  have c10 : ((w.alloc (.cells #[.bool s1, v1, .int .i64 y1] 42)).alloc (.cells #[.bool s2, v2, .int .i64 y2] 42)).cell? ⟨w.heap.size, 0, none⟩ = some (.bool s1) := old_cell _ (new_cell2 _ _ _ _ _ _ (by simp) rfl)
  have c11 : ((w.alloc (.cells #[.bool s1, v1, .int .i64 y1] 42)).alloc (.cells #[.bool s2, v2, .int .i64 y2] 42)).cell? ⟨w.heap.size, 1, none⟩ = some (v1) := old_cell _ (new_cell2 _ _ _ _ _ _ (by simp) rfl)
  have c12 : ((w.alloc (.cells #[.bool s1, v1, .int .i64 y1] 42)).alloc (.cells #[.bool s2, v2, .int .i64 y2] 42)).cell? ⟨w.heap.size, 2, none⟩ = some (.int .i64 y1) := old_cell _ (new_cell2 _ _ _ _ _ _ (by simp) rfl)
  have c20 : ((w.alloc (.cells #[.bool s1, v1, .int .i64 y1] 42)).alloc (.cells #[.bool s2, v2, .int .i64 y2] 42)).cell? ⟨w.heap.size + 1, 0, none⟩ = some (.bool s2) := new_cell2 _ _ _ _ _ _ (by simp) rfl
  have c21 : ((w.alloc (.cells #[.bool s1, v1, .int .i64 y1] 42)).alloc (.cells #[.bool s2, v2, .int .i64 y2] 42)).cell? ⟨w.heap.size + 1, 1, none⟩ = some (v2) := new_cell2 _ _ _ _ _ _ (by simp) rfl
  have c22 : ((w.alloc (.cells #[.bool s1, v1, .int .i64 y1] 42)).alloc (.cells #[.bool s2, v2, .int .i64 y2] 42)).cell? ⟨w.heap.size + 1, 2, none⟩ = some (.int .i64 y2) := new_cell2 _ _ _ _ _ _ (by simp) rfl
  replace r1 := r1.kept k0 (by omega)
  replace r2 := r2.kept k0 (by omega)
  obtain ⟨a1, d1, rfl⟩ := Row.form' r1
  obtain ⟨a2, d2, rfl⟩ := Row.form' r2
  have hd := dcmp_impl s1 s2 y1 y2 hx1 hx0 hy1 hy0 _ r1 r2
  obtain ⟨C, hC⟩ : ∃ C, cmpD s1 xs y1 s2 ys y2 = C := ⟨_, rfl⟩
  rw [hC] at hd ⊢
  clear hC
  go_enter Try.func20, Try.ntmps20
  go_wp2_with fail
  refine hd.mono ?_
  rintro e w1 ⟨rfl, k1⟩
  have K1 := hide (k0.trans k1)
  clear hd k0 k1 r1 r2
  go_wp2
  go_ret
  exact ⟨by first | rfl | simp, unhide K1⟩

set_option maxHeartbeats 4000000 in
theorem equalFunc_impl {l1 h1 l2 h2 : Nat} {v1 v2 : Value} {ds es : List DE} (w : World) (hw1 : WfD ds) (hw2 : WfD es) (r1 : Dys l1 h1 w v1 ds) (r2 : Dys l2 h2 w v2 es) :
    Calls Try.prog 19 #[v1, v2, .func (.func 20) #[] #[]] w fun e w' => e = .returned (.bool (decide (ds.length = es.length) && allE ds es)) ∧ Kept 0 0 w w' := by
  obtain ⟨a1, d1, rfl, hc1, hc2⟩ := r1.form
  obtain ⟨a2, d2, rfl, -, -⟩ := r2.form
  obtain ⟨n, hn⟩ : ∃ n, n = ds.length := ⟨_, rfl⟩
  obtain ⟨m, hmm⟩ : ∃ m, m = es.length := ⟨_, rfl⟩
  have hm : ds.length ≤ 9223372036854775807 := by unfold maxLen at hc2; omega
  rw [← hn] at r1 hm ⊢
  rw [← hmm] at r2 ⊢
  by_cases hnm : n = m
  rotate_left
  · have hni : ¬ ((n : Int) = (m : Int)) := by omega
    rw [decide_eq_false hnm]
    clear r1 r2 hn hmm
    go_enter Try.func19, Try.ntmps19
    go_wp2
    go_ret
    exact ⟨rfl, Kept.refl _ _ _⟩
  subst hnm
  rw [decide_eq_true rfl, Bool.true_and]
  have HN := hide hn
  have HM := hide hmm
  have R1 := hide r1
  have R2 := hide r2
  have HW1 := hide hw1
  have HW2 := hide hw2
  clear r1 r2 hn hmm hc1 hc2 hw1 hw2
  go_enter Try.func19, Try.ntmps19
  go_wp2
  go_loopw [17] (fun s17 wr => ∃ j : Nat, s17 = .int .i64 j ∧ j ≤ n ∧ Hid (∀ i, i < j → eqE (ds.getD i de0) (es.getD i de0) = true) ∧ Kept 0 0 w wr) (fun s17 _ => n - (intOf s17).toNat)
  case atStart => exact ⟨0, rfl, Nat.zero_le _, fun i hi => by omega, Kept.refl _ _ _⟩
  case round =>
    obtain ⟨j, rfl, hj, hall, k⟩ := hrel
    by_cases hlt : j < n
    · have hj1 : j < ds.length := by rw [← unhide HN]; exact hlt
      have hj2 : j < es.length := by rw [← unhide HM]; exact hlt
      obtain ⟨g1, o1, n1, rfl, -, -, -, b1, k1, c10, c11, c12, hn1, rr1⟩ := ((unhide R1).kept k (by omega)).at (i := j) hj1
      obtain ⟨g2, o2, n2, rfl, -, -, -, b2, k2, c20, c21, c22, hn2, rr2⟩ := ((unhide R2).kept k (by omega)).at (i := j) hj2
      have hq1 := unhide HW1 j hj1
      have hq2 := unhide HW2 j hj2
      obtain ⟨s1, hs1⟩ : ∃ q, q = (ds.getD j de0).1 := ⟨_, rfl⟩
      obtain ⟨y1, hy1⟩ : ∃ q, q = (ds.getD j de0).2.2 := ⟨_, rfl⟩
      obtain ⟨z1, hz1⟩ : ∃ q, q = (ds.getD j de0).2.1 := ⟨_, rfl⟩
      rw [← hs1] at c10
      rw [← hy1] at c12 hq1
      rw [← hz1] at hn1 rr1
      obtain ⟨s2, hs2⟩ : ∃ q, q = (es.getD j de0).1 := ⟨_, rfl⟩
      obtain ⟨y2, hy2⟩ : ∃ q, q = (es.getD j de0).2.2 := ⟨_, rfl⟩
      obtain ⟨z2, hz2⟩ : ∃ q, q = (es.getD j de0).2.1 := ⟨_, rfl⟩
      rw [← hs2] at c20
      rw [← hy2] at c22 hq2
      rw [← hz2] at hn2 rr2
      obtain ⟨C, hC⟩ : ∃ C, cmpD s1 z1 y1 s2 z2 y2 = C := ⟨_, rfl⟩
      have hE : Hid (eqE (ds.getD j de0) (es.getD j de0) = decide (C = 0)) := by show _ = _; rw [← hC, hs1, hy1, hz1, hs2, hy2, hz2]; rfl
      have hJ := hide hj1
      clear hs1 hy1 hz1 hs2 hy2 hz2 hn1 hn2 hj1 hj2
      have kA := (Kept.refl 0 0 wr).alloc (.cells #[.bool s1, .slice b1 n1 k1, .int .i64 y1] 42)
      have kB : Kept 0 0 wr ((wr.alloc (.cells #[.bool s1, .slice b1 n1 k1, .int .i64 y1] 42)).alloc (.cells #[.bool s2, .slice b2 n2 k2, .int .i64 y2] 42)) := kA.alloc _
      have f20 := kA.cell0 c20
      have f21 := kA.cell0 c21
      have f22 := kA.cell0 c22
      have e10 : ((wr.alloc (.cells #[.bool s1, .slice b1 n1 k1, .int .i64 y1] 42)).alloc (.cells #[.bool s2, .slice b2 n2 k2, .int .i64 y2] 42)).cell? ⟨wr.heap.size, 0, none⟩ = some (.bool s1) := old_cell _ (new_cell2 _ _ _ _ _ _ (by simp) rfl)
      have e11 : ((wr.alloc (.cells #[.bool s1, .slice b1 n1 k1, .int .i64 y1] 42)).alloc (.cells #[.bool s2, .slice b2 n2 k2, .int .i64 y2] 42)).cell? ⟨wr.heap.size, 1, none⟩ = some (.slice b1 n1 k1) := old_cell _ (new_cell2 _ _ _ _ _ _ (by simp) rfl)
      have e12 : ((wr.alloc (.cells #[.bool s1, .slice b1 n1 k1, .int .i64 y1] 42)).alloc (.cells #[.bool s2, .slice b2 n2 k2, .int .i64 y2] 42)).cell? ⟨wr.heap.size, 2, none⟩ = some (.int .i64 y1) := old_cell _ (new_cell2 _ _ _ _ _ _ (by simp) rfl)
      have e20 : ((wr.alloc (.cells #[.bool s1, .slice b1 n1 k1, .int .i64 y1] 42)).alloc (.cells #[.bool s2, .slice b2 n2 k2, .int .i64 y2] 42)).cell? ⟨wr.heap.size + 1, 0, none⟩ = some (.bool s2) := new_cell2 _ _ _ _ _ _ (by simp) rfl
      have e21 : ((wr.alloc (.cells #[.bool s1, .slice b1 n1 k1, .int .i64 y1] 42)).alloc (.cells #[.bool s2, .slice b2 n2 k2, .int .i64 y2] 42)).cell? ⟨wr.heap.size + 1, 1, none⟩ = some (.slice b2 n2 k2) := new_cell2 _ _ _ _ _ _ (by simp) rfl
      have e22 : ((wr.alloc (.cells #[.bool s1, .slice b1 n1 k1, .int .i64 y1] 42)).alloc (.cells #[.bool s2, .slice b2 n2 k2, .int .i64 y2] 42)).cell? ⟨wr.heap.size + 1, 2, none⟩ = some (.int .i64 y2) := new_cell2 _ _ _ _ _ _ (by simp) rfl
      have hc := matEq1_impl s1 s2 y1 y2 hq1.1 hq1.2 hq2.1 hq2.2 _ (rr1.kept kB (by omega)) (rr2.kept kB (by omega))
      rw [hC] at hc
      clear hC rr1 rr2 hq1 hq2
      have hw1 : IntKind.i64.wrap ((j : Int) + 1) = ((j + 1 : Nat) : Int) := by rw [IntKind.wrap_i64]; omega
      have KB := hide (k.trans kB)
      clear kA kB k
      go_wp2_with fail
      refine hc.mono ?_
      rintro e w2 ⟨rfl, k2'⟩
      have K2 := hide ((unhide KB).trans k2')
      clear hc k2' KB c10 c11 c12 c20 c21 c22 e10 e11 e12 e20 e21 e22 f20 f21 f22
      by_cases hd : C = 0
      · have HD : Hid (eqE (ds.getD j de0) (es.getD j de0) = true) := by show _ = _; rw [unhide hE]; exact decide_eq_true hd
        rw [decide_eq_true hd]
        clear hd
        go_wp2
        go_roundw
        case rel => exact ⟨j + 1, by simp, hlt, fun i hi => by rcases Nat.lt_succ_iff_lt_or_eq.1 hi with h | h; exact unhide hall i h; subst h; exact unhide HD, unhide K2⟩
        case measure => simp [intOf]; omega
      · have HD : Hid (eqE (ds.getD j de0) (es.getD j de0) = false) := by show _ = _; rw [unhide hE]; exact decide_eq_false hd
        rw [decide_eq_false hd]
        clear hd
        go_wp2
        go_ret
        exact ⟨by rw [allE_no (unhide hJ) (unhide HD)]; rfl, unhide K2⟩
    · have hjn : j = n := by omega
      subst hjn
      go_wp2
      go_ret
      exact ⟨by rw [allE_yes (fun i hi => unhide hall i (by rw [unhide HN]; exact hi))]; rfl, k⟩

set_option maxHeartbeats 4000000 in
theorem matEq_impl {l1 h1 l2 h2 : Nat} {v1 v2 : Value} {ds es : List DE} (n m : Int) (w : World) (hw1 : WfD ds) (hw2 : WfD es) (r1 : Dys l1 h1 w v1 ds) (r2 : Dys l2 h2 w v2 es) :
    Calls Try.prog 11 #[.agg #[.int .i64 n, v1], .agg #[.int .i64 m, v2]] w fun e w' => e = .returned (.bool (meqB n ds m es)) ∧ Kept 0 0 w w' := by
  have k0 : Kept 0 0 w ((w.alloc (.cells #[.int .i64 n, v1] 29)).alloc (.cells #[.int .i64 m, v2] 29)) := ((Kept.refl 0 0 w).alloc _).alloc _
  have p10 : ((w.alloc (.cells #[.int .i64 n, v1] 29)).alloc (.cells #[.int .i64 m, v2] 29)).cell? ⟨w.heap.size, 0, none⟩ = some (.int .i64 n) := old_cell _ (new_cell2 _ _ _ _ _ _ (by simp) rfl)
  have p11 : ((w.alloc (.cells #[.int .i64 n, v1] 29)).alloc (.cells #[.int .i64 m, v2] 29)).cell? ⟨w.heap.size, 1, none⟩ = some (v1) := old_cell _ (new_cell2 _ _ _ _ _ _ (by simp) rfl)
  have p20 : ((w.alloc (.cells #[.int .i64 n, v1] 29)).alloc (.cells #[.int .i64 m, v2] 29)).cell? ⟨w.heap.size + 1, 0, none⟩ = some (.int .i64 m) := new_cell2 _ _ _ _ _ _ (by simp) rfl
  have p21 : ((w.alloc (.cells #[.int .i64 n, v1] 29)).alloc (.cells #[.int .i64 m, v2] 29)).cell? ⟨w.heap.size + 1, 1, none⟩ = some (v2) := new_cell2 _ _ _ _ _ _ (by simp) rfl
  replace r1 := r1.kept k0 (by omega)
  replace r2 := r2.kept k0 (by omega)
  obtain ⟨a1, d1, rfl, -, -⟩ := r1.form
  obtain ⟨a2, d2, rfl, -, -⟩ := r2.form
  have ho1 := matOk_impl n _ hw1 r1
  go_enter Try.func11, Try.ntmps11
  go_wp2_with fail
  generalize ((w.alloc (.cells #[.int .i64 n, .slice a1 ds.length d1] 29)).alloc (.cells #[.int .i64 m, .slice a2 es.length d2] 29)) = W at *
  refine ho1.mono ?_
  rintro e w1 ⟨rfl, k1⟩
  replace p10 := k1.cell0 p10
  replace p11 := k1.cell0 p11
  replace p20 := k1.cell0 p20
  replace p21 := k1.cell0 p21
  replace r1 := r1.kept k1 (by omega)
  replace r2 := r2.kept k1 (by omega)
  have K1 := hide (k0.trans k1)
  clear ho1 k0 k1
  cases hk1 : mokB n ds
  · have HB : Hid (meqB n ds m es = false) := by show _ = _; unfold meqB; rw [hk1]; rfl
    clear hk1 r1 r2
    go_wp2
    go_ret
    exact ⟨by rw [unhide HB]; rfl, unhide K1⟩
  have ho2 := matOk_impl m _ hw2 r2
  have HK1 := hide hk1
  clear hk1
  go_wp2_with fail
  refine ho2.mono ?_
  rintro e w2 ⟨rfl, k2⟩
  replace p11 := k2.cell0 p11
  replace p21 := k2.cell0 p21
  replace r1 := r1.kept k2 (by omega)
  replace r2 := r2.kept k2 (by omega)
  have K2 := hide ((unhide K1).trans k2)
  clear ho2 k2
  cases hk2 : mokB m es
  · have HB : Hid (meqB n ds m es = false) := by show _ = _; unfold meqB; rw [hk2]; simp
    clear hk2 r1 r2
    go_wp2
    go_ret
    exact ⟨by rw [unhide HB]; rfl, unhide K2⟩
  have he := equalFunc_impl _ hw1 hw2 r1 r2
  have hB : (decide (ds.length = es.length) && allE ds es) = meqB n ds m es := by unfold meqB; rw [unhide HK1, hk2]; simp
  rw [hB] at he
  obtain ⟨B, hB'⟩ : ∃ B, B = meqB n ds m es := ⟨_, rfl⟩
  rw [← hB'] at he
  have HB := hide hB'
  clear hk2 r1 r2 hB hB'
  go_wp2_with fail
  refine he.mono ?_
  rintro e w3 ⟨rfl, k3⟩
  have K3 := hide ((unhide K2).trans k3)
  clear he k3
  go_wp2
  go_ret
  exact ⟨by rw [← unhide HB]; rfl, unhide K3⟩

theorem side_eq {n m : Int} (h1 : 1 ≤ n) (h2 : n ≤ 4) (h3 : 1 ≤ m) (h4 : m ≤ 4) (h : n * n = m * m) : n = m := by
  have a : n = 1 ∨ n = 2 ∨ n = 3 ∨ n = 4 := by omega
  have b : m = 1 ∨ m = 2 ∨ m = 3 ∨ m = 4 := by omega
  rcases a with h | h | h | h <;> rcases b with h' | h' | h' | h' <;> subst h <;> subst h' <;> first | rfl | omega

theorem in_l4cmp8 : ∀ (w : World) (args : Array Value), (callFunc 18 args).run Try.prog w = .ok (.enter 18 args) w := enters Try.func18 (by decide) (fun h => by cases h)

theorem in_spec_MatEq : ∀ (w : World) (args : Array Value), (callFunc 10 args).run Try.prog w = .ok (.enter 10 args) w := enters Try.func10 (by decide) (fun h => by cases h)

theorem in_impl_MatEq : ∀ (w : World) (args : Array Value), (callFunc 11 args).run Try.prog w = .ok (.enter 11 args) w := enters Try.func11 (by decide) (fun h => by cases h)

set_option maxHeartbeats 8000000 in
theorem matEq_spec {l1 h1 l2 h2 : Nat} {v1 v2 : Value} {ds es : List DE} (n m : Int) (w : World) (hw1 : WfD ds) (hw2 : WfD es) (r1 : Dys l1 h1 w v1 ds) (r2 : Dys l2 h2 w v2 es) :
    Calls Try.prog 10 #[.agg #[.int .i64 n, v1], .agg #[.int .i64 m, v2]] w fun e w' => e = .returned (.bool (meqB n ds m es)) ∧ Kept 0 0 w w' := by
  have k0 : Kept 0 0 w ((w.alloc (.cells #[.int .i64 n, v1] 29)).alloc (.cells #[.int .i64 m, v2] 29)) := ((Kept.refl 0 0 w).alloc _).alloc _
  have p10 : ((w.alloc (.cells #[.int .i64 n, v1] 29)).alloc (.cells #[.int .i64 m, v2] 29)).cell? ⟨w.heap.size, 0, none⟩ = some (.int .i64 n) := old_cell _ (new_cell2 _ _ _ _ _ _ (by simp) rfl)
  have p11 : ((w.alloc (.cells #[.int .i64 n, v1] 29)).alloc (.cells #[.int .i64 m, v2] 29)).cell? ⟨w.heap.size, 1, none⟩ = some (v1) := old_cell _ (new_cell2 _ _ _ _ _ _ (by simp) rfl)
  have p20 : ((w.alloc (.cells #[.int .i64 n, v1] 29)).alloc (.cells #[.int .i64 m, v2] 29)).cell? ⟨w.heap.size + 1, 0, none⟩ = some (.int .i64 m) := new_cell2 _ _ _ _ _ _ (by simp) rfl
  have p21 : ((w.alloc (.cells #[.int .i64 n, v1] 29)).alloc (.cells #[.int .i64 m, v2] 29)).cell? ⟨w.heap.size + 1, 1, none⟩ = some (v2) := new_cell2 _ _ _ _ _ _ (by simp) rfl
  replace r1 := r1.kept k0 (by omega)
  replace r2 := r2.kept k0 (by omega)
  obtain ⟨a1, d1, rfl, -, -⟩ := r1.form
  obtain ⟨a2, d2, rfl, -, -⟩ := r2.form
  have ho1 := matOk_spec n _ hw1 r1
  go_enter Try.func10, Try.ntmps10
  go_wp2_with fail
  generalize ((w.alloc (.cells #[.int .i64 n, .slice a1 ds.length d1] 29)).alloc (.cells #[.int .i64 m, .slice a2 es.length d2] 29)) = W at *
  refine ho1.mono ?_
  rintro e w1 ⟨rfl, k1⟩
  replace p10 := k1.cell0 p10
  replace p11 := k1.cell0 p11
  replace p20 := k1.cell0 p20
  replace p21 := k1.cell0 p21
  replace r1 := r1.kept k1 (by omega)
  replace r2 := r2.kept k1 (by omega)
  have K1 := hide (k0.trans k1)
  clear ho1 k0 k1
  cases hk1 : mokB n ds
  · have HB : Hid (meqB n ds m es = false) := by show _ = _; unfold meqB; rw [hk1]; rfl
    clear hk1 r1 r2
    go_wp2
    go_ret
    exact ⟨by rw [unhide HB]; rfl, unhide K1⟩
  have ho2 := matOk_spec m _ hw2 r2
  have HK1 := hide hk1
  clear hk1
  go_wp2_with fail
  refine ho2.mono ?_
  rintro e w2 ⟨rfl, k2⟩
  replace p10 := k2.cell0 p10
  replace p11 := k2.cell0 p11
  replace p20 := k2.cell0 p20
  replace p21 := k2.cell0 p21
  replace r1 := r1.kept k2 (by omega)
  replace r2 := r2.kept k2 (by omega)
  have K2 := hide ((unhide K1).trans k2)
  clear ho2 k2
  cases hk2 : mokB m es
  · have HB : Hid (meqB n ds m es = false) := by show _ = _; unfold meqB; rw [hk2]; simp
    clear hk2 r1 r2
    go_wp2
    go_ret
    exact ⟨by rw [unhide HB]; rfl, unhide K2⟩
  obtain ⟨u1, u2, u3, U1⟩ := mok_parts (unhide HK1)
  obtain ⟨t1, t2, t3, U2⟩ := mok_parts hk2
  have hB : meqB n ds m es = (decide (ds.length = es.length) && allE ds es) := by unfold meqB; rw [unhide HK1, hk2]; simp
  by_cases hnm : n = m
  rotate_left
  · have HB : Hid (meqB n ds m es = false) := by
      show _ = _
      rw [hB, decide_eq_false]
      · rfl
      · intro e
        exact hnm (side_eq u1 u2 t1 t2 (by rw [← u3, ← t3, e]))
    clear hk2 r1 r2 hB u1 u2 u3 t1 t2 t3
    go_wp2
    go_ret
    exact ⟨by rw [unhide HB]; rfl, unhide K2⟩
  subst hnm
  have hle : ds.length = es.length := by omega
  rw [decide_eq_true hle, Bool.true_and] at hB
  have HB := hide hB
  have hd16 : ds.length ≤ 16 := by
    have h5 : n = 1 ∨ n = 2 ∨ n = 3 ∨ n = 4 := by omega
    rcases h5 with h | h | h | h <;> subst h <;> omega
  obtain ⟨q, hq⟩ : ∃ q, q = ds.length := ⟨_, rfl⟩
  have hq2 : q = es.length := by omega
  rw [← hq2] at r2 p21
  rw [← hq] at r1 p11 hd16
  have HN := hide hq
  have HM := hide hq2
  have R1 := hide r1
  have R2 := hide r2
  have HU1 := hide U1
  have HU2 := hide U2
  clear hk2 r1 r2 hB u1 u2 u3 t1 t2 t3 hle hq hq2 U1 U2 hw1 hw2
  go_wp2_with fail
  go_loopw [5] (fun s5 wr => ∃ j : Nat, s5 = .int .i64 j ∧ j ≤ q ∧ Hid (∀ i, i < j → eqE (ds.getD i de0) (es.getD i de0) = true) ∧ Kept 0 0 w2 wr) (fun s5 _ => q - (intOf s5).toNat)
  case atStart => exact ⟨0, rfl, Nat.zero_le _, fun i hi => by omega, Kept.refl _ _ _⟩
  case round =>
    obtain ⟨j, rfl, hj, hall, k⟩ := hrel
    have p11' := k.cell0 p11
    have p21' := k.cell0 p21
    by_cases hlt : j < q
    · have hj1 : j < ds.length := by rw [← unhide HN]; exact hlt
      have hj2 : j < es.length := by rw [← unhide HM]; exact hlt
      have kd := k.drew
      obtain ⟨g1, o1, n1, rfl, -, -, -, b1, k1, c10, c11, c12, hn1, rr1⟩ := ((unhide R1).kept kd (by omega)).at (i := j) hj1
      obtain ⟨g2, o2, n2, rfl, -, -, -, b2, k2, c20, c21, c22, hn2, rr2⟩ := ((unhide R2).kept kd (by omega)).at (i := j) hj2
      have hq1 := unhide HU1 j hj1
      have hq2 := unhide HU2 j hj2
      have P11 := kd.cell0 p11
      have P21 := kd.cell0 p21
      obtain ⟨s1, hs1⟩ : ∃ q, q = (ds.getD j de0).1 := ⟨_, rfl⟩
      obtain ⟨y1, hy1⟩ : ∃ q, q = (ds.getD j de0).2.2 := ⟨_, rfl⟩
      obtain ⟨z1, hz1⟩ : ∃ q, q = (ds.getD j de0).2.1 := ⟨_, rfl⟩
      rw [← hs1] at c10 hq1
      rw [← hy1] at c12 hq1
      rw [← hz1] at hn1 rr1 hq1
      obtain ⟨s2, hs2⟩ : ∃ q, q = (es.getD j de0).1 := ⟨_, rfl⟩
      obtain ⟨y2, hy2⟩ : ∃ q, q = (es.getD j de0).2.2 := ⟨_, rfl⟩
      obtain ⟨z2, hz2⟩ : ∃ q, q = (es.getD j de0).2.1 := ⟨_, rfl⟩
      rw [← hs2] at c20 hq2
      rw [← hy2] at c22 hq2
      rw [← hz2] at hn2 rr2 hq2
      obtain ⟨C, hC⟩ : ∃ C, cmpD s1 z1 y1 s2 z2 y2 = C := ⟨_, rfl⟩
      have hE : Hid (eqE (ds.getD j de0) (es.getD j de0) = decide (C = 0)) := by show _ = _; rw [← hC, hs1, hy1, hz1, hs2, hy2, hz2]; rfl
      rw [cmpD_ok hq1 hq2] at hC
      have hJ := hide hj1
      clear hs1 hy1 hz1 hs2 hy2 hz2 hn1 hn2 hj1 hj2 p11 p21
      have hw1 : IntKind.i64.wrap ((j : Int) + 1) = ((j + 1 : Nat) : Int) := by rw [IntKind.wrap_i64]; omega
      have hc := fun w r1 r2 => cmp4_spec (b1 := false) (b2 := false) (l1 := l1) (h1 := h1) (l2 := l2) (h2 := h2) (v1 := .slice b1 n1 k1) (v2 := .slice b2 n2 k2) (xs := z1) (ys := z2) s1 s2 y1 y2 w r1 r2 hq1 hq2
      rw [hC] at hc
      clear hC hq1 hq2
      go_wp2_with fail
      refine wp_region_held_drew (S := (fun w' => w'.cell? ⟨w.heap.size, 1, none⟩ = some (.slice (some ⟨g1, o1, none⟩) q d1) ∧ w'.cell? ⟨w.heap.size + 1, 1, none⟩ = some (.slice (some ⟨g2, o2, none⟩) q d2) ∧ w'.cell? ⟨g1, o1 + j * 3, none⟩ = some (.bool s1) ∧ w'.cell? ⟨g1, o1 + j * 3 + 1, none⟩ = some (.slice b1 n1 k1) ∧ w'.cell? ⟨g1, o1 + j * 3 + 2, none⟩ = some (.int .i64 y1) ∧ w'.cell? ⟨g2, o2 + j * 3, none⟩ = some (.bool s2) ∧ w'.cell? ⟨g2, o2 + j * 3 + 1, none⟩ = some (.slice b2 n2 k2) ∧ w'.cell? ⟨g2, o2 + j * 3 + 2, none⟩ = some (.int .i64 y2))) (by kernel_rfl) ?_ (fun hHeld => ?_)
      · exact ⟨P11, P21, c10, c11, c12, c20, c21, c22⟩
      refine wpAnyH_take (i := 0) (oi := _) (v := .pointer (some ⟨w.heap.size, 1, none⟩)) rfl (by kernel_rfl) (by kernel_rfl) (by kernel_rfl) (fun _ _ _ h => h) (Or.inl ⟨by rfl, ?_⟩) hHeld ?_
      · intro wq hSw
        try dsimp only at hSw
        go_simp
      try simp only [Act.put, List.getElem_toArray, List.getElem_cons_succ, List.getElem_cons_zero, List.setIfInBounds_toArray, List.set_cons_zero, List.set_cons_succ]
      refine wpAnyH_take (i := 1) (oi := _) (v := .slice (some ⟨g1, o1, none⟩) q d1) rfl (by kernel_rfl) (by kernel_rfl) (by kernel_rfl) (fun _ _ _ h => h) (Or.inl ⟨by rfl, ?_⟩) hHeld ?_
      · intro wq hSw
        try dsimp only at hSw
        go_simp
      try simp only [Act.put, List.getElem_toArray, List.getElem_cons_succ, List.getElem_cons_zero, List.setIfInBounds_toArray, List.set_cons_zero, List.set_cons_succ]
      refine wpAnyH_take (i := 2) (oi := _) (v := .int .i64 (j : Int)) rfl (by kernel_rfl) (by kernel_rfl) (by kernel_rfl) (fun _ _ _ h => h) (Or.inl ⟨by rfl, ?_⟩) hHeld ?_
      · intro wq hSw
        try dsimp only at hSw
        go_simp
      try simp only [Act.put, List.getElem_toArray, List.getElem_cons_succ, List.getElem_cons_zero, List.setIfInBounds_toArray, List.set_cons_zero, List.set_cons_succ]
      refine wpAnyH_take (i := 3) (oi := _) (v := .pointer (some ⟨g1, o1 + j * 3, none⟩)) rfl (by kernel_rfl) (by kernel_rfl) (by kernel_rfl) (fun _ _ _ h => h) (Or.inl ⟨by rfl, ?_⟩) hHeld ?_
      · intro wq hSw
        try dsimp only at hSw
        go_simp
      try simp only [Act.put, List.getElem_toArray, List.getElem_cons_succ, List.getElem_cons_zero, List.setIfInBounds_toArray, List.set_cons_zero, List.set_cons_succ]
      refine wpAnyH_take (i := 4) (oi := _) (v := .agg #[.bool s1, .slice b1 n1 k1, .int .i64 y1]) rfl (by kernel_rfl) (by kernel_rfl) (by kernel_rfl) (fun _ _ _ h => h) (Or.inl ⟨by rfl, ?_⟩) hHeld ?_
      · intro wq hSw
        try dsimp only at hSw
        go_simp
      try simp only [Act.put, List.getElem_toArray, List.getElem_cons_succ, List.getElem_cons_zero, List.setIfInBounds_toArray, List.set_cons_zero, List.set_cons_succ]
      refine wpAnyH_take (i := 5) (oi := _) (v := .pointer (some ⟨w.heap.size + 1, 1, none⟩)) rfl (by kernel_rfl) (by kernel_rfl) (by kernel_rfl) (fun _ _ _ h => h) (Or.inl ⟨by rfl, ?_⟩) hHeld ?_
      · intro wq hSw
        try dsimp only at hSw
        go_simp
      try simp only [Act.put, List.getElem_toArray, List.getElem_cons_succ, List.getElem_cons_zero, List.setIfInBounds_toArray, List.set_cons_zero, List.set_cons_succ]
      refine wpAnyH_take (i := 6) (oi := _) (v := .slice (some ⟨g2, o2, none⟩) q d2) rfl (by kernel_rfl) (by kernel_rfl) (by kernel_rfl) (fun _ _ _ h => h) (Or.inl ⟨by rfl, ?_⟩) hHeld ?_
      · intro wq hSw
        try dsimp only at hSw
        go_simp
      try simp only [Act.put, List.getElem_toArray, List.getElem_cons_succ, List.getElem_cons_zero, List.setIfInBounds_toArray, List.set_cons_zero, List.set_cons_succ]
      refine wpAnyH_take (i := 7) (oi := _) (v := .int .i64 (j : Int)) rfl (by kernel_rfl) (by kernel_rfl) (by kernel_rfl) (fun _ _ _ h => h) (Or.inl ⟨by rfl, ?_⟩) hHeld ?_
      · intro wq hSw
        try dsimp only at hSw
        go_simp
      try simp only [Act.put, List.getElem_toArray, List.getElem_cons_succ, List.getElem_cons_zero, List.setIfInBounds_toArray, List.set_cons_zero, List.set_cons_succ]
      refine wpAnyH_take (i := 8) (oi := _) (v := .pointer (some ⟨g2, o2 + j * 3, none⟩)) rfl (by kernel_rfl) (by kernel_rfl) (by kernel_rfl) (fun _ _ _ h => h) (Or.inl ⟨by rfl, ?_⟩) hHeld ?_
      · intro wq hSw
        try dsimp only at hSw
        go_simp
      try simp only [Act.put, List.getElem_toArray, List.getElem_cons_succ, List.getElem_cons_zero, List.setIfInBounds_toArray, List.set_cons_zero, List.set_cons_succ]
      refine wpAnyH_take (i := 9) (oi := _) (v := .agg #[.bool s2, .slice b2 n2 k2, .int .i64 y2]) rfl (by kernel_rfl) (by kernel_rfl) (by kernel_rfl) (fun _ _ _ h => h) (Or.inl ⟨by rfl, ?_⟩) hHeld ?_
      · intro wq hSw
        try dsimp only at hSw
        go_simp
      try simp only [Act.put, List.getElem_toArray, List.getElem_cons_succ, List.getElem_cons_zero, List.setIfInBounds_toArray, List.set_cons_zero, List.set_cons_succ]
      refine wpAnyH_ready (rs := [10]) (by kernel_rfl) (by simp) ?_
      refine AllReadyH.cons rfl (fun KK hK => ?_) AllReadyH.nil
      simp only [List.getElem_toArray, List.getElem_cons_succ, List.getElem_cons_zero]
      rw [if_pos (by rfl)]
      refine wps2 18 (.tmp 32) (.tmp 37) _ rfl in_l4cmp8 (.agg #[.bool s1, .slice b1 n1 k1, .int .i64 y1]) (.agg #[.bool s2, .slice b2 n2 k2, .int .i64 y2]) rfl rfl (hc _ rr1 rr2) ?_
      rintro e w3 ⟨rfl, k3⟩
      refine ⟨_, rfl, ?_⟩
      replace P11 := k3.cell0 P11
      replace P21 := k3.cell0 P21
      replace c10 := k3.cell0 c10
      replace c11 := k3.cell0 c11
      replace c12 := k3.cell0 c12
      replace c20 := k3.cell0 c20
      replace c21 := k3.cell0 c21
      replace c22 := k3.cell0 c22
      have K3 := hide (kd.trans k3)
      clear k3 rr1 rr2 k kd hc
      clear hHeld
      refine hK.out _ _ ?_ (fun hHeld => ?_)
      · exact ⟨P11, P21, c10, c11, c12, c20, c21, c22⟩
      clear hK KK
      try simp only [Act.put, List.getElem_toArray, List.getElem_cons_succ, List.getElem_cons_zero, List.setIfInBounds_toArray, List.set_cons_zero, List.set_cons_succ]
      by_cases hd : C = 0
      · have HD : Hid (eqE (ds.getD j de0) (es.getD j de0) = true) := by show _ = _; rw [unhide hE]; exact decide_eq_true hd
        subst hd
        refine wpAnyH_take (i := 11) (oi := _) (v := .bool false) rfl (by kernel_rfl) (by kernel_rfl) (by kernel_rfl) (fun _ _ _ h => h) (Or.inl ⟨by rfl, ?_⟩) hHeld ?_
        · intro wq hSw
          try dsimp only at hSw
          go_simp
        try simp only [Act.put, List.getElem_toArray, List.getElem_cons_succ, List.getElem_cons_zero, List.setIfInBounds_toArray, List.set_cons_zero, List.set_cons_succ]
        refine wpAnyH_done (by kernel_rfl) ?_ _
        clear hHeld c10 c11 c12 c20 c21 c22 P11 P21
        go_wp2
        go_roundw
        case rel => exact ⟨j + 1, by simp, hlt, fun i hi => by rcases Nat.lt_succ_iff_lt_or_eq.1 hi with h | h; exact unhide hall i h; subst h; exact unhide HD, unhide K3⟩
        case measure => simp [intOf]; omega
      · have HD : Hid (eqE (ds.getD j de0) (es.getD j de0) = false) := by show _ = _; rw [unhide hE]; exact decide_eq_false hd
        refine wpAnyH_take (i := 11) (oi := _) (v := .bool true) rfl (by kernel_rfl) (by kernel_rfl) (by kernel_rfl) (fun _ _ _ h => h) (Or.inl ⟨by rfl, ?_⟩) hHeld ?_
        · intro wq hSw
          try dsimp only at hSw
          go_simp
        try simp only [Act.put, List.getElem_toArray, List.getElem_cons_succ, List.getElem_cons_zero, List.setIfInBounds_toArray, List.set_cons_zero, List.set_cons_succ]
        refine wpAnyH_done (by kernel_rfl) ?_ _
        clear hHeld c10 c11 c12 c20 c21 c22 P11 P21
        go_wp2
        go_ret
        exact ⟨by rw [unhide HB, allE_no (unhide hJ) (unhide HD)]; rfl, (unhide K2).trans (unhide K3)⟩
    · have hjn : j = q := by omega
      subst hjn
      clear p11 p21
      go_wp2
      go_ret
      exact ⟨by rw [unhide HB, allE_yes (fun i hi => unhide hall i (by rw [unhide HN]; exact hi))]; rfl, (unhide K2).trans k⟩

end Go.Proofs.Ytjfiabphfjnloaa
