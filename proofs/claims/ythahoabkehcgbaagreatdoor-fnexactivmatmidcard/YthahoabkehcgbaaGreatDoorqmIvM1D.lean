/-
  IvMatOk of the program and of the model: the size is 1 to 4, there are as many intervals as it asks, and each of them is one.
-/
import Derived.Test.YthahoabkehcgbaaGreatDoorqmIvs1
import Derived.Test.YthahoabkehcgbaaGreatDoorqmBW
import Derived.Test.YthahoabkehcgbaaGreatDoorqmIv1D
namespace Go.Proofs.YthahoabkehcgbaaGreatDoor
open Go.RowKit
set_option linter.unusedVariables false
set_option maxRecDepth 8000
set_option linter.unusedSimpArgs false

/-- Whether the interval i is one. -/
def ivE (ds : List DE) (i : Nat) : Bool := iokB (ds.getD (2 * i) de0).1 (ds.getD (2 * i) de0).2.1 (ds.getD (2 * i) de0).2.2 (ds.getD (2 * i + 1) de0).1 (ds.getD (2 * i + 1) de0).2.1 (ds.getD (2 * i + 1) de0).2.2
def ivAll (ds : List DE) (m : Nat) : Bool := (List.range m).all (ivE ds)
/-- What IvMatOk answers. -/
def imokB (n : Int) (ds : List DE) (m : Nat) : Bool := (decide (1 ≤ n) && decide (n ≤ 4)) && (decide ((m : Int) = n * n) && ivAll ds m)
theorem iall_split {ds : List DE} {j m : Nat} (hj : j < m) (hf : ivE ds j = false) : ivAll ds m = false := by
  unfold ivAll
  rw [← Bool.not_eq_true, List.all_eq_true]
  intro h2
  have := h2 j (List.mem_range.2 hj)
  rw [this] at hf; cases hf
theorem iall_done {ds : List DE} {m : Nat} (h : ∀ i, i < m → ivE ds i = true) : ivAll ds m = true := by
  unfold ivAll
  rw [List.all_eq_true]
  intro d hd
  exact h d (List.mem_range.1 hd)
theorem imok_no1 {n : Int} {ds : List DE} {m : Nat} (h : (decide (1 ≤ n) && decide (n ≤ 4)) = false) : imokB n ds m = false := by unfold imokB; rw [h]; rfl
theorem imok_no2 {n : Int} {ds : List DE} {m : Nat} (h : ¬ (m : Int) = n * n) : imokB n ds m = false := by unfold imokB; rw [decide_eq_false h]; simp
theorem imok_yes {n : Int} {ds : List DE} {m : Nat} (h : (decide (1 ≤ n) && decide (n ≤ 4)) = true) (h2 : (m : Int) = n * n) : imokB n ds m = ivAll ds m := by unfold imokB; rw [h, decide_eq_true h2]; simp

set_option maxHeartbeats 2000000 in
theorem ivMatOk1_impl {bw bw' : Bool} {lo hi lo' hi' : Nat} {v u : Value} {zs ys : List Int} (s0 : Bool) (y0 : Int) (g1 : y0 ≤ 9223372036854775807) (g2 : -9223372036854775808 ≤ y0) (s1 : Bool) (y1 : Int) (g3 : y1 ≤ 9223372036854775807) (g4 : -9223372036854775808 ≤ y1) (w : World) (r : Row .i64 bw lo hi w v zs) (r' : Row .i64 bw' lo' hi' w u ys) :
    Calls Tryz.prog 106 #[.agg #[.bool s0, v, .int .i64 y0, .bool s1, u, .int .i64 y1]] w fun e w' => e = .returned (.bool (!iokB s0 zs y0 s1 ys y1)) ∧ Kept 0 0 w w' := by
  have k0 := (Kept.refl 0 0 w).alloc (.cells #[.bool s0, v, .int .i64 y0, .bool s1, u, .int .i64 y1] 102)
  have r0 := r.kept k0 (by omega)
  have r1 := r'.kept k0 (by omega)
  have c0 : (w.alloc (.cells #[.bool s0, v, .int .i64 y0, .bool s1, u, .int .i64 y1] 102)).cell? ⟨w.heap.size, 0, none⟩ = some (.bool s0) := new_cell2 _ _ _ _ _ _ rfl rfl
  have c1 : (w.alloc (.cells #[.bool s0, v, .int .i64 y0, .bool s1, u, .int .i64 y1] 102)).cell? ⟨w.heap.size, 1, none⟩ = some (v) := new_cell2 _ _ _ _ _ _ rfl rfl
  have c2 : (w.alloc (.cells #[.bool s0, v, .int .i64 y0, .bool s1, u, .int .i64 y1] 102)).cell? ⟨w.heap.size, 2, none⟩ = some (.int .i64 y0) := new_cell2 _ _ _ _ _ _ rfl rfl
  have c3 : (w.alloc (.cells #[.bool s0, v, .int .i64 y0, .bool s1, u, .int .i64 y1] 102)).cell? ⟨w.heap.size, 3, none⟩ = some (.bool s1) := new_cell2 _ _ _ _ _ _ rfl rfl
  have c4 : (w.alloc (.cells #[.bool s0, v, .int .i64 y0, .bool s1, u, .int .i64 y1] 102)).cell? ⟨w.heap.size, 4, none⟩ = some (u) := new_cell2 _ _ _ _ _ _ rfl rfl
  have c5 : (w.alloc (.cells #[.bool s0, v, .int .i64 y0, .bool s1, u, .int .i64 y1] 102)).cell? ⟨w.heap.size, 5, none⟩ = some (.int .i64 y1) := new_cell2 _ _ _ _ _ _ rfl rfl
  obtain ⟨a, c, rfl⟩ := Row.form' r
  obtain ⟨a', c', rfl⟩ := Row.form' r'
  clear r r'
  have hd := ivok_impl s0 y0 g1 g2 s1 y1 g3 g4 _ r0 r1
  obtain ⟨Q, hQ⟩ : ∃ q, iokB s0 zs y0 s1 ys y1 = q := ⟨_, rfl⟩
  rw [hQ] at hd ⊢
  clear hQ
  go_enter Tryz.func106, Tryz.ntmps106
  go_wp2_with fail
  refine hd.mono ?_
  rintro e w1 ⟨rfl, k1⟩
  have K1 := hide (k0.trans k1)
  clear hd k0 k1 r0 r1
  go_wp2
  go_ret
  exact ⟨rfl, unhide K1⟩

set_option maxHeartbeats 4000000 in
theorem indexBadV_impl {lo hi n : Nat} {v : Value} {ds : List DE} (w : World) (hw : WfD ds) (r : Ivs lo hi w v ds n) :
    Calls Tryz.prog 165 #[v, .func (.func 106) #[] #[]] w fun e w' => ∃ k : Int, e = .returned (.int .i64 k) ∧ decide (0 ≤ k) = (!ivAll ds n) ∧ Kept 0 0 w w' := by
  obtain ⟨a, c, rfl, hc1, hc2⟩ := r.form
  have hm : n ≤ 9223372036854775807 := by unfold maxLen at hc2; omega
  have HN := hide r.len
  have R := hide r
  have HW := hide hw
  clear r hc1 hc2 hw
  go_enter Tryz.func165, Tryz.ntmps165
  go_wp2
  go_loopw [8] (fun s8 wr => ∃ j : Nat, s8 = .int .i64 j ∧ j ≤ n ∧ Hid (∀ i, i < j → ivE ds i = true) ∧ Kept 0 0 w wr) (fun s8 _ => n - (intOf s8).toNat)
  case atStart => exact ⟨0, rfl, Nat.zero_le _, fun i hi => by omega, Kept.refl _ _ _⟩
  case round =>
    obtain ⟨j, rfl, hj, hall, k⟩ := hrel
    by_cases hlt : j < n
    · skip
      obtain ⟨g, off, ln, ln', rfl, -, -, -, b, kk, b', kk', c0, c1, c2, d0, d1, d2, hln, hln', rr, rr'⟩ := ((unhide R).kept k (by omega)).at (i := j) hlt
      obtain ⟨s0, hs0'⟩ : ∃ q, q = (ds.getD (2 * j) de0).1 := ⟨_, rfl⟩
      obtain ⟨y0, hy0⟩ : ∃ q, q = (ds.getD (2 * j) de0).2.2 := ⟨_, rfl⟩
      obtain ⟨z0, hz0⟩ : ∃ q, q = (ds.getD (2 * j) de0).2.1 := ⟨_, rfl⟩
      obtain ⟨s1, hs1'⟩ : ∃ q, q = (ds.getD (2 * j + 1) de0).1 := ⟨_, rfl⟩
      obtain ⟨y1, hy1⟩ : ∃ q, q = (ds.getD (2 * j + 1) de0).2.2 := ⟨_, rfl⟩
      obtain ⟨z1, hz1⟩ : ∃ q, q = (ds.getD (2 * j + 1) de0).2.1 := ⟨_, rfl⟩
      have hy := unhide HW (2 * j) (by rw [unhide HN]; omega)
      have hy' := unhide HW (2 * j + 1) (by rw [unhide HN]; omega)
      rw [← hs0'] at c0
      rw [← hy0] at c2 hy
      rw [← hz0] at hln rr
      rw [← hs1'] at d0
      rw [← hy1] at d2 hy'
      rw [← hz1] at hln' rr'
      have hE : Hid (ivE ds j = iokB s0 z0 y0 s1 z1 y1) := by show _ = _; rw [hs0', hy0, hz0, hs1', hy1, hz1]; rfl
      have hJ := hide hlt
      clear hs0' hy0 hz0 hln hs1' hy1 hz1 hln'
      have hc := ivMatOk1_impl s0 y0 hy.1 hy.2 s1 y1 hy'.1 hy'.2 wr rr rr'
      clear rr hy rr' hy'
      obtain ⟨QQ, hQQ⟩ : ∃ q, iokB s0 z0 y0 s1 z1 y1 = q := ⟨_, rfl⟩
      rw [hQQ] at hc hE
      clear hQQ
      have hw1 : IntKind.i64.wrap ((j : Int) + 1) = ((j + 1 : Nat) : Int) := by rw [IntKind.wrap_i64]; omega
      go_wp2_with fail
      refine hc.mono ?_
      rintro e w2 ⟨rfl, k2⟩
      have K2 := hide (k.trans k2)
      clear hc k k2 c0 c1 c2 d0 d1 d2
      cases hd : QQ
      · have HD : Hid (ivE ds j = false) := by show _ = _; rw [unhide hE, hd]
        clear hE
        subst hd
        go_wp2
        go_ret
        exact ⟨j, rfl, by rw [iall_split (unhide hJ) (unhide HD)]; simp, unhide K2⟩
      · have HD : Hid (ivE ds j = true) := by show _ = _; rw [unhide hE, hd]
        clear hE
        subst hd
        go_wp2
        go_roundw
        case rel => exact ⟨j + 1, by simp, hlt, fun i hi => by rcases Nat.lt_succ_iff_lt_or_eq.1 hi with h | h; exact unhide hall i h; subst h; exact unhide HD, unhide K2⟩
        case measure => simp [intOf]; omega
    · have hjn : j = n := by omega
      subst hjn
      go_wp2
      go_ret
      exact ⟨-1, rfl, by rw [iall_done (fun i hi => unhide hall i hi)]; rfl, k⟩

theorem containsBadV_impl {lo hi n : Nat} {v : Value} {ds : List DE} (w : World) (hw : WfD ds) (r : Ivs lo hi w v ds n) :
    Calls Tryz.prog 105 #[v, .func (.func 106) #[] #[]] w fun e w' => e = .returned (.bool (!ivAll ds n)) ∧ Kept 0 0 w w' := by
  have hi' := indexBadV_impl w hw r
  obtain ⟨a, c, rfl, -, -⟩ := r.form
  clear r hw
  go_enter Tryz.func105, Tryz.ntmps105
  go_wp2_with fail
  refine hi'.mono ?_
  rintro e w1 ⟨k, rfl, hk, k1⟩
  have HK := hide hk
  clear hk hi'
  go_wp2
  go_ret
  exact ⟨by rw [← unhide HK]; rfl, k1⟩

set_option maxHeartbeats 4000000 in
theorem ivMatOk_impl {lo hi m : Nat} {v : Value} {ds : List DE} (n : Int) (w : World) (hw : WfD ds) (r : Ivs lo hi w v ds m) :
    Calls Tryz.prog 52 #[.agg #[.int .i64 n, v]] w fun e w' => e = .returned (.bool (imokB n ds m)) ∧ Kept 0 0 w w' := by
  have k0 := (Kept.refl 0 0 w).alloc (.cells #[.int .i64 n, v] 28)
  have r0 := r.kept k0 (by omega)
  have c0 : (w.alloc (.cells #[.int .i64 n, v] 28)).cell? ⟨w.heap.size, 0, none⟩ = some (.int .i64 n) := new_cell2 _ _ _ _ _ _ rfl rfl
  have c1 : (w.alloc (.cells #[.int .i64 n, v] 28)).cell? ⟨w.heap.size, 1, none⟩ = some v := new_cell2 _ _ _ _ _ _ rfl rfl
  obtain ⟨a, c, rfl, -, -⟩ := r.form
  clear r
  have hs := isSide_impl n (w.alloc (.cells #[.int .i64 n, .slice a m c] 28))
  have hcb := containsBadV_impl _ hw r0
  cases hsd : (decide (1 ≤ n) && decide (n ≤ 4))
  · rw [hsd] at hs
    have HB := hide (imok_no1 (ds := ds) (m := m) hsd)
    clear hsd hcb
    go_enter Tryz.func52, Tryz.ntmps52
    go_wp2_with fail
    refine hs.mono ?_
    rintro e w1 ⟨rfl, rfl⟩
    go_wp2
    go_ret
    exact ⟨by rw [unhide HB]; rfl, k0⟩
  · rw [hsd] at hs
    have hn : 1 ≤ n ∧ n ≤ 4 := by simpa using hsd
    have hnn : n * n ≤ 16 ∧ 0 ≤ n * n := by
      have h5 : n = 1 ∨ n = 2 ∨ n = 3 ∨ n = 4 := by omega
      rcases h5 with h | h | h | h <;> subst h <;> decide
    obtain ⟨q, hq⟩ : ∃ q, n * n = q := ⟨_, rfl⟩
    have hwr : IntKind.i64.wrap (n * n) = q := by rw [IntKind.wrap_i64]; omega
    have HSD := hide hsd
    have HQ := hide hq
    clear hsd hn hq hnn
    by_cases hl : (m : Int) = q
    · have HB := hide (imok_yes (ds := ds) (m := m) (unhide HSD) (hl.trans (unhide HQ).symm))
      go_enter Tryz.func52, Tryz.ntmps52
      go_wp2_with fail
      refine hs.mono ?_
      rintro e w1 ⟨rfl, rfl⟩
      clear hs
      go_wp2_with fail
      refine hcb.mono ?_
      rintro e w2 ⟨rfl, k2⟩
      have K2 := hide (k0.trans k2)
      clear hcb k0 k2 r0 hl
      go_wp2
      go_ret
      exact ⟨by rw [unhide HB]; simp, unhide K2⟩
    · have HB := hide (imok_no2 (n := n) (ds := ds) (m := m) (fun e => hl (e.trans (unhide HQ))))
      clear hcb
      go_enter Tryz.func52, Tryz.ntmps52
      go_wp2_with fail
      refine hs.mono ?_
      rintro e w1 ⟨rfl, rfl⟩
      clear hs
      go_wp2
      go_ret
      exact ⟨by rw [unhide HB]; rfl, k0⟩

set_option maxHeartbeats 4000000 in
theorem ivMatOk_spec {lo hi m : Nat} {v : Value} {ds : List DE} (n : Int) (w : World) (hw : WfD ds) (r : Ivs lo hi w v ds m) :
    Calls Tryz.prog 49 #[.agg #[.int .i64 n, v]] w fun e w' => e = .returned (.bool (imokB n ds m)) ∧ Kept 0 0 w w' := by
  have k0 := (Kept.refl 0 0 w).alloc (.cells #[.int .i64 n, v] 28)
  have r0 := r.kept k0 (by omega)
  have m0 : (w.alloc (.cells #[.int .i64 n, v] 28)).cell? ⟨w.heap.size, 0, none⟩ = some (.int .i64 n) := new_cell2 _ _ _ _ _ _ rfl rfl
  have m1 : (w.alloc (.cells #[.int .i64 n, v] 28)).cell? ⟨w.heap.size, 1, none⟩ = some v := new_cell2 _ _ _ _ _ _ rfl rfl
  obtain ⟨a, c, rfl, -, -⟩ := r.form
  clear r
  by_cases h1 : n < 1
  · have HB := hide (imok_no1 (n := n) (ds := ds) (m := m) (by rw [decide_eq_false (show ¬ 1 ≤ n by omega)]; rfl))
    go_enter Tryz.func49, Tryz.ntmps49
    go_wp2
    go_ret
    exact ⟨by rw [unhide HB]; rfl, k0⟩
  by_cases h2 : 4 < n
  · have HB := hide (imok_no1 (n := n) (ds := ds) (m := m) (by rw [decide_eq_false (show ¬ n ≤ 4 by omega)]; simp))
    go_enter Tryz.func49, Tryz.ntmps49
    go_wp2
    go_ret
    exact ⟨by rw [unhide HB]; rfl, k0⟩
  have hsd : (decide (1 ≤ n) && decide (n ≤ 4)) = true := by simp; omega
  have hnn : n * n ≤ 16 ∧ 0 ≤ n * n := by
    have h5 : n = 1 ∨ n = 2 ∨ n = 3 ∨ n = 4 := by omega
    rcases h5 with h | h | h | h <;> subst h <;> decide
  obtain ⟨q, hq⟩ : ∃ q, n * n = q := ⟨_, rfl⟩
  have hwr : IntKind.i64.wrap (n * n) = q := by rw [IntKind.wrap_i64]; omega
  have HSD := hide hsd
  have HQ := hide hq
  have HN16 : Hid (q ≤ 16) := by show _ ≤ _; omega
  clear hsd hq hnn
  by_cases hl : (m : Int) = q
  · have HB := hide (imok_yes (ds := ds) (m := m) (unhide HSD) (hl.trans (unhide HQ).symm))
    have hd16 : m ≤ 16 := by have := unhide HN16; omega
    have HN := hide r0.len
    have R := hide r0
    have HW := hide hw
    clear r0 hw
    go_enter Tryz.func49, Tryz.ntmps49
    go_wp2
    generalize (w.alloc (.cells #[.int .i64 n, .slice a m c] 28)) = W at *
    go_loopw [3] (fun s3 wr => ∃ j : Nat, s3 = .int .i64 j ∧ j ≤ m ∧ Hid (∀ i, i < j → ivE ds i = true) ∧ Kept 0 0 W wr) (fun s3 _ => m - (intOf s3).toNat)
    case atStart => exact ⟨0, rfl, Nat.zero_le _, fun i hi => by omega, Kept.refl _ _ _⟩
    case round =>
      obtain ⟨j, rfl, hj, hall, k⟩ := hrel
      have c1' := k.cell0 m1
      by_cases hlt : j < m
      · skip
        obtain ⟨g, off, ln, ln', rfl, -, -, -, b, kk, b', kk', c0, c1, c2, d0, d1, d2, hln, hln', rr, rr'⟩ := ((unhide R).kept k (by omega)).at (i := j) hlt
        obtain ⟨s0, hs0'⟩ : ∃ q, q = (ds.getD (2 * j) de0).1 := ⟨_, rfl⟩
        obtain ⟨y0, hy0⟩ : ∃ q, q = (ds.getD (2 * j) de0).2.2 := ⟨_, rfl⟩
        obtain ⟨z0, hz0⟩ : ∃ q, q = (ds.getD (2 * j) de0).2.1 := ⟨_, rfl⟩
        obtain ⟨s1, hs1'⟩ : ∃ q, q = (ds.getD (2 * j + 1) de0).1 := ⟨_, rfl⟩
        obtain ⟨y1, hy1⟩ : ∃ q, q = (ds.getD (2 * j + 1) de0).2.2 := ⟨_, rfl⟩
        obtain ⟨z1, hz1⟩ : ∃ q, q = (ds.getD (2 * j + 1) de0).2.1 := ⟨_, rfl⟩
        have hy := unhide HW (2 * j) (by rw [unhide HN]; omega)
        have hy' := unhide HW (2 * j + 1) (by rw [unhide HN]; omega)
        rw [← hs0'] at c0
        rw [← hy0] at c2 hy
        rw [← hz0] at hln rr
        rw [← hs1'] at d0
        rw [← hy1] at d2 hy'
        rw [← hz1] at hln' rr'
        have hE : Hid (ivE ds j = iokB s0 z0 y0 s1 z1 y1) := by show _ = _; rw [hs0', hy0, hz0, hs1', hy1, hz1]; rfl
        have hJ := hide hlt
        clear hs0' hy0 hz0 hln hs1' hy1 hz1 hln'
        have hc := ivok_spec s0 y0 hy.1 hy.2 s1 y1 hy'.1 hy'.2 wr rr rr'
        clear rr hy rr' hy'
        obtain ⟨QQ, hQQ⟩ : ∃ q, iokB s0 z0 y0 s1 z1 y1 = q := ⟨_, rfl⟩
        rw [hQQ] at hc hE
        clear hQQ
        have hw1 : IntKind.i64.wrap ((j : Int) + 1) = ((j + 1 : Nat) : Int) := by rw [IntKind.wrap_i64]; omega
        go_wp2_with fail
        refine hc.mono ?_
        rintro e w2 ⟨rfl, k2⟩
        have K2 := hide (k.trans k2)
        clear hc k k2 c0 c1 c2 d0 d1 d2 c1'
        cases hd : QQ
        · have HD : Hid (ivE ds j = false) := by show _ = _; rw [unhide hE, hd]
          clear hE
          subst hd
          go_wp2
          go_ret
          exact ⟨by rw [unhide HB, iall_split (unhide hJ) (unhide HD)]; rfl, k0.trans (unhide K2)⟩
        · have HD : Hid (ivE ds j = true) := by show _ = _; rw [unhide hE, hd]
          clear hE
          subst hd
          go_wp2
          go_roundw
          case rel => exact ⟨j + 1, by simp, hlt, fun i hi => by rcases Nat.lt_succ_iff_lt_or_eq.1 hi with h | h; exact unhide hall i h; subst h; exact unhide HD, unhide K2⟩
          case measure => simp [intOf]; omega
      · have hjn : j = m := by omega
        subst hjn
        go_wp2
        go_ret
        exact ⟨by rw [unhide HB, iall_done (fun i hi => unhide hall i hi)]; rfl, k0.trans k⟩
  · have HB := hide (imok_no2 (n := n) (ds := ds) (m := m) (fun e => hl (e.trans (unhide HQ))))
    go_enter Tryz.func49, Tryz.ntmps49
    go_wp2
    go_ret
    exact ⟨by rw [unhide HB]; rfl, k0⟩

end Go.Proofs.YthahoabkehcgbaaGreatDoor

