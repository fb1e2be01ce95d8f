/-
  IvMatOk of the program and of the model: the size is 1 to 4, there are as many intervals as it asks, and each of them is one.
-/
import Derived.Test.YthahoabkehcgbaaDoorIvs1
import Derived.Test.YthahoabkehcgbaaDoorBW
import Derived.Test.YthahoabkehcgbaaDoorIv1D
namespace Go.Proofs.YthahoabkehcgbaaDoor
open Go.RowKit
set_option linter.unusedVariables false
set_option maxRecDepth 8000
set_option linter.unusedSimpArgs false

/-- Whether the interval i is one. -/
def ivE (ds : List DE) (i : Nat) : Bool := iokB (ds.getD (2 * i) de0).1 (ds.getD (2 * i) de0).2.1 (ds.getD (2 * i) de0).2.2 (ds.getD (2 * i + 1) de0).1 (ds.getD (2 * i + 1) de0).2.1 (ds.getD (2 * i + 1) de0).2.2
def ivAll (ds : List DE) (m : Nat) : Bool := (List.range m).all (ivE ds)
/-- What IvMatOk answers. -/
def imokB (n : Int) (ds : List DE) (m : Nat) : Bool := (decide (1 ≤ n) && decide (n ≤ 4)) && (decide ((m : Int) = n * n) && ivAll ds m)
theorem iall_split {ds : List DE} {j m : Nat} (hj : j < m) (hf : ivE ds j = false) : ivAll ds m = false := by
  unfold ivAll
  rw [← Bool.not_eq_true, List.all_eq_true]
  intro h2
  have := h2 j (List.mem_range.2 hj)
  rw [this] at hf; cases hf
theorem iall_done {ds : List DE} {m : Nat} (h : ∀ i, i < m → ivE ds i = true) : ivAll ds m = true := by
  unfold ivAll
  rw [List.all_eq_true]
  intro d hd
  exact h d (List.mem_range.1 hd)
theorem imok_no1 {n : Int} {ds : List DE} {m : Nat} (h : (decide (1 ≤ n) && decide (n ≤ 4)) = false) : imokB n ds m = false := by unfold imokB; rw [h]; rfl
theorem imok_no2 {n : Int} {ds : List DE} {m : Nat} (h : ¬ (m : Int) = n * n) : imokB n ds m = false := by unfold imokB; rw [decide_eq_false h]; simp
theorem imok_yes {n : Int} {ds : List DE} {m : Nat} (h : (decide (1 ≤ n) && decide (n ≤ 4)) = true) (h2 : (m : Int) = n * n) : imokB n ds m = ivAll ds m := by unfold imokB; rw [h, decide_eq_true h2]; simp

set_option maxHeartbeats 4000000 in
theorem ivMatOk_spec {lo hi m : Nat} {v : Value} {ds : List DE} (n : Int) (w : World) (hw : WfD ds) (r : Ivs lo hi w v ds m) :
    Calls Tryd.prog 29 #[.agg #[.int .i64 n, v]] w fun e w' => e = .returned (.bool (imokB n ds m)) ∧ Kept 0 0 w w' := by
  have k0 := (Kept.refl 0 0 w).alloc (.cells #[.int .i64 n, v] 28)
  have r0 := r.kept k0 (by omega)
  have m0 : (w.alloc (.cells #[.int .i64 n, v] 28)).cell? ⟨w.heap.size, 0, none⟩ = some (.int .i64 n) := new_cell2 _ _ _ _ _ _ rfl rfl
  have m1 : (w.alloc (.cells #[.int .i64 n, v] 28)).cell? ⟨w.heap.size, 1, none⟩ = some v := new_cell2 _ _ _ _ _ _ rfl rfl
  obtain ⟨a, c, rfl, -, -⟩ := r.form
  clear r
  by_cases h1 : n < 1
  · have HB := hide (imok_no1 (n := n) (ds := ds) (m := m) (by rw [decide_eq_false (show ¬ 1 ≤ n by omega)]; rfl))
    go_enter Tryd.func29, Tryd.ntmps29
    go_wp2
    go_ret
    exact ⟨by rw [unhide HB]; rfl, k0⟩
  by_cases h2 : 4 < n
  · have HB := hide (imok_no1 (n := n) (ds := ds) (m := m) (by rw [decide_eq_false (show ¬ n ≤ 4 by omega)]; simp))
    go_enter Tryd.func29, Tryd.ntmps29
    go_wp2
    go_ret
    exact ⟨by rw [unhide HB]; rfl, k0⟩
  have hsd : (decide (1 ≤ n) && decide (n ≤ 4)) = true := by simp; omega
  have hnn : n * n ≤ 16 ∧ 0 ≤ n * n := by
    have h5 : n = 1 ∨ n = 2 ∨ n = 3 ∨ n = 4 := by omega
    rcases h5 with h | h | h | h <;> subst h <;> decide
  obtain ⟨q, hq⟩ : ∃ q, n * n = q := ⟨_, rfl⟩
  have hwr : IntKind.i64.wrap (n * n) = q := by rw [IntKind.wrap_i64]; omega
  have HSD := hide hsd
  have HQ := hide hq
  have HN16 : Hid (q ≤ 16) := by show _ ≤ _; omega
  clear hsd hq hnn
  by_cases hl : (m : Int) = q
  · have HB := hide (imok_yes (ds := ds) (m := m) (unhide HSD) (hl.trans (unhide HQ).symm))
    have hd16 : m ≤ 16 := by have := unhide HN16; omega
    have HN := hide r0.len
    have R := hide r0
    have HW := hide hw
    clear r0 hw
    go_enter Tryd.func29, Tryd.ntmps29
    go_wp2
    generalize (w.alloc (.cells #[.int .i64 n, .slice a m c] 28)) = W at *
    go_loopw [3] (fun s3 wr => ∃ j : Nat, s3 = .int .i64 j ∧ j ≤ m ∧ Hid (∀ i, i < j → ivE ds i = true) ∧ Kept 0 0 W wr) (fun s3 _ => m - (intOf s3).toNat)
    case atStart => exact ⟨0, rfl, Nat.zero_le _, fun i hi => by omega, Kept.refl _ _ _⟩
    case round =>
      obtain ⟨j, rfl, hj, hall, k⟩ := hrel
      have c1' := k.cell0 m1
      by_cases hlt : j < m
      · skip
        obtain ⟨g, off, ln, ln', rfl, -, -, -, b, kk, b', kk', c0, c1, c2, d0, d1, d2, hln, hln', rr, rr'⟩ := ((unhide R).kept k (by omega)).at (i := j) hlt
        obtain ⟨s0, hs0'⟩ : ∃ q, q = (ds.getD (2 * j) de0).1 := ⟨_, rfl⟩
        obtain ⟨y0, hy0⟩ : ∃ q, q = (ds.getD (2 * j) de0).2.2 := ⟨_, rfl⟩
        obtain ⟨z0, hz0⟩ : ∃ q, q = (ds.getD (2 * j) de0).2.1 := ⟨_, rfl⟩
        obtain ⟨s1, hs1'⟩ : ∃ q, q = (ds.getD (2 * j + 1) de0).1 := ⟨_, rfl⟩
        obtain ⟨y1, hy1⟩ : ∃ q, q = (ds.getD (2 * j + 1) de0).2.2 := ⟨_, rfl⟩
        obtain ⟨z1, hz1⟩ : ∃ q, q = (ds.getD (2 * j + 1) de0).2.1 := ⟨_, rfl⟩
        have hy := unhide HW (2 * j) (by rw [unhide HN]; omega)
        have hy' := unhide HW (2 * j + 1) (by rw [unhide HN]; omega)
        rw [← hs0'] at c0
        rw [← hy0] at c2 hy
        rw [← hz0] at hln rr
        rw [← hs1'] at d0
        rw [← hy1] at d2 hy'
        rw [← hz1] at hln' rr'
        have hE : Hid (ivE ds j = iokB s0 z0 y0 s1 z1 y1) := by show _ = _; rw [hs0', hy0, hz0, hs1', hy1, hz1]; rfl
        have hJ := hide hlt
        clear hs0' hy0 hz0 hln hs1' hy1 hz1 hln'
        have hc := ivok_spec s0 y0 hy.1 hy.2 s1 y1 hy'.1 hy'.2 wr rr rr'
        clear rr hy rr' hy'
        obtain ⟨QQ, hQQ⟩ : ∃ q, iokB s0 z0 y0 s1 z1 y1 = q := ⟨_, rfl⟩
        rw [hQQ] at hc hE
        clear hQQ
        have hw1 : IntKind.i64.wrap ((j : Int) + 1) = ((j + 1 : Nat) : Int) := by rw [IntKind.wrap_i64]; omega
        go_wp2_with fail
        refine hc.mono ?_
        rintro e w2 ⟨rfl, k2⟩
        have K2 := hide (k.trans k2)
        clear hc k k2 c0 c1 c2 d0 d1 d2 c1'
        cases hd : QQ
        · have HD : Hid (ivE ds j = false) := by show _ = _; rw [unhide hE, hd]
          clear hE
          subst hd
          go_wp2
          go_ret
          exact ⟨by rw [unhide HB, iall_split (unhide hJ) (unhide HD)]; rfl, k0.trans (unhide K2)⟩
        · have HD : Hid (ivE ds j = true) := by show _ = _; rw [unhide hE, hd]
          clear hE
          subst hd
          go_wp2
          go_roundw
          case rel => exact ⟨j + 1, by simp, hlt, fun i hi => by rcases Nat.lt_succ_iff_lt_or_eq.1 hi with h | h; exact unhide hall i h; subst h; exact unhide HD, unhide K2⟩
          case measure => simp [intOf]; omega
      · have hjn : j = m := by omega
        subst hjn
        go_wp2
        go_ret
        exact ⟨by rw [unhide HB, iall_done (fun i hi => unhide hall i hi)]; rfl, k0.trans k⟩
  · have HB := hide (imok_no2 (n := n) (ds := ds) (m := m) (fun e => hl (e.trans (unhide HQ))))
    go_enter Tryd.func29, Tryd.ntmps29
    go_wp2
    go_ret
    exact ⟨by rw [unhide HB]; rfl, k0⟩

end Go.Proofs.YthahoabkehcgbaaDoor
