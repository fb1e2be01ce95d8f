/-
  Contracts that the proofs of this seat share: Mat1, Step2, Sqh, Pl2.
-/
import Derived.Test.YthahoabkehcgbaaGreatDoorqmBM
import Derived.Test.YthahoabkehcgbaaGreatDoorqmDy1
import Derived.Test.YthahoabkehcgbaaGreatDoorqmBC
import Derived.Test.YthahoabkehcgbaaGreatDoorqmBQ
import Derived.Deep.RegionHeld3
import Derived.Deep.DeepCutAuto
import Derived.Test.YthahoabkehcgbaaGreatDoorqmBV
namespace Go.Proofs.YthahoabkehcgbaaGreatDoor
open Go.RowKit
set_option linter.unusedVariables false
set_option maxRecDepth 8000
set_option linter.unusedSimpArgs false

def dOkE (d : DE) : Bool := dokB d.1 d.2.1 d.2.2
/-- What MatOk answers. -/
def mokB (n : Int) (ds : List DE) : Bool := (decide (1 ≤ n) && decide (n ≤ 4)) && (decide ((ds.length : Int) = n * n) && ds.all dOkE)
/-- The powers of two are ints. -/
def WfD (ds : List DE) : Prop := ∀ i, i < ds.length → (ds.getD i de0).2.2 ≤ 9223372036854775807 ∧ -9223372036854775808 ≤ (ds.getD i de0).2.2
theorem wfD_of {ds : List DE} (h : ∀ d ∈ ds, (Lit.int .i64 d.2.2).wf = true) : WfD ds := by
  intro i hi
  have h1 := h (ds.getD i de0) (by simp [List.getD, hi])
  generalize (ds.getD i de0).2.2 = n at *
  have e : (Lit.int .i64 n).wf = (decide (IntKind.i64.min ≤ n) && decide (n ≤ IntKind.i64.max)) := rfl
  rw [e, show IntKind.i64.min = -9223372036854775808 by decide, show IntKind.i64.max = 9223372036854775807 by decide] at h1
  simp at h1
  omega
theorem all_split {ds : List DE} {f : DE → Bool} {j : Nat} (hj : j < ds.length) (h : ∀ i, i < j → f (ds.getD i de0) = true) (hf : f (ds.getD j de0) = false) : ds.all f = false := by
  rw [← Bool.not_eq_true, List.all_eq_true]
  intro h2
  have := h2 (ds.getD j de0) (by simp [List.getD, hj])
  rw [this] at hf; cases hf
theorem all_done {ds : List DE} {f : DE → Bool} (h : ∀ i, i < ds.length → f (ds.getD i de0) = true) : ds.all f = true := by
  rw [List.all_eq_true]
  intro d hd
  obtain ⟨i, hi, rfl⟩ := List.mem_iff_getElem.1 hd
  have := h i hi
  simpa [List.getD, hi] using this

theorem isSide_impl (n : Int) (w : World) : Calls Tryz.prog 104 #[.int .i64 n] w fun e w' => e = .returned (.bool (decide (1 ≤ n) && decide (n ≤ 4))) ∧ w' = w := by
  by_cases h1 : 1 ≤ n
  · by_cases h2 : n ≤ 4
    · go_enter Tryz.func104, Tryz.ntmps104
      go_wp2
      go_ret
      exact ⟨by simp [h1, h2], rfl⟩
    · go_enter Tryz.func104, Tryz.ntmps104
      go_wp2
      go_ret
      exact ⟨by simp [h1, h2], rfl⟩
  · go_enter Tryz.func104, Tryz.ntmps104
    go_wp2
    go_ret
    exact ⟨by rw [decide_eq_false (show ¬ 1 ≤ n by omega)]; rfl, rfl⟩

theorem mok_no1 {n : Int} {ds : List DE} (h : (decide (1 ≤ n) && decide (n ≤ 4)) = false) : mokB n ds = false := by unfold mokB; rw [h]; rfl
theorem mok_no2 {n : Int} {ds : List DE} (h : ¬ (ds.length : Int) = n * n) : mokB n ds = false := by unfold mokB; rw [decide_eq_false h]; simp
theorem mok_yes {n : Int} {ds : List DE} (h : (decide (1 ≤ n) && decide (n ≤ 4)) = true) (h2 : (ds.length : Int) = n * n) : mokB n ds = ds.all dOkE := by unfold mokB; rw [h, decide_eq_true h2]; simp
theorem mok_partsA {n : Int} {ds : List DE} (h : mokB n ds = true) : 1 ≤ n ∧ n ≤ 4 ∧ (ds.length : Int) = n * n ∧ ∀ i, i < ds.length → dokB (ds.getD i de0).1 (ds.getD i de0).2.1 (ds.getD i de0).2.2 = true := by
  unfold mokB at h
  simp only [Bool.and_eq_true, decide_eq_true_eq] at h
  obtain ⟨⟨h1, h2⟩, h3, h4⟩ := h
  refine ⟨h1, h2, h3, fun i hi => ?_⟩
  rw [List.all_eq_true] at h4
  exact h4 (ds.getD i de0) (by simp [List.getD, hi])

set_option maxHeartbeats 4000000 in
theorem matOk_spec {lo hi : Nat} {v : Value} {ds : List DE} (n : Int) (w : World) (hw : WfD ds) (r : Dys lo hi w v ds) :
    Calls Tryz.prog 132 #[.agg #[.int .i64 n, v]] w fun e w' => e = .returned (.bool (mokB n ds)) ∧ Kept 0 0 w w' := by
  have k0 := (Kept.refl 0 0 w).alloc (.cells #[.int .i64 n, v] 59)
  have r0 := r.kept k0 (by omega)
  have c0 : (w.alloc (.cells #[.int .i64 n, v] 59)).cell? ⟨w.heap.size, 0, none⟩ = some (.int .i64 n) := new_cell2 _ _ _ _ _ _ rfl rfl
  have c1 : (w.alloc (.cells #[.int .i64 n, v] 59)).cell? ⟨w.heap.size, 1, none⟩ = some v := new_cell2 _ _ _ _ _ _ rfl rfl
  obtain ⟨a, c, rfl, -, -⟩ := r.form
  clear r
  by_cases h1 : n < 1
  · have HB := hide (mok_no1 (n := n) (ds := ds) (by rw [decide_eq_false (show ¬ 1 ≤ n by omega)]; rfl))
    go_enter Tryz.func132, Tryz.ntmps132
    go_wp2
    go_ret
    exact ⟨by rw [unhide HB]; rfl, k0⟩
  by_cases h2 : 4 < n
  · have HB := hide (mok_no1 (n := n) (ds := ds) (by rw [decide_eq_false (show ¬ n ≤ 4 by omega)]; simp))
    go_enter Tryz.func132, Tryz.ntmps132
    go_wp2
    go_ret
    exact ⟨by rw [unhide HB]; rfl, k0⟩
  have hsd : (decide (1 ≤ n) && decide (n ≤ 4)) = true := by simp; omega
  have hnn : n * n ≤ 16 ∧ 0 ≤ n * n := by
    have h5 : n = 1 ∨ n = 2 ∨ n = 3 ∨ n = 4 := by omega
    rcases h5 with h | h | h | h <;> subst h <;> decide
  obtain ⟨q, hq⟩ : ∃ q, n * n = q := ⟨_, rfl⟩
  have hwr : IntKind.i64.wrap (n * n) = q := by rw [IntKind.wrap_i64]; omega
  have HSD := hide hsd
  have HQ := hide hq
  have HN16 : Hid (q ≤ 16) := by show _ ≤ _; omega
  clear hsd hq hnn
  by_cases hl : (ds.length : Int) = q
  · have HB := hide (mok_yes (unhide HSD) (hl.trans (unhide HQ).symm))
    have hd16 : ds.length ≤ 16 := by have := unhide HN16; omega
    obtain ⟨m, hm⟩ : ∃ m, m = ds.length := ⟨_, rfl⟩
    rw [← hm] at r0 c1 hl hd16 k0 c0 ⊢
    have HM := hide hm
    have R := hide r0
    have HW := hide hw
    clear hm r0 hw
    go_enter Tryz.func132, Tryz.ntmps132
    go_wp2
    generalize (w.alloc (.cells #[.int .i64 n, .slice a m c] 59)) = W at *
    go_loopw [3] (fun s3 wr => ∃ j : Nat, s3 = .int .i64 j ∧ j ≤ m ∧ Hid (∀ i, i < j → dOkE (ds.getD i de0) = true) ∧ Kept 0 0 W wr) (fun s3 _ => m - (intOf s3).toNat)
    case atStart => exact ⟨0, rfl, Nat.zero_le _, fun i hi => by omega, Kept.refl _ _ _⟩
    case round =>
      obtain ⟨j, rfl, hj, hall, k⟩ := hrel
      have c1' := k.cell0 c1
      by_cases hlt : j < m
      · have hjl : j < ds.length := by rw [← unhide HM]; exact hlt
        obtain ⟨g, off, ln, rfl, -, -, -, b, kk, e0, e1, e2, hln, rr⟩ := ((unhide R).kept k (by omega)).at (i := j) hjl
        have hy := unhide HW j hjl
        obtain ⟨s0, hs0'⟩ : ∃ q, q = (ds.getD j de0).1 := ⟨_, rfl⟩
        obtain ⟨y0, hy0⟩ : ∃ q, q = (ds.getD j de0).2.2 := ⟨_, rfl⟩
        obtain ⟨z0, hz0⟩ : ∃ q, q = (ds.getD j de0).2.1 := ⟨_, rfl⟩
        rw [← hs0'] at e0
        rw [← hy0] at e2 hy
        rw [← hz0] at hln rr
        have hE : Hid (dOkE (ds.getD j de0) = dokB s0 z0 y0) := by show _ = _; rw [hs0', hy0, hz0]; rfl
        have hJ := hide hjl
        clear hs0' hy0 hz0 hln hjl
        have hc := dok_spec s0 y0 hy.1 hy.2 wr rr
        clear rr hy
        have hw1 : IntKind.i64.wrap ((j : Int) + 1) = ((j + 1 : Nat) : Int) := by rw [IntKind.wrap_i64]; omega
        go_wp2_with fail
        refine hc.mono ?_
        rintro e w2 ⟨rfl, k2⟩
        have K2 := hide (k.trans k2)
        clear hc k k2 e0 e1 e2 c1'
        cases hd : dokB s0 z0 y0
        · have HD : Hid (dOkE (ds.getD j de0) = false) := by show _ = _; rw [unhide hE, hd]
          clear hd
          go_wp2
          go_ret
          exact ⟨by rw [unhide HB, all_split (unhide hJ) (unhide hall) (unhide HD)]; rfl, k0.trans (unhide K2)⟩
        · have HD : Hid (dOkE (ds.getD j de0) = true) := by show _ = _; rw [unhide hE, hd]
          clear hd
          go_wp2
          go_roundw
          case rel => exact ⟨j + 1, by simp, hlt, fun i hi => by rcases Nat.lt_succ_iff_lt_or_eq.1 hi with h | h; exact unhide hall i h; subst h; exact unhide HD, unhide K2⟩
          case measure => simp [intOf]; omega
      · have hjn : j = m := by omega
        subst hjn
        go_wp2
        go_ret
        exact ⟨by rw [unhide HB, all_done (fun i hi => unhide hall i (by rw [unhide HM]; exact hi))]; rfl, k0.trans k⟩
  · have HB := hide (mok_no2 (n := n) (ds := ds) (fun e => hl (e.trans (unhide HQ))))
    go_enter Tryz.func132, Tryz.ntmps132
    go_wp2
    go_ret
    exact ⟨by rw [unhide HB]; rfl, k0⟩

end Go.Proofs.YthahoabkehcgbaaGreatDoor

namespace Go.Proofs.YthahoabkehcgbaaGreatDoor
open Go.RowKit
set_option linter.unusedVariables false
set_option maxRecDepth 8000
set_option linter.unusedSimpArgs false

end Go.Proofs.YthahoabkehcgbaaGreatDoor

namespace Go.Proofs.YthahoabkehcgbaaGreatDoor
open Go.RowKit
set_option linter.unusedVariables false
set_option maxRecDepth 8000
set_option linter.unusedSimpArgs false

theorem Nums.less {b b' k : Nat} {S : Nat → Prop} {w : World} {G : Nat → Nat} {F : Nat → DE} (h : Nums b S w k G F) (hb : b' ≤ b) : Nums b' S w k G F := by
  obtain ⟨L, H, h1, h2⟩ := h
  exact ⟨L, H, fun p hp => by obtain ⟨d, q1, q2, q3⟩ := h1 p hp; exact ⟨d, by omega, q2, q3⟩, h2⟩
theorem in_newDyadic : ∀ (w : World) (args : Array Value), (callFunc 65 args).run Tryz.prog w = .ok (.enter 65 args) w := enters Tryz.func65 (by decide) (fun h => by cases h)

set_option maxHeartbeats 4000000 in
theorem newDyadic_impl {bw : Bool} {lo hi : Nat} {v0 : Value} {z : List Int} (s0 : Bool) (y0 : Int) (w : World) (rr : Row .i64 bw lo hi w v0 z) (hz : z.length ≤ 1000000) :
    Calls Tryz.prog 65 #[.agg #[.bool s0, v0, .int .i64 y0]] w fun e w' => ∃ g, e = .returned (.pointer (some ⟨g, 0, none⟩)) ∧ DyP (fun x => x < w.heap.size) w' g (s0, z, y0) ∧ Kept 0 0 w w' := by
  have kA := (Kept.refl 0 0 w).alloc (.cells #[.bool s0, v0, .int .i64 y0] 52)
  have c0 : (w.alloc (.cells #[.bool s0, v0, .int .i64 y0] 52)).cell? ⟨w.heap.size, 0, none⟩ = some (.bool s0) := new_cell2 _ _ _ _ _ _ rfl rfl
  have c1 : (w.alloc (.cells #[.bool s0, v0, .int .i64 y0] 52)).cell? ⟨w.heap.size, 1, none⟩ = some v0 := new_cell2 _ _ _ _ _ _ rfl rfl
  have c2 : (w.alloc (.cells #[.bool s0, v0, .int .i64 y0] 52)).cell? ⟨w.heap.size, 2, none⟩ = some (.int .i64 y0) := new_cell2 _ _ _ _ _ _ rfl rfl
  have hd := dyadicOf_impl s0 y0 _ (rr.kept kA (by omega)) hz
  have sA : (w.alloc (.cells #[.bool s0, v0, .int .i64 y0] 52)).heap.size = w.heap.size + 1 := by simp
  have KA := hide kA
  obtain ⟨b0, l0, rfl⟩ := Row.form' rr
  clear rr kA
  go_enter Tryz.func65, Tryz.ntmps65
  go_wp2_with fail
  refine hd.mono ?_
  rintro e w1 ⟨v1, rfl, o1, k1⟩
  obtain ⟨a1, d1, hv1⟩ := own_slice o1
  subst hv1
  obtain ⟨n1, s1, x1⟩ := new_dya s0 y0 150 o1
  have ks := k1.size
  have D : Hid (DyP (fun x => x < w.heap.size) (w1.alloc (.cells #[.slice a1 z.length d1, .bool s0, .int .i64 y0] 150)) w1.heap.size (s0, z, y0)) :=
    ⟨_, n1.less (Nat.zero_le _), s1, x1, by omega, fun q hq => by have := (o1.lt q hq).1; omega⟩
  have K1 := hide (((unhide KA).trans k1).alloc (.cells #[.slice a1 z.length d1, .bool s0, .int .i64 y0] 150))
  clear hd n1 s1 x1 o1 k1 c0 c1 c2 KA sA
  go_wp2
  go_ret
  exact ⟨_, rfl, unhide D, unhide K1⟩

end Go.Proofs.YthahoabkehcgbaaGreatDoor

namespace Go.Proofs.YthahoabkehcgbaaGreatDoor
open Go.RowKit
set_option linter.unusedVariables false
set_option maxRecDepth 8000
set_option linter.unusedSimpArgs false

end Go.Proofs.YthahoabkehcgbaaGreatDoor

