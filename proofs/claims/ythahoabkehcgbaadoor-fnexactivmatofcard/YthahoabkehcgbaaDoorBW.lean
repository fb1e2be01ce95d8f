/-
  Contracts that the proofs of this seat share: Mat1, Step2, Sqh, Pl2.
-/
import Derived.Test.YthahoabkehcgbaaDoorBM
import Derived.Test.YthahoabkehcgbaaDoorDy1
import Derived.Test.YthahoabkehcgbaaDoorBC
import Derived.Test.YthahoabkehcgbaaDoorBQ
import Derived.Deep.RegionHeld3
import Derived.Deep.DeepCutAuto
import Derived.Test.YthahoabkehcgbaaDoorBV
namespace Go.Proofs.YthahoabkehcgbaaDoor
open Go.RowKit
set_option linter.unusedVariables false
set_option maxRecDepth 8000
set_option linter.unusedSimpArgs false

def dOkE (d : DE) : Bool := dokB d.1 d.2.1 d.2.2
/-- What MatOk answers. -/
def mokB (n : Int) (ds : List DE) : Bool := (decide (1 ≤ n) && decide (n ≤ 4)) && (decide ((ds.length : Int) = n * n) && ds.all dOkE)
/-- The powers of two are ints. -/
def WfD (ds : List DE) : Prop := ∀ i, i < ds.length → (ds.getD i de0).2.2 ≤ 9223372036854775807 ∧ -9223372036854775808 ≤ (ds.getD i de0).2.2
theorem wfD_of {ds : List DE} (h : ∀ d ∈ ds, (Lit.int .i64 d.2.2).wf = true) : WfD ds := by
  intro i hi
  have h1 := h (ds.getD i de0) (by simp [List.getD, hi])
  generalize (ds.getD i de0).2.2 = n at *
  have e : (Lit.int .i64 n).wf = (decide (IntKind.i64.min ≤ n) && decide (n ≤ IntKind.i64.max)) := rfl
  rw [e, show IntKind.i64.min = -9223372036854775808 by decide, show IntKind.i64.max = 9223372036854775807 by decide] at h1
  simp at h1
  omega
theorem all_split {ds : List DE} {f : DE → Bool} {j : Nat} (hj : j < ds.length) (h : ∀ i, i < j → f (ds.getD i de0) = true) (hf : f (ds.getD j de0) = false) : ds.all f = false := by
  rw [← Bool.not_eq_true, List.all_eq_true]
  intro h2
  have := h2 (ds.getD j de0) (by simp [List.getD, hj])
  rw [this] at hf; cases hf
theorem all_done {ds : List DE} {f : DE → Bool} (h : ∀ i, i < ds.length → f (ds.getD i de0) = true) : ds.all f = true := by
  rw [List.all_eq_true]
  intro d hd
  obtain ⟨i, hi, rfl⟩ := List.mem_iff_getElem.1 hd
  have := h i hi
  simpa [List.getD, hi] using this

theorem isSide_impl (n : Int) (w : World) : Calls Tryd.prog 33 #[.int .i64 n] w fun e w' => e = .returned (.bool (decide (1 ≤ n) && decide (n ≤ 4))) ∧ w' = w := by
  by_cases h1 : 1 ≤ n
  · by_cases h2 : n ≤ 4
    · go_enter Tryd.func33, Tryd.ntmps33
      go_wp2
      go_ret
      exact ⟨by simp [h1, h2], rfl⟩
    · go_enter Tryd.func33, Tryd.ntmps33
      go_wp2
      go_ret
      exact ⟨by simp [h1, h2], rfl⟩
  · go_enter Tryd.func33, Tryd.ntmps33
    go_wp2
    go_ret
    exact ⟨by rw [decide_eq_false (show ¬ 1 ≤ n by omega)]; rfl, rfl⟩

theorem matOk1_impl {bw : Bool} {lo hi : Nat} {v : Value} {zs : List Int} (b : Bool) (x : Int) (hx1 : x ≤ 9223372036854775807) (hx0 : -9223372036854775808 ≤ x) (w : World) (r : Row .i64 bw lo hi w v zs) :
    Calls Tryd.prog 52 #[.agg #[.bool b, v, .int .i64 x]] w fun e w' => e = .returned (.bool (!dokB b zs x)) ∧ Kept 0 0 w w' := by
  have k0 := (Kept.refl 0 0 w).alloc (.cells #[.bool b, v, .int .i64 x] 52)
  have r0 := r.kept k0 (by omega)
  have c0 : (w.alloc (.cells #[.bool b, v, .int .i64 x] 52)).cell? ⟨w.heap.size, 0, none⟩ = some (.bool b) := new_cell2 _ _ _ _ _ _ rfl rfl
  have c1 : (w.alloc (.cells #[.bool b, v, .int .i64 x] 52)).cell? ⟨w.heap.size, 1, none⟩ = some v := new_cell2 _ _ _ _ _ _ rfl rfl
  have c2 : (w.alloc (.cells #[.bool b, v, .int .i64 x] 52)).cell? ⟨w.heap.size, 2, none⟩ = some (.int .i64 x) := new_cell2 _ _ _ _ _ _ rfl rfl
  obtain ⟨a, c, rfl⟩ := Row.form' r
  clear r
  have hd := dok_impl b x hx1 hx0 _ r0
  go_enter Tryd.func52, Tryd.ntmps52
  go_wp2_with fail
  refine hd.mono ?_
  rintro e w1 ⟨rfl, k1⟩
  have K1 := hide (k0.trans k1)
  clear hd k0 k1 r0
  go_wp2
  go_ret
  exact ⟨rfl, unhide K1⟩

set_option maxHeartbeats 4000000 in
theorem indexBad_impl {lo hi : Nat} {v : Value} {ds : List DE} (w : World) (hw : WfD ds) (r : Dys lo hi w v ds) :
    Calls Tryd.prog 64 #[v, .func (.func 52) #[] #[]] w fun e w' => ∃ k : Int, e = .returned (.int .i64 k) ∧ decide (0 ≤ k) = (!ds.all dOkE) ∧ Kept 0 0 w w' := by
  obtain ⟨a, c, rfl, hc1, hc2⟩ := r.form
  obtain ⟨n, hn⟩ : ∃ n, n = ds.length := ⟨_, rfl⟩
  have hm : ds.length ≤ 9223372036854775807 := by unfold maxLen at hc2; omega
  rw [← hn] at r ⊢ hm
  have HN := hide hn
  have R := hide r
  have HW := hide hw
  clear r hn hc1 hc2 hw
  go_enter Tryd.func64, Tryd.ntmps64
  go_wp2
  go_loopw [8] (fun s8 wr => ∃ j : Nat, s8 = .int .i64 j ∧ j ≤ n ∧ Hid (∀ i, i < j → dOkE (ds.getD i de0) = true) ∧ Kept 0 0 w wr) (fun s8 _ => n - (intOf s8).toNat)
  case atStart => exact ⟨0, rfl, Nat.zero_le _, fun i hi => by omega, Kept.refl _ _ _⟩
  case round =>
    obtain ⟨j, rfl, hj, hall, k⟩ := hrel
    by_cases hlt : j < n
    · have hjl : j < ds.length := by rw [← unhide HN]; exact hlt
      obtain ⟨g, off, ln, rfl, -, -, -, b, kk, c0, c1, c2, hln, rr⟩ := ((unhide R).kept k (by omega)).at (i := j) hjl
      have hy := unhide HW j hjl
      obtain ⟨s0, hs0'⟩ : ∃ q, q = (ds.getD j de0).1 := ⟨_, rfl⟩
      obtain ⟨y0, hy0⟩ : ∃ q, q = (ds.getD j de0).2.2 := ⟨_, rfl⟩
      obtain ⟨z0, hz0⟩ : ∃ q, q = (ds.getD j de0).2.1 := ⟨_, rfl⟩
      rw [← hs0'] at c0
      rw [← hy0] at c2 hy
      rw [← hz0] at hln rr
      have hE : Hid (dOkE (ds.getD j de0) = dokB s0 z0 y0) := by show _ = _; rw [hs0', hy0, hz0]; rfl
      have hJ := hide hjl
      clear hs0' hy0 hz0 hln hjl
      have hc := matOk1_impl s0 y0 hy.1 hy.2 wr rr
      clear rr hy
      have hw1 : IntKind.i64.wrap ((j : Int) + 1) = ((j + 1 : Nat) : Int) := by rw [IntKind.wrap_i64]; omega
      go_wp2_with fail
      refine hc.mono ?_
      rintro e w2 ⟨rfl, k2⟩
      have K2 := hide (k.trans k2)
      clear hc k k2 c0 c1 c2
      cases hd : dokB s0 z0 y0
      · have HD : Hid (dOkE (ds.getD j de0) = false) := by show _ = _; rw [unhide hE, hd]
        clear hd
        go_wp2
        go_ret
        exact ⟨j, rfl, by rw [all_split (unhide hJ) (unhide hall) (unhide HD)]; simp, unhide K2⟩
      · have HD : Hid (dOkE (ds.getD j de0) = true) := by show _ = _; rw [unhide hE, hd]
        clear hd
        go_wp2
        go_roundw
        case rel => exact ⟨j + 1, by simp, hlt, fun i hi => by rcases Nat.lt_succ_iff_lt_or_eq.1 hi with h | h; exact unhide hall i h; subst h; exact unhide HD, unhide K2⟩
        case measure => simp [intOf]; omega
    · have hjn : j = n := by omega
      subst hjn
      go_wp2
      go_ret
      exact ⟨-1, rfl, by rw [all_done (fun i hi => unhide hall i (by rw [unhide HN]; exact hi))]; rfl, k⟩

theorem containsBad_impl {lo hi : Nat} {v : Value} {ds : List DE} (w : World) (hw : WfD ds) (r : Dys lo hi w v ds) :
    Calls Tryd.prog 51 #[v, .func (.func 52) #[] #[]] w fun e w' => e = .returned (.bool (!ds.all dOkE)) ∧ Kept 0 0 w w' := by
  have hi' := indexBad_impl w hw r
  obtain ⟨a, c, rfl, -, -⟩ := r.form
  clear r hw
  go_enter Tryd.func51, Tryd.ntmps51
  go_wp2_with fail
  refine hi'.mono ?_
  rintro e w1 ⟨k, rfl, hk, k1⟩
  have HK := hide hk
  clear hk hi'
  go_wp2
  go_ret
  exact ⟨by rw [← unhide HK]; rfl, k1⟩

set_option maxHeartbeats 2000000 in
theorem allDyOk_impl {lo hi : Nat} {v : Value} {ds : List DE} (w : World) (hw : WfD ds) (r : Dys lo hi w v ds) :
    Calls Tryd.prog 34 #[v] w fun e w' => e = .returned (.bool (ds.all dOkE)) ∧ Kept 0 0 w w' := by
  have hcb := containsBad_impl w hw r
  obtain ⟨a, c, rfl, -, -⟩ := r.form
  clear r
  go_enter Tryd.func34, Tryd.ntmps34
  go_wp2_with fail
  refine hcb.mono ?_
  rintro e w2 ⟨rfl, k2⟩
  have K2 := hide k2
  clear hcb k2
  go_wp2
  go_ret
  exact ⟨by simp, unhide K2⟩

theorem mok_no1 {n : Int} {ds : List DE} (h : (decide (1 ≤ n) && decide (n ≤ 4)) = false) : mokB n ds = false := by unfold mokB; rw [h]; rfl
theorem mok_no2 {n : Int} {ds : List DE} (h : ¬ (ds.length : Int) = n * n) : mokB n ds = false := by unfold mokB; rw [decide_eq_false h]; simp
theorem mok_yes {n : Int} {ds : List DE} (h : (decide (1 ≤ n) && decide (n ≤ 4)) = true) (h2 : (ds.length : Int) = n * n) : mokB n ds = ds.all dOkE := by unfold mokB; rw [h, decide_eq_true h2]; simp
theorem mok_partsA {n : Int} {ds : List DE} (h : mokB n ds = true) : 1 ≤ n ∧ n ≤ 4 ∧ (ds.length : Int) = n * n ∧ ∀ i, i < ds.length → dokB (ds.getD i de0).1 (ds.getD i de0).2.1 (ds.getD i de0).2.2 = true := by
  unfold mokB at h
  simp only [Bool.and_eq_true, decide_eq_true_eq] at h
  obtain ⟨⟨h1, h2⟩, h3, h4⟩ := h
  refine ⟨h1, h2, h3, fun i hi => ?_⟩
  rw [List.all_eq_true] at h4
  exact h4 (ds.getD i de0) (by simp [List.getD, hi])

set_option maxHeartbeats 4000000 in
theorem matOk_impl {lo hi : Nat} {v : Value} {ds : List DE} (n : Int) (w : World) (hw : WfD ds) (r : Dys lo hi w v ds) :
    Calls Tryd.prog 18 #[.agg #[.int .i64 n, v]] w fun e w' => e = .returned (.bool (mokB n ds)) ∧ Kept 0 0 w w' := by
  have k0 := (Kept.refl 0 0 w).alloc (.cells #[.int .i64 n, v] 33)
  have r0 := r.kept k0 (by omega)
  have c0 : (w.alloc (.cells #[.int .i64 n, v] 33)).cell? ⟨w.heap.size, 0, none⟩ = some (.int .i64 n) := new_cell2 _ _ _ _ _ _ rfl rfl
  have c1 : (w.alloc (.cells #[.int .i64 n, v] 33)).cell? ⟨w.heap.size, 1, none⟩ = some v := new_cell2 _ _ _ _ _ _ rfl rfl
  obtain ⟨a, c, rfl, -, -⟩ := r.form
  clear r
  have hs := isSide_impl n (w.alloc (.cells #[.int .i64 n, .slice a ds.length c] 33))
  have hcb := allDyOk_impl _ hw r0
  cases hsd : (decide (1 ≤ n) && decide (n ≤ 4))
  · rw [hsd] at hs
    have HB := hide (mok_no1 (ds := ds) hsd)
    clear hsd hcb
    go_enter Tryd.func18, Tryd.ntmps18
    go_wp2_with fail
    refine hs.mono ?_
    rintro e w1 ⟨rfl, rfl⟩
    go_wp2
    go_ret
    exact ⟨by rw [unhide HB]; rfl, k0⟩
  · rw [hsd] at hs
    have hn : 1 ≤ n ∧ n ≤ 4 := by simpa using hsd
    have hnn : n * n ≤ 16 ∧ 0 ≤ n * n := by
      have h5 : n = 1 ∨ n = 2 ∨ n = 3 ∨ n = 4 := by omega
      rcases h5 with h | h | h | h <;> subst h <;> decide
    obtain ⟨q, hq⟩ : ∃ q, n * n = q := ⟨_, rfl⟩
    have hwr : IntKind.i64.wrap (n * n) = q := by rw [IntKind.wrap_i64]; omega
    have HSD := hide hsd
    have HQ := hide hq
    clear hsd hn hq hnn
    by_cases hl : (ds.length : Int) = q
    · have HB := hide (mok_yes (unhide HSD) (hl.trans (unhide HQ).symm))
      go_enter Tryd.func18, Tryd.ntmps18
      go_wp2_with fail
      refine hs.mono ?_
      rintro e w1 ⟨rfl, rfl⟩
      clear hs
      go_wp2_with fail
      refine hcb.mono ?_
      rintro e w2 ⟨rfl, k2⟩
      have K2 := hide (k0.trans k2)
      clear hcb k0 k2 r0 hl
      go_wp2
      go_ret
      exact ⟨by rw [unhide HB]; simp, unhide K2⟩
    · have HB := hide (mok_no2 (n := n) (ds := ds) (fun e => hl (e.trans (unhide HQ))))
      clear hcb
      go_enter Tryd.func18, Tryd.ntmps18
      go_wp2_with fail
      refine hs.mono ?_
      rintro e w1 ⟨rfl, rfl⟩
      clear hs
      go_wp2
      go_ret
      exact ⟨by rw [unhide HB]; rfl, k0⟩

set_option maxHeartbeats 4000000 in
theorem matOk_spec {lo hi : Nat} {v : Value} {ds : List DE} (n : Int) (w : World) (hw : WfD ds) (r : Dys lo hi w v ds) :
    Calls Tryd.prog 14 #[.agg #[.int .i64 n, v]] w fun e w' => e = .returned (.bool (mokB n ds)) ∧ Kept 0 0 w w' := by
  have k0 := (Kept.refl 0 0 w).alloc (.cells #[.int .i64 n, v] 33)
  have r0 := r.kept k0 (by omega)
  have c0 : (w.alloc (.cells #[.int .i64 n, v] 33)).cell? ⟨w.heap.size, 0, none⟩ = some (.int .i64 n) := new_cell2 _ _ _ _ _ _ rfl rfl
  have c1 : (w.alloc (.cells #[.int .i64 n, v] 33)).cell? ⟨w.heap.size, 1, none⟩ = some v := new_cell2 _ _ _ _ _ _ rfl rfl
  obtain ⟨a, c, rfl, -, -⟩ := r.form
  clear r
  by_cases h1 : n < 1
  · have HB := hide (mok_no1 (n := n) (ds := ds) (by rw [decide_eq_false (show ¬ 1 ≤ n by omega)]; rfl))
    go_enter Tryd.func14, Tryd.ntmps14
    go_wp2
    go_ret
    exact ⟨by rw [unhide HB]; rfl, k0⟩
  by_cases h2 : 4 < n
  · have HB := hide (mok_no1 (n := n) (ds := ds) (by rw [decide_eq_false (show ¬ n ≤ 4 by omega)]; simp))
    go_enter Tryd.func14, Tryd.ntmps14
    go_wp2
    go_ret
    exact ⟨by rw [unhide HB]; rfl, k0⟩
  have hsd : (decide (1 ≤ n) && decide (n ≤ 4)) = true := by simp; omega
  have hnn : n * n ≤ 16 ∧ 0 ≤ n * n := by
    have h5 : n = 1 ∨ n = 2 ∨ n = 3 ∨ n = 4 := by omega
    rcases h5 with h | h | h | h <;> subst h <;> decide
  obtain ⟨q, hq⟩ : ∃ q, n * n = q := ⟨_, rfl⟩
  have hwr : IntKind.i64.wrap (n * n) = q := by rw [IntKind.wrap_i64]; omega
  have HSD := hide hsd
  have HQ := hide hq
  have HN16 : Hid (q ≤ 16) := by show _ ≤ _; omega
  clear hsd hq hnn
  by_cases hl : (ds.length : Int) = q
  · have HB := hide (mok_yes (unhide HSD) (hl.trans (unhide HQ).symm))
    have hd16 : ds.length ≤ 16 := by have := unhide HN16; omega
    obtain ⟨m, hm⟩ : ∃ m, m = ds.length := ⟨_, rfl⟩
    rw [← hm] at r0 c1 hl hd16 k0 c0 ⊢
    have HM := hide hm
    have R := hide r0
    have HW := hide hw
    clear hm r0 hw
    go_enter Tryd.func14, Tryd.ntmps14
    go_wp2
    generalize (w.alloc (.cells #[.int .i64 n, .slice a m c] 33)) = W at *
    go_loopw [3] (fun s3 wr => ∃ j : Nat, s3 = .int .i64 j ∧ j ≤ m ∧ Hid (∀ i, i < j → dOkE (ds.getD i de0) = true) ∧ Kept 0 0 W wr) (fun s3 _ => m - (intOf s3).toNat)
    case atStart => exact ⟨0, rfl, Nat.zero_le _, fun i hi => by omega, Kept.refl _ _ _⟩
    case round =>
      obtain ⟨j, rfl, hj, hall, k⟩ := hrel
      have c1' := k.cell0 c1
      by_cases hlt : j < m
      · have hjl : j < ds.length := by rw [← unhide HM]; exact hlt
        obtain ⟨g, off, ln, rfl, -, -, -, b, kk, e0, e1, e2, hln, rr⟩ := ((unhide R).kept k (by omega)).at (i := j) hjl
        have hy := unhide HW j hjl
        obtain ⟨s0, hs0'⟩ : ∃ q, q = (ds.getD j de0).1 := ⟨_, rfl⟩
        obtain ⟨y0, hy0⟩ : ∃ q, q = (ds.getD j de0).2.2 := ⟨_, rfl⟩
        obtain ⟨z0, hz0⟩ : ∃ q, q = (ds.getD j de0).2.1 := ⟨_, rfl⟩
        rw [← hs0'] at e0
        rw [← hy0] at e2 hy
        rw [← hz0] at hln rr
        have hE : Hid (dOkE (ds.getD j de0) = dokB s0 z0 y0) := by show _ = _; rw [hs0', hy0, hz0]; rfl
        have hJ := hide hjl
        clear hs0' hy0 hz0 hln hjl
        have hc := dok_spec s0 y0 hy.1 hy.2 wr rr
        clear rr hy
        have hw1 : IntKind.i64.wrap ((j : Int) + 1) = ((j + 1 : Nat) : Int) := by rw [IntKind.wrap_i64]; omega
        go_wp2_with fail
        refine hc.mono ?_
        rintro e w2 ⟨rfl, k2⟩
        have K2 := hide (k.trans k2)
        clear hc k k2 e0 e1 e2 c1'
        cases hd : dokB s0 z0 y0
        · have HD : Hid (dOkE (ds.getD j de0) = false) := by show _ = _; rw [unhide hE, hd]
          clear hd
          go_wp2
          go_ret
          exact ⟨by rw [unhide HB, all_split (unhide hJ) (unhide hall) (unhide HD)]; rfl, k0.trans (unhide K2)⟩
        · have HD : Hid (dOkE (ds.getD j de0) = true) := by show _ = _; rw [unhide hE, hd]
          clear hd
          go_wp2
          go_roundw
          case rel => exact ⟨j + 1, by simp, hlt, fun i hi => by rcases Nat.lt_succ_iff_lt_or_eq.1 hi with h | h; exact unhide hall i h; subst h; exact unhide HD, unhide K2⟩
          case measure => simp [intOf]; omega
      · have hjn : j = m := by omega
        subst hjn
        go_wp2
        go_ret
        exact ⟨by rw [unhide HB, all_done (fun i hi => unhide hall i (by rw [unhide HM]; exact hi))]; rfl, k0.trans k⟩
  · have HB := hide (mok_no2 (n := n) (ds := ds) (fun e => hl (e.trans (unhide HQ))))
    go_enter Tryd.func14, Tryd.ntmps14
    go_wp2
    go_ret
    exact ⟨by rw [unhide HB]; rfl, k0⟩

end Go.Proofs.YthahoabkehcgbaaDoor

namespace Go.Proofs.YthahoabkehcgbaaDoor
open Go.RowKit
set_option linter.unusedVariables false
set_option maxRecDepth 8000
set_option linter.unusedSimpArgs false

/-- A call, of one argument, of the function that an operand holds. -/
theorem wpv1 {P : Program} {o : Oper} {a : Act} {w : World} {K : Act → World → Prop} {Q : Exit → Act → World → Prop} {R : Ending → World → Prop}
    (n : FuncId) (f x : Operand) (ts : Array TypeId) (hop : o.op = Op.call { callee := Callee.value f, args := #[x], argTypes := ts }) (hf : a.eval f = .func (.func n) #[] #[])
    (hcf : ∀ (w : World) (args : Array Value), (callFunc n args).run P w = .ok (.enter n args) w) (vx : Value) (hx : a.eval x = vx) (hc : Calls P n #[vx] w R) (hK : ∀ e w', R e w' → ∃ v, e = .returned v ∧ K (a.put o.dst v) w') :
    Oper.wp P o a w K Q := by
  unfold Oper.wp
  have hrun : (execOp a.eval o).run P w = .ok (.enter n #[vx]) w := by
    simp [execOp, hop, resolve, invoke, hx, hf, Deferred.ofValue, Result.andThen, hcf]
  rw [hrun, Oper.upon_enter]
  refine hc.mono ?_
  intro e w' h
  obtain ⟨v, rfl, h2⟩ := hK e w' h
  exact h2

/-- A call of no argument. -/
theorem wps0 {P : Program} {o : Oper} {a : Act} {w : World} {K : Act → World → Prop} {Q : Exit → Act → World → Prop} {R : Ending → World → Prop}
    (n : FuncId) (ts : Array TypeId) (hop : o.op = Op.call { callee := Callee.value (Operand.func n), args := #[], argTypes := ts })
    (hcf : ∀ (w : World) (args : Array Value), (callFunc n args).run P w = .ok (.enter n args) w) (hc : Calls P n #[] w R) (hK : ∀ e w', R e w' → ∃ v, e = .returned v ∧ K (a.put o.dst v) w') :
    Oper.wp P o a w K Q := by
  unfold Oper.wp
  have hrun : (execOp a.eval o).run P w = .ok (.enter n #[]) w := by
    have hfn : a.eval (.func n) = .func (.func n) #[] #[] := rfl
    simp [execOp, hop, resolve, invoke, hfn, Deferred.ofValue, Result.andThen, hcf]
  rw [hrun, Oper.upon_enter]
  refine hc.mono ?_
  intro e w' h
  obtain ⟨v, rfl, h2⟩ := hK e w' h
  exact h2

end Go.Proofs.YthahoabkehcgbaaDoor

namespace Go.Proofs.YthahoabkehcgbaaDoor
open Go.RowKit
set_option linter.unusedVariables false
set_option maxRecDepth 8000
set_option linter.unusedSimpArgs false

theorem place_lt {i j n : Nat} (hi : i < n) (hj : j < n) : i * n + j < n * n := by
  have h1 : (i + 1) * n ≤ n * n := Nat.mul_le_mul_right n hi
  have h2 : (i + 1) * n = i * n + n := Nat.succ_mul i n
  omega

theorem Nums.win {b k lo hi : Nat} {S : Nat → Prop} {w w' : World} {G : Nat → Nat} {F : Nat → DE} (h : Nums b S w k G F) (m : Kept lo hi w w') (hb : hi ≤ b) : Nums b S w' k G F := by
  obtain ⟨L, H, h1, h2⟩ := h
  refine ⟨L, H, fun p hp => ?_, h2⟩
  obtain ⟨d, q1, q2, q3⟩ := h1 p hp
  exact ⟨d.mod (X := fun i => lo ≤ i ∧ i < hi) ⟨m.os, m.tape, m.output, m.size, fun i hi ho => m.block i hi (by omega)⟩ (fun x hx1 _ hx => by omega), q1, Nat.le_trans q2 m.size, q3⟩
theorem Nums.less {b b' k : Nat} {S : Nat → Prop} {w : World} {G : Nat → Nat} {F : Nat → DE} (h : Nums b S w k G F) (hb : b' ≤ b) : Nums b' S w k G F := by
  obtain ⟨L, H, h1, h2⟩ := h
  exact ⟨L, H, fun p hp => by obtain ⟨d, q1, q2, q3⟩ := h1 p hp; exact ⟨d, by omega, q2, q3⟩, h2⟩
/-- The place of a number in a square that is turned. -/
def turP (n p : Nat) : Nat := (p % n) * n + p / n
theorem turP_at {n j : Nat} (i : Nat) (hj : j < n) : turP n (i * n + j) = j * n + i := by
  unfold turP
  rw [Nat.mul_comm i n, Nat.mul_add_mod, Nat.mod_eq_of_lt hj, Nat.mul_add_div (by omega), Nat.div_eq_of_lt hj, Nat.add_zero]
theorem turP_parts {n p : Nat} (h : p < n * n) : p % n < n ∧ p / n < n ∧ n * (p / n) + p % n = p := by
  have hn : 0 < n := by
    rcases Nat.eq_zero_or_pos n with h0 | h0
    · subst h0; simp at h
    · exact h0
  exact ⟨Nat.mod_lt _ hn, Nat.div_lt_of_lt_mul h, Nat.div_add_mod p n⟩
theorem turP_lt {n p : Nat} (h : p < n * n) : turP n p < n * n := by
  obtain ⟨h1, h2, -⟩ := turP_parts h
  exact place_lt h1 h2
theorem turP_inj {n p q : Nat} (hp : p < n * n) (hq : q < n * n) (h : turP n p = turP n q) : p = q := by
  obtain ⟨p1, p2, p3⟩ := turP_parts hp
  obtain ⟨q1, q2, q3⟩ := turP_parts hq
  have a1 : turP n p / n = p % n := by unfold turP; rw [Nat.mul_comm, Nat.mul_add_div (by omega), Nat.div_eq_of_lt p2, Nat.add_zero]
  have a2 : turP n q / n = q % n := by unfold turP; rw [Nat.mul_comm, Nat.mul_add_div (by omega), Nat.div_eq_of_lt q2, Nat.add_zero]
  have b1 : turP n p % n = p / n := by unfold turP; rw [Nat.mul_comm, Nat.mul_add_mod, Nat.mod_eq_of_lt p2]
  have b2 : turP n q % n = q / n := by unfold turP; rw [Nat.mul_comm, Nat.mul_add_mod, Nat.mod_eq_of_lt q2]
  rw [← p3, ← q3, ← a1, ← a2, ← b1, ← b2, h]

end Go.Proofs.YthahoabkehcgbaaDoor

namespace Go.Proofs.YthahoabkehcgbaaDoor
open Go.RowKit
set_option linter.unusedVariables false
set_option maxRecDepth 8000
set_option linter.unusedSimpArgs false

/-- A call of an interface's method, of one argument, as one step of an open statement. -/
theorem wpi1 {P : Program} {o : Oper} {a : Act} {w : World} {K : Act → World → Prop} {Q : Exit → Act → World → Prop} {R : Ending → World → Prop}
    (n : FuncId) (t x : Operand) (nm : String) (ts : Array TypeId) (hop : o.op = Op.call { callee := Callee.invoke t nm, args := #[x], argTypes := ts }) (ty : TypeId) (r r' vx : Value) (ht : a.eval t = .iface ty r) (hx : a.eval x = vx)
    (hm : (method (P.types.size + Made.depth) ty r nm).run P w = .ok (n, r') w) (hcf : ∀ (w : World) (args : Array Value), (callFunc n args).run P w = .ok (.enter n args) w) (hc : Calls P n #[r', vx] w R) (hK : ∀ e w', R e w' → ∃ v, e = .returned v ∧ K (a.put o.dst v) w') :
    Oper.wp P o a w K Q := by
  unfold Oper.wp
  have hrun : (execOp a.eval o).run P w = .ok (.enter n #[r', vx]) w := by
    simp [execOp, hop, resolve, invoke, callMethod, ht, hx, hm, Result.andThen, hcf]
  rw [hrun, Oper.upon_enter]
  refine hc.mono ?_
  intro e w' h
  obtain ⟨v, rfl, h2⟩ := hK e w' h
  exact h2

theorem fu_plus : Tryd.prog.types.size + Made.depth = 256 := by kernel_rfl

end Go.Proofs.YthahoabkehcgbaaDoor
