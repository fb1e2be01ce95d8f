/-
  Contracts that the proofs of this seat share: Mat1, Step2, Sqh, Pl2.
-/
import Derived.Test.YthahoabkehcgbaaGreatDoorBM
import Derived.Test.YthahoabkehcgbaaGreatDoorDy1
import Derived.Test.YthahoabkehcgbaaGreatDoorBC
import Derived.Test.YthahoabkehcgbaaGreatDoorBQ
import Derived.Deep.RegionHeld3
import Derived.Deep.DeepCutAuto
import Derived.Test.YthahoabkehcgbaaGreatDoorBV
namespace Go.Proofs.YthahoabkehcgbaaGreatDoor
open Go.RowKit
set_option linter.unusedVariables false
set_option maxRecDepth 8000
set_option linter.unusedSimpArgs false

def dOkE (d : DE) : Bool := dokB d.1 d.2.1 d.2.2
/-- What MatOk answers. -/
def mokB (n : Int) (ds : List DE) : Bool := (decide (1 ≤ n) && decide (n ≤ 4)) && (decide ((ds.length : Int) = n * n) && ds.all dOkE)
/-- The powers of two are ints. -/
def WfD (ds : List DE) : Prop := ∀ i, i < ds.length → (ds.getD i de0).2.2 ≤ 9223372036854775807 ∧ -9223372036854775808 ≤ (ds.getD i de0).2.2
theorem wfD_of {ds : List DE} (h : ∀ d ∈ ds, (Lit.int .i64 d.2.2).wf = true) : WfD ds := by
  intro i hi
  have h1 := h (ds.getD i de0) (by simp [List.getD, hi])
  generalize (ds.getD i de0).2.2 = n at *
  have e : (Lit.int .i64 n).wf = (decide (IntKind.i64.min ≤ n) && decide (n ≤ IntKind.i64.max)) := rfl
  rw [e, show IntKind.i64.min = -9223372036854775808 by decide, show IntKind.i64.max = 9223372036854775807 by decide] at h1
  simp at h1
  omega
theorem all_split {ds : List DE} {f : DE → Bool} {j : Nat} (hj : j < ds.length) (h : ∀ i, i < j → f (ds.getD i de0) = true) (hf : f (ds.getD j de0) = false) : ds.all f = false := by
  rw [← Bool.not_eq_true, List.all_eq_true]
  intro h2
  have := h2 (ds.getD j de0) (by simp [List.getD, hj])
  rw [this] at hf; cases hf
theorem all_done {ds : List DE} {f : DE → Bool} (h : ∀ i, i < ds.length → f (ds.getD i de0) = true) : ds.all f = true := by
  rw [List.all_eq_true]
  intro d hd
  obtain ⟨i, hi, rfl⟩ := List.mem_iff_getElem.1 hd
  have := h i hi
  simpa [List.getD, hi] using this

theorem isSide_impl (n : Int) (w : World) : Calls Tryz.prog 104 #[.int .i64 n] w fun e w' => e = .returned (.bool (decide (1 ≤ n) && decide (n ≤ 4))) ∧ w' = w := by
  by_cases h1 : 1 ≤ n
  · by_cases h2 : n ≤ 4
    · go_enter Tryz.func104, Tryz.ntmps104
      go_wp2
      go_ret
      exact ⟨by simp [h1, h2], rfl⟩
    · go_enter Tryz.func104, Tryz.ntmps104
      go_wp2
      go_ret
      exact ⟨by simp [h1, h2], rfl⟩
  · go_enter Tryz.func104, Tryz.ntmps104
    go_wp2
    go_ret
    exact ⟨by rw [decide_eq_false (show ¬ 1 ≤ n by omega)]; rfl, rfl⟩

theorem mok_no1 {n : Int} {ds : List DE} (h : (decide (1 ≤ n) && decide (n ≤ 4)) = false) : mokB n ds = false := by unfold mokB; rw [h]; rfl
theorem mok_no2 {n : Int} {ds : List DE} (h : ¬ (ds.length : Int) = n * n) : mokB n ds = false := by unfold mokB; rw [decide_eq_false h]; simp
theorem mok_yes {n : Int} {ds : List DE} (h : (decide (1 ≤ n) && decide (n ≤ 4)) = true) (h2 : (ds.length : Int) = n * n) : mokB n ds = ds.all dOkE := by unfold mokB; rw [h, decide_eq_true h2]; simp
theorem mok_partsA {n : Int} {ds : List DE} (h : mokB n ds = true) : 1 ≤ n ∧ n ≤ 4 ∧ (ds.length : Int) = n * n ∧ ∀ i, i < ds.length → dokB (ds.getD i de0).1 (ds.getD i de0).2.1 (ds.getD i de0).2.2 = true := by
  unfold mokB at h
  simp only [Bool.and_eq_true, decide_eq_true_eq] at h
  obtain ⟨⟨h1, h2⟩, h3, h4⟩ := h
  refine ⟨h1, h2, h3, fun i hi => ?_⟩
  rw [List.all_eq_true] at h4
  exact h4 (ds.getD i de0) (by simp [List.getD, hi])

set_option maxHeartbeats 4000000 in
theorem matOk_spec {lo hi : Nat} {v : Value} {ds : List DE} (n : Int) (w : World) (hw : WfD ds) (r : Dys lo hi w v ds) :
    Calls Tryz.prog 132 #[.agg #[.int .i64 n, v]] w fun e w' => e = .returned (.bool (mokB n ds)) ∧ Kept 0 0 w w' := by
  have k0 := (Kept.refl 0 0 w).alloc (.cells #[.int .i64 n, v] 59)
  have r0 := r.kept k0 (by omega)
  have c0 : (w.alloc (.cells #[.int .i64 n, v] 59)).cell? ⟨w.heap.size, 0, none⟩ = some (.int .i64 n) := new_cell2 _ _ _ _ _ _ rfl rfl
  have c1 : (w.alloc (.cells #[.int .i64 n, v] 59)).cell? ⟨w.heap.size, 1, none⟩ = some v := new_cell2 _ _ _ _ _ _ rfl rfl
  obtain ⟨a, c, rfl, -, -⟩ := r.form
  clear r
  by_cases h1 : n < 1
  · have HB := hide (mok_no1 (n := n) (ds := ds) (by rw [decide_eq_false (show ¬ 1 ≤ n by omega)]; rfl))
    go_enter Tryz.func132, Tryz.ntmps132
    go_wp2
    go_ret
    exact ⟨by rw [unhide HB]; rfl, k0⟩
  by_cases h2 : 4 < n
  · have HB := hide (mok_no1 (n := n) (ds := ds) (by rw [decide_eq_false (show ¬ n ≤ 4 by omega)]; simp))
    go_enter Tryz.func132, Tryz.ntmps132
    go_wp2
    go_ret
    exact ⟨by rw [unhide HB]; rfl, k0⟩
  have hsd : (decide (1 ≤ n) && decide (n ≤ 4)) = true := by simp; omega
  have hnn : n * n ≤ 16 ∧ 0 ≤ n * n := by
    have h5 : n = 1 ∨ n = 2 ∨ n = 3 ∨ n = 4 := by omega
    rcases h5 with h | h | h | h <;> subst h <;> decide
  obtain ⟨q, hq⟩ : ∃ q, n * n = q := ⟨_, rfl⟩
  have hwr : IntKind.i64.wrap (n * n) = q := by rw [IntKind.wrap_i64]; omega
  have HSD := hide hsd
  have HQ := hide hq
  have HN16 : Hid (q ≤ 16) := by show _ ≤ _; omega
  clear hsd hq hnn
  by_cases hl : (ds.length : Int) = q
  · have HB := hide (mok_yes (unhide HSD) (hl.trans (unhide HQ).symm))
    have hd16 : ds.length ≤ 16 := by have := unhide HN16; omega
    obtain ⟨m, hm⟩ : ∃ m, m = ds.length := ⟨_, rfl⟩
    rw [← hm] at r0 c1 hl hd16 k0 c0 ⊢
    have HM := hide hm
    have R := hide r0
    have HW := hide hw
    clear hm r0 hw
    go_enter Tryz.func132, Tryz.ntmps132
    go_wp2
    generalize (w.alloc (.cells #[.int .i64 n, .slice a m c] 59)) = W at *
    go_loopw [3] (fun s3 wr => ∃ j : Nat, s3 = .int .i64 j ∧ j ≤ m ∧ Hid (∀ i, i < j → dOkE (ds.getD i de0) = true) ∧ Kept 0 0 W wr) (fun s3 _ => m - (intOf s3).toNat)
    case atStart => exact ⟨0, rfl, Nat.zero_le _, fun i hi => by omega, Kept.refl _ _ _⟩
    case round =>
      obtain ⟨j, rfl, hj, hall, k⟩ := hrel
      have c1' := k.cell0 c1
      by_cases hlt : j < m
      · have hjl : j < ds.length := by rw [← unhide HM]; exact hlt
        obtain ⟨g, off, ln, rfl, -, -, -, b, kk, e0, e1, e2, hln, rr⟩ := ((unhide R).kept k (by omega)).at (i := j) hjl
        have hy := unhide HW j hjl
        obtain ⟨s0, hs0'⟩ : ∃ q, q = (ds.getD j de0).1 := ⟨_, rfl⟩
        obtain ⟨y0, hy0⟩ : ∃ q, q = (ds.getD j de0).2.2 := ⟨_, rfl⟩
        obtain ⟨z0, hz0⟩ : ∃ q, q = (ds.getD j de0).2.1 := ⟨_, rfl⟩
        rw [← hs0'] at e0
        rw [← hy0] at e2 hy
        rw [← hz0] at hln rr
        have hE : Hid (dOkE (ds.getD j de0) = dokB s0 z0 y0) := by show _ = _; rw [hs0', hy0, hz0]; rfl
        have hJ := hide hjl
        clear hs0' hy0 hz0 hln hjl
        have hc := dok_spec s0 y0 hy.1 hy.2 wr rr
        clear rr hy
        have hw1 : IntKind.i64.wrap ((j : Int) + 1) = ((j + 1 : Nat) : Int) := by rw [IntKind.wrap_i64]; omega
        go_wp2_with fail
        refine hc.mono ?_
        rintro e w2 ⟨rfl, k2⟩
        have K2 := hide (k.trans k2)
        clear hc k k2 e0 e1 e2 c1'
        cases hd : dokB s0 z0 y0
        · have HD : Hid (dOkE (ds.getD j de0) = false) := by show _ = _; rw [unhide hE, hd]
          clear hd
          go_wp2
          go_ret
          exact ⟨by rw [unhide HB, all_split (unhide hJ) (unhide hall) (unhide HD)]; rfl, k0.trans (unhide K2)⟩
        · have HD : Hid (dOkE (ds.getD j de0) = true) := by show _ = _; rw [unhide hE, hd]
          clear hd
          go_wp2
          go_roundw
          case rel => exact ⟨j + 1, by simp, hlt, fun i hi => by rcases Nat.lt_succ_iff_lt_or_eq.1 hi with h | h; exact unhide hall i h; subst h; exact unhide HD, unhide K2⟩
          case measure => simp [intOf]; omega
      · have hjn : j = m := by omega
        subst hjn
        go_wp2
        go_ret
        exact ⟨by rw [unhide HB, all_done (fun i hi => unhide hall i (by rw [unhide HM]; exact hi))]; rfl, k0.trans k⟩
  · have HB := hide (mok_no2 (n := n) (ds := ds) (fun e => hl (e.trans (unhide HQ))))
    go_enter Tryz.func132, Tryz.ntmps132
    go_wp2
    go_ret
    exact ⟨by rw [unhide HB]; rfl, k0⟩

end Go.Proofs.YthahoabkehcgbaaGreatDoor

namespace Go.Proofs.YthahoabkehcgbaaGreatDoor
open Go.RowKit
set_option linter.unusedVariables false
set_option maxRecDepth 8000
set_option linter.unusedSimpArgs false

/-- A call, of one argument, of the function that an operand holds. -/
theorem wpv1 {P : Program} {o : Oper} {a : Act} {w : World} {K : Act → World → Prop} {Q : Exit → Act → World → Prop} {R : Ending → World → Prop}
    (n : FuncId) (f x : Operand) (ts : Array TypeId) (hop : o.op = Op.call { callee := Callee.value f, args := #[x], argTypes := ts }) (hf : a.eval f = .func (.func n) #[] #[])
    (hcf : ∀ (w : World) (args : Array Value), (callFunc n args).run P w = .ok (.enter n args) w) (vx : Value) (hx : a.eval x = vx) (hc : Calls P n #[vx] w R) (hK : ∀ e w', R e w' → ∃ v, e = .returned v ∧ K (a.put o.dst v) w') :
    Oper.wp P o a w K Q := by
  unfold Oper.wp
  have hrun : (execOp a.eval o).run P w = .ok (.enter n #[vx]) w := by
    simp [execOp, hop, resolve, invoke, hx, hf, Deferred.ofValue, Result.andThen, hcf]
  rw [hrun, Oper.upon_enter]
  refine hc.mono ?_
  intro e w' h
  obtain ⟨v, rfl, h2⟩ := hK e w' h
  exact h2

/-- A call of no argument. -/
theorem wps0 {P : Program} {o : Oper} {a : Act} {w : World} {K : Act → World → Prop} {Q : Exit → Act → World → Prop} {R : Ending → World → Prop}
    (n : FuncId) (ts : Array TypeId) (hop : o.op = Op.call { callee := Callee.value (Operand.func n), args := #[], argTypes := ts })
    (hcf : ∀ (w : World) (args : Array Value), (callFunc n args).run P w = .ok (.enter n args) w) (hc : Calls P n #[] w R) (hK : ∀ e w', R e w' → ∃ v, e = .returned v ∧ K (a.put o.dst v) w') :
    Oper.wp P o a w K Q := by
  unfold Oper.wp
  have hrun : (execOp a.eval o).run P w = .ok (.enter n #[]) w := by
    have hfn : a.eval (.func n) = .func (.func n) #[] #[] := rfl
    simp [execOp, hop, resolve, invoke, hfn, Deferred.ofValue, Result.andThen, hcf]
  rw [hrun, Oper.upon_enter]
  refine hc.mono ?_
  intro e w' h
  obtain ⟨v, rfl, h2⟩ := hK e w' h
  exact h2

end Go.Proofs.YthahoabkehcgbaaGreatDoor

namespace Go.Proofs.YthahoabkehcgbaaGreatDoor
open Go.RowKit
set_option linter.unusedVariables false
set_option maxRecDepth 8000
set_option linter.unusedSimpArgs false

theorem place_lt {i j n : Nat} (hi : i < n) (hj : j < n) : i * n + j < n * n := by
  have h1 : (i + 1) * n ≤ n * n := Nat.mul_le_mul_right n hi
  have h2 : (i + 1) * n = i * n + n := Nat.succ_mul i n
  omega

theorem Nums.win {b k lo hi : Nat} {S : Nat → Prop} {w w' : World} {G : Nat → Nat} {F : Nat → DE} (h : Nums b S w k G F) (m : Kept lo hi w w') (hb : hi ≤ b) : Nums b S w' k G F := by
  obtain ⟨L, H, h1, h2⟩ := h
  refine ⟨L, H, fun p hp => ?_, h2⟩
  obtain ⟨d, q1, q2, q3⟩ := h1 p hp
  exact ⟨d.mod (X := fun i => lo ≤ i ∧ i < hi) ⟨m.os, m.tape, m.output, m.size, fun i hi ho => m.block i hi (by omega)⟩ (fun x hx1 _ hx => by omega), q1, Nat.le_trans q2 m.size, q3⟩
theorem Nums.less {b b' k : Nat} {S : Nat → Prop} {w : World} {G : Nat → Nat} {F : Nat → DE} (h : Nums b S w k G F) (hb : b' ≤ b) : Nums b' S w k G F := by
  obtain ⟨L, H, h1, h2⟩ := h
  exact ⟨L, H, fun p hp => by obtain ⟨d, q1, q2, q3⟩ := h1 p hp; exact ⟨d, by omega, q2, q3⟩, h2⟩
/-- The place of a number in a square that is turned. -/
def turP (n p : Nat) : Nat := (p % n) * n + p / n
theorem turP_at {n j : Nat} (i : Nat) (hj : j < n) : turP n (i * n + j) = j * n + i := by
  unfold turP
  rw [Nat.mul_comm i n, Nat.mul_add_mod, Nat.mod_eq_of_lt hj, Nat.mul_add_div (by omega), Nat.div_eq_of_lt hj, Nat.add_zero]
theorem turP_parts {n p : Nat} (h : p < n * n) : p % n < n ∧ p / n < n ∧ n * (p / n) + p % n = p := by
  have hn : 0 < n := by
    rcases Nat.eq_zero_or_pos n with h0 | h0
    · subst h0; simp at h
    · exact h0
  exact ⟨Nat.mod_lt _ hn, Nat.div_lt_of_lt_mul h, Nat.div_add_mod p n⟩
theorem turP_lt {n p : Nat} (h : p < n * n) : turP n p < n * n := by
  obtain ⟨h1, h2, -⟩ := turP_parts h
  exact place_lt h1 h2
theorem turP_inj {n p q : Nat} (hp : p < n * n) (hq : q < n * n) (h : turP n p = turP n q) : p = q := by
  obtain ⟨p1, p2, p3⟩ := turP_parts hp
  obtain ⟨q1, q2, q3⟩ := turP_parts hq
  have a1 : turP n p / n = p % n := by unfold turP; rw [Nat.mul_comm, Nat.mul_add_div (by omega), Nat.div_eq_of_lt p2, Nat.add_zero]
  have a2 : turP n q / n = q % n := by unfold turP; rw [Nat.mul_comm, Nat.mul_add_div (by omega), Nat.div_eq_of_lt q2, Nat.add_zero]
  have b1 : turP n p % n = p / n := by unfold turP; rw [Nat.mul_comm, Nat.mul_add_mod, Nat.mod_eq_of_lt p2]
  have b2 : turP n q % n = q / n := by unfold turP; rw [Nat.mul_comm, Nat.mul_add_mod, Nat.mod_eq_of_lt q2]
  rw [← p3, ← q3, ← a1, ← a2, ← b1, ← b2, h]

theorem in_newDyadic : ∀ (w : World) (args : Array Value), (callFunc 65 args).run Tryz.prog w = .ok (.enter 65 args) w := enters Tryz.func65 (by decide) (fun h => by cases h)

set_option maxHeartbeats 4000000 in
theorem newDyadic_impl {bw : Bool} {lo hi : Nat} {v0 : Value} {z : List Int} (s0 : Bool) (y0 : Int) (w : World) (rr : Row .i64 bw lo hi w v0 z) (hz : z.length ≤ 1000000) :
    Calls Tryz.prog 65 #[.agg #[.bool s0, v0, .int .i64 y0]] w fun e w' => ∃ g, e = .returned (.pointer (some ⟨g, 0, none⟩)) ∧ DyP (fun x => x < w.heap.size) w' g (s0, z, y0) ∧ Kept 0 0 w w' := by
  have kA := (Kept.refl 0 0 w).alloc (.cells #[.bool s0, v0, .int .i64 y0] 52)
  have c0 : (w.alloc (.cells #[.bool s0, v0, .int .i64 y0] 52)).cell? ⟨w.heap.size, 0, none⟩ = some (.bool s0) := new_cell2 _ _ _ _ _ _ rfl rfl
  have c1 : (w.alloc (.cells #[.bool s0, v0, .int .i64 y0] 52)).cell? ⟨w.heap.size, 1, none⟩ = some v0 := new_cell2 _ _ _ _ _ _ rfl rfl
  have c2 : (w.alloc (.cells #[.bool s0, v0, .int .i64 y0] 52)).cell? ⟨w.heap.size, 2, none⟩ = some (.int .i64 y0) := new_cell2 _ _ _ _ _ _ rfl rfl
  have hd := dyadicOf_impl s0 y0 _ (rr.kept kA (by omega)) hz
  have sA : (w.alloc (.cells #[.bool s0, v0, .int .i64 y0] 52)).heap.size = w.heap.size + 1 := by simp
  have KA := hide kA
  obtain ⟨b0, l0, rfl⟩ := Row.form' rr
  clear rr kA
  go_enter Tryz.func65, Tryz.ntmps65
  go_wp2_with fail
  refine hd.mono ?_
  rintro e w1 ⟨v1, rfl, o1, k1⟩
  obtain ⟨a1, d1, hv1⟩ := own_slice o1
  subst hv1
  obtain ⟨n1, s1, x1⟩ := new_dya s0 y0 150 o1
  have ks := k1.size
  have D : Hid (DyP (fun x => x < w.heap.size) (w1.alloc (.cells #[.slice a1 z.length d1, .bool s0, .int .i64 y0] 150)) w1.heap.size (s0, z, y0)) :=
    ⟨_, n1.less (Nat.zero_le _), s1, x1, by omega, fun q hq => by have := (o1.lt q hq).1; omega⟩
  have K1 := hide (((unhide KA).trans k1).alloc (.cells #[.slice a1 z.length d1, .bool s0, .int .i64 y0] 150))
  clear hd n1 s1 x1 o1 k1 c0 c1 c2 KA sA
  go_wp2
  go_ret
  exact ⟨_, rfl, unhide D, unhide K1⟩

theorem in_turned1 : ∀ (w : World) (args : Array Value), (callFunc 195 args).run Tryz.prog w = .ok (.enter 195 args) w := enters Tryz.func195 (by decide) (fun h => by cases h)

set_option maxHeartbeats 4000000 in
theorem turned1_impl {B R r n i j g : Nat} (w : World) (hi' : i < n) (hj : j < n) (c0 : w.cell? ⟨B, 0, none⟩ = some (.slice (some ⟨R, 0, none⟩) n n)) (c1 : w.cell? ⟨R, j, none⟩ = some (.slice (some ⟨r, 0, none⟩) n n)) (c2 : w.cell? ⟨r, i, none⟩ = some (.pointer (some ⟨g, 0, none⟩))) :
    Calls Tryz.prog 195 #[.int .i64 (i : Int), .int .i64 (j : Int), .pointer (some ⟨B, 0, none⟩)] w fun e w' => e = .returned (.pointer (some ⟨g, 0, none⟩)) ∧ w' = w := by
  go_enter Tryz.func195, Tryz.ntmps195
  go_wp2
  go_ret
  exact ⟨rfl, rfl⟩

set_option maxHeartbeats 4000000 in
theorem turned_impl {S : Nat → Prop} {R n b : Nat} {G : Nat → Nat} {F : Nat → DE} (w : World) (hn : n ≤ 1000) (s : SqG S w R n n G) (nm : Nums b S w (n * n) G F) :
    Calls Tryz.prog 147 #[.agg #[.slice (some ⟨R, 0, none⟩) n n]] w fun e w' => ∃ R' G' S', e = .returned (.agg #[.slice (some ⟨R', 0, none⟩) n n]) ∧ SqG S' w' R' n n G' ∧ Nums b S' w' (n * n) G' (fun p => F (turP n p)) ∧ (∀ x, S' x → w.heap.size ≤ x ∧ x < w'.heap.size) ∧ Kept 0 0 w w' := by
  obtain ⟨W, hW⟩ : ∃ W, W = (w.alloc (.cells #[.slice (some ⟨R, 0, none⟩) n n] 113)).alloc (.cells #[.slice none 0 0] 113) := ⟨_, rfl⟩
  have k0 : Kept 0 0 w W := by rw [hW]; exact ((Kept.refl 0 0 w).alloc _).alloc _
  have c0 : W.cell? ⟨w.heap.size, 0, none⟩ = some (.slice (some ⟨R, 0, none⟩) n n) := by rw [hW]; exact old_cell _ (new_cell2 _ _ _ _ _ _ (by simp) rfl)
  have q0 : W.cell? ⟨w.heap.size + 1, 0, none⟩ = some (.slice none 0 0) := by rw [hW]; exact new_cell2 _ _ _ _ _ _ (by simp) rfl
  have qf : W.frozen? ⟨w.heap.size + 1, 0, none⟩ = false := by rw [hW]; exact new_loose2 _ _ _ _ _ (by simp)
  have sW : W.heap.size = w.heap.size + 2 := by rw [hW]; simp
  have hm := makeSquare_old (n := n) hn 195 in_turned1 #[.pointer (some ⟨w.heap.size, 0, none⟩)] (fun p => G (turP n p)) W (fun i j w' hi hj k => by
    obtain ⟨r, cr, -, -, -, q4⟩ := s.2.2 j hj
    have kk := k0.trans k
    have := turned1_impl (B := w.heap.size) w' hi hj (k.cell0 c0) (kk.cell0 cr) (kk.cell0 (q4 i hi))
    rw [← turP_at i hj] at this
    refine this.mono ?_
    rintro e w'' ⟨rfl, rfl⟩
    exact ⟨rfl, Kept.refl 0 0 _⟩)
  rw [hW] at hm c0
  have SW := hide sW
  have NM := hide nm
  clear s sW nm
  go_enter Tryz.func147, Tryz.ntmps147
  go_wp2_with fail
  refine hm.mono ?_
  rw [← hW]
  rintro e w1 ⟨R', G', S', rfl, sq, hG, hS, hR, k1⟩
  have q1 := k1.cell0 q0
  have qf1 := k1.loose0 (World.block_lt_of_cell? _ _ q0) qf
  have sW := unhide SW
  have E1 := cell_on w1 (w.heap.size + 1) 0 (.slice (some ⟨R', 0, none⟩) n n) _ q1
  have ks : Kept (w.heap.size + 1) (w.heap.size + 2) w1 (w1.setCell ⟨w.heap.size + 1, 0, none⟩ (.slice (some ⟨R', 0, none⟩) n n)) := (Kept.refl _ _ _).setCell (p := ⟨w.heap.size + 1, 0, none⟩) (Nat.le_refl _) (Nat.lt_succ_self _) _
  have KK : Kept 0 0 w (w1.setCell ⟨w.heap.size + 1, 0, none⟩ (.slice (some ⟨R', 0, none⟩) n n)) := (k0.trans k1).wide ks (by omega)
  have S2 : Hid (SqG S' (w1.setCell ⟨w.heap.size + 1, 0, none⟩ (.slice (some ⟨R', 0, none⟩) n n)) R' n n G' ∧ Nums b S' (w1.setCell ⟨w.heap.size + 1, 0, none⟩ (.slice (some ⟨R', 0, none⟩) n n)) (n * n) G' (fun p => F (turP n p)) ∧ (∀ x, S' x → w.heap.size ≤ x ∧ x < (w1.setCell ⟨w.heap.size + 1, 0, none⟩ (.slice (some ⟨R', 0, none⟩) n n)).heap.size)) :=
    ⟨sq.keptY ks (by omega), (((unhide NM).perm (turP n) (fun p hp => turP_lt hp) (fun p q hp hq e => turP_inj hp hq e)).congr hG (fun _ _ => rfl)).fresh KK (fun x hx => by have := hS x hx; omega), fun x hx => by (have := hS x hx; rw [size_set]; omega)⟩
  have K2 := hide ((k0.trans k1).wide ks (by omega))
  clear hm sq hG hS hR k1 ks sW q0 qf c0 KK
  go_wp2
  exact bodyPost_ret (v := .agg #[.slice (some ⟨R', 0, none⟩) n n]) (by simp [results, Tryz.results147, go_sem, E1]) rfl ⟨R', G', S', rfl, (unhide S2).1, (unhide S2).2.1, (unhide S2).2.2, unhide K2⟩

end Go.Proofs.YthahoabkehcgbaaGreatDoor

namespace Go.Proofs.YthahoabkehcgbaaGreatDoor
open Go.RowKit
set_option linter.unusedVariables false
set_option maxRecDepth 8000
set_option linter.unusedSimpArgs false

/-- A call of an interface's method, of one argument, as one step of an open statement. -/
theorem wpi1 {P : Program} {o : Oper} {a : Act} {w : World} {K : Act → World → Prop} {Q : Exit → Act → World → Prop} {R : Ending → World → Prop}
    (n : FuncId) (t x : Operand) (nm : String) (ts : Array TypeId) (hop : o.op = Op.call { callee := Callee.invoke t nm, args := #[x], argTypes := ts }) (ty : TypeId) (r r' vx : Value) (ht : a.eval t = .iface ty r) (hx : a.eval x = vx)
    (hm : (method (P.types.size + Made.depth) ty r nm).run P w = .ok (n, r') w) (hcf : ∀ (w : World) (args : Array Value), (callFunc n args).run P w = .ok (.enter n args) w) (hc : Calls P n #[r', vx] w R) (hK : ∀ e w', R e w' → ∃ v, e = .returned v ∧ K (a.put o.dst v) w') :
    Oper.wp P o a w K Q := by
  unfold Oper.wp
  have hrun : (execOp a.eval o).run P w = .ok (.enter n #[r', vx]) w := by
    simp [execOp, hop, resolve, invoke, callMethod, ht, hx, hm, Result.andThen, hcf]
  rw [hrun, Oper.upon_enter]
  refine hc.mono ?_
  intro e w' h
  obtain ⟨v, rfl, h2⟩ := hK e w' h
  exact h2

theorem fu_plus : Tryz.prog.types.size + Made.depth = 367 := by kernel_rfl

theorem plus_is (a : Addr) (w : World) : (method 367 77 (.pointer (some a)) "loop.example/g00382/impl.plus").run Tryz.prog w = .ok (82, .pointer (some a)) w := by kernel_rfl

theorem in_plusD : ∀ (w : World) (args : Array Value), (callFunc 82 args).run Tryz.prog w = .ok (.enter 82 args) w := enters Tryz.func82 (by decide) (fun h => by cases h)

theorem in_plusS1 : ∀ (w : World) (args : Array Value), (callFunc 261 args).run Tryz.prog w = .ok (.enter 261 args) w := enters Tryz.func261 (by decide) (fun h => by cases h)

set_option maxHeartbeats 8000000 in
theorem plusS1_impl {PP : World → Nat → DE → Prop} {B1 B2 R1 R2 r1 r2 g1 g2 n i j : Nat} (w : World) (hi : i < n) (hj : j < n) (c0 : w.cell? ⟨B1, 0, none⟩ = some (.slice (some ⟨R1, 0, none⟩) n n)) (c1 : w.cell? ⟨R1, i, none⟩ = some (.slice (some ⟨r1, 0, none⟩) n n)) (c2 : w.cell? ⟨r1, j, none⟩ = some (.pointer (some ⟨g1, 0, none⟩)))
    (d0 : w.cell? ⟨B2, 0, none⟩ = some (.slice (some ⟨R2, 0, none⟩) n n)) (d1 : w.cell? ⟨R2, i, none⟩ = some (.slice (some ⟨r2, 0, none⟩) n n)) (d2 : w.cell? ⟨r2, j, none⟩ = some (.pointer (some ⟨g2, 0, none⟩)))
    (hc : Calls Tryz.prog 82 #[.pointer (some ⟨g1, 0, none⟩), .pointer (some ⟨g2, 0, none⟩)] w.drew fun e w' => ∃ g d, e = .returned (.pointer (some ⟨g, 0, none⟩)) ∧ PP w' g d ∧ Kept 0 0 w.drew w') :
    Calls Tryz.prog 261 #[.int .i64 (i : Int), .int .i64 (j : Int), .pointer (some ⟨B1, 0, none⟩), .pointer (some ⟨B2, 0, none⟩)] w fun e w' => ∃ g d, e = .returned (.pointer (some ⟨g, 0, none⟩)) ∧ PP w' g d ∧ Kept 0 0 w w' := by
  go_enter Tryz.func261, Tryz.ntmps261
  go_wp2_with fail
  have kd := (Kept.refl 0 0 w).drew
  replace c0 := kd.cell0 c0
  replace c1 := kd.cell0 c1
  replace c2 := kd.cell0 c2
  replace d0 := kd.cell0 d0
  replace d1 := kd.cell0 d1
  replace d2 := kd.cell0 d2
  have KD := hide kd
  clear kd
  refine wp_region_held_drew (S := (fun w' => w'.cell? ⟨B1, 0, none⟩ = some (.slice (some ⟨R1, 0, none⟩) n n) ∧ w'.cell? ⟨R1, i, none⟩ = some (.slice (some ⟨r1, 0, none⟩) n n) ∧ w'.cell? ⟨r1, j, none⟩ = some (.pointer (some ⟨g1, 0, none⟩)) ∧ w'.cell? ⟨B2, 0, none⟩ = some (.slice (some ⟨R2, 0, none⟩) n n) ∧ w'.cell? ⟨R2, i, none⟩ = some (.slice (some ⟨r2, 0, none⟩) n n) ∧ w'.cell? ⟨r2, j, none⟩ = some (.pointer (some ⟨g2, 0, none⟩)))) (by kernel_rfl) ?_ (fun hHeld => ?_)
  · exact ⟨c0, c1, c2, d0, d1, d2⟩
  refine wpAnyH_take (i := 0) (oi := _) (v := .pointer (some ⟨B1, 0, none⟩)) rfl (by kernel_rfl) (by kernel_rfl) (by kernel_rfl) (fun _ _ _ h => h) (Or.inl ⟨by rfl, ?_⟩) hHeld ?_
  · intro wq hSw
    try dsimp only at hSw
    go_simp
  try simp only [Act.put, List.getElem_toArray, List.getElem_cons_succ, List.getElem_cons_zero, List.setIfInBounds_toArray, List.set_cons_zero, List.set_cons_succ]
  refine wpAnyH_take (i := 1) (oi := _) (v := .slice (some ⟨R1, 0, none⟩) n n) rfl (by kernel_rfl) (by kernel_rfl) (by kernel_rfl) (fun _ _ _ h => h) (Or.inl ⟨by rfl, ?_⟩) hHeld ?_
  · intro wq hSw
    try dsimp only at hSw
    go_simp
  try simp only [Act.put, List.getElem_toArray, List.getElem_cons_succ, List.getElem_cons_zero, List.setIfInBounds_toArray, List.set_cons_zero, List.set_cons_succ]
  refine wpAnyH_take (i := 2) (oi := _) (v := .int .i64 (i : Int)) rfl (by kernel_rfl) (by kernel_rfl) (by kernel_rfl) (fun _ _ _ h => h) (Or.inl ⟨by rfl, ?_⟩) hHeld ?_
  · intro wq hSw
    try dsimp only at hSw
    go_simp
  try simp only [Act.put, List.getElem_toArray, List.getElem_cons_succ, List.getElem_cons_zero, List.setIfInBounds_toArray, List.set_cons_zero, List.set_cons_succ]
  refine wpAnyH_take (i := 3) (oi := _) (v := .pointer (some ⟨R1, i, none⟩)) rfl (by kernel_rfl) (by kernel_rfl) (by kernel_rfl) (fun _ _ _ h => h) (Or.inl ⟨by rfl, ?_⟩) hHeld ?_
  · intro wq hSw
    try dsimp only at hSw
    go_simp
  try simp only [Act.put, List.getElem_toArray, List.getElem_cons_succ, List.getElem_cons_zero, List.setIfInBounds_toArray, List.set_cons_zero, List.set_cons_succ]
  refine wpAnyH_take (i := 4) (oi := _) (v := .slice (some ⟨r1, 0, none⟩) n n) rfl (by kernel_rfl) (by kernel_rfl) (by kernel_rfl) (fun _ _ _ h => h) (Or.inl ⟨by rfl, ?_⟩) hHeld ?_
  · intro wq hSw
    try dsimp only at hSw
    go_simp
  try simp only [Act.put, List.getElem_toArray, List.getElem_cons_succ, List.getElem_cons_zero, List.setIfInBounds_toArray, List.set_cons_zero, List.set_cons_succ]
  refine wpAnyH_take (i := 5) (oi := _) (v := .int .i64 (j : Int)) rfl (by kernel_rfl) (by kernel_rfl) (by kernel_rfl) (fun _ _ _ h => h) (Or.inl ⟨by rfl, ?_⟩) hHeld ?_
  · intro wq hSw
    try dsimp only at hSw
    go_simp
  try simp only [Act.put, List.getElem_toArray, List.getElem_cons_succ, List.getElem_cons_zero, List.setIfInBounds_toArray, List.set_cons_zero, List.set_cons_succ]
  refine wpAnyH_take (i := 6) (oi := _) (v := .pointer (some ⟨r1, j, none⟩)) rfl (by kernel_rfl) (by kernel_rfl) (by kernel_rfl) (fun _ _ _ h => h) (Or.inl ⟨by rfl, ?_⟩) hHeld ?_
  · intro wq hSw
    try dsimp only at hSw
    go_simp
  try simp only [Act.put, List.getElem_toArray, List.getElem_cons_succ, List.getElem_cons_zero, List.setIfInBounds_toArray, List.set_cons_zero, List.set_cons_succ]
  refine wpAnyH_take (i := 7) (oi := _) (v := .pointer (some ⟨g1, 0, none⟩)) rfl (by kernel_rfl) (by kernel_rfl) (by kernel_rfl) (fun _ _ _ h => h) (Or.inl ⟨by rfl, ?_⟩) hHeld ?_
  · intro wq hSw
    try dsimp only at hSw
    go_simp
  try simp only [Act.put, List.getElem_toArray, List.getElem_cons_succ, List.getElem_cons_zero, List.setIfInBounds_toArray, List.set_cons_zero, List.set_cons_succ]
  refine wpAnyH_take (i := 8) (oi := _) (v := .iface 77 (.pointer (some ⟨g1, 0, none⟩))) rfl (by kernel_rfl) (by kernel_rfl) (by kernel_rfl) (fun _ _ _ h => h) (Or.inl ⟨by rfl, ?_⟩) hHeld ?_
  · intro wq hSw
    try dsimp only at hSw
    go_simp
  try simp only [Act.put, List.getElem_toArray, List.getElem_cons_succ, List.getElem_cons_zero, List.setIfInBounds_toArray, List.set_cons_zero, List.set_cons_succ]
  refine wpAnyH_take (i := 9) (oi := _) (v := .pointer (some ⟨B2, 0, none⟩)) rfl (by kernel_rfl) (by kernel_rfl) (by kernel_rfl) (fun _ _ _ h => h) (Or.inl ⟨by rfl, ?_⟩) hHeld ?_
  · intro wq hSw
    try dsimp only at hSw
    go_simp
  try simp only [Act.put, List.getElem_toArray, List.getElem_cons_succ, List.getElem_cons_zero, List.setIfInBounds_toArray, List.set_cons_zero, List.set_cons_succ]
  refine wpAnyH_take (i := 10) (oi := _) (v := .slice (some ⟨R2, 0, none⟩) n n) rfl (by kernel_rfl) (by kernel_rfl) (by kernel_rfl) (fun _ _ _ h => h) (Or.inl ⟨by rfl, ?_⟩) hHeld ?_
  · intro wq hSw
    try dsimp only at hSw
    go_simp
  try simp only [Act.put, List.getElem_toArray, List.getElem_cons_succ, List.getElem_cons_zero, List.setIfInBounds_toArray, List.set_cons_zero, List.set_cons_succ]
  refine wpAnyH_take (i := 11) (oi := _) (v := .int .i64 (i : Int)) rfl (by kernel_rfl) (by kernel_rfl) (by kernel_rfl) (fun _ _ _ h => h) (Or.inl ⟨by rfl, ?_⟩) hHeld ?_
  · intro wq hSw
    try dsimp only at hSw
    go_simp
  try simp only [Act.put, List.getElem_toArray, List.getElem_cons_succ, List.getElem_cons_zero, List.setIfInBounds_toArray, List.set_cons_zero, List.set_cons_succ]
  refine wpAnyH_take (i := 12) (oi := _) (v := .pointer (some ⟨R2, i, none⟩)) rfl (by kernel_rfl) (by kernel_rfl) (by kernel_rfl) (fun _ _ _ h => h) (Or.inl ⟨by rfl, ?_⟩) hHeld ?_
  · intro wq hSw
    try dsimp only at hSw
    go_simp
  try simp only [Act.put, List.getElem_toArray, List.getElem_cons_succ, List.getElem_cons_zero, List.setIfInBounds_toArray, List.set_cons_zero, List.set_cons_succ]
  refine wpAnyH_take (i := 13) (oi := _) (v := .slice (some ⟨r2, 0, none⟩) n n) rfl (by kernel_rfl) (by kernel_rfl) (by kernel_rfl) (fun _ _ _ h => h) (Or.inl ⟨by rfl, ?_⟩) hHeld ?_
  · intro wq hSw
    try dsimp only at hSw
    go_simp
  try simp only [Act.put, List.getElem_toArray, List.getElem_cons_succ, List.getElem_cons_zero, List.setIfInBounds_toArray, List.set_cons_zero, List.set_cons_succ]
  refine wpAnyH_take (i := 14) (oi := _) (v := .int .i64 (j : Int)) rfl (by kernel_rfl) (by kernel_rfl) (by kernel_rfl) (fun _ _ _ h => h) (Or.inl ⟨by rfl, ?_⟩) hHeld ?_
  · intro wq hSw
    try dsimp only at hSw
    go_simp
  try simp only [Act.put, List.getElem_toArray, List.getElem_cons_succ, List.getElem_cons_zero, List.setIfInBounds_toArray, List.set_cons_zero, List.set_cons_succ]
  refine wpAnyH_take (i := 15) (oi := _) (v := .pointer (some ⟨r2, j, none⟩)) rfl (by kernel_rfl) (by kernel_rfl) (by kernel_rfl) (fun _ _ _ h => h) (Or.inl ⟨by rfl, ?_⟩) hHeld ?_
  · intro wq hSw
    try dsimp only at hSw
    go_simp
  try simp only [Act.put, List.getElem_toArray, List.getElem_cons_succ, List.getElem_cons_zero, List.setIfInBounds_toArray, List.set_cons_zero, List.set_cons_succ]
  refine wpAnyH_take (i := 16) (oi := _) (v := .pointer (some ⟨g2, 0, none⟩)) rfl (by kernel_rfl) (by kernel_rfl) (by kernel_rfl) (fun _ _ _ h => h) (Or.inl ⟨by rfl, ?_⟩) hHeld ?_
  · intro wq hSw
    try dsimp only at hSw
    go_simp
  try simp only [Act.put, List.getElem_toArray, List.getElem_cons_succ, List.getElem_cons_zero, List.setIfInBounds_toArray, List.set_cons_zero, List.set_cons_succ]
  refine wpAnyH_ready (rs := [17]) (by kernel_rfl) (by simp) ?_
  refine AllReadyH.cons rfl (fun KK hK => ?_) AllReadyH.nil
  simp only [List.getElem_toArray, List.getElem_cons_succ, List.getElem_cons_zero]
  rw [if_pos (by rfl)]
  refine wpi1 82 (.tmp 15) (.tmp 23) "loop.example/g00382/impl.plus" _ rfl 77 (.pointer (some ⟨g1, 0, none⟩)) (.pointer (some ⟨g1, 0, none⟩)) (.pointer (some ⟨g2, 0, none⟩)) rfl rfl (by rw [fu_plus]; exact plus_is _ _) in_plusD hc ?_
  rintro e w1 ⟨g, d, rfl, pp, k1⟩
  refine ⟨_, rfl, ?_⟩
  replace c0 := k1.cell0 c0
  replace c1 := k1.cell0 c1
  replace c2 := k1.cell0 c2
  replace d0 := k1.cell0 d0
  replace d1 := k1.cell0 d1
  replace d2 := k1.cell0 d2
  have K1 := hide ((unhide KD).trans k1)
  have PQ := hide pp
  clear hc k1 pp
  clear hHeld
  refine hK.out _ _ ?_ (fun hHeld => ?_)
  · exact ⟨c0, c1, c2, d0, d1, d2⟩
  clear hK KK
  try simp only [Act.put, List.getElem_toArray, List.getElem_cons_succ, List.getElem_cons_zero, List.setIfInBounds_toArray, List.set_cons_zero, List.set_cons_succ]
  refine wpAnyH_take (i := 18) (oi := _) (v := .pointer (some ⟨g, 0, none⟩)) rfl (by kernel_rfl) (by kernel_rfl) (by kernel_rfl) (fun _ _ _ h => h) (Or.inl ⟨by rfl, ?_⟩) hHeld ?_
  · intro wq hSw
    try dsimp only at hSw
    go_simp
  try simp only [Act.put, List.getElem_toArray, List.getElem_cons_succ, List.getElem_cons_zero, List.setIfInBounds_toArray, List.set_cons_zero, List.set_cons_succ]
  refine wpAnyH_done (by kernel_rfl) ?_ _
  clear hHeld c0 c1 c2 d0 d1 d2
  go_wp2_with fail
  go_ret
  exact ⟨g, d, rfl, unhide PQ, unhide K1⟩

set_option maxHeartbeats 8000000 in
theorem plusS_impl {S1 S2 : Nat → Prop} {R1 R2 n b1 b2 : Nat} {G1 G2 : Nat → Nat} {F1 F2 : Nat → DE} {L : Int} {V1 V2 : Nat → Int} (w : World) (hn : n ≤ 1000) (hL : -40000 ≤ L) (s1 : SqG S1 w R1 n n G1) (m1 : Nums b1 S1 w (n * n) G1 F1) (s2 : SqG S2 w R2 n n G2) (m2 : Nums b2 S2 w (n * n) G2 F2) (h1 : ∀ p, p < n * n → NV L (V1 p) (F1 p)) (h2 : ∀ p, p < n * n → NV L (V2 p) (F2 p)) (hs : ∀ p, p < n * n → (V1 p + V2 p).natAbs < 2 ^ AA) :
    Calls Tryz.prog 259 #[.agg #[.slice (some ⟨R1, 0, none⟩) n n], .agg #[.slice (some ⟨R2, 0, none⟩) n n]] w fun e w' => ∃ R G S F, e = .returned (.agg #[.slice (some ⟨R, 0, none⟩) n n]) ∧ SqG S w' R n n G ∧ Nums w.heap.size S w' (n * n) G F ∧ (∀ p, p < n * n → NV L (V1 p + V2 p) (F p)) ∧ (∀ x, S x → w.heap.size ≤ x ∧ x < w'.heap.size) ∧ Kept 0 0 w w' := by
  obtain ⟨W, hW⟩ : ∃ W, W = ((w.alloc (.cells #[.slice (some ⟨R1, 0, none⟩) n n] 113)).alloc (.cells #[.slice (some ⟨R2, 0, none⟩) n n] 113)).alloc (.cells #[.slice none 0 0] 113) := ⟨_, rfl⟩
  have k0 : Kept 0 0 w W := by rw [hW]; exact (((Kept.refl 0 0 w).alloc _).alloc _).alloc _
  have c0 : W.cell? ⟨w.heap.size, 0, none⟩ = some (.slice (some ⟨R1, 0, none⟩) n n) := by rw [hW]; exact old_cell _ (old_cell _ (new_cell2 _ _ _ _ _ _ (by simp) rfl))
  have d0 : W.cell? ⟨w.heap.size + 1, 0, none⟩ = some (.slice (some ⟨R2, 0, none⟩) n n) := by rw [hW]; exact old_cell _ (new_cell2 _ _ _ _ _ _ (by simp) rfl)
  have q0 : W.cell? ⟨w.heap.size + 2, 0, none⟩ = some (.slice none 0 0) := by rw [hW]; exact new_cell2 _ _ _ _ _ _ (by simp) rfl
  have qf : W.frozen? ⟨w.heap.size + 2, 0, none⟩ = false := by rw [hW]; exact new_loose2 _ _ _ _ _ (by simp)
  have sW : W.heap.size = w.heap.size + 3 := by rw [hW]; simp
  have hm := makeSquare_newQ (n := n) hn 261 in_plusS1 #[.pointer (some ⟨w.heap.size, 0, none⟩), .pointer (some ⟨w.heap.size + 1, 0, none⟩)] (fun p d => NV L (V1 p + V2 p) d) W (fun i j w' hi hj k => by
    have kk := k0.trans k
    have hp := place_lt hi hj
    obtain ⟨r1, cr1, -, -, -, q1⟩ := s1.2.2 i hi
    obtain ⟨r2, cr2, -, -, -, q2⟩ := s2.2.2 i hi
    obtain ⟨u1, n1, dd1, ee1⟩ := m1.at hp
    obtain ⟨u2, n2, dd2, ee2⟩ := m2.at hp
    have kd : Kept 0 0 w w'.drew := kk.drew
    have hc := plusD_impl (L := L) w'.drew hL (n1.kept kd) ⟨kd.cell0 dd1.1, kd.loose0 (a := ⟨G1 (i * n + j), 1, none⟩) n1.lt dd1.2⟩ ⟨kd.cell0 ee1.1, kd.loose0 (a := ⟨G1 (i * n + j), 2, none⟩) n1.lt ee1.2⟩ (n2.kept kd) ⟨kd.cell0 dd2.1, kd.loose0 (a := ⟨G2 (i * n + j), 1, none⟩) n2.lt dd2.2⟩ ⟨kd.cell0 ee2.1, kd.loose0 (a := ⟨G2 (i * n + j), 2, none⟩) n2.lt ee2.2⟩ (h1 _ hp) (h2 _ hp) (hs _ hp)
    refine (plusS1_impl (PP := fun w'' g d => DyP (fun y => y < w'.heap.size) w'' g d ∧ NV L (V1 (i * n + j) + V2 (i * n + j)) d) (B1 := w.heap.size) (B2 := w.heap.size + 1) w' hi hj (k.cell0 c0) (kk.cell0 cr1) (kk.cell0 (q1 j hj)) (k.cell0 d0) (kk.cell0 cr2) (kk.cell0 (q2 j hj)) (hc.mono ?_)).mono ?_
    · rintro e w'' ⟨g, d, rfl, dp, nv, k'⟩
      exact ⟨g, d, rfl, ⟨dp, nv⟩, k'⟩
    · rintro e w'' ⟨g, d, rfl, ⟨dp, nv⟩, k'⟩
      exact ⟨g, d, rfl, dp, nv, k'⟩)
  rw [hW] at hm c0
  have SW := hide sW
  clear s1 m1 s2 m2 h1 h2 hs sW
  go_enter Tryz.func259, Tryz.ntmps259
  go_wp2_with fail
  refine hm.mono ?_
  rw [← hW]
  rintro e w1 ⟨R, G, S, F, rfl, sq, nm, hq, hS, hR, k1⟩
  have q1 := k1.cell0 q0
  have qf1 := k1.loose0 (World.block_lt_of_cell? _ _ q0) qf
  have sW := unhide SW
  have E1 := cell_on w1 (w.heap.size + 2) 0 (.slice (some ⟨R, 0, none⟩) n n) _ q1
  have ks : Kept (w.heap.size + 2) (w.heap.size + 3) w1 (w1.setCell ⟨w.heap.size + 2, 0, none⟩ (.slice (some ⟨R, 0, none⟩) n n)) := (Kept.refl _ _ _).setCell (p := ⟨w.heap.size + 2, 0, none⟩) (Nat.le_refl _) (Nat.lt_succ_self _) _
  have S2 : Hid (SqG S (w1.setCell ⟨w.heap.size + 2, 0, none⟩ (.slice (some ⟨R, 0, none⟩) n n)) R n n G ∧ Nums w.heap.size S (w1.setCell ⟨w.heap.size + 2, 0, none⟩ (.slice (some ⟨R, 0, none⟩) n n)) (n * n) G F ∧ (∀ p, p < n * n → NV L (V1 p + V2 p) (F p)) ∧ (∀ x, S x → w.heap.size ≤ x ∧ x < (w1.setCell ⟨w.heap.size + 2, 0, none⟩ (.slice (some ⟨R, 0, none⟩) n n)).heap.size)) :=
    ⟨sq.keptY ks (by omega), (nm.win ks (by omega)).less (by omega), hq, fun x hx => by (have := hS x hx; rw [size_set]; omega)⟩
  have K2 := hide ((k0.trans k1).wide ks (by omega))
  clear hm sq nm hq hS hR k1 ks sW q0 qf c0 d0
  go_wp2
  exact bodyPost_ret (v := .agg #[.slice (some ⟨R, 0, none⟩) n n]) (by simp [results, Tryz.results259, go_sem, E1]) rfl ⟨R, G, S, F, rfl, (unhide S2).1, (unhide S2).2.1, (unhide S2).2.2.1, (unhide S2).2.2.2, unhide K2⟩

end Go.Proofs.YthahoabkehcgbaaGreatDoor
