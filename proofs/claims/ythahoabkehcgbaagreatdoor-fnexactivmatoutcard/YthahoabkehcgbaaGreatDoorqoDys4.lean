/-
  Marks in a list of dyadic numbers that a call owns, and whether they are held.
-/
import Derived.Test.YthahoabkehcgbaaGreatDoorqoDy7
import Derived.Deep.DeepCutAuto
import Derived.Test.YthahoabkehcgbaaGreatDoorqoBM
import Derived.Test.YthahoabkehcgbaaGreatDoorqoBQ
import Derived.Test.YthahoabkehcgbaaGreatDoorqoBG
import Derived.Test.YthahoabkehcgbaaGreatDoorqoBC
import Derived.Deep.RegionHeld3
import Derived.Test.YthahoabkehcgbaaGreatDoorqoBI
namespace Go.Proofs.YthahoabkehcgbaaGreatDoor
open Go.RowKit
set_option linter.unusedVariables false
set_option maxRecDepth 8000
set_option linter.unusedSimpArgs false

end Go.Proofs.YthahoabkehcgbaaGreatDoor

namespace Go.Proofs.YthahoabkehcgbaaGreatDoor
open Go.RowKit
set_option linter.unusedVariables false
set_option maxRecDepth 8000
set_option linter.unusedSimpArgs false

theorem dex_range (m x : Int) (h1 : x ≤ 1000000) (h0 : -1000000 ≤ x) {K : Nat} (hm : m.natAbs < 2 ^ K) (hK : K ≤ 800000) : dex m x ≤ 9223372036854775807 ∧ -9223372036854775808 ≤ dex m x := by
  unfold dex
  split
  · omega
  · rename_i h
    have := tz_lt (n := m.natAbs) (by omega) hm
    omega
end Go.Proofs.YthahoabkehcgbaaGreatDoor

namespace Go.Proofs.YthahoabkehcgbaaGreatDoor
open Go.RowKit
set_option linter.unusedVariables false
set_option maxRecDepth 8000
set_option linter.unusedSimpArgs false

theorem wn_int (m : Int) : WN (wsg m) (wlm m) := by
  refine ⟨limbs_nrm _, fun h => ?_⟩
  have h1 : m < 0 := of_decide_eq_true h
  have := limbs_pos m.natAbs
  rw [decide_eq_true (show 0 < m.natAbs by omega)] at this
  exact of_decide_eq_true this
theorem wlm_len {m : Int} {A n : Nat} (h : m.natAbs < 2 ^ A) (hn : A ≤ 16 * n) : (wlm m).length ≤ n := by
  refine (limbs_length_le _ _).2 ?_
  rw [pow_limb]
  have := Nat.lt_of_lt_of_le h (Nat.pow_le_pow_right (n := 2) (by decide) hn)
  omega
theorem shl_lt {a : Int} {A : Nat} (k : Nat) (ha : a.natAbs < 2 ^ A) : (a * 2 ^ k).natAbs < 2 ^ (A + k) := by
  rw [Int.natAbs_mul, Int.natAbs_pow, Nat.pow_add]
  exact Nat.mul_lt_mul_of_pos_right ha (Nat.pow_pos (by decide))
theorem lt_up {n A E : Nat} (h : n < 2 ^ A) (hl : A ≤ E) : n < 2 ^ E := Nat.lt_of_lt_of_le h (Nat.pow_le_pow_right (by decide) hl)
end Go.Proofs.YthahoabkehcgbaaGreatDoor

namespace Go.Proofs.YthahoabkehcgbaaGreatDoor
open Go.RowKit
set_option linter.unusedVariables false
set_option maxRecDepth 8000
set_option linter.unusedSimpArgs false

theorem shl_val (s : Bool) {zs : List Int} (h : Nrm zs) (k : Nat) : wval s (limbs ((val zs).toNat * 2 ^ k)) = wval s zs * 2 ^ k := by
  rw [wval_limbs]
  have h0 := val_nonneg h.1
  have hc : (((val zs).toNat * 2 ^ k : Nat) : Int) = val zs * 2 ^ k := by rw [Int.natCast_mul, Int.toNat_of_nonneg h0]; simp
  rw [hc]
  unfold wval
  cases s
  · rfl
  · simp [Int.neg_mul]
end Go.Proofs.YthahoabkehcgbaaGreatDoor


namespace Go.Proofs.YthahoabkehcgbaaGreatDoor
open Go.RowKit
set_option linter.unusedVariables false

/-- The one form of V times 2 to the power L. -/
def nE (V L : Int) : DE := (wsg V, dlm V, dex V L)
/-- d is worth V units of 2 to the power L. -/
def IsV (L V : Int) (d : DE) : Prop := L ≤ d.2.2 ∧ Nrm d.2.1 ∧ wval d.1 d.2.1 * 2 ^ (d.2.2 - L).toNat = V
theorem nE_shift (m x : Int) (k : Nat) : nE (m * 2 ^ k) (x - k) = nE m x := by
  obtain ⟨h1, h2, h3⟩ := d_shift m x k
  unfold nE
  rw [h1, h2, h3]
theorem IsV.form {L V : Int} {d : DE} (h : IsV L V d) : nE (wval d.1 d.2.1) d.2.2 = nE V L := by
  obtain ⟨h1, h2, h3⟩ := h
  rw [← h3, ← nE_shift (wval d.1 d.2.1) d.2.2 (d.2.2 - L).toNat, show d.2.2 - ((d.2.2 - L).toNat : Int) = L by omega]
theorem tz_back (n : Nat) : n / 2 ^ tz n * 2 ^ tz n = n := by
  by_cases h : n = 0
  · subst h; simp
  · obtain ⟨q, hq⟩ := tz_form h
    exact Nat.div_mul_cancel ⟨2 * q + 1, hq⟩
theorem dlm_back (m : Int) : wval (wsg m) (dlm m) * 2 ^ tz m.natAbs = m := by
  have h1 : wval (wsg m) (dlm m) = if wsg m = true then -((m.natAbs / 2 ^ tz m.natAbs : Nat) : Int) else ((m.natAbs / 2 ^ tz m.natAbs : Nat) : Int) := wval_limbs _ _
  have h2 : (((m.natAbs / 2 ^ tz m.natAbs : Nat) : Int)) * 2 ^ tz m.natAbs = (m.natAbs : Int) := by
    have := congrArg (fun n : Nat => (n : Int)) (tz_back m.natAbs)
    simp only [Int.natCast_mul, Int.natCast_pow] at this
    exact this
  rw [h1]
  unfold wsg
  by_cases hm : m < 0
  · rw [if_pos (decide_eq_true hm), Int.neg_mul, h2]; omega
  · rw [if_neg (by simp; omega), h2]; omega
theorem nE_wn (V : Int) : WN (wsg V) (dlm V) := ⟨limbs_nrm _, fun h => by
  by_cases h0 : V = 0
  · subst h0; cases h
  · exact (dlm_pos h0).1⟩
theorem nE_isV {V L : Int} (hL : L ≤ 0) : IsV L V (nE V L) := by
  by_cases h : V = 0
  · subst h
    refine ⟨hL, (nE_wn 0).1, ?_⟩
    show wval _ (dlm 0) * _ = 0
    rw [dlm_zero, wval_nil, Int.zero_mul]
  · have e : dex V L = L + (tz V.natAbs : Int) := by unfold dex; rw [if_neg h]
    refine ⟨by show L ≤ dex V L; omega, (nE_wn V).1, ?_⟩
    show wval (wsg V) (dlm V) * 2 ^ (dex V L - L).toNat = V
    rw [e, show (L + (tz V.natAbs : Int) - L).toNat = tz V.natAbs by omega]
    exact dlm_back V
theorem dlm_lenV {m : Int} {A n : Nat} (h : m.natAbs < 2 ^ A) (hn : A ≤ 16 * n) : (dlm m).length ≤ n := by
  have h1 := wlm_len h hn
  have h2 : m.natAbs / 2 ^ tz m.natAbs ≤ m.natAbs := Nat.div_le_self _ _
  refine (limbs_length_le _ _).2 ?_
  have h3 := (limbs_length_le m.natAbs n).1 h1
  omega
theorem pow_step (m : Int) {x y L : Int} (h1 : y ≤ x) (h2 : L ≤ y) : m * 2 ^ (x - y).toNat * 2 ^ (y - L).toNat = m * 2 ^ (x - L).toNat := by
  rw [Int.mul_assoc, ← Int.pow_add, show (x - y).toNat + (y - L).toNat = (x - L).toNat by omega]
/-- The number's size from its worth. -/
theorem IsV.len {L V : Int} {d : DE} {A n : Nat} (h : IsV L V d) (hV : V.natAbs < 2 ^ A) (hn : A ≤ 16 * n) : d.2.1.length ≤ n := by
  have h1 : (wval d.1 d.2.1).natAbs ≤ V.natAbs := by
    rw [← h.2.2, Int.natAbs_mul]
    exact Nat.le_mul_of_pos_right _ (by rw [Int.natAbs_pow]; exact Nat.pow_pos (by decide))
  rw [nrm_limbs h.2.1]
  rw [wval_abs h.2.1.1] at h1
  refine (limbs_length_le _ _).2 ?_
  have h5 := Nat.lt_of_lt_of_le hV (Nat.pow_le_pow_right (n := 2) (by decide) hn)
  rw [pow_limb]
  omega

end Go.Proofs.YthahoabkehcgbaaGreatDoor

namespace Go.Proofs.YthahoabkehcgbaaGreatDoor
open Go.RowKit
set_option linter.unusedVariables false
set_option maxRecDepth 8000
set_option linter.unusedSimpArgs false

/-- So many bits are enough. -/
def AA : Nat := 40000
/-- A number that is worked on, worth V, not too great. -/
def NV (L V : Int) (d : DE) : Prop := IsV L V d ∧ d.2.1.length ≤ 3000 ∧ d.2.2 ≤ 40000

end Go.Proofs.YthahoabkehcgbaaGreatDoor


namespace Go.Proofs.YthahoabkehcgbaaGreatDoor
open Go.RowKit
set_option linter.unusedVariables false
set_option maxRecDepth 8000
set_option linter.unusedSimpArgs false

def dOkE (d : DE) : Bool := dokB d.1 d.2.1 d.2.2
/-- The powers of two are ints. -/
def WfD (ds : List DE) : Prop := ∀ i, i < ds.length → (ds.getD i de0).2.2 ≤ 9223372036854775807 ∧ -9223372036854775808 ≤ (ds.getD i de0).2.2
theorem wfD_of {ds : List DE} (h : ∀ d ∈ ds, (Lit.int .i64 d.2.2).wf = true) : WfD ds := by
  intro i hi
  have h1 := h (ds.getD i de0) (by simp [List.getD, hi])
  generalize (ds.getD i de0).2.2 = n at *
  have e : (Lit.int .i64 n).wf = (decide (IntKind.i64.min ≤ n) && decide (n ≤ IntKind.i64.max)) := rfl
  rw [e, show IntKind.i64.min = -9223372036854775808 by decide, show IntKind.i64.max = 9223372036854775807 by decide] at h1
  simp at h1
  omega
theorem isSide_impl (n : Int) (w : World) : Calls Tryz.prog 104 #[.int .i64 n] w fun e w' => e = .returned (.bool (decide (1 ≤ n) && decide (n ≤ 4))) ∧ w' = w := by
  by_cases h1 : 1 ≤ n
  · by_cases h2 : n ≤ 4
    · go_enter Tryz.func104, Tryz.ntmps104
      go_wp2
      go_ret
      exact ⟨by simp [h1, h2], rfl⟩
    · go_enter Tryz.func104, Tryz.ntmps104
      go_wp2
      go_ret
      exact ⟨by simp [h1, h2], rfl⟩
  · go_enter Tryz.func104, Tryz.ntmps104
    go_wp2
    go_ret
    exact ⟨by rw [decide_eq_false (show ¬ 1 ≤ n by omega)]; rfl, rfl⟩

end Go.Proofs.YthahoabkehcgbaaGreatDoor

namespace Go.Proofs.YthahoabkehcgbaaGreatDoor
open Go.RowKit
set_option linter.unusedVariables false
set_option maxRecDepth 8000
set_option linter.unusedSimpArgs false

/-- A call, of one argument, of the function that an operand holds. -/
theorem wpv1 {P : Program} {o : Oper} {a : Act} {w : World} {K : Act → World → Prop} {Q : Exit → Act → World → Prop} {R : Ending → World → Prop}
    (n : FuncId) (f x : Operand) (ts : Array TypeId) (hop : o.op = Op.call { callee := Callee.value f, args := #[x], argTypes := ts }) (hf : a.eval f = .func (.func n) #[] #[])
    (hcf : ∀ (w : World) (args : Array Value), (callFunc n args).run P w = .ok (.enter n args) w) (vx : Value) (hx : a.eval x = vx) (hc : Calls P n #[vx] w R) (hK : ∀ e w', R e w' → ∃ v, e = .returned v ∧ K (a.put o.dst v) w') :
    Oper.wp P o a w K Q := by
  unfold Oper.wp
  have hrun : (execOp a.eval o).run P w = .ok (.enter n #[vx]) w := by
    simp [execOp, hop, resolve, invoke, hx, hf, Deferred.ofValue, Result.andThen, hcf]
  rw [hrun, Oper.upon_enter]
  refine hc.mono ?_
  intro e w' h
  obtain ⟨v, rfl, h2⟩ := hK e w' h
  exact h2

/-- A call of no argument. -/
theorem wps0 {P : Program} {o : Oper} {a : Act} {w : World} {K : Act → World → Prop} {Q : Exit → Act → World → Prop} {R : Ending → World → Prop}
    (n : FuncId) (ts : Array TypeId) (hop : o.op = Op.call { callee := Callee.value (Operand.func n), args := #[], argTypes := ts })
    (hcf : ∀ (w : World) (args : Array Value), (callFunc n args).run P w = .ok (.enter n args) w) (hc : Calls P n #[] w R) (hK : ∀ e w', R e w' → ∃ v, e = .returned v ∧ K (a.put o.dst v) w') :
    Oper.wp P o a w K Q := by
  unfold Oper.wp
  have hrun : (execOp a.eval o).run P w = .ok (.enter n #[]) w := by
    have hfn : a.eval (.func n) = .func (.func n) #[] #[] := rfl
    simp [execOp, hop, resolve, invoke, hfn, Deferred.ofValue, Result.andThen, hcf]
  rw [hrun, Oper.upon_enter]
  refine hc.mono ?_
  intro e w' h
  obtain ⟨v, rfl, h2⟩ := hK e w' h
  exact h2

end Go.Proofs.YthahoabkehcgbaaGreatDoor

namespace Go.Proofs.YthahoabkehcgbaaGreatDoor
open Go.RowKit
set_option linter.unusedVariables false
set_option maxRecDepth 8000
set_option linter.unusedSimpArgs false

theorem place_lt {i j n : Nat} (hi : i < n) (hj : j < n) : i * n + j < n * n := by
  have h1 : (i + 1) * n ≤ n * n := Nat.mul_le_mul_right n hi
  have h2 : (i + 1) * n = i * n + n := Nat.succ_mul i n
  omega

theorem Nums.win {b k lo hi : Nat} {S : Nat → Prop} {w w' : World} {G : Nat → Nat} {F : Nat → DE} (h : Nums b S w k G F) (m : Kept lo hi w w') (hb : hi ≤ b) : Nums b S w' k G F := by
  obtain ⟨L, H, h1, h2⟩ := h
  refine ⟨L, H, fun p hp => ?_, h2⟩
  obtain ⟨d, q1, q2, q3⟩ := h1 p hp
  exact ⟨d.mod (X := fun i => lo ≤ i ∧ i < hi) ⟨m.os, m.tape, m.output, m.size, fun i hi ho => m.block i hi (by omega)⟩ (fun x hx1 _ hx => by omega), q1, Nat.le_trans q2 m.size, q3⟩
theorem Nums.less {b b' k : Nat} {S : Nat → Prop} {w : World} {G : Nat → Nat} {F : Nat → DE} (h : Nums b S w k G F) (hb : b' ≤ b) : Nums b' S w k G F := by
  obtain ⟨L, H, h1, h2⟩ := h
  exact ⟨L, H, fun p hp => by obtain ⟨d, q1, q2, q3⟩ := h1 p hp; exact ⟨d, by omega, q2, q3⟩, h2⟩
theorem in_newDyadic : ∀ (w : World) (args : Array Value), (callFunc 65 args).run Tryz.prog w = .ok (.enter 65 args) w := enters Tryz.func65 (by decide) (fun h => by cases h)

set_option maxHeartbeats 4000000 in
theorem newDyadic_impl {bw : Bool} {lo hi : Nat} {v0 : Value} {z : List Int} (s0 : Bool) (y0 : Int) (w : World) (rr : Row .i64 bw lo hi w v0 z) (hz : z.length ≤ 1000000) :
    Calls Tryz.prog 65 #[.agg #[.bool s0, v0, .int .i64 y0]] w fun e w' => ∃ g, e = .returned (.pointer (some ⟨g, 0, none⟩)) ∧ DyP (fun x => x < w.heap.size) w' g (s0, z, y0) ∧ Kept 0 0 w w' := by
  have kA := (Kept.refl 0 0 w).alloc (.cells #[.bool s0, v0, .int .i64 y0] 52)
  have c0 : (w.alloc (.cells #[.bool s0, v0, .int .i64 y0] 52)).cell? ⟨w.heap.size, 0, none⟩ = some (.bool s0) := new_cell2 _ _ _ _ _ _ rfl rfl
  have c1 : (w.alloc (.cells #[.bool s0, v0, .int .i64 y0] 52)).cell? ⟨w.heap.size, 1, none⟩ = some v0 := new_cell2 _ _ _ _ _ _ rfl rfl
  have c2 : (w.alloc (.cells #[.bool s0, v0, .int .i64 y0] 52)).cell? ⟨w.heap.size, 2, none⟩ = some (.int .i64 y0) := new_cell2 _ _ _ _ _ _ rfl rfl
  have hd := dyadicOf_impl s0 y0 _ (rr.kept kA (by omega)) hz
  have sA : (w.alloc (.cells #[.bool s0, v0, .int .i64 y0] 52)).heap.size = w.heap.size + 1 := by simp
  have KA := hide kA
  obtain ⟨b0, l0, rfl⟩ := Row.form' rr
  clear rr kA
  go_enter Tryz.func65, Tryz.ntmps65
  go_wp2_with fail
  refine hd.mono ?_
  rintro e w1 ⟨v1, rfl, o1, k1⟩
  obtain ⟨a1, d1, hv1⟩ := own_slice o1
  subst hv1
  obtain ⟨n1, s1, x1⟩ := new_dya s0 y0 150 o1
  have ks := k1.size
  have D : Hid (DyP (fun x => x < w.heap.size) (w1.alloc (.cells #[.slice a1 z.length d1, .bool s0, .int .i64 y0] 150)) w1.heap.size (s0, z, y0)) :=
    ⟨_, n1.less (Nat.zero_le _), s1, x1, by omega, fun q hq => by have := (o1.lt q hq).1; omega⟩
  have K1 := hide (((unhide KA).trans k1).alloc (.cells #[.slice a1 z.length d1, .bool s0, .int .i64 y0] 150))
  clear hd n1 s1 x1 o1 k1 c0 c1 c2 KA sA
  go_wp2
  go_ret
  exact ⟨_, rfl, unhide D, unhide K1⟩

end Go.Proofs.YthahoabkehcgbaaGreatDoor

namespace Go.Proofs.YthahoabkehcgbaaGreatDoor
open Go.RowKit
set_option linter.unusedVariables false
set_option maxRecDepth 8000
set_option linter.unusedSimpArgs false

end Go.Proofs.YthahoabkehcgbaaGreatDoor


namespace Go.Proofs.YthahoabkehcgbaaGreatDoor
open Go.RowKit
set_option linter.unusedVariables false
set_option maxRecDepth 8000
set_option linter.unusedSimpArgs false

end Go.Proofs.YthahoabkehcgbaaGreatDoor


namespace Go.Proofs.YthahoabkehcgbaaGreatDoor
open Go.RowKit
set_option linter.unusedVariables false
set_option maxRecDepth 8000
set_option linter.unusedSimpArgs false

end Go.Proofs.YthahoabkehcgbaaGreatDoor


namespace Go.Proofs.YthahoabkehcgbaaGreatDoor
open Go.RowKit
set_option linter.unusedVariables false
set_option maxRecDepth 8000
set_option linter.unusedSimpArgs false

/-- A list of the call's own, with its places named. -/
structure DysW (lo hi g off n : Nat) (b : Nat → Nat) (f : Nat → DE) (w : World) : Prop where
  g1 : lo ≤ g
  g2 : g < hi
  lt : g < w.heap.size
  el : ∀ i, i < n → ((f i).2.1 ≠ [] → lo ≤ b i ∧ b i < hi ∧ b i ≠ g) ∧ DyAt true (b i) (b i + 1) w g (off + i * 3) (f i)
  loose : ∀ k, k < n * 3 → w.frozen? ⟨g, off + k, none⟩ = false
  apart : ∀ i j, i < j → j < n → (f i).2.1 ≠ [] → (f j).2.1 ≠ [] → b i ≠ b j

theorem DyAt.set1 {bw : Bool} {lo hi : Nat} {w : World} {g o p : Nat} {d : DE} (h : DyAt bw lo hi w g o d) (x : Value) (hg : d.2.1 ≠ [] → g < lo ∨ hi ≤ g) (hp : o + 3 ≤ p ∨ p < o) : DyAt bw lo hi (w.setCell ⟨g, p, none⟩ x) g o d := by
  obtain ⟨u, c0, c1, c2, r⟩ := h
  have k : Kept g (g + 1) w (w.setCell ⟨g, p, none⟩ x) := (Kept.refl g (g + 1) w).setCell (p := ⟨g, p, none⟩) (Nat.le_refl _) (Nat.lt_succ_self _) _
  have rr : Row .i64 bw lo hi (w.setCell ⟨g, p, none⟩ x) u d.2.1 := by
    by_cases e : d.2.1 = []
    · exact r.none e
    · have := hg e
      exact r.kept k (by omega)
  exact ⟨u, cell_off _ _ _ _ _ _ c0 (by omega), cell_off _ _ _ _ _ _ c1 (by omega), cell_off _ _ _ _ _ _ c2 (by omega), rr⟩
theorem DyAt.setS {bw : Bool} {lo hi : Nat} {w : World} {g o : Nat} {d : DE} (h : DyAt bw lo hi w g o d) (s : Bool) (hg : d.2.1 ≠ [] → g < lo ∨ hi ≤ g) : DyAt bw lo hi (w.setCell ⟨g, o, none⟩ (.bool s)) g o (s, d.2.1, d.2.2) := by
  obtain ⟨u, c0, c1, c2, r⟩ := h
  have k : Kept g (g + 1) w (w.setCell ⟨g, o, none⟩ (.bool s)) := (Kept.refl g (g + 1) w).setCell (p := ⟨g, o, none⟩) (Nat.le_refl _) (Nat.lt_succ_self _) _
  have rr : Row .i64 bw lo hi (w.setCell ⟨g, o, none⟩ (.bool s)) u d.2.1 := by
    by_cases e : d.2.1 = []
    · exact r.none e
    · have := hg e
      exact r.kept k (by omega)
  exact ⟨u, cell_on _ _ _ _ _ c0, cell_off _ _ _ _ _ _ c1 (by omega), cell_off _ _ _ _ _ _ c2 (by omega), rr⟩
theorem DyAt.setY {bw : Bool} {lo hi : Nat} {w : World} {g o : Nat} {d : DE} (h : DyAt bw lo hi w g o d) (y : Int) (hg : d.2.1 ≠ [] → g < lo ∨ hi ≤ g) : DyAt bw lo hi (w.setCell ⟨g, o + 2, none⟩ (.int .i64 y)) g o (d.1, d.2.1, y) := by
  obtain ⟨u, c0, c1, c2, r⟩ := h
  have k : Kept g (g + 1) w (w.setCell ⟨g, o + 2, none⟩ (.int .i64 y)) := (Kept.refl g (g + 1) w).setCell (p := ⟨g, o + 2, none⟩) (Nat.le_refl _) (Nat.lt_succ_self _) _
  have rr : Row .i64 bw lo hi (w.setCell ⟨g, o + 2, none⟩ (.int .i64 y)) u d.2.1 := by
    by_cases e : d.2.1 = []
    · exact r.none e
    · have := hg e
      exact r.kept k (by omega)
  exact ⟨u, cell_off _ _ _ _ _ _ c0 (by omega), cell_off _ _ _ _ _ _ c1 (by omega), cell_on _ _ _ _ _ c2, rr⟩

/-- One number of a list turned. -/
def upE (f : Nat → DE) (j : Nat) (d : DE) (i : Nat) : DE := if i = j then d else f i
theorem upE_same (f : Nat → DE) (j : Nat) (d : DE) : upE f j d j = d := if_pos rfl
theorem upE_other (f : Nat → DE) {i j : Nat} (d : DE) (h : i ≠ j) : upE f j d i = f i := if_neg h

theorem DysW.setS {lo hi g off n : Nat} {b : Nat → Nat} {f : Nat → DE} {w : World} (h : DysW lo hi g off n b f w) {j : Nat} (hj : j < n) (s : Bool) : DysW lo hi g off n b (upE f j (s, (f j).2.1, (f j).2.2)) (w.setCell ⟨g, off + j * 3, none⟩ (.bool s)) := by
  have hz : ∀ i, (upE f j (s, (f j).2.1, (f j).2.2) i).2.1 = (f i).2.1 := fun i => by by_cases e : i = j; subst e; rw [upE_same]; rw [upE_other _ _ e]
  refine ⟨h.g1, h.g2, by rw [size_set]; exact h.lt, fun i hi => ?_, fun k hk => by rw [frozen_set]; exact h.loose k hk, fun i i' h1 h2 e1 e2 => h.apart i i' h1 h2 (by rw [← hz]; exact e1) (by rw [← hz]; exact e2)⟩
  obtain ⟨q1, q2⟩ := h.el i hi
  refine ⟨fun e => q1 (by rw [← hz]; exact e), ?_⟩
  by_cases e : i = j
  · subst e; rw [upE_same]; exact q2.setS s (fun e => by have := q1 e; omega)
  · rw [upE_other _ _ e]; exact q2.set1 _ (fun e => by have := q1 e; omega) (by omega)
theorem DysW.setY {lo hi g off n : Nat} {b : Nat → Nat} {f : Nat → DE} {w : World} (h : DysW lo hi g off n b f w) {j : Nat} (hj : j < n) (y : Int) : DysW lo hi g off n b (upE f j ((f j).1, (f j).2.1, y)) (w.setCell ⟨g, off + j * 3 + 2, none⟩ (.int .i64 y)) := by
  have hz : ∀ i, (upE f j ((f j).1, (f j).2.1, y) i).2.1 = (f i).2.1 := fun i => by by_cases e : i = j; subst e; rw [upE_same]; rw [upE_other _ _ e]
  refine ⟨h.g1, h.g2, by rw [size_set]; exact h.lt, fun i hi => ?_, fun k hk => by rw [frozen_set]; exact h.loose k hk, fun i i' h1 h2 e1 e2 => h.apart i i' h1 h2 (by rw [← hz]; exact e1) (by rw [← hz]; exact e2)⟩
  obtain ⟨q1, q2⟩ := h.el i hi
  refine ⟨fun e => q1 (by rw [← hz]; exact e), ?_⟩
  by_cases e : i = j
  · subst e; rw [upE_same]; exact q2.setY y (fun e => by have := q1 e; omega)
  · rw [upE_other _ _ e]; exact q2.set1 _ (fun e => by have := q1 e; omega) (by omega)

/-- The row of one number, with the blocks that it may write. -/
theorem DysW.row {lo hi g off n : Nat} {b : Nat → Nat} {f : Nat → DE} {w : World} (h : DysW lo hi g off n b f w) {j : Nat} (hj : j < n) :
    ∃ p q a c, w.cell? ⟨g, off + j * 3, none⟩ = some (.bool (f j).1) ∧ w.cell? ⟨g, off + j * 3 + 1, none⟩ = some (.slice a (f j).2.1.length c) ∧ w.cell? ⟨g, off + j * 3 + 2, none⟩ = some (.int .i64 (f j).2.2) ∧ Row .i64 true p q w (.slice a (f j).2.1.length c) (f j).2.1 ∧ ((f j).2.1 ≠ [] → p = b j ∧ q = b j + 1) ∧ ((f j).2.1 = [] → p = 0 ∧ q = 0) := by
  obtain ⟨q1, u, c0, c1, c2, r⟩ := h.el j hj
  obtain ⟨a, c, rfl⟩ := Row.form' r
  by_cases e : (f j).2.1 = []
  · exact ⟨0, 0, a, c, c0, c1, c2, r.none e, fun h => absurd e h, fun _ => ⟨rfl, rfl⟩⟩
  · exact ⟨_, _, a, c, c0, c1, c2, r, fun _ => ⟨rfl, rfl⟩, fun h => absurd h e⟩
theorem DysW.turn {lo hi g off n p q c : Nat} {a : Option Addr} {b : Nat → Nat} {f : Nat → DE} {w w' : World} {z : List Int} (h : DysW lo hi g off n b f w) {j : Nat} (hj : j < n)
    (hc : w.cell? ⟨g, off + j * 3 + 1, none⟩ = some (.slice a (f j).2.1.length c)) (h1 : (f j).2.1 ≠ [] → p = b j ∧ q = b j + 1) (h2 : (f j).2.1 = [] → p = 0 ∧ q = 0) (k : Kept p q w w') (r : Row .i64 true p q w' (.slice a (f j).2.1.length c) z) (hz : z = [] ↔ (f j).2.1 = []) :
    DysW lo hi g off n b (upE f j ((f j).1, z, (f j).2.2)) w' := by
  have hne : ∀ i, (upE f j ((f j).1, z, (f j).2.2) i).2.1 ≠ [] → (f i).2.1 ≠ [] := fun i hi e => by
    by_cases e' : i = j
    · subst e'; rw [upE_same] at hi; exact hi (hz.2 e)
    · rw [upE_other _ _ e'] at hi; exact hi e
  have hgo : g < p ∨ q ≤ g := by
    by_cases e : (f j).2.1 = []
    · have := h2 e; omega
    · have := h1 e; have := (h.el j hj).1 e; omega
  have hb := k.block g h.lt hgo
  refine ⟨h.g1, h.g2, Nat.lt_of_lt_of_le h.lt k.size, fun i hi => ?_, fun k' hk' => (World.frozen?_of_block (w := w) (a := ⟨g, off + k', none⟩) hb).trans (h.loose k' hk'), fun i i' q1 q2 e1 e2 => h.apart i i' q1 q2 (hne i e1) (hne i' e2)⟩
  obtain ⟨q1, q2⟩ := h.el i hi
  refine ⟨fun e => q1 (hne i e), ?_⟩
  by_cases e : i = j
  · subst e
    rw [upE_same]
    obtain ⟨u, c0, c1, c2, r0⟩ := q2
    rw [c1] at hc
    cases hc
    have rr : Row .i64 true (b i) (b i + 1) w' (.slice a (f i).2.1.length c) z := by
      by_cases e : (f i).2.1 = []
      · exact r.none (hz.2 e)
      · obtain ⟨rfl, rfl⟩ := h1 e; exact r
    exact ⟨_, (World.cell?_of_block (w := w) (a := ⟨g, off + i * 3, none⟩) hb).trans c0, (World.cell?_of_block (w := w) (a := ⟨g, off + i * 3 + 1, none⟩) hb).trans c1, (World.cell?_of_block (w := w) (a := ⟨g, off + i * 3 + 2, none⟩) hb).trans c2, rr⟩
  · rw [upE_other _ _ e]
    refine q2.keptE k (fun ne => ?_) hgo
    by_cases ej : (f j).2.1 = []
    · have := h2 ej; omega
    · have := h1 ej
      have : b i ≠ b j := by
        rcases Nat.lt_or_gt_of_ne e with h3 | h3
        · exact h.apart i j h3 hj ne ej
        · exact (h.apart j i h3 hi ej ne).symm
      omega

/-- The mark that the number i begins with. -/
def kAt (ds : List DE) (s : Int) (i : Nat) : Int := s + limT ds i + 2 * i
theorem kAt_zero (ds : List DE) (s : Int) : kAt ds s 0 = s := by simp [kAt, limT]
theorem kAt_succ (ds : List DE) (s : Int) (i : Nat) : kAt ds s (i + 1) = kAt ds s i + (ds.getD i de0).2.1.length + 2 := by
  have : limT ds (i + 1) = limT ds i + (ds.getD i de0).2.1.length := rfl
  unfold kAt
  omega
theorem kAt_ge (ds : List DE) (s : Int) (i : Nat) (h : 0 ≤ s) : 0 ≤ kAt ds s i := by unfold kAt; omega
theorem kAt_le (ds : List DE) (s : Int) : kAt ds s ds.length ≤ s + 2 * szT ds := by unfold kAt szT; omega
/-- A number that is marked. -/
def mkE (ds : List DE) (s : Int) (i : Nat) : DE := (kAt ds s i % 3 == 0, marks .i64 (kAt ds s i + 1) (ds.getD i de0).2.1.length, kAt ds s i + 1 + (ds.getD i de0).2.1.length)
/-- The first j are marked. -/
def mkJ (ds : List DE) (s : Int) (j : Nat) (i : Nat) : DE := if i < j then mkE ds s i else ds.getD i de0
def mkL (ds : List DE) (s : Int) : List DE := (List.range ds.length).map (mkE ds s)
theorem mkL_length (ds : List DE) (s : Int) : (mkL ds s).length = ds.length := by simp [mkL]
theorem mkL_at (ds : List DE) (s : Int) (i : Nat) (h : i < ds.length) : (mkL ds s).getD i de0 = mkE ds s i := by simp [mkL, List.getD, h]
theorem marks_nil_iff (k : IntKind) (s : Int) (z : List Int) : marks k s z.length = [] ↔ z = [] := by
  constructor
  · intro h
    have := congrArg List.length h
    rw [marks_length] at this
    exact List.length_eq_zero_iff.1 this
  · intro h; subst h; rfl
theorem upE3 (f : Nat → DE) (j : Nat) (d1 d2 d3 : DE) : upE (upE (upE f j d1) j d2) j d3 = upE f j d3 := by
  funext i
  by_cases e : i = j
  · subst e; rw [upE_same, upE_same]
  · rw [upE_other _ _ e, upE_other _ _ e, upE_other _ _ e, upE_other _ _ e]
theorem mkJ_step (ds : List DE) (s : Int) (j : Nat) : upE (mkJ ds s j) j (mkE ds s j) = mkJ ds s (j + 1) := by
  funext i
  by_cases e : i = j
  · subst e; rw [upE_same]; unfold mkJ; rw [if_pos (Nat.lt_succ_self _)]
  · rw [upE_other _ _ e]
    unfold mkJ
    by_cases h : i < j
    · rw [if_pos h, if_pos (by omega)]
    · rw [if_neg h, if_neg (by omega)]

theorem DysO.open {lo hi n c : Nat} {w : World} {a : Option Addr} {ds : List DE} (r : DysO lo hi w (.slice a n c) ds) (h : ds ≠ []) : ∃ g off b, a = some ⟨g, off, none⟩ ∧ DysW lo hi g off ds.length b (fun i => ds.getD i de0) w := by
  obtain ⟨a', c', e, h1, h2, h3⟩ := r
  cases e
  obtain ⟨g, off, b, rfl, hl, hh, hs, hc, hf, hi'⟩ := h3 h
  exact ⟨g, off, b, rfl, hl, hh, hs, hc, hf, hi'⟩
theorem DysW.shut {lo hi g off c : Nat} {b : Nat → Nat} {f : Nat → DE} {w : World} {ds : List DE} (h : DysW lo hi g off ds.length b f w) (hf : ∀ i, i < ds.length → f i = ds.getD i de0) (h1 : ds.length ≤ c) (h2 : c ≤ maxLen) : DysO lo hi w (.slice (some ⟨g, off, none⟩) ds.length c) ds := by
  refine ⟨_, c, rfl, h1, h2, fun _ => ⟨g, off, b, rfl, h.g1, h.g2, h.lt, fun i hi => ?_, h.loose, fun i j q1 q2 e1 e2 => h.apart i j q1 q2 (by rw [hf i (by omega)]; exact e1) (by rw [hf j q2]; exact e2)⟩⟩
  have := h.el i hi
  rw [hf i hi] at this
  exact this

end Go.Proofs.YthahoabkehcgbaaGreatDoor

