/-
  Marks in a list of dyadic numbers that a call owns, and whether they are held.
-/
import Derived.Test.YthahoabkehcgbaaGreatDoorqfBS
import Derived.Test.YthahoabkehcgbaaGreatDoorqfBM
import Derived.Test.YthahoabkehcgbaaGreatDoorqfBQ
import Derived.Test.YthahoabkehcgbaaGreatDoorqfBG
import Derived.Test.YthahoabkehcgbaaGreatDoorqfBC
import Derived.Deep.RegionHeld3
import Derived.Deep.DeepCutAuto
import Derived.Test.YthahoabkehcgbaaGreatDoorqfBI
namespace Go.Proofs.YthahoabkehcgbaaGreatDoor
open Go.RowKit
set_option linter.unusedVariables false

/-- The one form of V times 2 to the power L. -/
def nE (V L : Int) : DE := (wsg V, dlm V, dex V L)
/-- d is worth V units of 2 to the power L. -/
def IsV (L V : Int) (d : DE) : Prop := L ≤ d.2.2 ∧ Nrm d.2.1 ∧ wval d.1 d.2.1 * 2 ^ (d.2.2 - L).toNat = V
theorem nE_shift (m x : Int) (k : Nat) : nE (m * 2 ^ k) (x - k) = nE m x := by
  obtain ⟨h1, h2, h3⟩ := d_shift m x k
  unfold nE
  rw [h1, h2, h3]
theorem IsV.form {L V : Int} {d : DE} (h : IsV L V d) : nE (wval d.1 d.2.1) d.2.2 = nE V L := by
  obtain ⟨h1, h2, h3⟩ := h
  rw [← h3, ← nE_shift (wval d.1 d.2.1) d.2.2 (d.2.2 - L).toNat, show d.2.2 - ((d.2.2 - L).toNat : Int) = L by omega]
theorem tz_back (n : Nat) : n / 2 ^ tz n * 2 ^ tz n = n := by
  by_cases h : n = 0
  · subst h; simp
  · obtain ⟨q, hq⟩ := tz_form h
    exact Nat.div_mul_cancel ⟨2 * q + 1, hq⟩
theorem dlm_back (m : Int) : wval (wsg m) (dlm m) * 2 ^ tz m.natAbs = m := by
  have h1 : wval (wsg m) (dlm m) = if wsg m = true then -((m.natAbs / 2 ^ tz m.natAbs : Nat) : Int) else ((m.natAbs / 2 ^ tz m.natAbs : Nat) : Int) := wval_limbs _ _
  have h2 : (((m.natAbs / 2 ^ tz m.natAbs : Nat) : Int)) * 2 ^ tz m.natAbs = (m.natAbs : Int) := by
    have := congrArg (fun n : Nat => (n : Int)) (tz_back m.natAbs)
    simp only [Int.natCast_mul, Int.natCast_pow] at this
    exact this
  rw [h1]
  unfold wsg
  by_cases hm : m < 0
  · rw [if_pos (decide_eq_true hm), Int.neg_mul, h2]; omega
  · rw [if_neg (by simp; omega), h2]; omega
theorem nE_wn (V : Int) : WN (wsg V) (dlm V) := ⟨limbs_nrm _, fun h => by
  by_cases h0 : V = 0
  · subst h0; cases h
  · exact (dlm_pos h0).1⟩
theorem nE_isV {V L : Int} (hL : L ≤ 0) : IsV L V (nE V L) := by
  by_cases h : V = 0
  · subst h
    refine ⟨hL, (nE_wn 0).1, ?_⟩
    show wval _ (dlm 0) * _ = 0
    rw [dlm_zero, wval_nil, Int.zero_mul]
  · have e : dex V L = L + (tz V.natAbs : Int) := by unfold dex; rw [if_neg h]
    refine ⟨by show L ≤ dex V L; omega, (nE_wn V).1, ?_⟩
    show wval (wsg V) (dlm V) * 2 ^ (dex V L - L).toNat = V
    rw [e, show (L + (tz V.natAbs : Int) - L).toNat = tz V.natAbs by omega]
    exact dlm_back V
theorem dlm_lenV {m : Int} {A n : Nat} (h : m.natAbs < 2 ^ A) (hn : A ≤ 16 * n) : (dlm m).length ≤ n := by
  have h1 := wlm_len h hn
  have h2 : m.natAbs / 2 ^ tz m.natAbs ≤ m.natAbs := Nat.div_le_self _ _
  refine (limbs_length_le _ _).2 ?_
  have h3 := (limbs_length_le m.natAbs n).1 h1
  omega
/-- What a sum is. -/
def sumM (a b : DE) : Int := wval a.1 a.2.1 * 2 ^ (a.2.2 - min a.2.2 b.2.2).toNat + wval b.1 b.2.1 * 2 ^ (b.2.2 - min a.2.2 b.2.2).toNat
theorem pow_step (m : Int) {x y L : Int} (h1 : y ≤ x) (h2 : L ≤ y) : m * 2 ^ (x - y).toNat * 2 ^ (y - L).toNat = m * 2 ^ (x - L).toNat := by
  rw [Int.mul_assoc, ← Int.pow_add, show (x - y).toNat + (y - L).toNat = (x - L).toNat by omega]
theorem sum_V {L V1 V2 : Int} {a b : DE} (h1 : IsV L V1 a) (h2 : IsV L V2 b) : sumM a b * 2 ^ (min a.2.2 b.2.2 - L).toNat = V1 + V2 := by
  have g1 := h1.1
  have g2 := h2.1
  unfold sumM
  rw [Int.add_mul, pow_step _ (by omega) (by omega), pow_step _ (by omega) (by omega), h1.2.2, h2.2.2]
theorem sum_isV {L V1 V2 : Int} {a b d : DE} (h1 : IsV L V1 a) (h2 : IsV L V2 b) (hn : Nrm d.2.1) (hm : wval d.1 d.2.1 = sumM a b) (hx : d.2.2 = min a.2.2 b.2.2) : IsV L (V1 + V2) d := by
  have g1 := h1.1
  have g2 := h2.1
  exact ⟨by rw [hx]; omega, hn, by rw [hm, hx]; exact sum_V h1 h2⟩
theorem sum_nE {L V1 V2 : Int} {a b : DE} (h1 : IsV L V1 a) (h2 : IsV L V2 b) : nE (sumM a b) (min a.2.2 b.2.2) = nE (V1 + V2) L := by
  have g1 := h1.1
  have g2 := h2.1
  rw [← sum_V h1 h2, ← nE_shift (sumM a b) (min a.2.2 b.2.2) (min a.2.2 b.2.2 - L).toNat, show min a.2.2 b.2.2 - ((min a.2.2 b.2.2 - L).toNat : Int) = L by omega]
theorem neg_isV {L V : Int} {a d : DE} (h : IsV L V a) (hn : Nrm d.2.1) (hm : wval d.1 d.2.1 = -wval a.1 a.2.1) (hx : d.2.2 = a.2.2) : IsV L (-V) d :=
  ⟨by rw [hx]; exact h.1, hn, by rw [hm, hx, Int.neg_mul, h.2.2]⟩
/-- The number's size from its worth. -/
theorem IsV.len {L V : Int} {d : DE} {A n : Nat} (h : IsV L V d) (hV : V.natAbs < 2 ^ A) (hn : A ≤ 16 * n) : d.2.1.length ≤ n := by
  have h1 : (wval d.1 d.2.1).natAbs ≤ V.natAbs := by
    rw [← h.2.2, Int.natAbs_mul]
    exact Nat.le_mul_of_pos_right _ (by rw [Int.natAbs_pow]; exact Nat.pow_pos (by decide))
  rw [nrm_limbs h.2.1]
  rw [wval_abs h.2.1.1] at h1
  refine (limbs_length_le _ _).2 ?_
  have h5 := Nat.lt_of_lt_of_le hV (Nat.pow_le_pow_right (n := 2) (by decide) hn)
  rw [pow_limb]
  omega

end Go.Proofs.YthahoabkehcgbaaGreatDoor

namespace Go.Proofs.YthahoabkehcgbaaGreatDoor
open Go.RowKit
set_option linter.unusedVariables false
set_option maxRecDepth 8000
set_option linter.unusedSimpArgs false

theorem new2_dya {w0 w1 w2 : World} {u1 u2 : Value} {xs ys : List Int} (s1 s2 : Bool) (x1 x2 : Int) (t : TypeId) (o1 : w1.ownsRow w0.heap.size 3 1 u1 xs.length (xs.map (Value.int .i64))) (o2 : w2.ownsRow w1.heap.size 3 1 u2 ys.length (ys.map (Value.int .i64))) (k1 : Kept 0 0 w0 w1) (k2 : Kept 0 0 w1 w2) :
    Dya2 w0 ((w2.alloc (.cells #[u1, .bool s1, .int .i64 x1] t)).alloc (.cells #[u2, .bool s2, .int .i64 x2] t)) w2.heap.size (w2.heap.size + 1) s1 xs x1 s2 ys x2 := by
  have p1 := own_kept o1 k2
  have kA := (Kept.refl 0 0 w2).alloc (.cells #[u1, .bool s1, .int .i64 x1] t)
  obtain ⟨n1, d1, e1⟩ := new_dya s1 x1 t p1
  have kB := (Kept.refl 0 0 (w2.alloc (.cells #[u1, .bool s1, .int .i64 x1] t))).alloc (.cells #[u2, .bool s2, .int .i64 x2] t)
  obtain ⟨n2, d2, e2⟩ := new_dya s2 x2 t (own_kept o2 kA)
  have hz : (w2.alloc (.cells #[u1, .bool s1, .int .i64 x1] t)).heap.size = w2.heap.size + 1 := by simp
  rw [hz] at n2 d2 e2
  have g1 := k1.size
  have g2 := k2.size
  have l1 := n1.lt
  refine ⟨⟨⟨u1, u2, n1.kept kB, n2.less (by omega), by omega, fun e => by have := (o1.lt _ e).2; omega, fun e => by have := (o2.lt _ e).2; omega, fun k e e' => by have := (o1.lt _ e).2; have := (o2.lt _ e').1; omega, ((k1.trans k2).trans kA).trans kB, by omega, by omega⟩, ⟨kB.cell0 d1.1, kB.loose0 (a := ⟨w2.heap.size, 1, none⟩) l1 d1.2⟩, d2⟩, ⟨kB.cell0 e1.1, kB.loose0 (a := ⟨w2.heap.size, 2, none⟩) l1 e1.2⟩, e2⟩

/-- So many bits are enough. -/
def AA : Nat := 40000
/-- A number that is worked on, worth V, not too great. -/
def NV (L V : Int) (d : DE) : Prop := IsV L V d ∧ d.2.1.length ≤ 3000 ∧ d.2.2 ≤ 40000

set_option maxHeartbeats 4000000 in
theorem plusD_impl {L V1 V2 : Int} {g1 g2 : Nat} {u1 u2 : Value} {a b : DE} (w : World) (hL : -40000 ≤ L) (n1 : Num 0 w g1 u1 a.2.1) (d1 : Sd w g1 a.1) (e1 : Ex w g1 a.2.2) (n2 : Num 0 w g2 u2 b.2.1) (d2 : Sd w g2 b.1) (e2 : Ex w g2 b.2.2) (i1 : NV L V1 a) (i2 : NV L V2 b) (hs : (V1 + V2).natAbs < 2 ^ AA) :
    Calls Tryz.prog 82 #[.pointer (some ⟨g1, 0, none⟩), .pointer (some ⟨g2, 0, none⟩)] w fun e w' => ∃ g d, e = .returned (.pointer (some ⟨g, 0, none⟩)) ∧ DyP (fun y => y < w.heap.size) w' g d ∧ NV L (V1 + V2) d ∧ Kept 0 0 w w' := by
  have sv := fun (d : DE) h1 h2 h3 => sum_isV (d := d) i1.1 i2.1 h1 h2 h3
  have ha := i1.1.2.1
  have hb := i2.1.2.1
  have la := i1.2.1
  have lb := i2.2.1
  have f1 : -40000 ≤ a.2.2 := by have := i1.1.1; omega
  have f2 := i1.2.2
  have f3 : -40000 ≤ b.2.2 := by have := i2.1.1; omega
  have f4 := i2.2.2
  have HS := hide hs
  clear i1 i2 hs
  obtain ⟨s1, xs, x1⟩ := a
  obtain ⟨s2, ys, x2⟩ := b
  dsimp only at *
  have SV := hide sv
  clear sv
  have h1 := again_impl w n1 d1 e1 (by omega)
  have h2 := fun w1 (k : Kept 0 0 w w1) => again_impl w1 (n2.kept k) (⟨k.cell0 d2.1, k.loose0 (a := ⟨g2, 1, none⟩) n2.lt d2.2⟩ : Sd w1 g2 s2) (⟨k.cell0 e2.1, k.loose0 (a := ⟨g2, 2, none⟩) n2.lt e2.2⟩ : Ex w1 g2 x2) (by omega)
  have H2 := hide h2
  clear n1 d1 e1 n2 d2 e2 h2
  go_enter Tryz.func82, Tryz.ntmps82
  go_wp2_with fail
  refine h1.mono ?_
  rintro e w1 ⟨v1, rfl, o1, k1⟩
  have h2 := unhide H2 w1 k1
  obtain ⟨a1, c1, hv1⟩ := own_slice o1
  subst hv1
  clear h1 H2
  go_wp2_with fail
  refine h2.mono ?_
  rintro e w2 ⟨v2, rfl, o2, k2⟩
  obtain ⟨a2, c2, hv2⟩ := own_slice o2
  subst hv2
  have D := new2_dya s1 s2 x1 x2 150 o1 o2 k1 k2
  have hadd := addDyadic_wide D ha hb la lb f1 f2 f3 f4
  have B0 : Hid (w.heap.size ≤ w2.heap.size) := by show _ ≤ _; have := k1.size; have := k2.size; omega
  clear h2 o1 o2 k1 k2 D
  go_wp2_with fail
  refine hadd.mono ?_
  rintro e w3 ⟨⟨r3, rfl⟩, u, s, zs, n3, d3, e3, hz, hv, k3⟩
  have DP : Hid (DyP (fun y => y < w.heap.size) w3 w2.heap.size (s, zs, min x1 x2)) := ⟨u, n3.less (Nat.zero_le _), d3, e3, by have := unhide B0; omega, fun i hi => by have := (n3.own.lt i hi).1; omega⟩
  have IS : Hid (NV L (V1 + V2) (s, zs, min x1 x2)) := by
    have hh := unhide SV (s, zs, min x1 x2) hz hv rfl
    have hl := hh.len (unhide HS) (show AA ≤ 16 * 2500 by decide)
    exact ⟨hh, Nat.le_trans hl (by decide), by show min x1 x2 ≤ 40000; omega⟩
  have K3 := hide k3
  clear hadd n3 d3 e3 hz hv k3
  go_wp2
  go_ret
  exact ⟨_, _, rfl, unhide DP, unhide IS, unhide K3⟩

end Go.Proofs.YthahoabkehcgbaaGreatDoor


namespace Go.Proofs.YthahoabkehcgbaaGreatDoor
open Go.RowKit
set_option linter.unusedVariables false
set_option maxRecDepth 8000
set_option linter.unusedSimpArgs false

def dOkE (d : DE) : Bool := dokB d.1 d.2.1 d.2.2
/-- The powers of two are ints. -/
def WfD (ds : List DE) : Prop := ∀ i, i < ds.length → (ds.getD i de0).2.2 ≤ 9223372036854775807 ∧ -9223372036854775808 ≤ (ds.getD i de0).2.2
theorem wfD_of {ds : List DE} (h : ∀ d ∈ ds, (Lit.int .i64 d.2.2).wf = true) : WfD ds := by
  intro i hi
  have h1 := h (ds.getD i de0) (by simp [List.getD, hi])
  generalize (ds.getD i de0).2.2 = n at *
  have e : (Lit.int .i64 n).wf = (decide (IntKind.i64.min ≤ n) && decide (n ≤ IntKind.i64.max)) := rfl
  rw [e, show IntKind.i64.min = -9223372036854775808 by decide, show IntKind.i64.max = 9223372036854775807 by decide] at h1
  simp at h1
  omega
theorem isSide_impl (n : Int) (w : World) : Calls Tryz.prog 104 #[.int .i64 n] w fun e w' => e = .returned (.bool (decide (1 ≤ n) && decide (n ≤ 4))) ∧ w' = w := by
  by_cases h1 : 1 ≤ n
  · by_cases h2 : n ≤ 4
    · go_enter Tryz.func104, Tryz.ntmps104
      go_wp2
      go_ret
      exact ⟨by simp [h1, h2], rfl⟩
    · go_enter Tryz.func104, Tryz.ntmps104
      go_wp2
      go_ret
      exact ⟨by simp [h1, h2], rfl⟩
  · go_enter Tryz.func104, Tryz.ntmps104
    go_wp2
    go_ret
    exact ⟨by rw [decide_eq_false (show ¬ 1 ≤ n by omega)]; rfl, rfl⟩

end Go.Proofs.YthahoabkehcgbaaGreatDoor

namespace Go.Proofs.YthahoabkehcgbaaGreatDoor
open Go.RowKit
set_option linter.unusedVariables false
set_option maxRecDepth 8000
set_option linter.unusedSimpArgs false

/-- A call, of one argument, of the function that an operand holds. -/
theorem wpv1 {P : Program} {o : Oper} {a : Act} {w : World} {K : Act → World → Prop} {Q : Exit → Act → World → Prop} {R : Ending → World → Prop}
    (n : FuncId) (f x : Operand) (ts : Array TypeId) (hop : o.op = Op.call { callee := Callee.value f, args := #[x], argTypes := ts }) (hf : a.eval f = .func (.func n) #[] #[])
    (hcf : ∀ (w : World) (args : Array Value), (callFunc n args).run P w = .ok (.enter n args) w) (vx : Value) (hx : a.eval x = vx) (hc : Calls P n #[vx] w R) (hK : ∀ e w', R e w' → ∃ v, e = .returned v ∧ K (a.put o.dst v) w') :
    Oper.wp P o a w K Q := by
  unfold Oper.wp
  have hrun : (execOp a.eval o).run P w = .ok (.enter n #[vx]) w := by
    simp [execOp, hop, resolve, invoke, hx, hf, Deferred.ofValue, Result.andThen, hcf]
  rw [hrun, Oper.upon_enter]
  refine hc.mono ?_
  intro e w' h
  obtain ⟨v, rfl, h2⟩ := hK e w' h
  exact h2

end Go.Proofs.YthahoabkehcgbaaGreatDoor

namespace Go.Proofs.YthahoabkehcgbaaGreatDoor
open Go.RowKit
set_option linter.unusedVariables false
set_option maxRecDepth 8000
set_option linter.unusedSimpArgs false

theorem place_lt {i j n : Nat} (hi : i < n) (hj : j < n) : i * n + j < n * n := by
  have h1 : (i + 1) * n ≤ n * n := Nat.mul_le_mul_right n hi
  have h2 : (i + 1) * n = i * n + n := Nat.succ_mul i n
  omega

theorem Nums.win {b k lo hi : Nat} {S : Nat → Prop} {w w' : World} {G : Nat → Nat} {F : Nat → DE} (h : Nums b S w k G F) (m : Kept lo hi w w') (hb : hi ≤ b) : Nums b S w' k G F := by
  obtain ⟨L, H, h1, h2⟩ := h
  refine ⟨L, H, fun p hp => ?_, h2⟩
  obtain ⟨d, q1, q2, q3⟩ := h1 p hp
  exact ⟨d.mod (X := fun i => lo ≤ i ∧ i < hi) ⟨m.os, m.tape, m.output, m.size, fun i hi ho => m.block i hi (by omega)⟩ (fun x hx1 _ hx => by omega), q1, Nat.le_trans q2 m.size, q3⟩
theorem Nums.less {b b' k : Nat} {S : Nat → Prop} {w : World} {G : Nat → Nat} {F : Nat → DE} (h : Nums b S w k G F) (hb : b' ≤ b) : Nums b' S w k G F := by
  obtain ⟨L, H, h1, h2⟩ := h
  exact ⟨L, H, fun p hp => by obtain ⟨d, q1, q2, q3⟩ := h1 p hp; exact ⟨d, by omega, q2, q3⟩, h2⟩
theorem in_newDyadic : ∀ (w : World) (args : Array Value), (callFunc 65 args).run Tryz.prog w = .ok (.enter 65 args) w := enters Tryz.func65 (by decide) (fun h => by cases h)

set_option maxHeartbeats 4000000 in
theorem newDyadic_impl {bw : Bool} {lo hi : Nat} {v0 : Value} {z : List Int} (s0 : Bool) (y0 : Int) (w : World) (rr : Row .i64 bw lo hi w v0 z) (hz : z.length ≤ 1000000) :
    Calls Tryz.prog 65 #[.agg #[.bool s0, v0, .int .i64 y0]] w fun e w' => ∃ g, e = .returned (.pointer (some ⟨g, 0, none⟩)) ∧ DyP (fun x => x < w.heap.size) w' g (s0, z, y0) ∧ Kept 0 0 w w' := by
  have kA := (Kept.refl 0 0 w).alloc (.cells #[.bool s0, v0, .int .i64 y0] 52)
  have c0 : (w.alloc (.cells #[.bool s0, v0, .int .i64 y0] 52)).cell? ⟨w.heap.size, 0, none⟩ = some (.bool s0) := new_cell2 _ _ _ _ _ _ rfl rfl
  have c1 : (w.alloc (.cells #[.bool s0, v0, .int .i64 y0] 52)).cell? ⟨w.heap.size, 1, none⟩ = some v0 := new_cell2 _ _ _ _ _ _ rfl rfl
  have c2 : (w.alloc (.cells #[.bool s0, v0, .int .i64 y0] 52)).cell? ⟨w.heap.size, 2, none⟩ = some (.int .i64 y0) := new_cell2 _ _ _ _ _ _ rfl rfl
  have hd := dyadicOf_impl s0 y0 _ (rr.kept kA (by omega)) hz
  have sA : (w.alloc (.cells #[.bool s0, v0, .int .i64 y0] 52)).heap.size = w.heap.size + 1 := by simp
  have KA := hide kA
  obtain ⟨b0, l0, rfl⟩ := Row.form' rr
  clear rr kA
  go_enter Tryz.func65, Tryz.ntmps65
  go_wp2_with fail
  refine hd.mono ?_
  rintro e w1 ⟨v1, rfl, o1, k1⟩
  obtain ⟨a1, d1, hv1⟩ := own_slice o1
  subst hv1
  obtain ⟨n1, s1, x1⟩ := new_dya s0 y0 150 o1
  have ks := k1.size
  have D : Hid (DyP (fun x => x < w.heap.size) (w1.alloc (.cells #[.slice a1 z.length d1, .bool s0, .int .i64 y0] 150)) w1.heap.size (s0, z, y0)) :=
    ⟨_, n1.less (Nat.zero_le _), s1, x1, by omega, fun q hq => by have := (o1.lt q hq).1; omega⟩
  have K1 := hide (((unhide KA).trans k1).alloc (.cells #[.slice a1 z.length d1, .bool s0, .int .i64 y0] 150))
  clear hd n1 s1 x1 o1 k1 c0 c1 c2 KA sA
  go_wp2
  go_ret
  exact ⟨_, rfl, unhide D, unhide K1⟩

end Go.Proofs.YthahoabkehcgbaaGreatDoor

namespace Go.Proofs.YthahoabkehcgbaaGreatDoor
open Go.RowKit
set_option linter.unusedVariables false
set_option maxRecDepth 8000
set_option linter.unusedSimpArgs false

theorem in_plusD : ∀ (w : World) (args : Array Value), (callFunc 82 args).run Tryz.prog w = .ok (.enter 82 args) w := enters Tryz.func82 (by decide) (fun h => by cases h)

end Go.Proofs.YthahoabkehcgbaaGreatDoor


namespace Go.Proofs.YthahoabkehcgbaaGreatDoor
open Go.RowKit
set_option linter.unusedVariables false
set_option maxRecDepth 8000
set_option linter.unusedSimpArgs false

theorem wval_turn (s : Bool) (zs : List Int) : wval (!s) zs = -wval s zs := by
  unfold wval
  cases s <;> simp

set_option maxHeartbeats 4000000 in
theorem oppD_impl {L V : Int} {g1 : Nat} {u1 : Value} {a : DE} (w : World) (n1 : Num 0 w g1 u1 a.2.1) (d1 : Sd w g1 a.1) (e1 : Ex w g1 a.2.2) (i1 : NV L V a) :
    Calls Tryz.prog 83 #[.pointer (some ⟨g1, 0, none⟩)] w fun e w' => ∃ g d, e = .returned (.pointer (some ⟨g, 0, none⟩)) ∧ DyP (fun y => y < w.heap.size) w' g d ∧ NV L (-V) d ∧ Kept 0 0 w w' := by
  have IS : Hid (NV L (-V) (!a.1, a.2.1, a.2.2)) := ⟨neg_isV i1.1 i1.1.2.1 (wval_turn _ _) rfl, i1.2.1, i1.2.2⟩
  have la := i1.2.1
  clear i1
  obtain ⟨s1, xs, x1⟩ := a
  dsimp only at *
  have h1 := again_impl w n1 d1 e1 (by omega)
  clear n1 d1 e1
  go_enter Tryz.func83, Tryz.ntmps83
  go_wp2_with fail
  refine h1.mono ?_
  rintro e w1 ⟨v1, rfl, o1, k1⟩
  obtain ⟨a1, c1, hv1⟩ := own_slice o1
  subst hv1
  obtain ⟨n2, d2, e2⟩ := new_dya s1 x1 150 o1
  have ht := turnSign_tail _ n2 d2
  have B0 := hide k1.size
  have kA := k1.alloc (.cells #[.slice a1 xs.length c1, .bool s1, .int .i64 x1] 150)
  have OB := hide (show ∀ i, (Value.slice a1 xs.length c1).ownBlock = some i → w.heap.size ≤ i from fun i hi => (o1.lt i hi).1)
  have E2 := hide e2
  have KA := hide kA
  clear h1 n2 d2 o1 k1 kA e2
  go_wp2_with fail
  refine ht.mono ?_
  rintro e w2 ⟨⟨r2, rfl⟩, n3, d3, m3, tl⟩
  have e3 := (unhide E2).tail tl
  have DP : Hid (DyP (fun y => y < w.heap.size) w2 w1.heap.size (!s1, xs, x1)) := ⟨_, n3.less (Nat.zero_le _), d3, e3, by have := unhide B0; omega, fun i hi => by have := unhide OB i hi; omega⟩
  have K3 := hide ((unhide KA).mod m3 (fun i hi => by have := unhide B0; subst hi; exact this))
  clear ht n3 d3 e3 m3 tl
  go_wp2
  go_ret
  exact ⟨_, _, rfl, unhide DP, unhide IS, unhide K3⟩

theorem in_oppD : ∀ (w : World) (args : Array Value), (callFunc 83 args).run Tryz.prog w = .ok (.enter 83 args) w := enters Tryz.func83 (by decide) (fun h => by cases h)

end Go.Proofs.YthahoabkehcgbaaGreatDoor


namespace Go.Proofs.YthahoabkehcgbaaGreatDoor
open Go.RowKit
set_option linter.unusedVariables false
set_option maxRecDepth 8000
set_option linter.unusedSimpArgs false

end Go.Proofs.YthahoabkehcgbaaGreatDoor


namespace Go.Proofs.YthahoabkehcgbaaGreatDoor
open Go.RowKit
set_option linter.unusedVariables false
set_option maxRecDepth 8000
set_option linter.unusedSimpArgs false

/-- A list of the call's own, with its places named. -/
structure DysW (lo hi g off n : Nat) (b : Nat → Nat) (f : Nat → DE) (w : World) : Prop where
  g1 : lo ≤ g
  g2 : g < hi
  lt : g < w.heap.size
  el : ∀ i, i < n → ((f i).2.1 ≠ [] → lo ≤ b i ∧ b i < hi ∧ b i ≠ g) ∧ DyAt true (b i) (b i + 1) w g (off + i * 3) (f i)
  loose : ∀ k, k < n * 3 → w.frozen? ⟨g, off + k, none⟩ = false
  apart : ∀ i j, i < j → j < n → (f i).2.1 ≠ [] → (f j).2.1 ≠ [] → b i ≠ b j

theorem DyAt.set1 {bw : Bool} {lo hi : Nat} {w : World} {g o p : Nat} {d : DE} (h : DyAt bw lo hi w g o d) (x : Value) (hg : d.2.1 ≠ [] → g < lo ∨ hi ≤ g) (hp : o + 3 ≤ p ∨ p < o) : DyAt bw lo hi (w.setCell ⟨g, p, none⟩ x) g o d := by
  obtain ⟨u, c0, c1, c2, r⟩ := h
  have k : Kept g (g + 1) w (w.setCell ⟨g, p, none⟩ x) := (Kept.refl g (g + 1) w).setCell (p := ⟨g, p, none⟩) (Nat.le_refl _) (Nat.lt_succ_self _) _
  have rr : Row .i64 bw lo hi (w.setCell ⟨g, p, none⟩ x) u d.2.1 := by
    by_cases e : d.2.1 = []
    · exact r.none e
    · have := hg e
      exact r.kept k (by omega)
  exact ⟨u, cell_off _ _ _ _ _ _ c0 (by omega), cell_off _ _ _ _ _ _ c1 (by omega), cell_off _ _ _ _ _ _ c2 (by omega), rr⟩
theorem DyAt.setS {bw : Bool} {lo hi : Nat} {w : World} {g o : Nat} {d : DE} (h : DyAt bw lo hi w g o d) (s : Bool) (hg : d.2.1 ≠ [] → g < lo ∨ hi ≤ g) : DyAt bw lo hi (w.setCell ⟨g, o, none⟩ (.bool s)) g o (s, d.2.1, d.2.2) := by
  obtain ⟨u, c0, c1, c2, r⟩ := h
  have k : Kept g (g + 1) w (w.setCell ⟨g, o, none⟩ (.bool s)) := (Kept.refl g (g + 1) w).setCell (p := ⟨g, o, none⟩) (Nat.le_refl _) (Nat.lt_succ_self _) _
  have rr : Row .i64 bw lo hi (w.setCell ⟨g, o, none⟩ (.bool s)) u d.2.1 := by
    by_cases e : d.2.1 = []
    · exact r.none e
    · have := hg e
      exact r.kept k (by omega)
  exact ⟨u, cell_on _ _ _ _ _ c0, cell_off _ _ _ _ _ _ c1 (by omega), cell_off _ _ _ _ _ _ c2 (by omega), rr⟩
theorem DyAt.setY {bw : Bool} {lo hi : Nat} {w : World} {g o : Nat} {d : DE} (h : DyAt bw lo hi w g o d) (y : Int) (hg : d.2.1 ≠ [] → g < lo ∨ hi ≤ g) : DyAt bw lo hi (w.setCell ⟨g, o + 2, none⟩ (.int .i64 y)) g o (d.1, d.2.1, y) := by
  obtain ⟨u, c0, c1, c2, r⟩ := h
  have k : Kept g (g + 1) w (w.setCell ⟨g, o + 2, none⟩ (.int .i64 y)) := (Kept.refl g (g + 1) w).setCell (p := ⟨g, o + 2, none⟩) (Nat.le_refl _) (Nat.lt_succ_self _) _
  have rr : Row .i64 bw lo hi (w.setCell ⟨g, o + 2, none⟩ (.int .i64 y)) u d.2.1 := by
    by_cases e : d.2.1 = []
    · exact r.none e
    · have := hg e
      exact r.kept k (by omega)
  exact ⟨u, cell_off _ _ _ _ _ _ c0 (by omega), cell_off _ _ _ _ _ _ c1 (by omega), cell_on _ _ _ _ _ c2, rr⟩

/-- One number of a list turned. -/
def upE (f : Nat → DE) (j : Nat) (d : DE) (i : Nat) : DE := if i = j then d else f i
theorem upE_same (f : Nat → DE) (j : Nat) (d : DE) : upE f j d j = d := if_pos rfl
theorem upE_other (f : Nat → DE) {i j : Nat} (d : DE) (h : i ≠ j) : upE f j d i = f i := if_neg h

theorem DysW.setS {lo hi g off n : Nat} {b : Nat → Nat} {f : Nat → DE} {w : World} (h : DysW lo hi g off n b f w) {j : Nat} (hj : j < n) (s : Bool) : DysW lo hi g off n b (upE f j (s, (f j).2.1, (f j).2.2)) (w.setCell ⟨g, off + j * 3, none⟩ (.bool s)) := by
  have hz : ∀ i, (upE f j (s, (f j).2.1, (f j).2.2) i).2.1 = (f i).2.1 := fun i => by by_cases e : i = j; subst e; rw [upE_same]; rw [upE_other _ _ e]
  refine ⟨h.g1, h.g2, by rw [size_set]; exact h.lt, fun i hi => ?_, fun k hk => by rw [frozen_set]; exact h.loose k hk, fun i i' h1 h2 e1 e2 => h.apart i i' h1 h2 (by rw [← hz]; exact e1) (by rw [← hz]; exact e2)⟩
  obtain ⟨q1, q2⟩ := h.el i hi
  refine ⟨fun e => q1 (by rw [← hz]; exact e), ?_⟩
  by_cases e : i = j
  · subst e; rw [upE_same]; exact q2.setS s (fun e => by have := q1 e; omega)
  · rw [upE_other _ _ e]; exact q2.set1 _ (fun e => by have := q1 e; omega) (by omega)
theorem DysW.setY {lo hi g off n : Nat} {b : Nat → Nat} {f : Nat → DE} {w : World} (h : DysW lo hi g off n b f w) {j : Nat} (hj : j < n) (y : Int) : DysW lo hi g off n b (upE f j ((f j).1, (f j).2.1, y)) (w.setCell ⟨g, off + j * 3 + 2, none⟩ (.int .i64 y)) := by
  have hz : ∀ i, (upE f j ((f j).1, (f j).2.1, y) i).2.1 = (f i).2.1 := fun i => by by_cases e : i = j; subst e; rw [upE_same]; rw [upE_other _ _ e]
  refine ⟨h.g1, h.g2, by rw [size_set]; exact h.lt, fun i hi => ?_, fun k hk => by rw [frozen_set]; exact h.loose k hk, fun i i' h1 h2 e1 e2 => h.apart i i' h1 h2 (by rw [← hz]; exact e1) (by rw [← hz]; exact e2)⟩
  obtain ⟨q1, q2⟩ := h.el i hi
  refine ⟨fun e => q1 (by rw [← hz]; exact e), ?_⟩
  by_cases e : i = j
  · subst e; rw [upE_same]; exact q2.setY y (fun e => by have := q1 e; omega)
  · rw [upE_other _ _ e]; exact q2.set1 _ (fun e => by have := q1 e; omega) (by omega)

/-- The row of one number, with the blocks that it may write. -/
theorem DysW.row {lo hi g off n : Nat} {b : Nat → Nat} {f : Nat → DE} {w : World} (h : DysW lo hi g off n b f w) {j : Nat} (hj : j < n) :
    ∃ p q a c, w.cell? ⟨g, off + j * 3, none⟩ = some (.bool (f j).1) ∧ w.cell? ⟨g, off + j * 3 + 1, none⟩ = some (.slice a (f j).2.1.length c) ∧ w.cell? ⟨g, off + j * 3 + 2, none⟩ = some (.int .i64 (f j).2.2) ∧ Row .i64 true p q w (.slice a (f j).2.1.length c) (f j).2.1 ∧ ((f j).2.1 ≠ [] → p = b j ∧ q = b j + 1) ∧ ((f j).2.1 = [] → p = 0 ∧ q = 0) := by
  obtain ⟨q1, u, c0, c1, c2, r⟩ := h.el j hj
  obtain ⟨a, c, rfl⟩ := Row.form' r
  by_cases e : (f j).2.1 = []
  · exact ⟨0, 0, a, c, c0, c1, c2, r.none e, fun h => absurd e h, fun _ => ⟨rfl, rfl⟩⟩
  · exact ⟨_, _, a, c, c0, c1, c2, r, fun _ => ⟨rfl, rfl⟩, fun h => absurd h e⟩
theorem DysW.turn {lo hi g off n p q c : Nat} {a : Option Addr} {b : Nat → Nat} {f : Nat → DE} {w w' : World} {z : List Int} (h : DysW lo hi g off n b f w) {j : Nat} (hj : j < n)
    (hc : w.cell? ⟨g, off + j * 3 + 1, none⟩ = some (.slice a (f j).2.1.length c)) (h1 : (f j).2.1 ≠ [] → p = b j ∧ q = b j + 1) (h2 : (f j).2.1 = [] → p = 0 ∧ q = 0) (k : Kept p q w w') (r : Row .i64 true p q w' (.slice a (f j).2.1.length c) z) (hz : z = [] ↔ (f j).2.1 = []) :
    DysW lo hi g off n b (upE f j ((f j).1, z, (f j).2.2)) w' := by
  have hne : ∀ i, (upE f j ((f j).1, z, (f j).2.2) i).2.1 ≠ [] → (f i).2.1 ≠ [] := fun i hi e => by
    by_cases e' : i = j
    · subst e'; rw [upE_same] at hi; exact hi (hz.2 e)
    · rw [upE_other _ _ e'] at hi; exact hi e
  have hgo : g < p ∨ q ≤ g := by
    by_cases e : (f j).2.1 = []
    · have := h2 e; omega
    · have := h1 e; have := (h.el j hj).1 e; omega
  have hb := k.block g h.lt hgo
  refine ⟨h.g1, h.g2, Nat.lt_of_lt_of_le h.lt k.size, fun i hi => ?_, fun k' hk' => (World.frozen?_of_block (w := w) (a := ⟨g, off + k', none⟩) hb).trans (h.loose k' hk'), fun i i' q1 q2 e1 e2 => h.apart i i' q1 q2 (hne i e1) (hne i' e2)⟩
  obtain ⟨q1, q2⟩ := h.el i hi
  refine ⟨fun e => q1 (hne i e), ?_⟩
  by_cases e : i = j
  · subst e
    rw [upE_same]
    obtain ⟨u, c0, c1, c2, r0⟩ := q2
    rw [c1] at hc
    cases hc
    have rr : Row .i64 true (b i) (b i + 1) w' (.slice a (f i).2.1.length c) z := by
      by_cases e : (f i).2.1 = []
      · exact r.none (hz.2 e)
      · obtain ⟨rfl, rfl⟩ := h1 e; exact r
    exact ⟨_, (World.cell?_of_block (w := w) (a := ⟨g, off + i * 3, none⟩) hb).trans c0, (World.cell?_of_block (w := w) (a := ⟨g, off + i * 3 + 1, none⟩) hb).trans c1, (World.cell?_of_block (w := w) (a := ⟨g, off + i * 3 + 2, none⟩) hb).trans c2, rr⟩
  · rw [upE_other _ _ e]
    refine q2.keptE k (fun ne => ?_) hgo
    by_cases ej : (f j).2.1 = []
    · have := h2 ej; omega
    · have := h1 ej
      have : b i ≠ b j := by
        rcases Nat.lt_or_gt_of_ne e with h3 | h3
        · exact h.apart i j h3 hj ne ej
        · exact (h.apart j i h3 hi ej ne).symm
      omega

/-- The mark that the number i begins with. -/
def kAt (ds : List DE) (s : Int) (i : Nat) : Int := s + limT ds i + 2 * i
theorem kAt_zero (ds : List DE) (s : Int) : kAt ds s 0 = s := by simp [kAt, limT]
theorem kAt_succ (ds : List DE) (s : Int) (i : Nat) : kAt ds s (i + 1) = kAt ds s i + (ds.getD i de0).2.1.length + 2 := by
  have : limT ds (i + 1) = limT ds i + (ds.getD i de0).2.1.length := rfl
  unfold kAt
  omega
theorem kAt_ge (ds : List DE) (s : Int) (i : Nat) (h : 0 ≤ s) : 0 ≤ kAt ds s i := by unfold kAt; omega
theorem kAt_le (ds : List DE) (s : Int) : kAt ds s ds.length ≤ s + 2 * szT ds := by unfold kAt szT; omega
/-- A number that is marked. -/
def mkE (ds : List DE) (s : Int) (i : Nat) : DE := (kAt ds s i % 3 == 0, marks .i64 (kAt ds s i + 1) (ds.getD i de0).2.1.length, kAt ds s i + 1 + (ds.getD i de0).2.1.length)
/-- The first j are marked. -/
def mkJ (ds : List DE) (s : Int) (j : Nat) (i : Nat) : DE := if i < j then mkE ds s i else ds.getD i de0
def mkL (ds : List DE) (s : Int) : List DE := (List.range ds.length).map (mkE ds s)
theorem mkL_length (ds : List DE) (s : Int) : (mkL ds s).length = ds.length := by simp [mkL]
theorem mkL_at (ds : List DE) (s : Int) (i : Nat) (h : i < ds.length) : (mkL ds s).getD i de0 = mkE ds s i := by simp [mkL, List.getD, h]
theorem marks_nil_iff (k : IntKind) (s : Int) (z : List Int) : marks k s z.length = [] ↔ z = [] := by
  constructor
  · intro h
    have := congrArg List.length h
    rw [marks_length] at this
    exact List.length_eq_zero_iff.1 this
  · intro h; subst h; rfl
theorem upE3 (f : Nat → DE) (j : Nat) (d1 d2 d3 : DE) : upE (upE (upE f j d1) j d2) j d3 = upE f j d3 := by
  funext i
  by_cases e : i = j
  · subst e; rw [upE_same, upE_same]
  · rw [upE_other _ _ e, upE_other _ _ e, upE_other _ _ e, upE_other _ _ e]
theorem mkJ_step (ds : List DE) (s : Int) (j : Nat) : upE (mkJ ds s j) j (mkE ds s j) = mkJ ds s (j + 1) := by
  funext i
  by_cases e : i = j
  · subst e; rw [upE_same]; unfold mkJ; rw [if_pos (Nat.lt_succ_self _)]
  · rw [upE_other _ _ e]
    unfold mkJ
    by_cases h : i < j
    · rw [if_pos h, if_pos (by omega)]
    · rw [if_neg h, if_neg (by omega)]

theorem DysO.open {lo hi n c : Nat} {w : World} {a : Option Addr} {ds : List DE} (r : DysO lo hi w (.slice a n c) ds) (h : ds ≠ []) : ∃ g off b, a = some ⟨g, off, none⟩ ∧ DysW lo hi g off ds.length b (fun i => ds.getD i de0) w := by
  obtain ⟨a', c', e, h1, h2, h3⟩ := r
  cases e
  obtain ⟨g, off, b, rfl, hl, hh, hs, hc, hf, hi'⟩ := h3 h
  exact ⟨g, off, b, rfl, hl, hh, hs, hc, hf, hi'⟩
theorem DysW.shut {lo hi g off c : Nat} {b : Nat → Nat} {f : Nat → DE} {w : World} {ds : List DE} (h : DysW lo hi g off ds.length b f w) (hf : ∀ i, i < ds.length → f i = ds.getD i de0) (h1 : ds.length ≤ c) (h2 : c ≤ maxLen) : DysO lo hi w (.slice (some ⟨g, off, none⟩) ds.length c) ds := by
  refine ⟨_, c, rfl, h1, h2, fun _ => ⟨g, off, b, rfl, h.g1, h.g2, h.lt, fun i hi => ?_, h.loose, fun i j q1 q2 e1 e2 => h.apart i j q1 q2 (by rw [hf i (by omega)]; exact e1) (by rw [hf j q2]; exact e2)⟩⟩
  have := h.el i hi
  rw [hf i hi] at this
  exact this

end Go.Proofs.YthahoabkehcgbaaGreatDoor

