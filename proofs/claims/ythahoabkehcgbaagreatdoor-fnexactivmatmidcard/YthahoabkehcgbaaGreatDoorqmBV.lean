/-
  Contracts that the proofs of this seat share: Val, Pl1.
-/
import Derived.Test.YthahoabkehcgbaaGreatDoorqmBS
import Derived.Test.YthahoabkehcgbaaGreatDoorqmBM
import Derived.Test.YthahoabkehcgbaaGreatDoorqmBQ
namespace Go.Proofs.YthahoabkehcgbaaGreatDoor
open Go.RowKit
set_option linter.unusedVariables false

/-- The one form of V times 2 to the power L. -/
def nE (V L : Int) : DE := (wsg V, dlm V, dex V L)
/-- d is worth V units of 2 to the power L. -/
def IsV (L V : Int) (d : DE) : Prop := L ≤ d.2.2 ∧ Nrm d.2.1 ∧ wval d.1 d.2.1 * 2 ^ (d.2.2 - L).toNat = V
theorem nE_shift (m x : Int) (k : Nat) : nE (m * 2 ^ k) (x - k) = nE m x := by
  obtain ⟨h1, h2, h3⟩ := d_shift m x k
  unfold nE
  rw [h1, h2, h3]
theorem IsV.form {L V : Int} {d : DE} (h : IsV L V d) : nE (wval d.1 d.2.1) d.2.2 = nE V L := by
  obtain ⟨h1, h2, h3⟩ := h
  rw [← h3, ← nE_shift (wval d.1 d.2.1) d.2.2 (d.2.2 - L).toNat, show d.2.2 - ((d.2.2 - L).toNat : Int) = L by omega]
theorem nE_wn (V : Int) : WN (wsg V) (dlm V) := ⟨limbs_nrm _, fun h => by
  by_cases h0 : V = 0
  · subst h0; cases h
  · exact (dlm_pos h0).1⟩
theorem dlm_lenV {m : Int} {A n : Nat} (h : m.natAbs < 2 ^ A) (hn : A ≤ 16 * n) : (dlm m).length ≤ n := by
  have h1 := wlm_len h hn
  have h2 : m.natAbs / 2 ^ tz m.natAbs ≤ m.natAbs := Nat.div_le_self _ _
  refine (limbs_length_le _ _).2 ?_
  have h3 := (limbs_length_le m.natAbs n).1 h1
  omega
theorem nE_wb {V L : Int} {A : Nat} (hV : V.natAbs < 2 ^ A) (hA : A ≤ 40000) (hL : L ≤ 0) (hL0 : -40000 ≤ L) : WB (wsg V) (dlm V) (dex V L) := by
  refine ⟨nE_wn V, Nat.le_trans (dlm_lenV hV (show A ≤ 16 * 2500 by omega)) (by decide), ?_, ?_⟩
  · unfold dex
    split
    · decide
    · omega
  · unfold dex
    split
    · decide
    · rename_i h
      have := tz_lt (n := V.natAbs) (by omega) hV
      omega
/-- What a sum is. -/
def sumM (a b : DE) : Int := wval a.1 a.2.1 * 2 ^ (a.2.2 - min a.2.2 b.2.2).toNat + wval b.1 b.2.1 * 2 ^ (b.2.2 - min a.2.2 b.2.2).toNat
theorem pow_step (m : Int) {x y L : Int} (h1 : y ≤ x) (h2 : L ≤ y) : m * 2 ^ (x - y).toNat * 2 ^ (y - L).toNat = m * 2 ^ (x - L).toNat := by
  rw [Int.mul_assoc, ← Int.pow_add, show (x - y).toNat + (y - L).toNat = (x - L).toNat by omega]
theorem sum_V {L V1 V2 : Int} {a b : DE} (h1 : IsV L V1 a) (h2 : IsV L V2 b) : sumM a b * 2 ^ (min a.2.2 b.2.2 - L).toNat = V1 + V2 := by
  have g1 := h1.1
  have g2 := h2.1
  unfold sumM
  rw [Int.add_mul, pow_step _ (by omega) (by omega), pow_step _ (by omega) (by omega), h1.2.2, h2.2.2]
theorem sum_isV {L V1 V2 : Int} {a b d : DE} (h1 : IsV L V1 a) (h2 : IsV L V2 b) (hn : Nrm d.2.1) (hm : wval d.1 d.2.1 = sumM a b) (hx : d.2.2 = min a.2.2 b.2.2) : IsV L (V1 + V2) d := by
  have g1 := h1.1
  have g2 := h2.1
  exact ⟨by rw [hx]; omega, hn, by rw [hm, hx]; exact sum_V h1 h2⟩
theorem sum_nE {L V1 V2 : Int} {a b : DE} (h1 : IsV L V1 a) (h2 : IsV L V2 b) : nE (sumM a b) (min a.2.2 b.2.2) = nE (V1 + V2) L := by
  have g1 := h1.1
  have g2 := h2.1
  rw [← sum_V h1 h2, ← nE_shift (sumM a b) (min a.2.2 b.2.2) (min a.2.2 b.2.2 - L).toNat, show min a.2.2 b.2.2 - ((min a.2.2 b.2.2 - L).toNat : Int) = L by omega]
/-- The number's size from its worth. -/
theorem IsV.len {L V : Int} {d : DE} {A n : Nat} (h : IsV L V d) (hV : V.natAbs < 2 ^ A) (hn : A ≤ 16 * n) : d.2.1.length ≤ n := by
  have h1 : (wval d.1 d.2.1).natAbs ≤ V.natAbs := by
    rw [← h.2.2, Int.natAbs_mul]
    exact Nat.le_mul_of_pos_right _ (by rw [Int.natAbs_pow]; exact Nat.pow_pos (by decide))
  rw [nrm_limbs h.2.1]
  rw [wval_abs h.2.1.1] at h1
  refine (limbs_length_le _ _).2 ?_
  have h5 := Nat.lt_of_lt_of_le hV (Nat.pow_le_pow_right (n := 2) (by decide) hn)
  rw [pow_limb]
  omega

end Go.Proofs.YthahoabkehcgbaaGreatDoor

namespace Go.Proofs.YthahoabkehcgbaaGreatDoor
open Go.RowKit
set_option linter.unusedVariables false
set_option maxRecDepth 8000
set_option linter.unusedSimpArgs false

theorem new2_dya {w0 w1 w2 : World} {u1 u2 : Value} {xs ys : List Int} (s1 s2 : Bool) (x1 x2 : Int) (t : TypeId) (o1 : w1.ownsRow w0.heap.size 3 1 u1 xs.length (xs.map (Value.int .i64))) (o2 : w2.ownsRow w1.heap.size 3 1 u2 ys.length (ys.map (Value.int .i64))) (k1 : Kept 0 0 w0 w1) (k2 : Kept 0 0 w1 w2) :
    Dya2 w0 ((w2.alloc (.cells #[u1, .bool s1, .int .i64 x1] t)).alloc (.cells #[u2, .bool s2, .int .i64 x2] t)) w2.heap.size (w2.heap.size + 1) s1 xs x1 s2 ys x2 := by
  have p1 := own_kept o1 k2
  have kA := (Kept.refl 0 0 w2).alloc (.cells #[u1, .bool s1, .int .i64 x1] t)
  obtain ⟨n1, d1, e1⟩ := new_dya s1 x1 t p1
  have kB := (Kept.refl 0 0 (w2.alloc (.cells #[u1, .bool s1, .int .i64 x1] t))).alloc (.cells #[u2, .bool s2, .int .i64 x2] t)
  obtain ⟨n2, d2, e2⟩ := new_dya s2 x2 t (own_kept o2 kA)
  have hz : (w2.alloc (.cells #[u1, .bool s1, .int .i64 x1] t)).heap.size = w2.heap.size + 1 := by simp
  rw [hz] at n2 d2 e2
  have g1 := k1.size
  have g2 := k2.size
  have l1 := n1.lt
  refine ⟨⟨⟨u1, u2, n1.kept kB, n2.less (by omega), by omega, fun e => by have := (o1.lt _ e).2; omega, fun e => by have := (o2.lt _ e).2; omega, fun k e e' => by have := (o1.lt _ e).2; have := (o2.lt _ e').1; omega, ((k1.trans k2).trans kA).trans kB, by omega, by omega⟩, ⟨kB.cell0 d1.1, kB.loose0 (a := ⟨w2.heap.size, 1, none⟩) l1 d1.2⟩, d2⟩, ⟨kB.cell0 e1.1, kB.loose0 (a := ⟨w2.heap.size, 2, none⟩) l1 e1.2⟩, e2⟩

/-- So many bits are enough. -/
def AA : Nat := 40000
/-- A number that is worked on, worth V, not too great. -/
def NV (L V : Int) (d : DE) : Prop := IsV L V d ∧ d.2.1.length ≤ 3000 ∧ d.2.2 ≤ 40000

set_option maxHeartbeats 4000000 in
theorem plusD_impl {L V1 V2 : Int} {g1 g2 : Nat} {u1 u2 : Value} {a b : DE} (w : World) (hL : -40000 ≤ L) (n1 : Num 0 w g1 u1 a.2.1) (d1 : Sd w g1 a.1) (e1 : Ex w g1 a.2.2) (n2 : Num 0 w g2 u2 b.2.1) (d2 : Sd w g2 b.1) (e2 : Ex w g2 b.2.2) (i1 : NV L V1 a) (i2 : NV L V2 b) (hs : (V1 + V2).natAbs < 2 ^ AA) :
    Calls Tryz.prog 82 #[.pointer (some ⟨g1, 0, none⟩), .pointer (some ⟨g2, 0, none⟩)] w fun e w' => ∃ g d, e = .returned (.pointer (some ⟨g, 0, none⟩)) ∧ DyP (fun y => y < w.heap.size) w' g d ∧ NV L (V1 + V2) d ∧ Kept 0 0 w w' := by
  have sv := fun (d : DE) h1 h2 h3 => sum_isV (d := d) i1.1 i2.1 h1 h2 h3
  have ha := i1.1.2.1
  have hb := i2.1.2.1
  have la := i1.2.1
  have lb := i2.2.1
  have f1 : -40000 ≤ a.2.2 := by have := i1.1.1; omega
  have f2 := i1.2.2
  have f3 : -40000 ≤ b.2.2 := by have := i2.1.1; omega
  have f4 := i2.2.2
  have HS := hide hs
  clear i1 i2 hs
  obtain ⟨s1, xs, x1⟩ := a
  obtain ⟨s2, ys, x2⟩ := b
  dsimp only at *
  have SV := hide sv
  clear sv
  have h1 := again_impl w n1 d1 e1 (by omega)
  have h2 := fun w1 (k : Kept 0 0 w w1) => again_impl w1 (n2.kept k) (⟨k.cell0 d2.1, k.loose0 (a := ⟨g2, 1, none⟩) n2.lt d2.2⟩ : Sd w1 g2 s2) (⟨k.cell0 e2.1, k.loose0 (a := ⟨g2, 2, none⟩) n2.lt e2.2⟩ : Ex w1 g2 x2) (by omega)
  have H2 := hide h2
  clear n1 d1 e1 n2 d2 e2 h2
  go_enter Tryz.func82, Tryz.ntmps82
  go_wp2_with fail
  refine h1.mono ?_
  rintro e w1 ⟨v1, rfl, o1, k1⟩
  have h2 := unhide H2 w1 k1
  obtain ⟨a1, c1, hv1⟩ := own_slice o1
  subst hv1
  clear h1 H2
  go_wp2_with fail
  refine h2.mono ?_
  rintro e w2 ⟨v2, rfl, o2, k2⟩
  obtain ⟨a2, c2, hv2⟩ := own_slice o2
  subst hv2
  have D := new2_dya s1 s2 x1 x2 150 o1 o2 k1 k2
  have hadd := addDyadic_wide D ha hb la lb f1 f2 f3 f4
  have B0 : Hid (w.heap.size ≤ w2.heap.size) := by show _ ≤ _; have := k1.size; have := k2.size; omega
  clear h2 o1 o2 k1 k2 D
  go_wp2_with fail
  refine hadd.mono ?_
  rintro e w3 ⟨⟨r3, rfl⟩, u, s, zs, n3, d3, e3, hz, hv, k3⟩
  have DP : Hid (DyP (fun y => y < w.heap.size) w3 w2.heap.size (s, zs, min x1 x2)) := ⟨u, n3.less (Nat.zero_le _), d3, e3, by have := unhide B0; omega, fun i hi => by have := (n3.own.lt i hi).1; omega⟩
  have IS : Hid (NV L (V1 + V2) (s, zs, min x1 x2)) := by
    have hh := unhide SV (s, zs, min x1 x2) hz hv rfl
    have hl := hh.len (unhide HS) (show AA ≤ 16 * 2500 by decide)
    exact ⟨hh, Nat.le_trans hl (by decide), by show min x1 x2 ≤ 40000; omega⟩
  have K3 := hide k3
  clear hadd n3 d3 e3 hz hv k3
  go_wp2
  go_ret
  exact ⟨_, _, rfl, unhide DP, unhide IS, unhide K3⟩

end Go.Proofs.YthahoabkehcgbaaGreatDoor

