/-
  The program's plus of two numbers that are worked on: a new one; opposite.
-/
import Derived.Test.YtgoncjcnakkaoaaGreatDoorAg
import Derived.Test.YtgoncjcnakkaoaaGreatDoorSqq
import Derived.Test.YtgoncjcnakkaoaaGreatDoorDy11
import Derived.Test.YtgoncjcnakkaoaaGreatDoorVal
namespace Go.Proofs.YtgoncjcnakkaoaaGreatDoor
open Go.RowKit
set_option linter.unusedVariables false
set_option maxRecDepth 8000
set_option linter.unusedSimpArgs false

theorem new2_dya {w0 w1 w2 : World} {u1 u2 : Value} {xs ys : List Int} (s1 s2 : Bool) (x1 x2 : Int) (t : TypeId) (o1 : w1.ownsRow w0.heap.size 3 1 u1 xs.length (xs.map (Value.int .i64))) (o2 : w2.ownsRow w1.heap.size 3 1 u2 ys.length (ys.map (Value.int .i64))) (k1 : Kept 0 0 w0 w1) (k2 : Kept 0 0 w1 w2) :
    Dya2 w0 ((w2.alloc (.cells #[u1, .bool s1, .int .i64 x1] t)).alloc (.cells #[u2, .bool s2, .int .i64 x2] t)) w2.heap.size (w2.heap.size + 1) s1 xs x1 s2 ys x2 := by
  have p1 := own_kept o1 k2
  have kA := (Kept.refl 0 0 w2).alloc (.cells #[u1, .bool s1, .int .i64 x1] t)
  obtain ⟨n1, d1, e1⟩ := new_dya s1 x1 t p1
  have kB := (Kept.refl 0 0 (w2.alloc (.cells #[u1, .bool s1, .int .i64 x1] t))).alloc (.cells #[u2, .bool s2, .int .i64 x2] t)
  obtain ⟨n2, d2, e2⟩ := new_dya s2 x2 t (own_kept o2 kA)
  have hz : (w2.alloc (.cells #[u1, .bool s1, .int .i64 x1] t)).heap.size = w2.heap.size + 1 := by simp
  rw [hz] at n2 d2 e2
  have g1 := k1.size
  have g2 := k2.size
  have l1 := n1.lt
  refine ⟨⟨⟨u1, u2, n1.kept kB, n2.less (by omega), by omega, fun e => by have := (o1.lt _ e).2; omega, fun e => by have := (o2.lt _ e).2; omega, fun k e e' => by have := (o1.lt _ e).2; have := (o2.lt _ e').1; omega, ((k1.trans k2).trans kA).trans kB, by omega, by omega⟩, ⟨kB.cell0 d1.1, kB.loose0 (a := ⟨w2.heap.size, 1, none⟩) l1 d1.2⟩, d2⟩, ⟨kB.cell0 e1.1, kB.loose0 (a := ⟨w2.heap.size, 2, none⟩) l1 e1.2⟩, e2⟩

/-- So many bits are enough. -/
def AA : Nat := 40000
/-- A number that is worked on, worth V, not too great. -/
def NV (L V : Int) (d : DE) : Prop := IsV L V d ∧ d.2.1.length ≤ 3000 ∧ d.2.2 ≤ 40000

set_option maxHeartbeats 4000000 in
theorem plusD_impl {L V1 V2 : Int} {g1 g2 : Nat} {u1 u2 : Value} {a b : DE} (w : World) (hL : -40000 ≤ L) (n1 : Num 0 w g1 u1 a.2.1) (d1 : Sd w g1 a.1) (e1 : Ex w g1 a.2.2) (n2 : Num 0 w g2 u2 b.2.1) (d2 : Sd w g2 b.1) (e2 : Ex w g2 b.2.2) (i1 : NV L V1 a) (i2 : NV L V2 b) (hs : (V1 + V2).natAbs < 2 ^ AA) :
    Calls Tryz.prog 124 #[.pointer (some ⟨g1, 0, none⟩), .pointer (some ⟨g2, 0, none⟩)] w fun e w' => ∃ g d, e = .returned (.pointer (some ⟨g, 0, none⟩)) ∧ DyP (fun y => y < w.heap.size) w' g d ∧ NV L (V1 + V2) d ∧ Kept 0 0 w w' := by
  have sv := fun (d : DE) h1 h2 h3 => sum_isV (d := d) i1.1 i2.1 h1 h2 h3
  have ha := i1.1.2.1
  have hb := i2.1.2.1
  have la := i1.2.1
  have lb := i2.2.1
  have f1 : -40000 ≤ a.2.2 := by have := i1.1.1; omega
  have f2 := i1.2.2
  have f3 : -40000 ≤ b.2.2 := by have := i2.1.1; omega
  have f4 := i2.2.2
  have HS := hide hs
  clear i1 i2 hs
  obtain ⟨s1, xs, x1⟩ := a
  obtain ⟨s2, ys, x2⟩ := b
  dsimp only at *
  have SV := hide sv
  clear sv
  have h1 := again_impl w n1 d1 e1 (by omega)
  have h2 := fun w1 (k : Kept 0 0 w w1) => again_impl w1 (n2.kept k) (⟨k.cell0 d2.1, k.loose0 (a := ⟨g2, 1, none⟩) n2.lt d2.2⟩ : Sd w1 g2 s2) (⟨k.cell0 e2.1, k.loose0 (a := ⟨g2, 2, none⟩) n2.lt e2.2⟩ : Ex w1 g2 x2) (by omega)
  have H2 := hide h2
  clear n1 d1 e1 n2 d2 e2 h2
  go_enter Tryz.func124, Tryz.ntmps124
  go_wp2_with fail
  refine h1.mono ?_
  rintro e w1 ⟨v1, rfl, o1, k1⟩
  have h2 := unhide H2 w1 k1
  obtain ⟨a1, c1, hv1⟩ := own_slice o1
  subst hv1
  clear h1 H2
  go_wp2_with fail
  refine h2.mono ?_
  rintro e w2 ⟨v2, rfl, o2, k2⟩
  obtain ⟨a2, c2, hv2⟩ := own_slice o2
  subst hv2
  have D := new2_dya s1 s2 x1 x2 90 o1 o2 k1 k2
  have hadd := addDyadic_wide D ha hb la lb f1 f2 f3 f4
  have B0 : Hid (w.heap.size ≤ w2.heap.size) := by show _ ≤ _; have := k1.size; have := k2.size; omega
  clear h2 o1 o2 k1 k2 D
  go_wp2_with fail
  refine hadd.mono ?_
  rintro e w3 ⟨⟨r3, rfl⟩, u, s, zs, n3, d3, e3, hz, hv, k3⟩
  have DP : Hid (DyP (fun y => y < w.heap.size) w3 w2.heap.size (s, zs, min x1 x2)) := ⟨u, n3.less (Nat.zero_le _), d3, e3, by have := unhide B0; omega, fun i hi => by have := (n3.own.lt i hi).1; omega⟩
  have IS : Hid (NV L (V1 + V2) (s, zs, min x1 x2)) := by
    have hh := unhide SV (s, zs, min x1 x2) hz hv rfl
    have hl := hh.len (unhide HS) (show AA ≤ 16 * 2500 by decide)
    exact ⟨hh, Nat.le_trans hl (by decide), by show min x1 x2 ≤ 40000; omega⟩
  have K3 := hide k3
  clear hadd n3 d3 e3 hz hv k3
  go_wp2
  go_ret
  exact ⟨_, _, rfl, unhide DP, unhide IS, unhide K3⟩

end Go.Proofs.YtgoncjcnakkaoaaGreatDoor
