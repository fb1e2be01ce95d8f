/-
  The program's times of numbers; total of a list of numbers.
-/
import Derived.Test.YtgoncjcnakkaoaaGreatDoorPl2
import Derived.Test.YtgoncjcnakkaoaaGreatDoorCat
import Derived.Test.YtgoncjcnakkaoaaGreatDoorDys5
namespace Go.Proofs.YtgoncjcnakkaoaaGreatDoor
open Go.RowKit
set_option linter.unusedVariables false
set_option maxRecDepth 8000
set_option linter.unusedSimpArgs false

theorem DyP.parts {X : Nat → Prop} {w : World} {g : Nat} {d : DE} (h : DyP X w g d) : ∃ u, Num 0 w g u d.2.1 ∧ Sd w g d.1 ∧ Ex w g d.2.2 := by
  obtain ⟨u, n, s, e, -⟩ := h
  exact ⟨u, n, s, e⟩

/-- The sum of the first n. -/
def psum (f : Nat → Int) : Nat → Int
  | 0 => 0
  | n + 1 => psum f n + f n

set_option maxHeartbeats 8000000 in
theorem total_impl {L : Int} {gl m c base : Nat} {P : Nat → Nat} {F : Nat → DE} {V : Nat → Int} (w : World) (hL : -40000 ≤ L) (h0 : 0 < m) (hm : m ≤ 1000) (hc : m ≤ c) (hc2 : c ≤ 9223372036854775807) (hb : base ≤ w.heap.size) (hl : ∀ q, q < m → w.cell? ⟨gl, q, none⟩ = some (.pointer (some ⟨P q, 0, none⟩))) (hn : ∀ q, q < m → DyP (fun x => x < base) w (P q) (F q) ∧ NV L (V q) (F q)) (hs : ∀ q, q ≤ m → (psum V q).natAbs < 2 ^ AA) :
    Calls Tryz.prog 38 #[.slice (some ⟨gl, 0, none⟩) m c] w fun e w' => ∃ g d, e = .returned (.pointer (some ⟨g, 0, none⟩)) ∧ DyP (fun x => x < base) w' g d ∧ NV L (psum V m) d ∧ Kept 0 0 w w' := by
  have l0 := hl 0 h0
  by_cases hm1 : m = 1
  · subst hm1
    have D : Hid (DyP (fun x => x < base) w (P 0) (F 0) ∧ NV L (psum V 1) (F 0)) := ⟨(hn 0 h0).1, by show NV L (0 + V 0) _; rw [Int.zero_add]; exact (hn 0 h0).2⟩
    clear hl hn hs hb
    by_cases hc1 : c = 1
    · subst hc1
      go_enter Tryz.func38, Tryz.ntmps38
      go_wp2_with fail
      go_loopw [12, 3] (fun s12 s3 wr => s12 = .int .i64 0 ∧ s3 = .pointer (some ⟨P 0, 0, none⟩) ∧ w = wr) (fun s12 _ _ => 1)
      case atStart => exact ⟨rfl, rfl, rfl⟩
      case round =>
        obtain ⟨rfl, rfl, rfl⟩ := hrel
        go_wp2
        go_ret
        exact ⟨_, _, rfl, (unhide D).1, (unhide D).2, Kept.refl _ _ _⟩
    · have hc3 : 1 < c := by omega
      have hc4 : c - 1 ≠ 0 := by omega
      go_enter Tryz.func38, Tryz.ntmps38
      go_wp2_with fail
      go_loopw [12, 3] (fun s12 s3 wr => s12 = .int .i64 0 ∧ s3 = .pointer (some ⟨P 0, 0, none⟩) ∧ w = wr) (fun s12 _ _ => 1)
      case atStart => exact ⟨rfl, rfl, rfl⟩
      case round =>
        obtain ⟨rfl, rfl, rfl⟩ := hrel
        go_wp2
        go_ret
        exact ⟨_, _, rfl, (unhide D).1, (unhide D).2, Kept.refl _ _ _⟩
  have hc3 : 1 < c := by omega
  have hc4 : c - 1 ≠ 0 := by omega
  have hc5 : c ≠ 1 := by omega
  have HL := hide hl
  have HN := hide hn
  have HS := hide hs
  have HB := hide hb
  have hfu := plus_is
  clear hl hn hs hb
  go_enter Tryz.func38, Tryz.ntmps38
  go_wp2_with fail
  go_loopw [12, 3] (fun s12 s3 wr => ∃ (i g : Nat) (d : DE), s12 = .int .i64 i ∧ s3 = .pointer (some ⟨g, 0, none⟩) ∧ i + 1 ≤ m ∧ Hid (DyP (fun x => x < base) wr g d ∧ NV L (psum V (i + 1)) d) ∧ Kept 0 0 w wr) (fun s12 _ _ => m - (intOf s12).toNat)
  case atStart => exact ⟨0, P 0, F 0, rfl, rfl, h0, ⟨(unhide HN 0 h0).1, by show NV L (0 + V 0) _; rw [Int.zero_add]; exact (unhide HN 0 h0).2⟩, Kept.refl _ _ _⟩
  case round =>
    obtain ⟨i, g, d, rfl, rfl, hi, hD, k⟩ := hrel
    have hwi : IntKind.i64.wrap ((i : Int) + 1) = ((i + 1 : Nat) : Int) := by rw [IntKind.wrap_i64]; omega
    by_cases hlt : i < m - 1
    · have hlt2 : i + 1 < m := by omega
      have hcl := k.cell0 (unhide HL (i + 1) hlt2)
      have hcl2 : wr.cell? ⟨gl, 1 + i, none⟩ = some (.pointer (some ⟨P (i + 1), 0, none⟩)) := by rw [Nat.add_comm 1 i]; exact hcl
      obtain ⟨u1, n1, d1, e1⟩ := (unhide hD).1.parts
      obtain ⟨u2, n2, d2, e2⟩ := ((unhide HN (i + 1) hlt2).1.kept k).parts
      have hp := plusD_impl wr hL n1 d1 e1 n2 d2 e2 (unhide hD).2 (unhide HN (i + 1) hlt2).2 (unhide HS (i + 2) (by omega))
      have K := hide k
      have BB := hide (Nat.le_trans (unhide HB) k.size)
      clear n1 d1 e1 n2 d2 e2 k hD hcl
      go_wp2_with fail
      refine hp.mono ?_
      rintro e w3 ⟨g3, d3, rfl, dp, nv, k3⟩
      have DD : Hid (DyP (fun x => x < base) w3 g3 d3 ∧ NV L (psum V (i + 1 + 1)) d3) := ⟨dp.less (fun x hx _ => by have := unhide BB; omega), nv⟩
      have K3 := hide ((unhide K).trans k3)
      clear hp dp nv k3 K BB hcl2
      go_wp2
      go_roundw
      case rel => exact ⟨i + 1, g3, d3, by simp, rfl, hlt2, DD, unhide K3⟩
      case measure => simp [intOf]; omega
    · have him : i + 1 = m := by omega
      rw [him] at hD
      have K := hide k
      clear k him
      go_wp2
      go_ret
      exact ⟨_, _, rfl, (unhide hD).1, (unhide hD).2, unhide K⟩

end Go.Proofs.YtgoncjcnakkaoaaGreatDoor
