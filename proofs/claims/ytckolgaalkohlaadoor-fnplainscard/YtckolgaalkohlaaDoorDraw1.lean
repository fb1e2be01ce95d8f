/-
  Contracts of the draws of chapter 1: a drawn rune, a drawn number for RuneBytes.
-/
import Derived.Test.YtckolgaalkohlaaDoorDraw
import Derived.Test.YtckolgaalkohlaaDoorBX
namespace Go.Proofs.YtckolgaalkohlaaDoor
open Go.RowKit
set_option linter.unusedVariables false

set_option maxHeartbeats 2000000 in
theorem drawRune_any (g lo : Nat) (w : World) (c : Cur g lo w) :
    Calls Tryd.prog 27 #[.pointer (some ⟨g, 0, none⟩)] w fun e w' => ∃ x : Int, e = .returned (.int .i64 x) ∧ mayB x = true ∧ Cur g lo w' ∧ Kept g (g + 1) w w' := by
  have hg := c.1
  go_enter Tryd.func27, Tryd.ntmps27
  go_wp2_with fail
  refine (l1Once_any g lo _ c 3).mono ?_
  rintro e w1 ⟨b1, rfl, c1, k1, -⟩
  cases b1
  · go_wp2_with fail
    refine (l1Once_any g lo _ c1 2).mono ?_
    rintro e w2 ⟨b2, rfl, c2, k2, -⟩
    have g2 := c2.1
    cases b2
    · go_wp2_with fail
      refine (l1Below_any g lo _ c2 95).mono ?_
      rintro e w3 ⟨x, rfl, -, hx, c3, k3, -⟩
      obtain ⟨x0, x1⟩ := hx (by omega)
      clear hx
      go_wp2
      go_ret
      exact ⟨_, rfl, by simp [mayB]; omega, c3, (k1.trans k2).trans k3⟩
    · go_wp2_with fail
      have hr := Row.lit .i64 w2 3 [48, 1632, 1776, 2406, 65296] (by simp [maxLen])
      refine (l1PickInt_any g lo _ (c2.kept ((Kept.refl 0 0 w2).alloc _) (by omega)) hr (by simp) (by omega)).mono ?_
      rintro e w3 ⟨x, rfl, hx, c3, k3, -⟩
      have hxb : 48 ≤ x ∧ x ≤ 65296 ∧ (x ≤ 2406 ∨ x = 65296) := by simp at hx; omega
      obtain ⟨x0, x1, x2⟩ := hxb
      have HX2 := hide x2
      clear hx x2
      go_wp2_with fail
      refine (l1Below_any g lo _ c3 10).mono ?_
      rintro e w4 ⟨y, rfl, -, hy, c4, k4, -⟩
      obtain ⟨y0, y1⟩ := hy (by omega)
      clear hy
      go_wp2
      go_ret
      have x2 := unhide HX2
      exact ⟨_, rfl, by simp [mayB]; omega, c4, (((k1.trans k2).trans ((Kept.refl g (g + 1) w2).alloc _)).trans k3).trans k4⟩
  · have g1 := c1.1
    go_wp2_with fail
    have hr := Row.lit .i64 w1 3 [0, 127, 128, 2047, 2048, 65535, 65536, 1114111, 55295, 57344, 65533, 8722, 160, 12288] (by simp [maxLen])
    refine (l1PickInt_any g lo _ (c1.kept ((Kept.refl 0 0 w1).alloc _) (by omega)) hr (by simp) (by omega)).mono ?_
    rintro e w3 ⟨x, rfl, hx, c3, k3, -⟩
    have hm : mayB x = true := by
      simp only [List.mem_cons, List.not_mem_nil, or_false] at hx
      rcases hx with rfl | rfl | rfl | rfl | rfl | rfl | rfl | rfl | rfl | rfl | rfl | rfl | rfl | rfl <;> decide
    clear hx
    go_wp2
    go_ret
    exact ⟨_, rfl, hm, c3, (k1.trans ((Kept.refl g (g + 1) w1).alloc _)).trans k3⟩

end Go.Proofs.YtckolgaalkohlaaDoor
