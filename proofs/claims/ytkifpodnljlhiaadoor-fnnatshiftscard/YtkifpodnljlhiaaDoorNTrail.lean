/-
  The model's and the program's NatTrail.
-/
import Derived.Test.YtkifpodnljlhiaaDoorTzNum
import Derived.Test.YtkifpodnljlhiaaDoorBF
namespace Go.Proofs.YtkifpodnljlhiaaDoor
open Go.RowKit
set_option linter.unusedVariables false
set_option maxRecDepth 8000
set_option linter.unusedSimpArgs false

/-- What NatTrail tells. -/
def trailN (zs : List Int) : Int := if okB zs = true then (tz (val zs).toNat : Int) else 0
theorem trailN_no {zs : List Int} (h : okB zs = false) : trailN zs = 0 := by unfold trailN; rw [h]; rfl
theorem trailN_yes {zs : List Int} (h : okB zs = true) : trailN zs = (tz (val zs).toNat : Int) := by unfold trailN; rw [h]; rfl

set_option maxHeartbeats 2000000 in
theorem ntrail_impl {bw : Bool} {lo hi : Nat} {v : Value} {zs : List Int} (w : World) (r : Row .i64 bw lo hi w v zs) (T : TabB w) :
    Calls Tryd.prog 14 #[.agg #[v]] w fun e w' => e = .returned (.int .i64 (trailN zs)) ∧ Kept 0 0 w w' := by
  have k0 : Kept 0 0 w (w.alloc (.cells #[v] 25)) := ((Kept.refl 0 0 w).alloc (.cells #[v] 25))
  have p0 : (w.alloc (.cells #[v] 25)).cell? ⟨w.heap.size, 0, none⟩ = some (v) := new_cell2 _ _ _ _ _ _ (by simp) rfl
  replace r := r.kept k0 (by omega)
  have s0 : (w.alloc (.cells #[v] 25)).heap.size = w.heap.size + 1 := by simp
  obtain ⟨a, c, hv⟩ := Row.form' r
  subst hv
  have K := hide (k0)
  clear k0
  have S0 := hide s0
  clear s0
  replace T := T.kept (Kept.refl 0 0 w |>.alloc (.cells #[.slice a zs.length c] 25))
  go_enter Tryd.func14, Tryd.ntmps14
  go_wp2_with fail
  generalize (w.alloc (.cells #[.slice a zs.length c] 25)) = W at *
  refine (ok_impl _ r).mono ?_
  rintro e w1 ⟨rfl, k1⟩
  replace r := r.kept k1 (by omega)
  replace p0 := k1.cell0 p0
  replace K := hide ((unhide K).trans k1)
  have z2 := k1.size
  replace T := T.kept k1
  clear k1
  cases hok : okB zs
  · have HT := hide (trailN_no hok)
    clear hok r
    go_wp2_with fail
    go_ret
    exact ⟨by rw [unhide HT]; rfl, unhide K⟩
  have HT := hide (trailN_yes hok)
  obtain ⟨hl, hn⟩ := (okB_iff zs).1 hok
  clear hok
  go_wp2_with fail
  refine (limbsOf_impl _ r (by omega)).mono ?_
  rintro e w5 ⟨v5, rfl, o5, k5⟩
  replace r := r.kept k5 (by omega)
  replace p0 := k5.cell0 p0
  replace K := hide ((unhide K).trans k5)
  have z3 := k5.size
  replace T := T.kept k5
  have nn := Num.new 45 o5
  have kn := (Kept.refl 0 0 w5).alloc (.cells #[v5] 45)
  replace T := T.kept kn
  replace K := hide ((unhide K).trans kn)
  obtain ⟨a5, c5, hv⟩ := own_slice o5
  subst hv
  clear k5 kn o5 r
  go_wp2_with fail
  generalize w5.alloc (.cells #[.slice a5 zs.length c5] 45) = W6 at *
  refine (trail_impl _ nn.work hn.1 (by omega) T).mono ?_
  rintro e w7 ⟨t, rfl, ht, rfl⟩
  have hte := hide (tz_eq ht)
  clear ht nn T
  go_wp2_with fail
  go_ret
  exact ⟨by rw [unhide HT, ← unhide hte]; rfl, unhide K⟩

end Go.Proofs.YtkifpodnljlhiaaDoor
