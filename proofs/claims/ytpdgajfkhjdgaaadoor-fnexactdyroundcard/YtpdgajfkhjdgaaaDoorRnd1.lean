/-
  How a mode rounds: the table of modes and what stands in it.
-/
import Derived.Test.YtpdgajfkhjdgaaaDoorBA
import Derived.Test.YtpdgajfkhjdgaaaDoorChecked
import Derived.Test.YtpdgajfkhjdgaaaDoorBC
import Derived.Deep.DeepCutAuto
import Derived.WalkSpells
import Derived.WalkLawsBesides
namespace Go.Proofs.YtpdgajfkhjdgaaaDoor
open Go.RowKit
set_option linter.unusedVariables false
set_option linter.unusedSimpArgs false

/-- Whether a mode goes up: of a number below 0 (n), beyond an odd multiple (o), by half a multiple at least (h), and by something beside (r). -/
def upsB (mode : Nat) (n o h r : Bool) : Bool :=
  match mode with
  | 0 => h && (r || o)
  | 1 => false
  | 2 => !n
  | 3 => n
  | _ => h

abbrev exv (n o h r : Bool) : Value := .agg #[.bool n, .bool o, .bool h, .bool r]

theorem ups1 (n o h r : Bool) (w : World) :
    Calls Tryd.prog 100 #[exv n o h r] w fun e w' => e = .returned (.bool (upsB 0 n o h r)) ∧ Kept 0 0 w w' := by
  go_enter Tryd.func100, Tryd.ntmps100
  go_wp2
  all_goals (go_ret; refine ⟨?_, by repeat first | exact Kept.refl 0 0 _ | apply Kept.alloc⟩; congr 2; unfold upsB; simp_all)

theorem ups2 (n o h r : Bool) (w : World) :
    Calls Tryd.prog 101 #[exv n o h r] w fun e w' => e = .returned (.bool (upsB 1 n o h r)) ∧ Kept 0 0 w w' := by
  go_enter Tryd.func101, Tryd.ntmps101
  go_wp2
  all_goals (go_ret; exact ⟨rfl, by repeat first | exact Kept.refl 0 0 _ | apply Kept.alloc⟩)

theorem ups3 (n o h r : Bool) (w : World) :
    Calls Tryd.prog 102 #[exv n o h r] w fun e w' => e = .returned (.bool (upsB 2 n o h r)) ∧ Kept 0 0 w w' := by
  go_enter Tryd.func102, Tryd.ntmps102
  go_wp2
  all_goals (go_ret; exact ⟨rfl, by repeat first | exact Kept.refl 0 0 _ | apply Kept.alloc⟩)

theorem ups4 (n o h r : Bool) (w : World) :
    Calls Tryd.prog 103 #[exv n o h r] w fun e w' => e = .returned (.bool (upsB 3 n o h r)) ∧ Kept 0 0 w w' := by
  go_enter Tryd.func103, Tryd.ntmps103
  go_wp2
  all_goals (go_ret; exact ⟨rfl, by repeat first | exact Kept.refl 0 0 _ | apply Kept.alloc⟩)

theorem ups5 (n o h r : Bool) (w : World) :
    Calls Tryd.prog 104 #[exv n o h r] w fun e w' => e = .returned (.bool (upsB 4 n o h r)) ∧ Kept 0 0 w w' := by
  go_enter Tryd.func104, Tryd.ntmps104
  go_wp2
  all_goals (go_ret; exact ⟨rfl, by repeat first | exact Kept.refl 0 0 _ | apply Kept.alloc⟩)

/-- The table of modes. -/
abbrev rndTab : Value := .agg #[.func (.func 100) #[] #[], .func (.func 101) #[] #[], .func (.func 102) #[] #[], .func (.func 103) #[] #[], .func (.func 104) #[] #[]]

set_option maxHeartbeats 1000000 in
theorem roundings_impl (w : World) :
    Calls Tryd.prog 69 #[] w fun e w' => e = .returned rndTab ∧ Kept 0 0 w w' := by
  have k0 : Kept 0 0 w (w.alloc (.cells #[.nilFunc, .nilFunc, .nilFunc, .nilFunc, .nilFunc] 112)) := ((Kept.refl 0 0 w).alloc (.cells #[.nilFunc, .nilFunc, .nilFunc, .nilFunc, .nilFunc] 112))
  have q0 : (w.alloc (.cells #[.nilFunc, .nilFunc, .nilFunc, .nilFunc, .nilFunc] 112)).cell? ⟨w.heap.size, 0, none⟩ = some (.nilFunc) := new_cell2 _ _ _ _ _ _ (by simp) rfl
  have qf0 : (w.alloc (.cells #[.nilFunc, .nilFunc, .nilFunc, .nilFunc, .nilFunc] 112)).frozen? ⟨w.heap.size, 0, none⟩ = false := new_loose2 _ _ _ _ _ (by simp)
  have q1 : (w.alloc (.cells #[.nilFunc, .nilFunc, .nilFunc, .nilFunc, .nilFunc] 112)).cell? ⟨w.heap.size, 1, none⟩ = some (.nilFunc) := new_cell2 _ _ _ _ _ _ (by simp) rfl
  have qf1 : (w.alloc (.cells #[.nilFunc, .nilFunc, .nilFunc, .nilFunc, .nilFunc] 112)).frozen? ⟨w.heap.size, 1, none⟩ = false := new_loose2 _ _ _ _ _ (by simp)
  have q2 : (w.alloc (.cells #[.nilFunc, .nilFunc, .nilFunc, .nilFunc, .nilFunc] 112)).cell? ⟨w.heap.size, 2, none⟩ = some (.nilFunc) := new_cell2 _ _ _ _ _ _ (by simp) rfl
  have qf2 : (w.alloc (.cells #[.nilFunc, .nilFunc, .nilFunc, .nilFunc, .nilFunc] 112)).frozen? ⟨w.heap.size, 2, none⟩ = false := new_loose2 _ _ _ _ _ (by simp)
  have q3 : (w.alloc (.cells #[.nilFunc, .nilFunc, .nilFunc, .nilFunc, .nilFunc] 112)).cell? ⟨w.heap.size, 3, none⟩ = some (.nilFunc) := new_cell2 _ _ _ _ _ _ (by simp) rfl
  have qf3 : (w.alloc (.cells #[.nilFunc, .nilFunc, .nilFunc, .nilFunc, .nilFunc] 112)).frozen? ⟨w.heap.size, 3, none⟩ = false := new_loose2 _ _ _ _ _ (by simp)
  have q4 : (w.alloc (.cells #[.nilFunc, .nilFunc, .nilFunc, .nilFunc, .nilFunc] 112)).cell? ⟨w.heap.size, 4, none⟩ = some (.nilFunc) := new_cell2 _ _ _ _ _ _ (by simp) rfl
  have qf4 : (w.alloc (.cells #[.nilFunc, .nilFunc, .nilFunc, .nilFunc, .nilFunc] 112)).frozen? ⟨w.heap.size, 4, none⟩ = false := new_loose2 _ _ _ _ _ (by simp)
  have s0 : (w.alloc (.cells #[.nilFunc, .nilFunc, .nilFunc, .nilFunc, .nilFunc] 112)).heap.size = w.heap.size + 1 := by simp
  have K := hide (k0)
  clear k0
  have S0 := hide s0
  clear s0
  go_enter Tryd.func69, Tryd.ntmps69
  go_upto_region 1 with fail
  generalize (w.alloc (.cells #[.nilFunc, .nilFunc, .nilFunc, .nilFunc, .nilFunc] 112)) = W at *
  have st := fun (w : World) (a : Addr) (f : Fn) => run_store Tryd.prog w a (.func f #[] #[]) .plain rfl
  have K7 := hide ((((((unhide K).setNew (p := ⟨w.heap.size, 0, none⟩) (by simp) (.func (.func 100) #[] #[])).setNew (p := ⟨w.heap.size, 1, none⟩) (by simp) (.func (.func 101) #[] #[])).setNew (p := ⟨w.heap.size, 2, none⟩) (by simp) (.func (.func 102) #[] #[])).setNew (p := ⟨w.heap.size, 3, none⟩) (by simp) (.func (.func 103) #[] #[])).setNew (p := ⟨w.heap.size, 4, none⟩) (by simp) (.func (.func 104) #[] #[]))
  clear K
  go_wp2_with fail
  exact bodyPost_ret (v := rndTab) (by simp [results, Tryd.results69, go_sem, q0, q1, q2, q3, q4]) rfl ⟨rfl, unhide K7⟩

end Go.Proofs.YtpdgajfkhjdgaaaDoor
