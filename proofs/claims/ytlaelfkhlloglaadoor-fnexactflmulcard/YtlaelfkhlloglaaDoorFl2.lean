/-
  The small functions of floats; FlNeg, the model's and the program's.
-/
import Derived.Test.YtlaelfkhlloglaaDoorFl1
namespace Go.Proofs.YtlaelfkhlloglaaDoor
open Go.RowKit
set_option linter.unusedVariables false

/-- A float out of its four fields. -/
abbrev flq (q : Int × Bool × Int × Int) : Value := flv q.1 q.2.1 q.2.2.1 q.2.2.2

theorem Kept.box {w w' : World} (h : Kept 0 0 w w') {b : Nat} (hb : b < w.heap.size) (off : Nat) : w'.cell? ⟨b, off, none⟩ = w.cell? ⟨b, off, none⟩ :=
  World.cell?_of_block (w := w) (a := ⟨b, off, none⟩) (h.block b hb (by omega))

/-- A float's box: its block, its four cells. -/
structure FB (w : World) (b : Nat) (k : Int) (n : Bool) (m e : Int) : Prop where
  lt : b < w.heap.size
  c0 : w.cell? ⟨b, 0, none⟩ = some (.int .i64 k)
  c1 : w.cell? ⟨b, 1, none⟩ = some (.bool n)
  c2 : w.cell? ⟨b, 2, none⟩ = some (.int .i64 m)
  c3 : w.cell? ⟨b, 3, none⟩ = some (.int .i64 e)

theorem FB.kept {w w' : World} {b : Nat} {k : Int} {n : Bool} {m e : Int} (f : FB w b k n m e) (h : Kept 0 0 w w') : FB w' b k n m e :=
  ⟨Nat.lt_of_lt_of_le f.lt h.size, (h.box f.lt 0).trans f.c0, (h.box f.lt 1).trans f.c1, (h.box f.lt 2).trans f.c2, (h.box f.lt 3).trans f.c3⟩
theorem FB.alloc {w : World} {b : Nat} {k : Int} {n : Bool} {m e : Int} (f : FB w b k n m e) (o : Obj) : FB (w.alloc o) b k n m e :=
  f.kept ((Kept.refl 0 0 w).alloc o)
theorem FB.new (w : World) (k : Int) (n : Bool) (m e : Int) (t : TypeId) : FB (w.alloc (flc k n m e t)) w.heap.size k n m e := by
  have hg : (w.alloc (flc k n m e t)).heap[w.heap.size]? = some (flc k n m e t) := heap_alloc_new w _
  refine ⟨by simp, ?_, ?_, ?_, ?_⟩ <;> simp only [World.cell?, hg] <;> rfl

theorem l5nan_any (w : World) :
    Calls Tryd.prog 28 #[] w fun r w' => r = .returned (flv 3 false 0 0) ∧ w' = (w.alloc (flc 3 false 0 0 24)) := by
  go_enter Tryd.func28, Tryd.ntmps28
  go_wp2
  exact bodyPost_ret (v := flv 3 false 0 0) (by simp [results, Tryd.results28, go_sem]) rfl ⟨rfl, rfl⟩

theorem l5most_any (n : Bool) (w : World) :
    Calls Tryd.prog 42 #[.bool n] w fun r w' => r = .returned (flv 1 n 9007199254740991 971) ∧ w' = (w.alloc (flc 1 n 9007199254740991 971 24)) := by
  go_enter Tryd.func42, Tryd.ntmps42
  go_wp2
  exact bodyPost_ret (v := flv 1 n 9007199254740991 971) (by simp [results, Tryd.results42, go_sem]) rfl ⟨rfl, rfl⟩

/-- What FlNeg answers. -/
def fneg (k : Int) (n : Bool) (m e : Int) : Int × Bool × Int × Int := if flok k n m e = true ∧ k ≠ 3 then (k, !n, m, e) else (3, false, 0, 0)

end Go.Proofs.YtlaelfkhlloglaaDoor
