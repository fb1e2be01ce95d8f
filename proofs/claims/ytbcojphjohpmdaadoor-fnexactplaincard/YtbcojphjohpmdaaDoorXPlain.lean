/-
  The walk of the law FnExactPlain: it returns true at every slice of bytes, where the table of noughts is as the program's text lays it.
-/
import Derived.Test.YtbcojphjohpmdaaDoorPlain
namespace Go.Proofs.YtbcojphjohpmdaaDoor
open Go.RowKit

theorem plain_length (zs : List Int) : (plainL (runes zs)).length ≤ 1600 := by
  have h1 := plainL_length (runes zs)
  have h2 := runes_length zs
  omega

set_option maxHeartbeats 1000000 in
theorem law_Plain {v : Value} {zs : List Int} {w : World} (r : Row .u8 false 0 w.heap.size w v zs) (hb0 : ∀ z ∈ zs, (Lit.int .u8 z).wf = true) (ht : Tab w) :
    Calls Tryd.prog 4 #[v] w fun e w' => e = .returned (.bool true) ∧ Below w.heap.size w w' := by
  have hb := bytes_of_wf hb0
  clear hb0
  have h0 : 0 < w.heap.size := by obtain ⟨_, _, h⟩ := ht; exact (Array.getElem?_eq_some_iff.1 h).1
  have ra := r
  obtain ⟨a, c, rfl, q1, m1, q3⟩ := r
  unfold maxLen at m1
  clear q3
  by_cases hbig : 1048576 < (zs.length : Int)
  · go_enter Tryd.func4, Tryd.ntmps4
    go_wp2
    go_ret
    exact ⟨rfl, Below.refl _ _⟩
  · have hn : zs.length ≤ 1048576 := by omega
    have hr4 := plain_length zs
    clear q1 m1
    go_enter Tryd.func4, Tryd.ntmps4
    go_wp2_with fail
    refine (toByteS_any _ (by omega) ra).mono ?_
    rintro e w1 ⟨v1, rfl, r1, k1⟩
    have s1 := k1.size
    replace ra := ra.kept k1 (by omega)
    go_wp2_with fail
    refine (plain_spec _ r1 hb (by omega)).mono ?_
    rintro e w2 ⟨v2, rfl, rw0, k2⟩
    have s2 := k2.size
    replace ra := ra.kept k2 (by omega)
    clear r1
    go_wp2_with fail
    refine (toByteS_any _ (by omega) ra).mono ?_
    rintro e w3 ⟨v3, rfl, rx, k3⟩
    replace ht := ((ht.kept k1 (by omega)).kept k2 (by omega)).kept k3 (by omega)
    have s3 := k3.size
    replace ra := ra.kept k3 (by omega)
    replace rw0 := rw0.kept k3 (by omega)
    go_wp2_with fail
    refine (plain_impl _ rx hb ht).mono ?_
    rintro e w4 ⟨v4, rfl, rg, k4⟩
    have s4 := k4.size
    replace ra := ra.kept k4 (by omega)
    replace rw0 := rw0.kept k4 (by omega)
    replace rx := rx.kept k4 (by omega)
    go_wp2_with fail
    refine (eqByteS_same _ rg rw0).mono ?_
    rintro e w5 ⟨rfl, n5, rfl⟩
    go_wp2_with fail
    refine (toByteS_any _ (by omega) (ra.drewN n5)).mono ?_
    rintro e w6 ⟨v6, rfl, r6, k6⟩
    have s6 := k6.size
    replace ra := (ra.drewN n5).kept k6 (by omega)
    replace rw0 := (rw0.drewN n5).kept k6 (by omega)
    replace rx := (rx.drewN n5).kept k6 (by omega)
    replace rg := (rg.drewN n5).kept k6 (by omega)
    go_wp2_with fail
    refine (eqByteS_same _ rx r6).mono ?_
    rintro e w7 ⟨rfl, n7, rfl⟩
    clear r6
    go_wp2_with fail
    refine (markByteS_any _ 1 (by omega) (by omega) (by omega) (rx.drewN n7)).mono ?_
    rintro e w8 ⟨rfl, -, k8, -⟩
    have s8 := k8.size
    simp only [World.heap_drewN] at s6 s8
    replace ra := (ra.drewN n7).kept k8 (by omega)
    replace rw0 := (rw0.drewN n7).kept k8 (by omega)
    replace rg := (rg.drewN n7).kept k8 (by omega)
    clear rx
    go_wp2_with fail
    refine (eqByteS_same _ rg rw0).mono ?_
    rintro e w9 ⟨rfl, n9, rfl⟩
    go_wp2_with fail
    refine (markByteS_any _ 1 (by omega) (by omega) (by omega) (rg.drewN n9)).mono ?_
    rintro e w10 ⟨rfl, rg, k10, -⟩
    have s10 := k10.size
    simp only [World.heap_drewN] at s10
    replace ra := (ra.drewN n9).kept k10 (by omega)
    replace rw0 := (rw0.drewN n9).kept k10 (by omega)
    go_wp2_with fail
    refine (heldByteS_any _ 1 (by omega) (by omega) (by omega) rg).mono ?_
    rintro e w11 ⟨rfl, rfl⟩
    go_wp2_with fail
    refine (toByteS_any _ (by omega) ra).mono ?_
    rintro e w12 ⟨v12, rfl, r12, k12⟩
    have s12 := k12.size
    replace rw0 := rw0.kept k12 (by omega)
    replace rg := rg.kept k12 (by omega)
    go_wp2_with fail
    replace ht := ((((((ht.kept k4 (by omega)).drewN n5).kept k6 (by omega)).drewN n7).kept k8 (by omega)).drewN n9)
    replace ht := (ht.kept k10 (by omega)).kept k12 (by omega)
    refine (plain_impl _ r12 hb ht).mono ?_
    rintro e w13 ⟨v13, rfl, rh, k13⟩
    replace rw0 := rw0.kept k13 (by omega)
    replace rg := rg.kept k13 (by omega)
    clear r12
    go_wp2_with fail
    refine (eqByteS_same _ rh rw0).mono ?_
    rintro e w14 ⟨rfl, n14, rfl⟩
    go_wp2_with fail
    refine (heldByteS_any _ 1 (by omega) (by omega) (by omega) (rg.drewN n14)).mono ?_
    rintro e w15 ⟨rfl, rfl⟩
    have b := k1.toBelow
    replace b := below_step b k2 (Nat.le_refl _) (by omega)
    replace b := below_step b k3 (Nat.le_refl _) (by omega)
    replace b := below_step b k4 (Nat.le_refl _) (by omega)
    replace b := below_step b ((Kept.refl 0 0 _).drewN n5) (Nat.le_refl _) (by omega)
    replace b := below_step b k6 (Nat.le_refl _) (by omega)
    replace b := below_step b ((Kept.refl 0 0 _).drewN n7) (Nat.le_refl _) (by omega)
    replace b := below_step b k8 (Nat.le_refl _) (by omega)
    replace b := below_step b ((Kept.refl 0 0 _).drewN n9) (Nat.le_refl _) (by omega)
    replace b := below_step b k10 (Nat.le_refl _) (by omega)
    replace b := below_step b k12 (Nat.le_refl _) (by omega)
    replace b := below_step b k13 (Nat.le_refl _) (by omega)
    replace b := below_step b ((Kept.refl 0 0 _).drewN n14) (Nat.le_refl _) (by omega)
    go_wp2
    go_ret
    exact ⟨rfl, b⟩
end Go.Proofs.YtbcojphjohpmdaaDoor
