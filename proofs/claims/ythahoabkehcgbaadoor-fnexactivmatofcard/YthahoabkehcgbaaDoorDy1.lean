/-
  Dyadic numbers: what is well made; the contracts of the model's DyOk and of the program's.
-/
import Derived.Test.YthahoabkehcgbaaDoorBE
import Derived.Test.YthahoabkehcgbaaDoorBH
namespace Go.Proofs.YthahoabkehcgbaaDoor
open Go.RowKit
set_option linter.unusedVariables false
set_option maxRecDepth 8000
set_option linter.unusedSimpArgs false

/-- Is it a dyadic number as chapter 4 wants it? -/
def dokB (b : Bool) (zs : List Int) (e : Int) : Bool := wokB b zs && (decide (-3000 ≤ e) && decide (e ≤ 3000)) && (if zs.length = 0 then decide (e = 0) else decide (val zs % 2 = 1))
theorem dokB_no {b : Bool} {zs : List Int} {e : Int} (h : wokB b zs = false) : dokB b zs e = false := by unfold dokB; rw [h]; rfl
theorem dokB_lo {b : Bool} {zs : List Int} {e : Int} (h : e < -3000) : dokB b zs e = false := by unfold dokB; rw [decide_eq_false (show ¬ -3000 ≤ e by omega)]; simp
theorem dokB_hi {b : Bool} {zs : List Int} {e : Int} (h : 3000 < e) : dokB b zs e = false := by unfold dokB; rw [decide_eq_false (show ¬ e ≤ 3000 by omega)]; simp
theorem dokB_nil {b : Bool} {zs : List Int} {e : Int} (h : wokB b zs = true) (h1 : -3000 ≤ e) (h2 : e ≤ 3000) (h0 : zs.length = 0) : dokB b zs e = decide (e = 0) := by
  unfold dokB; rw [h, decide_eq_true h1, decide_eq_true h2, if_pos h0]; rfl
theorem dokB_odd {b : Bool} {zs : List Int} {e : Int} (h : wokB b zs = true) (h1 : -3000 ≤ e) (h2 : e ≤ 3000) (h0 : 0 < zs.length) : dokB b zs e = decide (val zs % 2 = 1) := by
  unfold dokB; rw [h, decide_eq_true h1, decide_eq_true h2, if_neg (by omega)]; rfl
theorem dok_parts {b : Bool} {zs : List Int} {e : Int} (h : dokB b zs e = true) : wokB b zs = true ∧ -3000 ≤ e ∧ e ≤ 3000 ∧ (zs = [] → e = 0) ∧ (zs ≠ [] → val zs % 2 = 1) := by
  unfold dokB at h
  simp only [Bool.and_eq_true, decide_eq_true_eq] at h
  obtain ⟨⟨h1, h2, h3⟩, h4⟩ := h
  refine ⟨h1, h2, h3, fun e0 => ?_, fun e0 => ?_⟩
  · subst e0; simpa using h4
  · rw [if_neg (fun hh => e0 (List.length_eq_zero_iff.1 hh))] at h4; exact of_decide_eq_true h4
theorem val_mod_two : ∀ zs : List Int, val zs % 2 = zs.getD 0 0 % 2
  | [] => rfl
  | z :: zs => by simp only [val, List.getD_cons_zero]; omega

set_option maxHeartbeats 1000000 in
theorem dok_spec {bw : Bool} {lo hi : Nat} {v : Value} {zs : List Int} (b : Bool) (x : Int) (hx1 : x ≤ 9223372036854775807) (hx0 : -9223372036854775808 ≤ x) (w : World) (r : Row .i64 bw lo hi w v zs) :
    Calls Tryd.prog 28 #[.agg #[.bool b, v, .int .i64 x]] w fun e w' => e = .returned (.bool (dokB b zs x)) ∧ Kept 0 0 w w' := by
  have k0 : Kept 0 0 w (w.alloc (.cells #[.bool b, v, .int .i64 x] 52)) := ((Kept.refl 0 0 w).alloc (.cells #[.bool b, v, .int .i64 x] 52))
  have p0 : (w.alloc (.cells #[.bool b, v, .int .i64 x] 52)).cell? ⟨w.heap.size, 0, none⟩ = some (.bool b) := new_cell2 _ _ _ _ _ _ (by simp) rfl
  have p1 : (w.alloc (.cells #[.bool b, v, .int .i64 x] 52)).cell? ⟨w.heap.size, 1, none⟩ = some (v) := new_cell2 _ _ _ _ _ _ (by simp) rfl
  have p2 : (w.alloc (.cells #[.bool b, v, .int .i64 x] 52)).cell? ⟨w.heap.size, 2, none⟩ = some (.int .i64 x) := new_cell2 _ _ _ _ _ _ (by simp) rfl
  replace r := r.kept k0 (by omega)
  have s0 : (w.alloc (.cells #[.bool b, v, .int .i64 x] 52)).heap.size = w.heap.size + 1 := by simp
  obtain ⟨a, c, hv⟩ := Row.form' r
  subst hv
  have K := hide (k0)
  clear k0
  have S0 := hide s0
  clear s0
  go_enter Tryd.func28, Tryd.ntmps28
  go_wp2_with fail
  generalize (w.alloc (.cells #[.bool b, .slice a zs.length c, .int .i64 x] 52)) = W at *
  refine (wok_spec b _ r).mono ?_
  rintro e w1 ⟨rfl, k1⟩
  replace r := r.kept k1 (by omega)
  replace p0 := k1.cell0 p0
  replace p1 := k1.cell0 p1
  replace p2 := k1.cell0 p2
  replace K := hide ((unhide K).trans k1)
  have z2 := k1.size
  clear k1
  cases hok : wokB b zs
  · have HK := hide (dokB_no (e := x) hok)
    clear hok
    clear r
    go_wp2_with fail
    go_ret
    exact ⟨by rw [unhide HK]; rfl, unhide K⟩
  by_cases h1 : x < -3000
  · have HK := hide (dokB_lo (b := b) (zs := zs) h1)
    clear hok
    clear r
    go_wp2_with fail
    go_ret
    exact ⟨by rw [unhide HK]; rfl, unhide K⟩
  by_cases h2 : 3000 < x
  · have HK := hide (dokB_hi (b := b) (zs := zs) h2)
    clear hok
    clear r
    go_wp2_with fail
    go_ret
    exact ⟨by rw [unhide HK]; rfl, unhide K⟩
  by_cases h0 : zs.length = 0
  · have HK := hide (dokB_nil (e := x) hok (by omega) (by omega) h0)
    clear hok
    have hz : zs = [] := List.length_eq_zero_iff.1 h0
    subst hz
    clear r
    go_wp2_with fail
    go_ret
    exact ⟨by rw [unhide HK]; rfl, unhide K⟩
  have HK := hide (dokB_odd (e := x) hok (by omega) (by omega) (show 0 < zs.length by omega))
  obtain ⟨-, -, hn1, hn⟩ := wok_int hok
  clear hok
  have h3 : 0 < zs.length := by omega
  have h4 : ¬ zs.length = 0 := h0
  go_wp2_with fail
  have bs := bit_spec _ r hn.1 0 (by decide) (by decide)
  rw [if_neg (by decide)] at bs
  obtain ⟨B, hB⟩ : ∃ B : Nat, (val zs).toNat / 2 ^ (0 : Int).toNat % 2 = B := ⟨_, rfl⟩
  have HB := hide hB
  rw [hB] at bs
  clear hB
  refine (bs).mono ?_
  rintro e w3 ⟨rfl, k3⟩
  replace r := r.kept k3 (by omega)
  replace p0 := k3.cell0 p0
  replace p1 := k3.cell0 p1
  replace p2 := k3.cell0 p2
  replace K := hide ((unhide K).trans k3)
  have z4 := k3.size
  clear k3
  clear bs r
  go_wp2_with fail
  go_ret
  refine ⟨?_, unhide K⟩
  rw [unhide HK, ← unhide HB]
  have hv := val_nonneg hn.1
  have e1 : (((val zs).toNat / 2 ^ (0 : Int).toNat % 2 : Nat) : Int) = val zs % 2 := by simp; omega
  by_cases hd : val zs % 2 = 1
  · rw [e1, hd]; rfl
  · rw [e1, decide_eq_false hd]; exact congrArg _ (congrArg _ (beq_eq_false_iff_ne.2 hd))

set_option maxHeartbeats 1000000 in
theorem dok_impl {bw : Bool} {lo hi : Nat} {v : Value} {zs : List Int} (b : Bool) (x : Int) (hx1 : x ≤ 9223372036854775807) (hx0 : -9223372036854775808 ≤ x) (w : World) (r : Row .i64 bw lo hi w v zs) :
    Calls Tryd.prog 53 #[.agg #[.bool b, v, .int .i64 x]] w fun e w' => e = .returned (.bool (dokB b zs x)) ∧ Kept 0 0 w w' := by
  have k0 : Kept 0 0 w (w.alloc (.cells #[.bool b, v, .int .i64 x] 52)) := ((Kept.refl 0 0 w).alloc (.cells #[.bool b, v, .int .i64 x] 52))
  have p0 : (w.alloc (.cells #[.bool b, v, .int .i64 x] 52)).cell? ⟨w.heap.size, 0, none⟩ = some (.bool b) := new_cell2 _ _ _ _ _ _ (by simp) rfl
  have p1 : (w.alloc (.cells #[.bool b, v, .int .i64 x] 52)).cell? ⟨w.heap.size, 1, none⟩ = some (v) := new_cell2 _ _ _ _ _ _ (by simp) rfl
  have p2 : (w.alloc (.cells #[.bool b, v, .int .i64 x] 52)).cell? ⟨w.heap.size, 2, none⟩ = some (.int .i64 x) := new_cell2 _ _ _ _ _ _ (by simp) rfl
  replace r := r.kept k0 (by omega)
  have s0 : (w.alloc (.cells #[.bool b, v, .int .i64 x] 52)).heap.size = w.heap.size + 1 := by simp
  obtain ⟨a, c, hv⟩ := Row.form' r
  subst hv
  have K := hide (k0)
  clear k0
  have S0 := hide s0
  clear s0
  go_enter Tryd.func53, Tryd.ntmps53
  go_wp2_with fail
  generalize (w.alloc (.cells #[.bool b, .slice a zs.length c, .int .i64 x] 52)) = W at *
  refine (wok_impl b _ r).mono ?_
  rintro e w1 ⟨rfl, k1⟩
  replace r := r.kept k1 (by omega)
  replace p0 := k1.cell0 p0
  replace p1 := k1.cell0 p1
  replace p2 := k1.cell0 p2
  replace K := hide ((unhide K).trans k1)
  have z2 := k1.size
  clear k1
  cases hok : wokB b zs
  · have HK := hide (dokB_no (e := x) hok)
    clear hok
    clear r
    go_wp2_with fail
    go_ret
    exact ⟨by rw [unhide HK]; rfl, unhide K⟩
  by_cases h1 : x < -3000
  · have HK := hide (dokB_lo (b := b) (zs := zs) h1)
    clear hok
    clear r
    go_wp2_with fail
    go_ret
    exact ⟨by rw [unhide HK]; rfl, unhide K⟩
  by_cases h2 : 3000 < x
  · have HK := hide (dokB_hi (b := b) (zs := zs) h2)
    clear hok
    clear r
    go_wp2_with fail
    go_ret
    exact ⟨by rw [unhide HK]; rfl, unhide K⟩
  by_cases h0 : zs.length = 0
  · have HK := hide (dokB_nil (e := x) hok (by omega) (by omega) h0)
    clear hok
    have hz : zs = [] := List.length_eq_zero_iff.1 h0
    subst hz
    clear r
    go_wp2_with fail
    go_ret
    exact ⟨by rw [unhide HK]; rfl, unhide K⟩
  have HK := hide (dokB_odd (e := x) hok (by omega) (by omega) (show 0 < zs.length by omega))
  obtain ⟨-, -, hn1, hn⟩ := wok_int hok
  clear hok
  have h3 : 0 < zs.length := by omega
  have h4 : ¬ zs.length = 0 := h0
  obtain ⟨g, off, hg, hc⟩ := (row_cell r).2.2.2 0 h3
  subst hg
  rw [Nat.add_zero] at hc
  have hL := hn.1.at 0
  rw [val_mod_two] at HK
  generalize zs.getD 0 0 = z at *
  have ht : z.tmod 2 = z % 2 := Int.tmod_eq_emod_of_nonneg (by omega)
  have hz2 : 0 ≤ z % 2 ∧ z % 2 ≤ 1 := by omega
  have h3i : (0 : Int) < (zs.length : Int) := by omega
  clear r
  go_wp2_with fail
  go_ret
  refine ⟨?_, unhide K⟩
  rw [unhide HK]
  first | rfl | (rw [← ht]; rfl)

end Go.Proofs.YthahoabkehcgbaaDoor
