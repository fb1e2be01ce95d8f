/-
  Contracts that the proofs of this seat share: Nat11, ShrNum, INat19, INat20.
-/
import Derived.Test.YthahoabkehcgbaaGreatDoorqoBE
import Derived.Test.YthahoabkehcgbaaGreatDoorqoBH
import Derived.RegionTactic
import Derived.Deep.RegionLaw
namespace Go.Proofs.YthahoabkehcgbaaGreatDoor
open Go.RowKit
set_option linter.unusedVariables false
set_option maxRecDepth 8000
set_option linter.unusedSimpArgs false

/-- Is it a dyadic number as chapter 4 wants it? -/
def dokB (b : Bool) (zs : List Int) (e : Int) : Bool := wokB b zs && (decide (-3000 ≤ e) && decide (e ≤ 3000)) && (if zs.length = 0 then decide (e = 0) else decide (val zs % 2 = 1))
theorem dokB_no {b : Bool} {zs : List Int} {e : Int} (h : wokB b zs = false) : dokB b zs e = false := by unfold dokB; rw [h]; rfl
theorem dokB_lo {b : Bool} {zs : List Int} {e : Int} (h : e < -3000) : dokB b zs e = false := by unfold dokB; rw [decide_eq_false (show ¬ -3000 ≤ e by omega)]; simp
theorem dokB_hi {b : Bool} {zs : List Int} {e : Int} (h : 3000 < e) : dokB b zs e = false := by unfold dokB; rw [decide_eq_false (show ¬ e ≤ 3000 by omega)]; simp
theorem dokB_nil {b : Bool} {zs : List Int} {e : Int} (h : wokB b zs = true) (h1 : -3000 ≤ e) (h2 : e ≤ 3000) (h0 : zs.length = 0) : dokB b zs e = decide (e = 0) := by
  unfold dokB; rw [h, decide_eq_true h1, decide_eq_true h2, if_pos h0]; rfl
theorem dokB_odd {b : Bool} {zs : List Int} {e : Int} (h : wokB b zs = true) (h1 : -3000 ≤ e) (h2 : e ≤ 3000) (h0 : 0 < zs.length) : dokB b zs e = decide (val zs % 2 = 1) := by
  unfold dokB; rw [h, decide_eq_true h1, decide_eq_true h2, if_neg (by omega)]; rfl
theorem dok_parts {b : Bool} {zs : List Int} {e : Int} (h : dokB b zs e = true) : wokB b zs = true ∧ -3000 ≤ e ∧ e ≤ 3000 ∧ (zs = [] → e = 0) ∧ (zs ≠ [] → val zs % 2 = 1) := by
  unfold dokB at h
  simp only [Bool.and_eq_true, decide_eq_true_eq] at h
  obtain ⟨⟨h1, h2, h3⟩, h4⟩ := h
  refine ⟨h1, h2, h3, fun e0 => ?_, fun e0 => ?_⟩
  · subst e0; simpa using h4
  · rw [if_neg (fun hh => e0 (List.length_eq_zero_iff.1 hh))] at h4; exact of_decide_eq_true h4
theorem val_mod_two : ∀ zs : List Int, val zs % 2 = zs.getD 0 0 % 2
  | [] => rfl
  | z :: zs => by simp only [val, List.getD_cons_zero]; omega

set_option maxHeartbeats 1000000 in
theorem dok_spec {bw : Bool} {lo hi : Nat} {v : Value} {zs : List Int} (b : Bool) (x : Int) (hx1 : x ≤ 9223372036854775807) (hx0 : -9223372036854775808 ≤ x) (w : World) (r : Row .i64 bw lo hi w v zs) :
    Calls Tryz.prog 60 #[.agg #[.bool b, v, .int .i64 x]] w fun e w' => e = .returned (.bool (dokB b zs x)) ∧ Kept 0 0 w w' := by
  have k0 : Kept 0 0 w (w.alloc (.cells #[.bool b, v, .int .i64 x] 52)) := ((Kept.refl 0 0 w).alloc (.cells #[.bool b, v, .int .i64 x] 52))
  have p0 : (w.alloc (.cells #[.bool b, v, .int .i64 x] 52)).cell? ⟨w.heap.size, 0, none⟩ = some (.bool b) := new_cell2 _ _ _ _ _ _ (by simp) rfl
  have p1 : (w.alloc (.cells #[.bool b, v, .int .i64 x] 52)).cell? ⟨w.heap.size, 1, none⟩ = some (v) := new_cell2 _ _ _ _ _ _ (by simp) rfl
  have p2 : (w.alloc (.cells #[.bool b, v, .int .i64 x] 52)).cell? ⟨w.heap.size, 2, none⟩ = some (.int .i64 x) := new_cell2 _ _ _ _ _ _ (by simp) rfl
  replace r := r.kept k0 (by omega)
  have s0 : (w.alloc (.cells #[.bool b, v, .int .i64 x] 52)).heap.size = w.heap.size + 1 := by simp
  obtain ⟨a, c, hv⟩ := Row.form' r
  subst hv
  have K := hide (k0)
  clear k0
  have S0 := hide s0
  clear s0
  go_enter Tryz.func60, Tryz.ntmps60
  go_wp2_with fail
  generalize (w.alloc (.cells #[.bool b, .slice a zs.length c, .int .i64 x] 52)) = W at *
  refine (wok_spec b _ r).mono ?_
  rintro e w1 ⟨rfl, k1⟩
  replace r := r.kept k1 (by omega)
  replace p0 := k1.cell0 p0
  replace p1 := k1.cell0 p1
  replace p2 := k1.cell0 p2
  replace K := hide ((unhide K).trans k1)
  have z2 := k1.size
  clear k1
  cases hok : wokB b zs
  · have HK := hide (dokB_no (e := x) hok)
    clear hok
    clear r
    go_wp2_with fail
    go_ret
    exact ⟨by rw [unhide HK]; rfl, unhide K⟩
  by_cases h1 : x < -3000
  · have HK := hide (dokB_lo (b := b) (zs := zs) h1)
    clear hok
    clear r
    go_wp2_with fail
    go_ret
    exact ⟨by rw [unhide HK]; rfl, unhide K⟩
  by_cases h2 : 3000 < x
  · have HK := hide (dokB_hi (b := b) (zs := zs) h2)
    clear hok
    clear r
    go_wp2_with fail
    go_ret
    exact ⟨by rw [unhide HK]; rfl, unhide K⟩
  by_cases h0 : zs.length = 0
  · have HK := hide (dokB_nil (e := x) hok (by omega) (by omega) h0)
    clear hok
    have hz : zs = [] := List.length_eq_zero_iff.1 h0
    subst hz
    clear r
    go_wp2_with fail
    go_ret
    exact ⟨by rw [unhide HK]; rfl, unhide K⟩
  have HK := hide (dokB_odd (e := x) hok (by omega) (by omega) (show 0 < zs.length by omega))
  obtain ⟨-, -, hn1, hn⟩ := wok_int hok
  clear hok
  have h3 : 0 < zs.length := by omega
  have h4 : ¬ zs.length = 0 := h0
  go_wp2_with fail
  have bs := bit_spec _ r hn.1 0 (by decide) (by decide)
  rw [if_neg (by decide)] at bs
  obtain ⟨B, hB⟩ : ∃ B : Nat, (val zs).toNat / 2 ^ (0 : Int).toNat % 2 = B := ⟨_, rfl⟩
  have HB := hide hB
  rw [hB] at bs
  clear hB
  refine (bs).mono ?_
  rintro e w3 ⟨rfl, k3⟩
  replace r := r.kept k3 (by omega)
  replace p0 := k3.cell0 p0
  replace p1 := k3.cell0 p1
  replace p2 := k3.cell0 p2
  replace K := hide ((unhide K).trans k3)
  have z4 := k3.size
  clear k3
  clear bs r
  go_wp2_with fail
  go_ret
  refine ⟨?_, unhide K⟩
  rw [unhide HK, ← unhide HB]
  have hv := val_nonneg hn.1
  have e1 : (((val zs).toNat / 2 ^ (0 : Int).toNat % 2 : Nat) : Int) = val zs % 2 := by simp; omega
  by_cases hd : val zs % 2 = 1
  · rw [e1, hd]; rfl
  · rw [e1, decide_eq_false hd]; exact congrArg _ (congrArg _ (beq_eq_false_iff_ne.2 hd))

set_option maxHeartbeats 1000000 in
theorem dok_impl {bw : Bool} {lo hi : Nat} {v : Value} {zs : List Int} (b : Bool) (x : Int) (hx1 : x ≤ 9223372036854775807) (hx0 : -9223372036854775808 ≤ x) (w : World) (r : Row .i64 bw lo hi w v zs) :
    Calls Tryz.prog 63 #[.agg #[.bool b, v, .int .i64 x]] w fun e w' => e = .returned (.bool (dokB b zs x)) ∧ Kept 0 0 w w' := by
  have k0 : Kept 0 0 w (w.alloc (.cells #[.bool b, v, .int .i64 x] 52)) := ((Kept.refl 0 0 w).alloc (.cells #[.bool b, v, .int .i64 x] 52))
  have p0 : (w.alloc (.cells #[.bool b, v, .int .i64 x] 52)).cell? ⟨w.heap.size, 0, none⟩ = some (.bool b) := new_cell2 _ _ _ _ _ _ (by simp) rfl
  have p1 : (w.alloc (.cells #[.bool b, v, .int .i64 x] 52)).cell? ⟨w.heap.size, 1, none⟩ = some (v) := new_cell2 _ _ _ _ _ _ (by simp) rfl
  have p2 : (w.alloc (.cells #[.bool b, v, .int .i64 x] 52)).cell? ⟨w.heap.size, 2, none⟩ = some (.int .i64 x) := new_cell2 _ _ _ _ _ _ (by simp) rfl
  replace r := r.kept k0 (by omega)
  have s0 : (w.alloc (.cells #[.bool b, v, .int .i64 x] 52)).heap.size = w.heap.size + 1 := by simp
  obtain ⟨a, c, hv⟩ := Row.form' r
  subst hv
  have K := hide (k0)
  clear k0
  have S0 := hide s0
  clear s0
  go_enter Tryz.func63, Tryz.ntmps63
  go_wp2_with fail
  generalize (w.alloc (.cells #[.bool b, .slice a zs.length c, .int .i64 x] 52)) = W at *
  refine (wok_impl b _ r).mono ?_
  rintro e w1 ⟨rfl, k1⟩
  replace r := r.kept k1 (by omega)
  replace p0 := k1.cell0 p0
  replace p1 := k1.cell0 p1
  replace p2 := k1.cell0 p2
  replace K := hide ((unhide K).trans k1)
  have z2 := k1.size
  clear k1
  cases hok : wokB b zs
  · have HK := hide (dokB_no (e := x) hok)
    clear hok
    clear r
    go_wp2_with fail
    go_ret
    exact ⟨by rw [unhide HK]; rfl, unhide K⟩
  by_cases h1 : x < -3000
  · have HK := hide (dokB_lo (b := b) (zs := zs) h1)
    clear hok
    clear r
    go_wp2_with fail
    go_ret
    exact ⟨by rw [unhide HK]; rfl, unhide K⟩
  by_cases h2 : 3000 < x
  · have HK := hide (dokB_hi (b := b) (zs := zs) h2)
    clear hok
    clear r
    go_wp2_with fail
    go_ret
    exact ⟨by rw [unhide HK]; rfl, unhide K⟩
  by_cases h0 : zs.length = 0
  · have HK := hide (dokB_nil (e := x) hok (by omega) (by omega) h0)
    clear hok
    have hz : zs = [] := List.length_eq_zero_iff.1 h0
    subst hz
    clear r
    go_wp2_with fail
    go_ret
    exact ⟨by rw [unhide HK]; rfl, unhide K⟩
  have HK := hide (dokB_odd (e := x) hok (by omega) (by omega) (show 0 < zs.length by omega))
  obtain ⟨-, -, hn1, hn⟩ := wok_int hok
  clear hok
  have h3 : 0 < zs.length := by omega
  have h4 : ¬ zs.length = 0 := h0
  obtain ⟨g, off, hg, hc⟩ := (row_cell r).2.2.2 0 h3
  subst hg
  rw [Nat.add_zero] at hc
  have hL := hn.1.at 0
  rw [val_mod_two] at HK
  generalize zs.getD 0 0 = z at *
  have ht : z.tmod 2 = z % 2 := Int.tmod_eq_emod_of_nonneg (by omega)
  have hz2 : 0 ≤ z % 2 ∧ z % 2 ≤ 1 := by omega
  have h3i : (0 : Int) < (zs.length : Int) := by omega
  clear r
  go_wp2_with fail
  go_ret
  refine ⟨?_, unhide K⟩
  rw [unhide HK]
  first | rfl | (rw [← ht]; rfl)

end Go.Proofs.YthahoabkehcgbaaGreatDoor


namespace Go.Proofs.YthahoabkehcgbaaGreatDoor
open Go.RowKit
set_option linter.unusedVariables false
set_option maxRecDepth 8000

theorem Row.drop {k : IntKind} {bw : Bool} {lo hi : Nat} {w : World} {g off n c : Nat} {zs : List Int} (r : Row k bw lo hi w (.slice (some ⟨g, off, none⟩) n c) zs) (q : Nat) (hq : q < n) :
    Row k bw lo hi w (.slice (some ⟨g, off + q, none⟩) (n - q) (c - q)) (zs.drop q) := by
  obtain ⟨a, c', e, q1, q2, q3⟩ := r
  simp only [Value.slice.injEq] at e
  obtain ⟨rfl, rfl, rfl⟩ := e
  obtain ⟨g', o', e', h1, h2, h3, h4, h5⟩ := q3 (by intro e; simp [e] at hq)
  cases e'
  refine ⟨some ⟨g, off + q, none⟩, c - q, by simp, by simp; omega, by omega, fun _ => ⟨g, off + q, rfl, h1, h2, h3, fun i hi => ?_, fun hb i hi => ?_⟩⟩
  · simp at hi
    have := h4 (q + i) (by omega)
    rw [Nat.add_assoc, this]; simp [List.getD]
  · simp at hi
    have := h5 hb (q + i) (by omega)
    rw [Nat.add_assoc, this]
theorem shr_val {xs : List Int} (h : Lim xs) (q s : Nat) (hq : q ≤ xs.length) : (val (xs.drop q) / ((2 ^ s : Nat) : Int)).toNat = (val xs).toNat / 2 ^ (16 * q + s) := by
  have e := val_take_drop xs q hq
  have h1 := val_lt (h.take q)
  have h2 := val_nonneg (h.take q)
  have h3 := val_nonneg (h.drop q)
  rw [List.length_take, Nat.min_eq_left hq] at h1
  obtain ⟨u, eu⟩ : ∃ u : Nat, val (xs.take q) = u := ⟨(val (xs.take q)).toNat, by omega⟩
  obtain ⟨r, er⟩ : ∃ r : Nat, val (xs.drop q) = r := ⟨(val (xs.drop q)).toNat, by omega⟩
  rw [eu, er, pow_limb] at e
  rw [eu, pow_limb] at h1
  have h1' : u < 2 ^ (16 * q) := by omega
  have e' : (val xs).toNat = u + 2 ^ (16 * q) * r := by
    have : val xs = ((u + 2 ^ (16 * q) * r : Nat) : Int) := by rw [e]; simp
    rw [this]; rfl
  rw [er, e', Nat.pow_add, ← Nat.div_div_eq_div_mul, Nat.add_mul_div_left _ _ (Nat.pow_pos (by decide)), Nat.div_eq_of_lt h1', Nat.zero_add, ← Int.natCast_ediv, Int.toNat_natCast]

end Go.Proofs.YthahoabkehcgbaaGreatDoor

namespace Go.Proofs.YthahoabkehcgbaaGreatDoor
open Go.RowKit
set_option linter.unusedVariables false

/-- Each limb takes the low bits of the next one in. -/
def sdn (d : Int) : List Int → List Int
  | [] => []
  | y :: t => ((t.getD 0 0 * 65536 + y) / d % 65536) :: sdn d t
theorem sdn_length (d : Int) : ∀ ys : List Int, (sdn d ys).length = ys.length
  | [] => rfl
  | y :: t => by simp [sdn, sdn_length d t]
theorem sdn_at (d : Int) : ∀ (ys : List Int) (i : Nat), i < ys.length → (sdn d ys).getD i 0 = (ys.getD (i + 1) 0 * 65536 + ys.getD i 0) / d % 65536
  | [], i, h => by simp at h
  | y :: t, 0, h => by simp [sdn, List.getD]
  | y :: t, i + 1, h => by
    have := sdn_at d t i (by simpa using h)
    simpa [sdn, List.getD] using this
theorem sdn_lim (d : Int) : ∀ ys : List Int, Lim (sdn d ys)
  | [] => Lim.nil
  | y :: t => fun z hz => by
    simp only [sdn, List.mem_cons] at hz
    rcases hz with rfl | hz
    · omega
    · exact sdn_lim d t z hz
theorem sdn_step (d e y t0 V V' : Int) (hd : 0 < d) (he : e * d = 65536) (hy : 0 ≤ y ∧ y ≤ 65535) (ht : 0 ≤ t0 ∧ t0 ≤ 65535) (hV : V = t0 + 65536 * V') :
    (t0 * 65536 + y) / d % 65536 + 65536 * (V / d) = (y + 65536 * V) / d := by
  have he0 : 0 < e := by
    rcases Int.lt_or_le 0 e with h | h
    · exact h
    · have : e * d ≤ 0 := Int.mul_nonpos_of_nonpos_of_nonneg h (by omega)
      omega
  have e1 : (t0 * 65536 + y) / d = t0 * e + y / d := by
    rw [← he, ← Int.mul_assoc, Int.add_comm, Int.add_mul_ediv_right _ _ (by omega), Int.add_comm]
  have e2 : (y + 65536 * V) / d = y / d + e * V := by
    rw [← he, Int.mul_right_comm, Int.add_mul_ediv_right _ _ (by omega)]
  have e3 : V % d = t0 % d := by
    rw [hV, ← he, Int.mul_assoc, Int.mul_left_comm, Int.add_mul_emod_self_left]
  have e4 := Int.mul_ediv_add_emod V d
  have e5 := Int.mul_ediv_add_emod t0 d
  have e6 : e * V = 65536 * (V / d) + e * (t0 % d) := by
    have : e * V = e * (d * (V / d) + V % d) := by rw [e4]
    rw [this, Int.mul_add, ← Int.mul_assoc, he, e3]
  have e7 : t0 * e = 65536 * (t0 / d) + e * (t0 % d) := by
    have : t0 * e = e * (d * (t0 / d) + t0 % d) := by rw [e5, Int.mul_comm]
    rw [this, Int.mul_add, ← Int.mul_assoc, he]
  have h1 : y / d < e := by
    refine Int.ediv_lt_of_lt_mul hd ?_
    omega
  have h2 : 0 ≤ y / d := Int.ediv_nonneg hy.1 (by omega)
  have h3 : t0 % d ≤ d - 1 := by have := Int.emod_lt_of_pos t0 hd; omega
  have h4 : 0 ≤ t0 % d := Int.emod_nonneg _ (by omega)
  have h5 : e * (t0 % d) ≤ e * (d - 1) := Int.mul_le_mul_of_nonneg_left h3 (by omega)
  have h6 : e * (d - 1) = 65536 - e := by rw [Int.mul_sub, he, Int.mul_one]
  have h7 : 0 ≤ e * (t0 % d) := Int.mul_nonneg (by omega) h4
  rw [e1, e2, e6, e7]
  omega
theorem sdn_val (s : Nat) (hs : s ≤ 16) : ∀ {ys : List Int}, Lim ys → val (sdn ((2 ^ s : Nat) : Int) ys) = val ys / ((2 ^ s : Nat) : Int)
  | [], _ => by simp [sdn, val]
  | y :: t, h => by
    have ht : Lim t := fun z hz => h z (List.mem_cons_of_mem _ hz)
    have hy := h y (List.mem_cons_self)
    have ih := sdn_val s hs ht
    have h0 := ht.at 0
    have hd : (0 : Int) < ((2 ^ s : Nat) : Int) := by have := Nat.pow_pos (n := s) (show 0 < 2 by decide); omega
    have he : ((2 ^ (16 - s) : Nat) : Int) * ((2 ^ s : Nat) : Int) = 65536 := by
      rw [← Int.natCast_mul, ← Nat.pow_add, Nat.sub_add_cancel hs]; rfl
    have hv := val_drop t 0
    simp only [List.drop_zero] at hv
    have := sdn_step _ _ y _ (val t) _ hd he hy h0 hv
    simp only [sdn, val]
    rw [ih]
    exact this
theorem sdn_put (d : Int) (ys : List Int) (i : Nat) (h : i < ys.length) : ((sdn d ys).take i ++ ys.drop i).set i ((sdn d ys).getD i 0) = (sdn d ys).take (i + 1) ++ ys.drop (i + 1) := by
  have hl := sdn_length d ys
  have e1 : ((sdn d ys).take i).length = i := by simp; omega
  rw [List.set_append_right _ _ (by omega), e1, Nat.sub_self, List.drop_eq_getElem_cons h, List.set_cons_zero, List.take_succ_eq_append_getElem (by omega), List.append_assoc]
  simp [List.getD, show i < (sdn d ys).length by omega]
theorem sdn_len (d : Int) (ys : List Int) (i : Nat) (hj : i ≤ ys.length) : ((sdn d ys).take i ++ ys.drop i).length = ys.length := by
  have := sdn_length d ys
  rw [List.length_append, List.length_take, List.length_drop]
  omega
theorem sdn_mix (d : Int) (ys : List Int) (i j : Nat) (hi : i ≤ j) (hj : i ≤ ys.length) : ((sdn d ys).take i ++ ys.drop i).getD j 0 = ys.getD j 0 := by
  have e1 : ((sdn d ys).take i).length = i := by have := sdn_length d ys; simp; omega
  simp only [List.getD]
  rw [List.getElem?_append_right (by omega), e1, List.getElem?_drop, show i + (j - i) = j by omega]

end Go.Proofs.YthahoabkehcgbaaGreatDoor

namespace Go.Proofs.YthahoabkehcgbaaGreatDoor
open Go.RowKit
set_option linter.unusedVariables false
set_option maxRecDepth 8000

/-- The cell g holds the list v, which may be written, with the limbs zs. -/
structure Work (b : Nat) (w : World) (g : Nat) (v : Value) (zs : List Int) : Prop where
  cell : w.cell? ⟨g, 0, none⟩ = some v
  loose : w.frozen? ⟨g, 0, none⟩ = false
  row : Row .i64 true b w.heap.size w v zs
  apart : zs ≠ [] → v.ownBlock ≠ some g

theorem Row.aside {k : IntKind} {bw : Bool} {lo hi : Nat} {w : World} {v : Value} {zs : List Int} (r : Row k bw lo hi w v zs) {P o : Nat} (hne : zs ≠ [] → v.ownBlock ≠ some P) (u : Value) : Row k bw lo hi (w.setCell ⟨P, o, none⟩ u) v zs := by
  obtain ⟨a, c, rfl, h1, h2, h3⟩ := r
  refine ⟨a, c, rfl, h1, h2, fun hz => ?_⟩
  obtain ⟨g, off, rfl, hl, hh, hs, hc, hf⟩ := h3 hz
  have hn : g ≠ P := fun e => hne hz (by simp [Value.ownBlock, e])
  refine ⟨g, off, rfl, hl, hh, by rw [size_set]; exact hs, fun i hi' => ?_, fun e i hi' => by rw [frozen_set]; exact hf e i hi'⟩
  rw [cell_far _ _ _ _ _ (by exact hn)]
  exact hc i hi'
theorem Row.front {k : IntKind} {bw : Bool} {lo hi : Nat} {w : World} {a : Option Addr} {n c : Nat} {zs : List Int} (r : Row k bw lo hi w (.slice a n c) zs) (j : Nat) (hj : j ≤ n) : Row k bw lo hi w (.slice a j c) (zs.take j) := by
  obtain ⟨a', c', e, h1, h2, h3⟩ := r
  cases e
  have hl : (zs.take j).length = j := by simp; omega
  refine ⟨a, c, by rw [hl], by omega, h2, fun hz => ?_⟩
  obtain ⟨g, off, rfl, hlo, hh, hs, hc, hf⟩ := h3 (by intro e; subst e; simp at hz)
  refine ⟨g, off, rfl, hlo, hh, hs, fun i hi' => ?_, fun e i hi' => hf e i (by omega)⟩
  rw [hc i (by omega)]
  simp only [List.getD, List.getElem?_take]
  rw [if_pos (by omega)]

theorem Num.work {b g : Nat} {w : World} {v : Value} {zs : List Int} (h : Num b w g v zs) : Work b w g v zs := ⟨h.cell, h.loose, h.row, fun _ => h.apart⟩
theorem Work.lt {b g : Nat} {w : World} {v : Value} {zs : List Int} (h : Work b w g v zs) : g < w.heap.size := World.block_lt_of_cell? _ ⟨g, 0, none⟩ h.cell
theorem Work.form {b g : Nat} {w : World} {v : Value} {zs : List Int} (h : Work b w g v zs) : ∃ a c, v = .slice a zs.length c := Row.form' h.row
theorem Work.kept {b g : Nat} {w w' : World} {v : Value} {zs : List Int} (h : Work b w g v zs) (k : Kept 0 0 w w') : Work b w' g v zs :=
  ⟨k.cell0 h.cell, k.loose0 h.lt h.loose, (h.row.kept k (by omega)).tight, h.apart⟩
theorem Work.at {b g : Nat} {w : World} {v : Value} {zs : List Int} (h : Work b w g v zs) (j : Nat) (hj : j < zs.length) : ∃ g1 off c, v = .slice (some ⟨g1, off, none⟩) zs.length c ∧ zs.length ≤ c ∧ w.cell? ⟨g1, off + j, none⟩ = some (.int .i64 (zs.getD j 0)) ∧ w.frozen? ⟨g1, off + j, none⟩ = false ∧ g1 ≠ g ∧ b ≤ g1 := by
  have ha := h.apart
  obtain ⟨a, c, rfl, h1, h2, h3⟩ := h.row
  have hz : zs ≠ [] := by intro e; subst e; simp at hj
  obtain ⟨g1, off, rfl, hl, hh, hs, hc, hf⟩ := h3 hz
  exact ⟨g1, off, c, rfl, h1, hc j hj, hf rfl j hj, fun e => ha hz (by simp [Value.ownBlock, e]), hl⟩
theorem Work.put {b g g1 off n c : Nat} {w : World} {zs : List Int} (h : Work b w g (.slice (some ⟨g1, off, none⟩) n c) zs) (j : Nat) (hn : n = zs.length) (hj : j < n) (z : Int) : Work b (w.setCell ⟨g1, off + j, none⟩ (.int .i64 z)) g (.slice (some ⟨g1, off, none⟩) n c) (zs.set j z) := by
  have hz : zs ≠ [] := by intro e; subst e; simp at hn; omega
  have hne : g1 ≠ g := fun e => h.apart hz (by simp [Value.ownBlock, e])
  have := h.row.set j (by omega) z
  exact ⟨by rw [cell_far _ _ _ _ _ (by exact fun e => hne e.symm)]; exact h.cell, by rw [frozen_set]; exact h.loose, by rw [size_set]; exact this, fun _ => by simp [Value.ownBlock, hne]⟩
theorem Work.cut {b g n c : Nat} {a : Option Addr} {w : World} {zs : List Int} (h : Work b w g (.slice a n c) zs) (j : Nat) (hj : j ≤ n) : Work b (w.setCell ⟨g, 0, none⟩ (.slice a j c)) g (.slice a j c) (zs.take j) := by
  have hap : zs.take j ≠ [] → (Value.slice a j c).ownBlock ≠ some g := fun hz e => h.apart (by intro e; subst e; simp at hz) (by cases a <;> exact e)
  exact ⟨cell_on _ _ _ _ _ h.cell, by rw [frozen_set]; exact h.loose, by rw [size_set]; exact (h.row.front j hj).aside hap _, hap⟩

set_option maxHeartbeats 1000000 in
theorem at_work {b g : Nat} {v : Value} {zs : List Int} (w : World) (h : Work b w g v zs) (i : Nat) (hi : (i : Int) ≤ 9223372036854775807) :
    Calls Tryz.prog 204 #[.pointer (some ⟨g, 0, none⟩), .int .i64 i] w fun e w' => e = .returned (.int .i64 (zs.getD i 0)) ∧ w' = w := by
  have hc := h.cell
  have hm := h.row.len
  unfold maxLen at hm
  by_cases hlt : i < zs.length
  · obtain ⟨g1, off, c', rfl, -, hx, -, -⟩ := h.at i hlt
    have hlt' : (i : Int) < (zs.length : Int) := by omega
    generalize zs.getD i 0 = z at *
    clear h
    go_enter Tryz.func204, Tryz.ntmps204
    go_wp2
    go_ret
    exact ⟨rfl, rfl⟩
  · have e0 : zs.getD i 0 = 0 := by simp [List.getD, List.getElem?_eq_none (Nat.le_of_not_lt hlt)]
    rw [e0]
    have hlt' : ¬ (i : Int) < (zs.length : Int) := by omega
    obtain ⟨a1, c1, rfl⟩ := h.form
    clear h
    go_enter Tryz.func204, Tryz.ntmps204
    go_wp2
    go_ret
    exact ⟨rfl, rfl⟩

set_option maxHeartbeats 1000000 in
theorem told_work {b g : Nat} {v : Value} {zs : List Int} (w : World) (h : Work b w g v zs) :
    Calls Tryz.prog 188 #[.pointer (some ⟨g, 0, none⟩)] w fun e w' => ∃ v', e = .returned (.tuple #[.agg #[v'], .bool (decide (zs.length ≤ 100))]) ∧ Row .i64 true w.heap.size w'.heap.size w' v' (tell zs) ∧ Kept 0 0 w w' := by
  obtain ⟨a1, c1, rfl⟩ := h.form
  have rr := h.row
  have hm := rr.len
  unfold maxLen at hm
  have hlt := h.lt
  have hc := h.cell
  obtain ⟨i0, hi0, hz0, hz1, hz2⟩ := info_parts Tryz.info3'
  have hne : ¬ g = w.heap.size := by omega
  have hne' : ¬ w.heap.size = g := by omega
  by_cases hbig : 100 < (zs.length : Int)
  · have hn : ¬ zs.length ≤ 100 := by omega
    rw [decide_eq_false hn]
    have e0 : tell zs = [] := by unfold tell; rw [if_neg hn]
    rw [e0]
    clear h rr
    go_enter Tryz.func188, Tryz.ntmps188
    go_wp2
    exact bodyPost_ret (v := .tuple #[.agg #[.slice none 0 0], .bool false]) (by simp [results, Tryz.results188, go_sem]) rfl ⟨_, rfl, Row.nil _ _ _ _ _, (Kept.refl _ _ _).alloc _⟩
  · have hn : zs.length ≤ 100 := by omega
    rw [decide_eq_true hn]
    have e0 : tell zs = zs := by unfold tell; rw [if_pos hn]
    rw [e0]
    by_cases hz : zs = []
    · subst hz
      have hrun := fun ty => run_append_nil_zero (P := Tryz.prog) (w.alloc (.cells #[.slice none 0 0] 48)) 39 ty 3 i0 Tryz.underlying39 hi0 a1 c1
      have HRUN := hide hrun
      clear hrun h rr
      go_enter Tryz.func188, Tryz.ntmps188
      go_wp2_with (at_builtin; refine Lib.wpList_append_run _ rfl _ _ _ _ rfl _ _ rfl rfl _ _ (unhide HRUN _) ?_)
      exact bodyPost_ret (v := .tuple #[.agg #[.slice none 0 0], .bool true]) (by simp [results, Tryz.results188, go_sem]) rfl ⟨_, rfl, Row.nil _ _ _ _ _, (Kept.refl _ _ _).alloc _⟩
    · obtain ⟨g1, off, c', e', -, -, hnews⟩ := (rr.kept ((Kept.refl 0 0 w).alloc (.cells #[.slice none 0 0] 48)) (by omega)).news hz
      cases e'
      have hown0 : (w.alloc (.cells #[.slice none 0 0] 48)).ownsRow (w.heap.size + 1) 3 1 (.slice none 0 0) 0 [] := World.ownsRow_nil _ _ _ _
      have hlk : (zs.map (Value.int .i64)).length = zs.length * 1 := by simp
      have HN := hide hnews
      have HB : Hid (w.heap.size + 1 ≤ (w.alloc (.cells #[.slice none 0 0] 48)).heap.size) := by show _ ≤ _; simp
      have c3 : 0 + zs.length ≤ maxLen := by unfold maxLen; omega
      have c4 : (0 + zs.length) * 8 ≤ 140737488355328 := by omega
      have C3 := hide c3
      have C4 := hide c4
      have cr : (w.alloc (.cells #[.slice none 0 0] 48)).cell? ⟨w.heap.size, 0, none⟩ = some (.slice none 0 0) := new_cell_at _ _ _ _ rfl
      have fr : (w.alloc (.cells #[.slice none 0 0] 48)).frozen? ⟨w.heap.size, 0, none⟩ = false := new_loose _ _ _ _ rfl
      have CR := hide cr
      have FR := hide fr
      clear hnews rr hz c3 c4 h cr fr
      go_enter Tryz.func188, Tryz.ntmps188
      go_wp2_with (at_builtin; refine wpList_append_own _ rfl _ _ 39 rfl (w.heap.size + 1) 3 i0 (.int .i64 0) 1 8 Tryz.underlying39 hi0 hz0 hz1 hz2 rfl (by decide) _ _ _ rfl hown0 ⟨g1, off, none⟩ zs.length c1 (zs.map (Value.int .i64)) rfl hlk (unhide HN) (ints_one _ _) (unhide C3) (unhide C4) (unhide HB) ?_)
      intro v4 w4 hown4 hgrow _
      have k4 := ((Kept.refl 0 0 w).alloc _).growNew hgrow (fun q hq => by simp [Value.ownBlock] at hq)
      have k4' : Kept 0 0 (w.alloc (.cells #[.slice none 0 0] 48)) w4 := (Kept.refl 0 0 _).growNew hgrow (fun q hq => by simp [Value.ownBlock] at hq)
      have cr := k4'.cell0 (unhide CR)
      have fr := k4'.loose0 (by simp) (unhide FR)
      try simp only [Nat.zero_add, List.nil_append] at hown4
      obtain ⟨a4, c4, rfl⟩ := own_slice hown4
      have K : Hid (Kept 0 0 w (w4.setCell ⟨w.heap.size, 0, none⟩ (.slice a4 zs.length c4))) := k4.setNew (p := ⟨w.heap.size, 0, none⟩) (Nat.le_refl _) _
      have R : Hid (Row .i64 true w.heap.size (w4.setCell ⟨w.heap.size, 0, none⟩ (.slice a4 zs.length c4)).heap.size (w4.setCell ⟨w.heap.size, 0, none⟩ (.slice a4 zs.length c4)) (.slice a4 zs.length c4) zs) := (Row.own (ownsRow_setCell_below hown4 (a := ⟨w.heap.size, 0, none⟩) (by simp) _)).wider (by omega) (Nat.le_refl _)
      clear hown4 hgrow hown0 hlk k4 k4' HN HB CR FR
      go_wp2
      exact bodyPost_ret (v := .tuple #[.agg #[.slice a4 zs.length c4], .bool true]) (by simp [results, Tryz.results188, go_sem, cr]) rfl ⟨_, rfl, unhide R, unhide K⟩

end Go.Proofs.YthahoabkehcgbaaGreatDoor

namespace Go.Proofs.YthahoabkehcgbaaGreatDoor
open Go.RowKit
set_option linter.unusedVariables false
set_option maxRecDepth 8000
set_option linter.unusedSimpArgs false

/-- A call that only reads, as one step of a statement whose order is left open. -/
theorem step_call_pure {P : Program} {ops : Array Oper} {o : Oper} {a : Act} {w : World} {K : Act → World → Prop} {Q : Exit → Act → World → Prop} {E : Prop}
    (hg : o.guard = none) (n : FuncId) (x y : Operand) (ts : Array TypeId) (hop : o.op = Op.call { callee := Callee.value (Operand.func n), args := #[x, y], argTypes := ts })
    (hcf : ∀ args : Array Value, (callFunc n args).run P w = .ok (.enter n args) w) (vx vy v : Value) (hx : a.eval x = vx) (hy : a.eval y = vy) (hc : Calls P n #[vx, vy] w (fun e w' => e = .returned v ∧ w' = w)) (hK : K (a.put o.dst v) w) :
    if Region.wanted o (yielded ops a.tmps) = true then Oper.wp P o a w K Q else E := by
  have hw : Region.wanted o (yielded ops a.tmps) = true := by simp [Region.wanted, hg]
  rw [if_pos hw]
  unfold Oper.wp
  have hrun : (execOp a.eval o).run P w = .ok (.enter n #[vx, vy]) w := by
    have hfn : a.eval (.func n) = .func (.func n) #[] #[] := rfl
    simp [execOp, hop, resolve, invoke, hx, hy, hfn, Deferred.ofValue, Result.andThen, hcf]
  rw [hrun, Oper.upon_enter]
  refine hc.mono ?_
  rintro e w' ⟨rfl, rfl⟩
  exact hK

theorem at_enter (w : World) (args : Array Value) : (callFunc 204 args).run Tryz.prog w = .ok (.enter 204 args) w := by
  have h1 : ¬ Tryz.f204.name = "runtime.NumGoroutine" := by decide
  have h2 : ¬ Tryz.f204.body = none := fun h => by cases h
  simp [callFunc, Tryz.func204, go_sem, h1, h2]

theorem Work.lost {b g : Nat} {w : World} {v v' : Value} {xs : List Int} (h : Work b w g v xs) (a : Option Addr) (c : Nat) (hc : c ≤ maxLen) : Work b (w.setCell ⟨g, 0, none⟩ (.slice a 0 c)) g (.slice a 0 c) [] :=
  ⟨cell_on _ _ _ _ _ h.cell, by rw [frozen_set]; exact h.loose, Row.empty _ _ _ _ _ _ _ hc, fun e => absurd rfl e⟩
theorem Work.tail {b g gb cap n : Nat} {w : World} {xs : List Int} (h : Work b w g (.slice (some ⟨gb, 0, none⟩) n cap) xs) (q : Nat) (hn : n = xs.length) (hq : q < n) :
    Work b (w.setCell ⟨g, 0, none⟩ (.slice (some ⟨gb, q, none⟩) (n - q) (cap - q))) g (.slice (some ⟨gb, q, none⟩) (n - q) (cap - q)) (xs.drop q) := by
  have hz : xs ≠ [] := by intro e; subst e; simp at hn; omega
  have hr := h.row.drop q hq
  rw [Nat.zero_add] at hr
  have hap : xs.drop q ≠ [] → (Value.slice (some ⟨gb, q, none⟩) (n - q) (cap - q)).ownBlock ≠ some g := fun _ => h.apart hz
  exact ⟨cell_on _ _ _ _ _ h.cell, by rw [frozen_set]; exact h.loose, by rw [size_set]; exact hr.aside hap _, hap⟩

end Go.Proofs.YthahoabkehcgbaaGreatDoor

