/-
  How a mode rounds: the table of modes and what stands in it.
-/
import Derived.Test.YthahoabkehcgbaaGreatDoorqoWrk4
import Derived.Test.YthahoabkehcgbaaGreatDoorqoBA
import Derived.Test.YthahoabkehcgbaaGreatDoorChecked
import Derived.Test.YthahoabkehcgbaaGreatDoorqoBC
import Derived.Deep.DeepCutAuto
import Derived.WalkSpells
import Derived.WalkLawsBesides
namespace Go.Proofs.YthahoabkehcgbaaGreatDoor
open Go.RowKit
set_option linter.unusedVariables false
set_option maxRecDepth 8000
set_option linter.unusedSimpArgs false

/-- A size times a power of two, cut off. -/
def scN (V : Nat) (k : Int) : Nat := if 0 ≤ k then V * 2 ^ k.toNat else V / 2 ^ (-k).toNat
/-- Whether something is cut off. -/
def scL (V : Nat) (k : Int) : Bool := if 0 ≤ k then false else decide (V % 2 ^ (-k).toNat ≠ 0)
theorem scN_up (V K : Nat) : scN V (K : Int) = V * 2 ^ K := by unfold scN; rw [if_pos (by omega)]; simp
theorem scL_up (V K : Nat) : scL V (K : Int) = false := by unfold scL; rw [if_pos (by omega)]
theorem scN_down (V K : Nat) (h : 0 < K) : scN V (-(K : Int)) = V / 2 ^ K := by unfold scN; rw [if_neg (by omega)]; simp
theorem scL_down (V K : Nat) (h : 0 < K) : scL V (-(K : Int)) = decide (V % 2 ^ K ≠ 0) := by unfold scL; rw [if_neg (by omega)]; simp
theorem lost_trail {V t : Nat} (h : IsTrail V t) (h0 : V ≠ 0) (K : Nat) : decide (t < K) = decide (V % 2 ^ K ≠ 0) := by
  have ht := tz_eq h
  obtain ⟨m, hm⟩ := tz_form h0
  rw [← ht] at hm
  apply decide_eq_decide.2
  constructor
  · intro hlt e
    have h1 : 2 ^ K ∣ V := Nat.dvd_of_mod_eq_zero e
    have h2 : 2 ^ (t + 1) ∣ V := Nat.dvd_trans (Nat.pow_dvd_pow 2 hlt) h1
    rw [hm, Nat.pow_succ] at h2
    have h3 : 2 ∣ 2 * m + 1 := Nat.dvd_of_mul_dvd_mul_left (Nat.pow_pos (by decide)) h2
    omega
  · intro hne
    rcases Nat.lt_or_ge t K with h | h
    · exact h
    · exfalso
      apply hne
      have h1 : 2 ^ K ∣ V := by rw [hm]; exact Nat.dvd_trans (Nat.pow_dvd_pow 2 h) (Nat.dvd_mul_right _ _)
      exact Nat.mod_eq_zero_of_dvd h1

set_option maxHeartbeats 2000000 in
theorem scale_impl {b g : Nat} {v : Value} {xs : List Int} (w : World) (h : Num b w g v xs) (hn : Nrm xs) (nx : xs.length ≤ 50000) (hb : b ≤ w.heap.size) (k : Int) (k0 : -800000 ≤ k) (k1 : k ≤ 800000) (T : TabB w) :
    Calls Tryz.prog 210 #[.pointer (some ⟨g, 0, none⟩), .int .i64 k] w fun e w' => e = .returned (.bool (scL (val xs).toNat k)) ∧ ∃ u, Wrk b w' g u (limbs (scN (val xs).toNat k)) ∧ Mod (Own1 g v) w w' ∧ SameSide g w w' ∧ ∀ i, u.ownBlock = some i → v.ownBlock = some i ∨ w.heap.size ≤ i := by
  by_cases hk : 0 ≤ k
  · obtain ⟨K, rfl⟩ : ∃ K : Nat, k = K := ⟨k.toNat, by omega⟩
    rw [scN_up, scL_up]
    go_enter Tryz.func210, Tryz.ntmps210
    go_wp2_with fail
    refine (shiftUp_any _ h hn nx K (by omega)).mono ?_
    rintro e w1 ⟨⟨r1, rfl⟩, u, n1, m1, sd1, o1⟩
    have N1 := hide (n1.wrk.less (b' := b) (fun i hi => by have := (n1.own.lt i hi).1; omega))
    have M1 : Hid (Mod (Own1 g v) w w1) := ⟨m1.os, m1.tape, m1.output, m1.size, fun i hi hS => m1.block i hi (fun e => hS (.inl e))⟩
    have S1 := hide sd1
    have O1 := hide o1
    clear n1 m1 sd1 o1 h T
    go_wp2_with fail
    go_ret
    exact ⟨rfl, u, unhide N1, unhide M1, unhide S1, unhide O1⟩
  · obtain ⟨K, hK⟩ : ∃ K : Nat, k = -(K : Int) := ⟨(-k).toNat, by omega⟩
    have hK0 : 0 < K := by omega
    have hng : IntKind.i64.wrap (-k) = (K : Int) := by rw [w64 _ (by omega) (by omega)]; omega
    have hlost : scL (val xs).toNat k = decide ((val xs).toNat % 2 ^ K ≠ 0) := by rw [hK, scL_down _ _ hK0]
    have hN : scN (val xs).toNat k = (val xs).toNat / 2 ^ K := by rw [hK, scN_down _ _ hK0]
    rw [hlost, hN]
    have hK63 : (K : Int) ≤ 9223372036854775807 := by omega
    obtain ⟨LB, hLB⟩ : ∃ LB, decide ((val xs).toNat % 2 ^ K ≠ 0) = LB := ⟨_, rfl⟩
    rw [hLB]
    have hkk : ¬ 0 ≤ k := hk
    have HK := hide hK
    clear hlost hN hK hk
    have hz := isZero_impl w h
    by_cases h0 : xs = []
    · have hd : decide (xs.length = 0) = true := by rw [h0]; rfl
      have hv0 : decide ((val xs).toNat % 2 ^ K ≠ 0) = false := by rw [h0]; simp [val]
      rw [hLB] at hv0
      subst hv0
      rw [hd] at hz
      go_enter Tryz.func210, Tryz.ntmps210
      go_wp2_with fail
      refine hz.mono ?_
      rintro e w1 ⟨rfl, rfl⟩
      clear hz hd hLB
      go_wp2_with fail
      refine (shiftDown_wrk _ h.wrk hn.1 (by omega) K hK63).mono ?_
      rintro e w2 ⟨⟨r1, rfl⟩, u, n1, o1, m1, sd1⟩
      have N1 := hide n1
      have M1 := hide m1
      have S1 := hide sd1
      have O1 := hide o1
      clear n1 m1 sd1 o1 h T
      go_wp2_with fail
      go_ret
      exact ⟨rfl, u, unhide N1, unhide M1, unhide S1, fun i hi => .inl (by rw [← unhide O1]; exact hi)⟩
    · have hd : decide (xs.length = 0) = false := decide_eq_false (fun e => h0 (List.length_eq_zero_iff.1 e))
      have hV : (val xs).toNat ≠ 0 := by
        intro e
        have e1 := val_nonneg hn.1
        exact h0 (nrm_nil hn (by omega))
      rw [hd] at hz
      go_enter Tryz.func210, Tryz.ntmps210
      go_wp2_with fail
      refine hz.mono ?_
      rintro e w1 ⟨rfl, rfl⟩
      clear hz hd
      go_wp2_with fail
      refine (trail_impl _ h.work hn.1 (by omega) T).mono ?_
      rintro e w2 ⟨t, rfl, ht, rfl⟩
      have hl := lost_trail ht hV K
      rw [hLB] at hl
      have HT := hide hl
      clear hl ht hLB
      go_wp2_with fail
      refine (shiftDown_wrk _ h.wrk hn.1 (by omega) K hK63).mono ?_
      rintro e w2 ⟨⟨r1, rfl⟩, u, n1, o1, m1, sd1⟩
      have N1 := hide n1
      have M1 := hide m1
      have S1 := hide sd1
      have O1 := hide o1
      clear n1 m1 sd1 o1 h T
      go_wp2_with fail
      go_ret
      exact ⟨by show Ending.returned (.bool (decide (t < K))) = _; rw [unhide HT], u, unhide N1, unhide M1, unhide S1, fun i hi => .inl (by rw [← unhide O1]; exact hi)⟩

/-- The fourth cell of a block. -/
def Mo (w : World) (g : Nat) (b : Bool) : Prop := w.cell? ⟨g, 3, none⟩ = some (.bool b) ∧ w.frozen? ⟨g, 3, none⟩ = false
theorem Mo.side {w w' : World} {g : Nat} {x : Bool} (h : Mo w g x) (k : SameSide g w w') : Mo w' g x := ⟨(k 3 (by omega)).1.trans h.1, (k 3 (by omega)).2.trans h.2⟩
theorem Mo.lt {w : World} {g : Nat} {x : Bool} (h : Mo w g x) : g < w.heap.size := World.block_lt_of_cell? _ ⟨g, 3, none⟩ h.1
theorem Mo.kept {w w' : World} {g : Nat} {x : Bool} (h : Mo w g x) (k : Kept 0 0 w w') : Mo w' g x := h.side (k.side h.lt)

set_option maxHeartbeats 2000000 in
theorem cut_own {b g : Nat} {v : Value} {xs : List Int} {s : Bool} {x : Int} (w : World) (h : Num b w g v xs) (d : Sd w g s) (ex : Ex w g x) (hn : Nrm xs) (nx : xs.length ≤ 50000) (hb : b ≤ w.heap.size) (low : Int) (hx0 : -300000 ≤ x) (hx1 : x ≤ 300000) (l0 : -300000 ≤ low) (l1 : low ≤ 300000) (T : TabB w) :
    Calls Tryz.prog 175 #[.pointer (some ⟨g, 0, none⟩), .int .i64 low] w fun e w' => ∃ u, e = .returned (.agg #[u, .bool s, .int .i64 low, .bool (scL (val xs).toNat (x - (low - 1)))]) ∧ OwnA b w' u (limbs (scN (val xs).toNat (x - (low - 1)))) ∧ Mod (fun i => v.ownBlock = some i) w w' ∧ (∀ i, u.ownBlock = some i → v.ownBlock = some i ∨ w.heap.size ≤ i) := by
  obtain ⟨a, c, hv⟩ := h.form
  subst hv
  have hc0 := h.cell
  have hc1 := d.1
  have hc2 := ex.1
  have hlt := h.lt
  have hw1 : IntKind.i64.wrap (low - 1) = low - 1 := w64 _ (by omega) (by omega)
  have hw2 : IntKind.i64.wrap (x - (low - 1)) = x - (low - 1) := w64 _ (by omega) (by omega)
  obtain ⟨W, hW⟩ : ∃ W, W = (w.alloc (.cells #[.slice none 0 0, .bool false, .int .i64 0, .bool false] 198)).alloc (.cells #[.slice a xs.length c, .bool s, .int .i64 low, .bool false] 198) := ⟨_, rfl⟩
  have k0 : Kept 0 0 w W := by rw [hW]; exact ((Kept.refl 0 0 w).alloc _).alloc _
  have sz : W.heap.size = w.heap.size + 2 := by rw [hW]; simp
  have q0 : W.cell? ⟨w.heap.size, 0, none⟩ = some (.slice none 0 0) := by rw [hW]; exact old_cell _ (new_cell2 _ _ _ _ _ _ (by simp) rfl)
  have q1 : W.cell? ⟨w.heap.size, 1, none⟩ = some (.bool false) := by rw [hW]; exact old_cell _ (new_cell2 _ _ _ _ _ _ (by simp) rfl)
  have q2 : W.cell? ⟨w.heap.size, 2, none⟩ = some (.int .i64 0) := by rw [hW]; exact old_cell _ (new_cell2 _ _ _ _ _ _ (by simp) rfl)
  have q3 : W.cell? ⟨w.heap.size, 3, none⟩ = some (.bool false) := by rw [hW]; exact old_cell _ (new_cell2 _ _ _ _ _ _ (by simp) rfl)
  have qf : ∀ o, o < 4 → W.frozen? ⟨w.heap.size, o, none⟩ = false := fun o ho => by rw [hW]; exact loose_old (by simp <;> omega) (new_loose2 _ _ _ _ _ (by simp))
  have y0 : W.cell? ⟨w.heap.size + 1, 0, none⟩ = some (.slice a xs.length c) := by rw [hW]; exact new_cell2 _ _ _ _ _ _ (by simp) rfl
  have y1 : W.cell? ⟨w.heap.size + 1, 1, none⟩ = some (.bool s) := by rw [hW]; exact new_cell2 _ _ _ _ _ _ (by simp) rfl
  have y2 : W.cell? ⟨w.heap.size + 1, 2, none⟩ = some (.int .i64 low) := by rw [hW]; exact new_cell2 _ _ _ _ _ _ (by simp) rfl
  have y3 : W.cell? ⟨w.heap.size + 1, 3, none⟩ = some (.bool false) := by rw [hW]; exact new_cell2 _ _ _ _ _ _ (by simp) rfl
  have yf : ∀ o, o < 4 → W.frozen? ⟨w.heap.size + 1, o, none⟩ = false := fun o ho => by rw [hW]; exact new_loose2 _ _ _ _ _ (by simp)
  have n : Num b W (w.heap.size + 1) (.slice a xs.length c) xs := ⟨y0, yf 0 (by omega), own_kept h.own k0, fun e => by have := (h.own.lt _ e).2; omega⟩
  have hx2 := k0.cell0 hc2
  have OL := hide (fun i hi => (h.own.lt i hi).2)
  have T1 := T.kept k0
  have hsc := scale_impl W n hn nx (by omega) (x - (low - 1)) (by omega) (by omega) T1
  obtain ⟨L, hL⟩ : ∃ L, scL (val xs).toNat (x - (low - 1)) = L := ⟨_, rfl⟩
  obtain ⟨Z, hZ⟩ : ∃ Z, limbs (scN (val xs).toNat (x - (low - 1))) = Z := ⟨_, rfl⟩
  rw [hL, hZ] at hsc
  rw [hL, hZ]
  have HS := hide hsc
  have HW := hide hW
  clear hsc hL hZ T T1 n h d ex y0 hx2
  go_enter Tryz.func175, Tryz.ntmps175
  go_wp2_with fail
  rw [← unhide HW]
  refine (unhide HS).mono ?_
  rintro e w1 ⟨rfl, u, n1, m1, sd1, o1⟩
  obtain ⟨a1, c1, hu⟩ := n1.form
  subst hu
  have nS : ¬ Own1 (w.heap.size + 1) (.slice a xs.length c) w.heap.size := fun e => e.elim (fun e => by omega) (fun e => by have := unhide OL _ e; omega)
  replace q0 := m1.cell (a := ⟨w.heap.size, 0, none⟩) nS q0
  replace q1 := m1.cell (a := ⟨w.heap.size, 1, none⟩) nS q1
  replace q2 := m1.cell (a := ⟨w.heap.size, 2, none⟩) nS q2
  replace q3 := m1.cell (a := ⟨w.heap.size, 3, none⟩) nS q3
  have qf0 := m1.loose (a := ⟨w.heap.size, 0, none⟩) nS (by simp only; omega) (qf 0 (by omega))
  have qf1 := m1.loose (a := ⟨w.heap.size, 1, none⟩) nS (by simp only; omega) (qf 1 (by omega))
  have qf2 := m1.loose (a := ⟨w.heap.size, 2, none⟩) nS (by simp only; omega) (qf 2 (by omega))
  have qf3 := m1.loose (a := ⟨w.heap.size, 3, none⟩) nS (by simp only; omega) (qf 3 (by omega))
  have y0 := n1.cell
  replace y1 := (sd1 1 (by omega)).1.trans y1
  replace y2 := (sd1 2 (by omega)).1.trans y2
  replace y3 := (sd1 3 (by omega)).1.trans y3
  have yf3 := (sd1 3 (by omega)).2.trans (yf 3 (by omega))
  have hne : ¬ w.heap.size = w.heap.size + 1 := by omega
  have hne' : ¬ w.heap.size + 1 = w.heap.size := by omega
  have ao := n1.own
  have ap := n1.apart
  have ap2 : (Value.slice a1 Z.length c1).ownBlock ≠ some w.heap.size := fun e => (o1 _ e).elim (fun e => by have := unhide OL _ e; omega) (fun e => by omega)
  have KM : Hid (OwnA b (((((w1.setCell ⟨w.heap.size + 1, 3, none⟩ (.bool L)).setCell ⟨w.heap.size, 0, none⟩ (.slice a1 Z.length c1)).setCell ⟨w.heap.size, 1, none⟩ (.bool s)).setCell ⟨w.heap.size, 2, none⟩ (.int .i64 low)).setCell ⟨w.heap.size, 3, none⟩ (.bool L)) (.slice a1 Z.length c1) Z ∧
      Mod (fun i => (Value.slice a xs.length c).ownBlock = some i) w (((((w1.setCell ⟨w.heap.size + 1, 3, none⟩ (.bool L)).setCell ⟨w.heap.size, 0, none⟩ (.slice a1 Z.length c1)).setCell ⟨w.heap.size, 1, none⟩ (.bool s)).setCell ⟨w.heap.size, 2, none⟩ (.int .i64 low)).setCell ⟨w.heap.size, 3, none⟩ (.bool L))) := by
    refine ⟨((((ao.aside ap _).aside ap2 _).aside ap2 _).aside ap2 _).aside ap2 _, ?_⟩
    have m0 : Mod (fun i => (Value.slice a xs.length c).ownBlock = some i) w w1 := Mod.then k0.toMod m1 (fun i hi => hi.elim (fun e => .inr (by omega)) (fun e => .inl e))
    exact ((((m0.set (p := ⟨w.heap.size + 1, 3, none⟩) (.inr (by simp only; omega)) _).set (p := ⟨w.heap.size, 0, none⟩) (.inr (Nat.le_refl _)) _).set (p := ⟨w.heap.size, 1, none⟩) (.inr (Nat.le_refl _)) _).set (p := ⟨w.heap.size, 2, none⟩) (.inr (Nat.le_refl _)) _).set (p := ⟨w.heap.size, 3, none⟩) (.inr (Nat.le_refl _)) _
  have O1 : Hid (∀ i, (Value.slice a1 Z.length c1).ownBlock = some i → (Value.slice a xs.length c).ownBlock = some i ∨ w.heap.size ≤ i) := fun i e => (o1 i e).elim .inl (fun e => .inr (by omega))
  clear n1 m1 sd1 o1 ao ap ap2 nS k0 qf yf sz HS HW
  go_wp2_with fail
  exact bodyPost_ret (v := .agg #[.slice a1 Z.length c1, .bool s, .int .i64 low, .bool L]) (by simp [results, Tryz.results175, go_sem, q0, q1, q2, q3]) rfl ⟨_, rfl, (unhide KM).1, (unhide KM).2, unhide O1⟩

set_option maxHeartbeats 1000000 in
theorem isExact_impl {b g : Nat} {v : Value} {zs : List Int} {mo : Bool} (w : World) (h : Work b w g v zs) (hl : Lim zs) (m : Mo w g mo) :
    Calls Tryz.prog 207 #[.pointer (some ⟨g, 0, none⟩)] w fun e w' => e = .returned (.bool (decide ((val zs).toNat % 2 = 0) && !mo)) ∧ w' = w := by
  have hb := bit_work w h hl 0 (by omega) (by omega)
  have e0 : bitAt (val zs).toNat 0 = (((val zs).toNat % 2 : Nat) : Int) := by unfold bitAt; simp
  rw [e0] at hb
  have hm := m.1
  obtain ⟨B, hB⟩ : ∃ B : Nat, (val zs).toNat % 2 = B := ⟨_, rfl⟩
  have hB2 : B < 2 := by omega
  rw [hB] at hb
  rw [hB]
  have HB := hide hb
  clear hb h hl m hB e0
  by_cases hB0 : B = 0
  · subst hB0
    go_enter Tryz.func207, Tryz.ntmps207
    go_wp2_with (go_at_call 208; refine (unhide HB).mono ?_; rintro e w' ⟨rfl, rfl⟩)
    go_ret
    exact ⟨by simp, rfl⟩
  · obtain rfl : B = 1 := by omega
    go_enter Tryz.func207, Tryz.ntmps207
    go_wp2_with (go_at_call 208; refine (unhide HB).mono ?_; rintro e w' ⟨rfl, rfl⟩)
    go_ret
    exact ⟨by simp, rfl⟩

theorem in_bit : ∀ (w : World) (args : Array Value), (callFunc 208 args).run Tryz.prog w = .ok (.enter 208 args) w := enters Tryz.func208 (by decide) (fun h => by cases h)

end Go.Proofs.YthahoabkehcgbaaGreatDoor


namespace Go.Proofs.YthahoabkehcgbaaGreatDoor
open Go.RowKit
set_option linter.unusedVariables false
set_option linter.unusedSimpArgs false

/-- Whether a mode goes up: of a number below 0 (n), beyond an odd multiple (o), by half a multiple at least (h), and by something beside (r). -/
def upsB (mode : Nat) (n o h r : Bool) : Bool :=
  match mode with
  | 0 => h && (r || o)
  | 1 => false
  | 2 => !n
  | 3 => n
  | _ => h

abbrev exv (n o h r : Bool) : Value := .agg #[.bool n, .bool o, .bool h, .bool r]

theorem ups1 (n o h r : Bool) (w : World) :
    Calls Tryz.prog 224 #[exv n o h r] w fun e w' => e = .returned (.bool (upsB 0 n o h r)) ∧ Kept 0 0 w w' := by
  go_enter Tryz.func224, Tryz.ntmps224
  go_wp2
  all_goals (go_ret; refine ⟨?_, by repeat first | exact Kept.refl 0 0 _ | apply Kept.alloc⟩; congr 2; unfold upsB; simp_all)

theorem ups2 (n o h r : Bool) (w : World) :
    Calls Tryz.prog 225 #[exv n o h r] w fun e w' => e = .returned (.bool (upsB 1 n o h r)) ∧ Kept 0 0 w w' := by
  go_enter Tryz.func225, Tryz.ntmps225
  go_wp2
  all_goals (go_ret; exact ⟨rfl, by repeat first | exact Kept.refl 0 0 _ | apply Kept.alloc⟩)

theorem ups3 (n o h r : Bool) (w : World) :
    Calls Tryz.prog 226 #[exv n o h r] w fun e w' => e = .returned (.bool (upsB 2 n o h r)) ∧ Kept 0 0 w w' := by
  go_enter Tryz.func226, Tryz.ntmps226
  go_wp2
  all_goals (go_ret; exact ⟨rfl, by repeat first | exact Kept.refl 0 0 _ | apply Kept.alloc⟩)

theorem ups4 (n o h r : Bool) (w : World) :
    Calls Tryz.prog 227 #[exv n o h r] w fun e w' => e = .returned (.bool (upsB 3 n o h r)) ∧ Kept 0 0 w w' := by
  go_enter Tryz.func227, Tryz.ntmps227
  go_wp2
  all_goals (go_ret; exact ⟨rfl, by repeat first | exact Kept.refl 0 0 _ | apply Kept.alloc⟩)

theorem ups5 (n o h r : Bool) (w : World) :
    Calls Tryz.prog 228 #[exv n o h r] w fun e w' => e = .returned (.bool (upsB 4 n o h r)) ∧ Kept 0 0 w w' := by
  go_enter Tryz.func228, Tryz.ntmps228
  go_wp2
  all_goals (go_ret; exact ⟨rfl, by repeat first | exact Kept.refl 0 0 _ | apply Kept.alloc⟩)

/-- The table of modes. -/
abbrev rndTab : Value := .agg #[.func (.func 224) #[] #[], .func (.func 225) #[] #[], .func (.func 226) #[] #[], .func (.func 227) #[] #[], .func (.func 228) #[] #[]]

set_option maxHeartbeats 1000000 in
theorem roundings_impl (w : World) :
    Calls Tryz.prog 209 #[] w fun e w' => e = .returned rndTab ∧ Kept 0 0 w w' := by
  have k0 : Kept 0 0 w (w.alloc (.cells #[.nilFunc, .nilFunc, .nilFunc, .nilFunc, .nilFunc] 234)) := ((Kept.refl 0 0 w).alloc (.cells #[.nilFunc, .nilFunc, .nilFunc, .nilFunc, .nilFunc] 234))
  have q0 : (w.alloc (.cells #[.nilFunc, .nilFunc, .nilFunc, .nilFunc, .nilFunc] 234)).cell? ⟨w.heap.size, 0, none⟩ = some (.nilFunc) := new_cell2 _ _ _ _ _ _ (by simp) rfl
  have qf0 : (w.alloc (.cells #[.nilFunc, .nilFunc, .nilFunc, .nilFunc, .nilFunc] 234)).frozen? ⟨w.heap.size, 0, none⟩ = false := new_loose2 _ _ _ _ _ (by simp)
  have q1 : (w.alloc (.cells #[.nilFunc, .nilFunc, .nilFunc, .nilFunc, .nilFunc] 234)).cell? ⟨w.heap.size, 1, none⟩ = some (.nilFunc) := new_cell2 _ _ _ _ _ _ (by simp) rfl
  have qf1 : (w.alloc (.cells #[.nilFunc, .nilFunc, .nilFunc, .nilFunc, .nilFunc] 234)).frozen? ⟨w.heap.size, 1, none⟩ = false := new_loose2 _ _ _ _ _ (by simp)
  have q2 : (w.alloc (.cells #[.nilFunc, .nilFunc, .nilFunc, .nilFunc, .nilFunc] 234)).cell? ⟨w.heap.size, 2, none⟩ = some (.nilFunc) := new_cell2 _ _ _ _ _ _ (by simp) rfl
  have qf2 : (w.alloc (.cells #[.nilFunc, .nilFunc, .nilFunc, .nilFunc, .nilFunc] 234)).frozen? ⟨w.heap.size, 2, none⟩ = false := new_loose2 _ _ _ _ _ (by simp)
  have q3 : (w.alloc (.cells #[.nilFunc, .nilFunc, .nilFunc, .nilFunc, .nilFunc] 234)).cell? ⟨w.heap.size, 3, none⟩ = some (.nilFunc) := new_cell2 _ _ _ _ _ _ (by simp) rfl
  have qf3 : (w.alloc (.cells #[.nilFunc, .nilFunc, .nilFunc, .nilFunc, .nilFunc] 234)).frozen? ⟨w.heap.size, 3, none⟩ = false := new_loose2 _ _ _ _ _ (by simp)
  have q4 : (w.alloc (.cells #[.nilFunc, .nilFunc, .nilFunc, .nilFunc, .nilFunc] 234)).cell? ⟨w.heap.size, 4, none⟩ = some (.nilFunc) := new_cell2 _ _ _ _ _ _ (by simp) rfl
  have qf4 : (w.alloc (.cells #[.nilFunc, .nilFunc, .nilFunc, .nilFunc, .nilFunc] 234)).frozen? ⟨w.heap.size, 4, none⟩ = false := new_loose2 _ _ _ _ _ (by simp)
  have s0 : (w.alloc (.cells #[.nilFunc, .nilFunc, .nilFunc, .nilFunc, .nilFunc] 234)).heap.size = w.heap.size + 1 := by simp
  have K := hide (k0)
  clear k0
  have S0 := hide s0
  clear s0
  go_enter Tryz.func209, Tryz.ntmps209
  go_upto_region 1 with fail
  generalize (w.alloc (.cells #[.nilFunc, .nilFunc, .nilFunc, .nilFunc, .nilFunc] 234)) = W at *
  have st := fun (w : World) (a : Addr) (f : Fn) => run_store Tryz.prog w a (.func f #[] #[]) .plain rfl
  have K7 := hide ((((((unhide K).setNew (p := ⟨w.heap.size, 0, none⟩) (by simp) (.func (.func 224) #[] #[])).setNew (p := ⟨w.heap.size, 1, none⟩) (by simp) (.func (.func 225) #[] #[])).setNew (p := ⟨w.heap.size, 2, none⟩) (by simp) (.func (.func 226) #[] #[])).setNew (p := ⟨w.heap.size, 3, none⟩) (by simp) (.func (.func 227) #[] #[])).setNew (p := ⟨w.heap.size, 4, none⟩) (by simp) (.func (.func 228) #[] #[]))
  clear K
  go_wp2_with fail
  exact bodyPost_ret (v := rndTab) (by simp [results, Tryz.results209, go_sem, q0, q1, q2, q3, q4]) rfl ⟨rfl, unhide K7⟩

end Go.Proofs.YthahoabkehcgbaaGreatDoor

