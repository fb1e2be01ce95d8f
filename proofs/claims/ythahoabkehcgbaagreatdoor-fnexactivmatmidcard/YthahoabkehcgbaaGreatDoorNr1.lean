/-
  The program's size of a number; compareDyadic over two of many numbers.
-/
import Derived.Test.YthahoabkehcgbaaGreatDoorPl3
import Derived.Test.YthahoabkehcgbaaGreatDoorBI
import Derived.Test.YthahoabkehcgbaaGreatDoorBC
import Derived.Deep.RegionHeld3
namespace Go.Proofs.YthahoabkehcgbaaGreatDoor
open Go.RowKit
set_option linter.unusedVariables false
set_option maxRecDepth 8000
set_option linter.unusedSimpArgs false

theorem in_compareSigned_w : ∀ (w : World) (args : Array Value), (callFunc 196 args).run Tryz.prog w = .ok (.enter 196 args) w := enters Tryz.func196 (by decide) (fun h => by cases h)

theorem eff_val (s : Bool) (xs : List Int) : wval (s && decide (0 < xs.length)) xs = wval s xs := by
  cases xs with
  | nil => cases s <;> rfl
  | cons a l => simp
theorem eff_wn (s : Bool) {xs : List Int} (h : Nrm xs) : WN (s && decide (0 < xs.length)) xs := ⟨h, fun e => by simp at e; exact e.2⟩

set_option maxHeartbeats 4000000 in
theorem compareSigned_nrm {w0 w : World} {g1 g2 : Nat} {s1 s2 : Bool} {xs ys : List Int} (S : Sig2 w0 w g1 g2 s1 xs s2 ys) (hnx : Nrm xs) (hny : Nrm ys) :
    Calls Tryz.prog 196 #[.pointer (some ⟨g1, 0, none⟩), .pointer (some ⟨g2, 0, none⟩)] w fun e w' => e = .returned (.int .i64 (cmpI (wval s1 xs) (wval s2 ys))) ∧ Kept 0 0 w w' := by
  obtain ⟨u1, u2, t⟩ := S.two
  have b1 := isBelow_impl w t.n1 S.d1
  have b2 := isBelow_impl w t.n2 S.d2
  rw [← eff_val s1 xs, ← eff_val s2 ys]
  have o1 := eff_wn s1 hnx
  have o2 := eff_wn s2 hny
  clear S
  generalize (s1 && decide (0 < xs.length)) = s1 at *
  generalize (s2 && decide (0 < ys.length)) = s2 at *
  obtain ⟨x1, x2, hx⟩ := o1.int
  obtain ⟨y1, y2, hy⟩ := o2.int
  have nx := val_nonneg hx.1
  have ny := val_nonneg hy.1
  have T := hide t
  have B1 := hide b1
  have B2 := hide b2
  clear t b1 b2 x2 y2 o1 o2
  cases s1 <;> cases s2
  · have e : cmpI (wval false xs) (wval false ys) = cmpI (val xs) (val ys) := by simp [wval]
    rw [e]
    clear x1 y1 e
    go_enter Tryz.func196, Tryz.ntmps196
    go_wp2_with (first | (go_at_call_of 189 (Value.pointer (some ⟨g1, 0, none⟩)); refine (unhide B1).mono ?_; rintro e w' ⟨rfl, rfl⟩) | (go_at_call_of 189 (Value.pointer (some ⟨g2, 0, none⟩)); refine (unhide B2).mono ?_; rintro e w' ⟨rfl, rfl⟩))
    refine wp_region_held_drew (S := (fun _ => True)) (by kernel_rfl) ?_ (fun hHeld => ?_)
    · trivial
    refine wpAnyH_take (i := 0) (oi := _) (v := .pointer (some ⟨g1, 0, none⟩)) rfl (by kernel_rfl) (by kernel_rfl) (by kernel_rfl) (fun _ _ _ h => h) (Or.inl ⟨by rfl, ?_⟩) hHeld ?_
    · intro wq hSw
      try dsimp only at hSw
      go_simp
    try simp only [Act.put, List.getElem_toArray, List.getElem_cons_succ, List.getElem_cons_zero, List.setIfInBounds_toArray, List.set_cons_zero, List.set_cons_succ]
    refine wpAnyH_take (i := 1) (oi := _) (v := .pointer (some ⟨g1, 0, none⟩)) rfl (by kernel_rfl) (by kernel_rfl) (by kernel_rfl) (fun _ _ _ h => h) (Or.inl ⟨by rfl, ?_⟩) hHeld ?_
    · intro wq hSw
      try dsimp only at hSw
      go_simp
    try simp only [Act.put, List.getElem_toArray, List.getElem_cons_succ, List.getElem_cons_zero, List.setIfInBounds_toArray, List.set_cons_zero, List.set_cons_succ]
    refine wpAnyH_take (i := 2) (oi := _) (v := .pointer (some ⟨g1, 0, none⟩)) rfl (by kernel_rfl) (by kernel_rfl) (by kernel_rfl) (fun _ _ _ h => h) (Or.inl ⟨by rfl, ?_⟩) hHeld ?_
    · intro wq hSw
      try dsimp only at hSw
      go_simp
    try simp only [Act.put, List.getElem_toArray, List.getElem_cons_succ, List.getElem_cons_zero, List.setIfInBounds_toArray, List.set_cons_zero, List.set_cons_succ]
    refine wpAnyH_take (i := 3) (oi := _) (v := .pointer (some ⟨g2, 0, none⟩)) rfl (by kernel_rfl) (by kernel_rfl) (by kernel_rfl) (fun _ _ _ h => h) (Or.inl ⟨by rfl, ?_⟩) hHeld ?_
    · intro wq hSw
      try dsimp only at hSw
      go_simp
    try simp only [Act.put, List.getElem_toArray, List.getElem_cons_succ, List.getElem_cons_zero, List.setIfInBounds_toArray, List.set_cons_zero, List.set_cons_succ]
    refine wpAnyH_take (i := 4) (oi := _) (v := .pointer (some ⟨g2, 0, none⟩)) rfl (by kernel_rfl) (by kernel_rfl) (by kernel_rfl) (fun _ _ _ h => h) (Or.inl ⟨by rfl, ?_⟩) hHeld ?_
    · intro wq hSw
      try dsimp only at hSw
      go_simp
    try simp only [Act.put, List.getElem_toArray, List.getElem_cons_succ, List.getElem_cons_zero, List.setIfInBounds_toArray, List.set_cons_zero, List.set_cons_succ]
    refine wpAnyH_take (i := 5) (oi := _) (v := .pointer (some ⟨g2, 0, none⟩)) rfl (by kernel_rfl) (by kernel_rfl) (by kernel_rfl) (fun _ _ _ h => h) (Or.inl ⟨by rfl, ?_⟩) hHeld ?_
    · intro wq hSw
      try dsimp only at hSw
      go_simp
    try simp only [Act.put, List.getElem_toArray, List.getElem_cons_succ, List.getElem_cons_zero, List.setIfInBounds_toArray, List.set_cons_zero, List.set_cons_succ]
    refine wpAnyH_ready (rs := [6]) (by kernel_rfl) (by simp) ?_
    refine AllReadyH.cons rfl (fun KK hK => ?_) AllReadyH.nil
    simp only [List.getElem_toArray, List.getElem_cons_succ, List.getElem_cons_zero]
    rw [if_pos (by rfl)]
    refine wps2 218 (.tmp 27) (.tmp 30) _ rfl in_compare (.pointer (some ⟨g1, 0, none⟩)) (.pointer (some ⟨g2, 0, none⟩)) rfl rfl (compare_impl _ ((unhide T).kept (Kept.refl 0 0 _).drew).n1 ((unhide T).kept (Kept.refl 0 0 _).drew).n2 hx hy) ?_
    rintro e w5 ⟨rfl, k5⟩
    refine ⟨_, rfl, ?_⟩
    have K5 := hide ((Kept.refl 0 0 _).drew.trans k5)
    clear k5
    clear hHeld
    refine hK.out _ _ ?_ (fun hHeld => ?_)
    · trivial
    clear hK KK
    try simp only [Act.put, List.getElem_toArray, List.getElem_cons_succ, List.getElem_cons_zero, List.setIfInBounds_toArray, List.set_cons_zero, List.set_cons_succ]
    refine wpAnyH_take (i := 7) (oi := _) (v := .int .i64 (cmpI (val xs) (val ys))) rfl (by kernel_rfl) (by kernel_rfl) (by kernel_rfl) (fun _ _ _ h => h) (Or.inl ⟨by rfl, ?_⟩) hHeld ?_
    · intro wq hSw
      try dsimp only at hSw
      go_simp
    try simp only [Act.put, List.getElem_toArray, List.getElem_cons_succ, List.getElem_cons_zero, List.setIfInBounds_toArray, List.set_cons_zero, List.set_cons_succ]
    refine wpAnyH_done (by kernel_rfl) ?_ _
    clear hHeld
    go_wp2
    go_ret
    exact ⟨rfl, unhide K5⟩
  · have e : cmpI (wval false xs) (wval true ys) = 1 := by simp [wval] at y1 ⊢; unfold cmpI; rw [if_neg (by omega), if_pos (by omega)]
    rw [e]
    clear x1 y1 e
    go_enter Tryz.func196, Tryz.ntmps196
    go_wp2_with (first | (go_at_call_of 189 (Value.pointer (some ⟨g1, 0, none⟩)); refine (unhide B1).mono ?_; rintro e w' ⟨rfl, rfl⟩) | (go_at_call_of 189 (Value.pointer (some ⟨g2, 0, none⟩)); refine (unhide B2).mono ?_; rintro e w' ⟨rfl, rfl⟩))
    go_ret
    exact ⟨rfl, Kept.refl 0 0 _⟩
  · have e : cmpI (wval true xs) (wval false ys) = -1 := by simp [wval] at x1 ⊢; unfold cmpI; rw [if_pos (by omega)]
    rw [e]
    clear x1 y1 e
    go_enter Tryz.func196, Tryz.ntmps196
    go_wp2_with (first | (go_at_call_of 189 (Value.pointer (some ⟨g1, 0, none⟩)); refine (unhide B1).mono ?_; rintro e w' ⟨rfl, rfl⟩) | (go_at_call_of 189 (Value.pointer (some ⟨g2, 0, none⟩)); refine (unhide B2).mono ?_; rintro e w' ⟨rfl, rfl⟩))
    go_ret
    exact ⟨rfl, Kept.refl 0 0 _⟩
  · have e : cmpI (wval true xs) (wval true ys) = cmpI (val ys) (val xs) := by simp [wval]; unfold cmpI; split <;> split <;> (try split) <;> (try split) <;> omega
    rw [e]
    clear x1 y1 e
    go_enter Tryz.func196, Tryz.ntmps196
    go_wp2_with (first | (go_at_call_of 189 (Value.pointer (some ⟨g1, 0, none⟩)); refine (unhide B1).mono ?_; rintro e w' ⟨rfl, rfl⟩) | (go_at_call_of 189 (Value.pointer (some ⟨g2, 0, none⟩)); refine (unhide B2).mono ?_; rintro e w' ⟨rfl, rfl⟩))
    refine wp_region_held_drew (S := (fun _ => True)) (by kernel_rfl) ?_ (fun hHeld => ?_)
    · trivial
    refine wpAnyH_take (i := 0) (oi := _) (v := .pointer (some ⟨g2, 0, none⟩)) rfl (by kernel_rfl) (by kernel_rfl) (by kernel_rfl) (fun _ _ _ h => h) (Or.inl ⟨by rfl, ?_⟩) hHeld ?_
    · intro wq hSw
      try dsimp only at hSw
      go_simp
    try simp only [Act.put, List.getElem_toArray, List.getElem_cons_succ, List.getElem_cons_zero, List.setIfInBounds_toArray, List.set_cons_zero, List.set_cons_succ]
    refine wpAnyH_take (i := 1) (oi := _) (v := .pointer (some ⟨g2, 0, none⟩)) rfl (by kernel_rfl) (by kernel_rfl) (by kernel_rfl) (fun _ _ _ h => h) (Or.inl ⟨by rfl, ?_⟩) hHeld ?_
    · intro wq hSw
      try dsimp only at hSw
      go_simp
    try simp only [Act.put, List.getElem_toArray, List.getElem_cons_succ, List.getElem_cons_zero, List.setIfInBounds_toArray, List.set_cons_zero, List.set_cons_succ]
    refine wpAnyH_take (i := 2) (oi := _) (v := .pointer (some ⟨g2, 0, none⟩)) rfl (by kernel_rfl) (by kernel_rfl) (by kernel_rfl) (fun _ _ _ h => h) (Or.inl ⟨by rfl, ?_⟩) hHeld ?_
    · intro wq hSw
      try dsimp only at hSw
      go_simp
    try simp only [Act.put, List.getElem_toArray, List.getElem_cons_succ, List.getElem_cons_zero, List.setIfInBounds_toArray, List.set_cons_zero, List.set_cons_succ]
    refine wpAnyH_take (i := 3) (oi := _) (v := .pointer (some ⟨g1, 0, none⟩)) rfl (by kernel_rfl) (by kernel_rfl) (by kernel_rfl) (fun _ _ _ h => h) (Or.inl ⟨by rfl, ?_⟩) hHeld ?_
    · intro wq hSw
      try dsimp only at hSw
      go_simp
    try simp only [Act.put, List.getElem_toArray, List.getElem_cons_succ, List.getElem_cons_zero, List.setIfInBounds_toArray, List.set_cons_zero, List.set_cons_succ]
    refine wpAnyH_take (i := 4) (oi := _) (v := .pointer (some ⟨g1, 0, none⟩)) rfl (by kernel_rfl) (by kernel_rfl) (by kernel_rfl) (fun _ _ _ h => h) (Or.inl ⟨by rfl, ?_⟩) hHeld ?_
    · intro wq hSw
      try dsimp only at hSw
      go_simp
    try simp only [Act.put, List.getElem_toArray, List.getElem_cons_succ, List.getElem_cons_zero, List.setIfInBounds_toArray, List.set_cons_zero, List.set_cons_succ]
    refine wpAnyH_take (i := 5) (oi := _) (v := .pointer (some ⟨g1, 0, none⟩)) rfl (by kernel_rfl) (by kernel_rfl) (by kernel_rfl) (fun _ _ _ h => h) (Or.inl ⟨by rfl, ?_⟩) hHeld ?_
    · intro wq hSw
      try dsimp only at hSw
      go_simp
    try simp only [Act.put, List.getElem_toArray, List.getElem_cons_succ, List.getElem_cons_zero, List.setIfInBounds_toArray, List.set_cons_zero, List.set_cons_succ]
    refine wpAnyH_ready (rs := [6]) (by kernel_rfl) (by simp) ?_
    refine AllReadyH.cons rfl (fun KK hK => ?_) AllReadyH.nil
    simp only [List.getElem_toArray, List.getElem_cons_succ, List.getElem_cons_zero]
    rw [if_pos (by rfl)]
    refine wps2 218 (.tmp 14) (.tmp 17) _ rfl in_compare (.pointer (some ⟨g2, 0, none⟩)) (.pointer (some ⟨g1, 0, none⟩)) rfl rfl (compare_impl _ ((unhide T).kept (Kept.refl 0 0 _).drew).n2 ((unhide T).kept (Kept.refl 0 0 _).drew).n1 hy hx) ?_
    rintro e w5 ⟨rfl, k5⟩
    refine ⟨_, rfl, ?_⟩
    have K5 := hide ((Kept.refl 0 0 _).drew.trans k5)
    clear k5
    clear hHeld
    refine hK.out _ _ ?_ (fun hHeld => ?_)
    · trivial
    clear hK KK
    try simp only [Act.put, List.getElem_toArray, List.getElem_cons_succ, List.getElem_cons_zero, List.setIfInBounds_toArray, List.set_cons_zero, List.set_cons_succ]
    refine wpAnyH_take (i := 7) (oi := _) (v := .int .i64 (cmpI (val ys) (val xs))) rfl (by kernel_rfl) (by kernel_rfl) (by kernel_rfl) (fun _ _ _ h => h) (Or.inl ⟨by rfl, ?_⟩) hHeld ?_
    · intro wq hSw
      try dsimp only at hSw
      go_simp
    try simp only [Act.put, List.getElem_toArray, List.getElem_cons_succ, List.getElem_cons_zero, List.setIfInBounds_toArray, List.set_cons_zero, List.set_cons_succ]
    refine wpAnyH_done (by kernel_rfl) ?_ _
    clear hHeld
    go_wp2
    go_ret
    exact ⟨rfl, unhide K5⟩

set_option maxHeartbeats 2000000 in
theorem align_modW {w0 w : World} {g1 g2 : Nat} {s1 s2 : Bool} {u1 u2 : Value} {xs ys : List Int} {x1 x2 : Int} (t0 : Two w0 w g1 g2 u1 u2 xs ys) (d1 : Sd w g1 s1) (d2 : Sd w g2 s2) (e1 : Ex w g1 x1) (e2 : Ex w g2 x2) (hx : Nrm xs) (hy : Nrm ys) (nx : xs.length ≤ 50000) (ny : ys.length ≤ 50000) (f1 : -40000 ≤ x1) (f2 : x1 ≤ 40000) (f3 : -40000 ≤ x2) (f4 : x2 ≤ 40000) :
    Calls Tryz.prog 192 #[.pointer (some ⟨g1, 0, none⟩), .pointer (some ⟨g2, 0, none⟩)] w fun e w' => (∃ r, e = .returned r) ∧ ∃ v1 v2, Two w0 w' g1 g2 v1 v2 (limbs ((val xs).toNat * 2 ^ (x1 - min x1 x2).toNat)) (limbs ((val ys).toNat * 2 ^ (x2 - min x1 x2).toNat)) ∧ Sd w' g1 s1 ∧ Sd w' g2 s2 ∧ Ex w' g1 (min x1 x2) ∧ Ex w' g2 (min x1 x2) ∧ Mod (fun i => i = g1 ∨ i = g2) w w' ∧ (∀ i, v1.ownBlock = some i → u1.ownBlock = some i ∨ w.heap.size ≤ i) ∧ (∀ i, v2.ownBlock = some i → u2.ownBlock = some i ∨ w.heap.size ≤ i) := by
  have hc1 := e1.1
  have hc2 := e2.1
  have SS := hide (And.intro t0 (And.intro d1 (And.intro d2 (And.intro e1 e2))))
  clear t0 d1 d2 e1 e2
  obtain ⟨lo, hlo⟩ : ∃ lo : Int, min x1 x2 = lo := ⟨_, rfl⟩
  obtain ⟨k1, hk1⟩ : ∃ k : Nat, x1 - lo = (k : Int) := ⟨(x1 - lo).toNat, by omega⟩
  obtain ⟨k2, hk2⟩ : ∃ k : Nat, x2 - lo = (k : Int) := ⟨(x2 - lo).toNat, by omega⟩
  have q1 : k1 ≤ 80000 := by omega
  have q2 : k2 ≤ 80000 := by omega
  rw [show (x1 - min x1 x2).toNat = k1 by omega, show (x2 - min x1 x2).toNat = k2 by omega, hlo]
  go_enter Tryz.func192, Tryz.ntmps192
  go_wp2
  go_region
  go_wp2_with fail
  clear hc1 hc2
  obtain ⟨t, d1, d2, e1, e2⟩ := unhide SS
  replace t := t.kept (Kept.refl 0 0 w).drew
  replace d1 := d1.kept (Kept.refl 0 0 w).drew
  replace d2 := d2.kept (Kept.refl 0 0 w).drew
  replace e1 := e1.kept (Kept.refl 0 0 w).drew
  replace e2 := e2.kept (Kept.refl 0 0 w).drew
  refine (lowerTo_impl _ t.n1 d1 e1 hx (by omega) t.k.size k1 hk1 (by omega)).mono ?_
  rintro e w2 ⟨⟨r2, rfl⟩, v2, n2, d3, e3, m2, ho⟩
  have t2 := t.put1 n2 (Nat.le_refl _) m2 ho
  have d4 : Sd w2 g2 s2 := d2.same (m2.side d2.lt (fun e => t.ne e.symm))
  have e4 : Ex w2 g2 x2 := e2.tail (m2.side e2.lt (fun e => t.ne e.symm)).tail
  have MM2 : Hid (Mod (fun i => i = g1 ∨ i = g2) w w2) := ((Mod.refl _ w).kept (Kept.refl 0 0 w).drew).then m2 (fun i e => .inl (.inl e))
  have OO2 : Hid (∀ i, v2.ownBlock = some i → u1.ownBlock = some i ∨ w.heap.size ≤ i) := ho
  have Z2 := hide m2.size
  clear t d1 d2 e1 e2 n2 m2 ho
  go_wp2_with fail
  refine (lowerTo_impl _ t2.n2 d4 e4 hy (by omega) t2.k.size k2 hk2 (by omega)).mono ?_
  rintro e w3 ⟨⟨r3, rfl⟩, v3, n3, d5, e5, m3, ho⟩
  have t3 := (t2.swap.put1 n3 (Nat.le_refl _) m3 ho).swap
  have d6 : Sd w3 g1 s1 := d3.same (m3.side d3.lt (fun e => t2.ne e))
  have e6 : Ex w3 g1 lo := e3.tail (m3.side e3.lt (fun e => t2.ne e)).tail
  have FF : Hid (Two w0 w3 g1 g2 v2 v3 (limbs ((val xs).toNat * 2 ^ k1)) (limbs ((val ys).toNat * 2 ^ k2)) ∧ Sd w3 g1 s1 ∧ Sd w3 g2 s2 ∧ Ex w3 g1 lo ∧ Ex w3 g2 lo ∧ Mod (fun i => i = g1 ∨ i = g2) w w3 ∧ (∀ i, v2.ownBlock = some i → u1.ownBlock = some i ∨ w.heap.size ≤ i) ∧ (∀ i, v3.ownBlock = some i → u2.ownBlock = some i ∨ w.heap.size ≤ i)) := ⟨t3, d6, d5, e6, e5, (unhide MM2).then m3 (fun i e => .inl (.inr e)), unhide OO2, fun i hi => (ho i hi).elim .inl (fun h => .inr (Nat.le_trans (unhide Z2) h))⟩
  clear t2 t3 d3 d4 d5 d6 e3 e4 e5 e6 n3 m3 ho
  go_wp2_with fail
  exact bodyPost_end (v := .tuple #[]) (by simp [results, Tryz.results192, go_sem]) rfl ⟨⟨_, rfl⟩, _, _, unhide FF⟩

set_option maxHeartbeats 8000000 in
theorem compareDyadic_modW {w0 w : World} {g1 g2 : Nat} {s1 s2 : Bool} {u1 u2 : Value} {xs ys : List Int} {x1 x2 : Int} (t0 : Two w0 w g1 g2 u1 u2 xs ys) (d1 : Sd w g1 s1) (d2 : Sd w g2 s2) (e1 : Ex w g1 x1) (e2 : Ex w g2 x2) (hx : Nrm xs) (hy : Nrm ys) (nx : xs.length ≤ 50000) (ny : ys.length ≤ 50000) (f1 : -40000 ≤ x1) (f2 : x1 ≤ 40000) (f3 : -40000 ≤ x2) (f4 : x2 ≤ 40000) :
    Calls Tryz.prog 150 #[.pointer (some ⟨g1, 0, none⟩), .pointer (some ⟨g2, 0, none⟩)] w fun e w' => e = .returned (.int .i64 (cmpDI (wval s1 xs) x1 (wval s2 ys) x2)) ∧ ∃ v1 v2, Two w0 w' g1 g2 v1 v2 (limbs ((val xs).toNat * 2 ^ (x1 - min x1 x2).toNat)) (limbs ((val ys).toNat * 2 ^ (x2 - min x1 x2).toNat)) ∧ Sd w' g1 s1 ∧ Sd w' g2 s2 ∧ Ex w' g1 (min x1 x2) ∧ Ex w' g2 (min x1 x2) ∧ Mod (fun i => i = g1 ∨ i = g2) w w' ∧ (∀ i, v1.ownBlock = some i → u1.ownBlock = some i ∨ w.heap.size ≤ i) ∧ (∀ i, v2.ownBlock = some i → u2.ownBlock = some i ∨ w.heap.size ≤ i) := by
  have HAL := hide (align_modW t0 d1 d2 e1 e2 hx hy nx ny f1 f2 f3 f4)
  clear t0 d1 d2 e1 e2
  have z2 := shl_val s1 hx (x1 - min x1 x2).toNat
  have z4 := shl_val s2 hy (x2 - min x1 x2).toNat
  have z1 := limbs_nrm ((val xs).toNat * 2 ^ (x1 - min x1 x2).toNat)
  have z3 := limbs_nrm ((val ys).toNat * 2 ^ (x2 - min x1 x2).toNat)
  have EQ : Hid (cmpI (wval s1 (limbs ((val xs).toNat * 2 ^ (x1 - min x1 x2).toNat))) (wval s2 (limbs ((val ys).toNat * 2 ^ (x2 - min x1 x2).toNat))) = cmpDI (wval s1 xs) x1 (wval s2 ys) x2) := by show _ = _; rw [z2, z4]; rfl
  clear z2 z4
  generalize limbs ((val xs).toNat * 2 ^ (x1 - min x1 x2).toNat) = L1 at *
  generalize limbs ((val ys).toNat * 2 ^ (x2 - min x1 x2).toNat) = L2 at *
  generalize min x1 x2 = lo at *
  go_enter Tryz.func150, Tryz.ntmps150
  go_wp2_with fail
  refine (unhide HAL).mono ?_
  rintro e w5 ⟨⟨r5, rfl⟩, v1, v2, t5, d5, d6, e5, e6, m5, ob1, ob2⟩
  have OB := hide (And.intro ob1 ob2)
  clear ob1 ob2
  clear HAL
  go_wp2_with fail
  have kd := (Kept.refl 0 0 w5).drew
  have SG5 : Hid (Two w0 w5.drew g1 g2 v1 v2 L1 L2 ∧ Sd w5.drew g1 s1 ∧ Sd w5.drew g2 s2 ∧ Ex w5.drew g1 lo ∧ Ex w5.drew g2 lo ∧ Mod (fun i => i = g1 ∨ i = g2) w w5.drew) := ⟨t5.kept kd, d5.kept kd, d6.kept kd, e5.kept kd, e6.kept kd, m5.kept kd⟩
  clear t5 d5 d6 e5 e6 m5 kd
  refine wp_region_held_drew (S := (fun _ => True)) (by kernel_rfl) ?_ (fun hHeld => ?_)
  · trivial
  generalize w5.drew = wd at *
  refine wpAnyH_take (i := 0) (oi := _) (v := .pointer (some ⟨g1, 0, none⟩)) rfl (by kernel_rfl) (by kernel_rfl) (by kernel_rfl) (fun _ _ _ h => h) (Or.inl ⟨by rfl, ?_⟩) hHeld ?_
  · intro wq hSw
    try dsimp only at hSw
    go_simp
  try simp only [Act.put, List.getElem_toArray, List.getElem_cons_succ, List.getElem_cons_zero, List.setIfInBounds_toArray, List.set_cons_zero, List.set_cons_succ]
  refine wpAnyH_take (i := 1) (oi := _) (v := .pointer (some ⟨g1, 0, none⟩)) rfl (by kernel_rfl) (by kernel_rfl) (by kernel_rfl) (fun _ _ _ h => h) (Or.inl ⟨by rfl, ?_⟩) hHeld ?_
  · intro wq hSw
    try dsimp only at hSw
    go_simp
  try simp only [Act.put, List.getElem_toArray, List.getElem_cons_succ, List.getElem_cons_zero, List.setIfInBounds_toArray, List.set_cons_zero, List.set_cons_succ]
  refine wpAnyH_take (i := 2) (oi := _) (v := .pointer (some ⟨g1, 0, none⟩)) rfl (by kernel_rfl) (by kernel_rfl) (by kernel_rfl) (fun _ _ _ h => h) (Or.inl ⟨by rfl, ?_⟩) hHeld ?_
  · intro wq hSw
    try dsimp only at hSw
    go_simp
  try simp only [Act.put, List.getElem_toArray, List.getElem_cons_succ, List.getElem_cons_zero, List.setIfInBounds_toArray, List.set_cons_zero, List.set_cons_succ]
  refine wpAnyH_take (i := 3) (oi := _) (v := .pointer (some ⟨g2, 0, none⟩)) rfl (by kernel_rfl) (by kernel_rfl) (by kernel_rfl) (fun _ _ _ h => h) (Or.inl ⟨by rfl, ?_⟩) hHeld ?_
  · intro wq hSw
    try dsimp only at hSw
    go_simp
  try simp only [Act.put, List.getElem_toArray, List.getElem_cons_succ, List.getElem_cons_zero, List.setIfInBounds_toArray, List.set_cons_zero, List.set_cons_succ]
  refine wpAnyH_take (i := 4) (oi := _) (v := .pointer (some ⟨g2, 0, none⟩)) rfl (by kernel_rfl) (by kernel_rfl) (by kernel_rfl) (fun _ _ _ h => h) (Or.inl ⟨by rfl, ?_⟩) hHeld ?_
  · intro wq hSw
    try dsimp only at hSw
    go_simp
  try simp only [Act.put, List.getElem_toArray, List.getElem_cons_succ, List.getElem_cons_zero, List.setIfInBounds_toArray, List.set_cons_zero, List.set_cons_succ]
  refine wpAnyH_take (i := 5) (oi := _) (v := .pointer (some ⟨g2, 0, none⟩)) rfl (by kernel_rfl) (by kernel_rfl) (by kernel_rfl) (fun _ _ _ h => h) (Or.inl ⟨by rfl, ?_⟩) hHeld ?_
  · intro wq hSw
    try dsimp only at hSw
    go_simp
  try simp only [Act.put, List.getElem_toArray, List.getElem_cons_succ, List.getElem_cons_zero, List.setIfInBounds_toArray, List.set_cons_zero, List.set_cons_succ]
  refine wpAnyH_ready (rs := [6]) (by kernel_rfl) (by simp) ?_
  refine AllReadyH.cons rfl (fun KK hK => ?_) AllReadyH.nil
  simp only [List.getElem_toArray, List.getElem_cons_succ, List.getElem_cons_zero]
  rw [if_pos (by rfl)]
  refine wps2 196 (.tmp 10) (.tmp 13) _ rfl in_compareSigned_w (.pointer (some ⟨g1, 0, none⟩)) (.pointer (some ⟨g2, 0, none⟩)) rfl rfl (compareSigned_nrm ⟨⟨v1, v2, (unhide SG5).1⟩, (unhide SG5).2.1, (unhide SG5).2.2.1⟩ z1 z3) ?_
  rintro e w6 ⟨rfl, k6⟩
  refine ⟨_, rfl, ?_⟩
  clear hHeld
  refine hK.out _ _ ?_ (fun hHeld => ?_)
  · trivial
  clear hK KK
  try simp only [Act.put, List.getElem_toArray, List.getElem_cons_succ, List.getElem_cons_zero, List.setIfInBounds_toArray, List.set_cons_zero, List.set_cons_succ]
  refine wpAnyH_take (i := 7) (oi := _) (v := .int .i64 (cmpI (wval s1 L1) (wval s2 L2))) rfl (by kernel_rfl) (by kernel_rfl) (by kernel_rfl) (fun _ _ _ h => h) (Or.inl ⟨by rfl, ?_⟩) hHeld ?_
  · intro wq hSw
    try dsimp only at hSw
    go_simp
  try simp only [Act.put, List.getElem_toArray, List.getElem_cons_succ, List.getElem_cons_zero, List.setIfInBounds_toArray, List.set_cons_zero, List.set_cons_succ]
  refine wpAnyH_done (by kernel_rfl) ?_ _
  clear hHeld
  have F7 : Hid (Two w0 w6 g1 g2 v1 v2 L1 L2 ∧ Sd w6 g1 s1 ∧ Sd w6 g2 s2 ∧ Ex w6 g1 lo ∧ Ex w6 g2 lo ∧ Mod (fun i => i = g1 ∨ i = g2) w w6) := ⟨(unhide SG5).1.kept k6, (unhide SG5).2.1.kept k6, (unhide SG5).2.2.1.kept k6, (unhide SG5).2.2.2.1.kept k6, (unhide SG5).2.2.2.2.1.kept k6, (unhide SG5).2.2.2.2.2.kept k6⟩
  clear k6 SG5
  go_wp2_with fail
  go_ret
  exact ⟨by rw [← unhide EQ]; rfl, v1, v2, (unhide F7).1, (unhide F7).2.1, (unhide F7).2.2.1, (unhide F7).2.2.2.1, (unhide F7).2.2.2.2.1, (unhide F7).2.2.2.2.2, (unhide OB).1, (unhide OB).2⟩

theorem abs_isV {L V : Int} {a : DE} (h : IsV L V a) : IsV L (V.natAbs : Int) (false, a.2.1, a.2.2) := by
  obtain ⟨h1, h2, h3⟩ := h
  refine ⟨h1, h2, ?_⟩
  have hp := Nat.pow_pos (n := (a.2.2 - L).toNat) (show 0 < 2 by decide)
  have hv := val_nonneg h2.1
  have e : ((2 : Int) ^ (a.2.2 - L).toNat) = ((2 ^ (a.2.2 - L).toNat : Nat) : Int) := by simp
  have hq : (0 : Int) ≤ val a.2.1 * 2 ^ (a.2.2 - L).toNat := by rw [e]; exact Int.mul_nonneg hv (Int.natCast_nonneg _)
  dsimp only
  rw [show wval false a.2.1 = val a.2.1 from rfl]
  have h4 : V = val a.2.1 * 2 ^ (a.2.2 - L).toNat ∨ V = -(val a.2.1 * 2 ^ (a.2.2 - L).toNat) := by
    rw [← h3]
    cases a.1
    · exact .inl rfl
    · exact .inr (Int.neg_mul _ _)
  omega

set_option maxHeartbeats 4000000 in
theorem sizeD_impl {L V : Int} {g1 : Nat} {u1 : Value} {a : DE} (w : World) (n1 : Num 0 w g1 u1 a.2.1) (d1 : Sd w g1 a.1) (e1 : Ex w g1 a.2.2) (i1 : NV L V a) :
    Calls Tryz.prog 146 #[.pointer (some ⟨g1, 0, none⟩)] w fun e w' => ∃ g d, e = .returned (.pointer (some ⟨g, 0, none⟩)) ∧ DyP (fun y => y < w.heap.size) w' g d ∧ NV L (V.natAbs : Int) d ∧ Kept 0 0 w w' := by
  have IS : Hid (NV L (V.natAbs : Int) (false, a.2.1, a.2.2)) := ⟨abs_isV i1.1, i1.2.1, i1.2.2⟩
  have la := i1.2.1
  clear i1
  obtain ⟨s1, xs, x1⟩ := a
  dsimp only at *
  have h1 := again_impl w n1 d1 e1 (by omega)
  clear n1 d1 e1
  go_enter Tryz.func146, Tryz.ntmps146
  go_wp2_with fail
  refine h1.mono ?_
  rintro e w1 ⟨v1, rfl, o1, k1⟩
  obtain ⟨a1, c1, hv1⟩ := own_slice o1
  subst hv1
  obtain ⟨n2, d2, e2⟩ := new_dya false x1 150 o1
  have B0 := hide k1.size
  have K3 := hide (k1.alloc (.cells #[.slice a1 xs.length c1, .bool false, .int .i64 x1] 150))
  have DP : Hid (DyP (fun y => y < w.heap.size) (w1.alloc (.cells #[.slice a1 xs.length c1, .bool false, .int .i64 x1] 150)) w1.heap.size (false, xs, x1)) := ⟨_, n2.less (Nat.zero_le _), d2, e2, by have := unhide B0; omega, fun i hi => by have := (o1.lt i hi).1; omega⟩
  clear h1 n2 d2 e2 o1 k1
  go_wp2
  go_ret
  exact ⟨_, _, rfl, unhide DP, unhide IS, unhide K3⟩

theorem in_sizeD : ∀ (w : World) (args : Array Value), (callFunc 146 args).run Tryz.prog w = .ok (.enter 146 args) w := enters Tryz.func146 (by decide) (fun h => by cases h)

end Go.Proofs.YthahoabkehcgbaaGreatDoor
