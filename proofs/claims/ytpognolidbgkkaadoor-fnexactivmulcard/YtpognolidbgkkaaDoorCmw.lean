/-
  The program's compareDyadic over numbers of greater powers; a nought may carry a sign.
-/
import Derived.Test.YtpognolidbgkkaaDoorDy11m
import Derived.Test.YtpognolidbgkkaaDoorBI
import Derived.Test.YtpognolidbgkkaaDoorBC
import Derived.Deep.RegionHeld3
namespace Go.Proofs.YtpognolidbgkkaaDoor
open Go.RowKit
set_option linter.unusedVariables false
set_option maxRecDepth 8000
set_option linter.unusedSimpArgs false

theorem in_compareSigned_w : ∀ (w : World) (args : Array Value), (callFunc 56 args).run Tryd.prog w = .ok (.enter 56 args) w := enters Tryd.func56 (by decide) (fun h => by cases h)

theorem eff_val (s : Bool) (xs : List Int) : wval (s && decide (0 < xs.length)) xs = wval s xs := by
  cases xs with
  | nil => cases s <;> rfl
  | cons a l => simp
theorem eff_wn (s : Bool) {xs : List Int} (h : Nrm xs) : WN (s && decide (0 < xs.length)) xs := ⟨h, fun e => by simp at e; exact e.2⟩

set_option maxHeartbeats 4000000 in
theorem compareSigned_nrm {w0 w : World} {g1 g2 : Nat} {s1 s2 : Bool} {xs ys : List Int} (S : Sig2 w0 w g1 g2 s1 xs s2 ys) (hnx : Nrm xs) (hny : Nrm ys) :
    Calls Tryd.prog 56 #[.pointer (some ⟨g1, 0, none⟩), .pointer (some ⟨g2, 0, none⟩)] w fun e w' => e = .returned (.int .i64 (cmpI (wval s1 xs) (wval s2 ys))) ∧ Kept 0 0 w w' := by
  obtain ⟨u1, u2, t⟩ := S.two
  have b1 := isBelow_impl w t.n1 S.d1
  have b2 := isBelow_impl w t.n2 S.d2
  rw [← eff_val s1 xs, ← eff_val s2 ys]
  have o1 := eff_wn s1 hnx
  have o2 := eff_wn s2 hny
  clear S
  generalize (s1 && decide (0 < xs.length)) = s1 at *
  generalize (s2 && decide (0 < ys.length)) = s2 at *
  obtain ⟨x1, x2, hx⟩ := o1.int
  obtain ⟨y1, y2, hy⟩ := o2.int
  have nx := val_nonneg hx.1
  have ny := val_nonneg hy.1
  have T := hide t
  have B1 := hide b1
  have B2 := hide b2
  clear t b1 b2 x2 y2 o1 o2
  cases s1 <;> cases s2
  ·have e : cmpI (wval false xs) (wval false ys) = cmpI (val xs) (val ys) := by simp [wval]
   rw [e]
   clear x1 y1 e
   go_enter Tryd.func56, Tryd.ntmps56
   go_wp2_with (first | (go_at_call_of 75 (Value.pointer (some ⟨g1, 0, none⟩)); refine (unhide B1).mono ?_; rintro e w' ⟨rfl, rfl⟩) | (go_at_call_of 75 (Value.pointer (some ⟨g2, 0, none⟩)); refine (unhide B2).mono ?_; rintro e w' ⟨rfl, rfl⟩))
   refine wp_region_held_drew (S := (fun _ => True)) (by kernel_rfl) ?_ (fun hH => ?_)
   ·trivial
   refine wT (i := 0) (v := .pointer (some ⟨g1, 0, none⟩)) rfl (Or.inl ⟨by rfl, ?_⟩) hH ?_
   ·intro wq hSw
    try dsimp only at hSw
    go_simp
   try simp only [Act.put, zq1, zq2, zq3, zq4, zq5, zq6]
   refine wT (i := 1) (v := .pointer (some ⟨g1, 0, none⟩)) rfl (Or.inl ⟨by rfl, ?_⟩) hH ?_
   ·intro wq hSw
    try dsimp only at hSw
    go_simp
   try simp only [Act.put, zq1, zq2, zq3, zq4, zq5, zq6]
   refine wT (i := 2) (v := .pointer (some ⟨g1, 0, none⟩)) rfl (Or.inl ⟨by rfl, ?_⟩) hH ?_
   ·intro wq hSw
    try dsimp only at hSw
    go_simp
   try simp only [Act.put, zq1, zq2, zq3, zq4, zq5, zq6]
   refine wT (i := 3) (v := .pointer (some ⟨g2, 0, none⟩)) rfl (Or.inl ⟨by rfl, ?_⟩) hH ?_
   ·intro wq hSw
    try dsimp only at hSw
    go_simp
   try simp only [Act.put, zq1, zq2, zq3, zq4, zq5, zq6]
   refine wT (i := 4) (v := .pointer (some ⟨g2, 0, none⟩)) rfl (Or.inl ⟨by rfl, ?_⟩) hH ?_
   ·intro wq hSw
    try dsimp only at hSw
    go_simp
   try simp only [Act.put, zq1, zq2, zq3, zq4, zq5, zq6]
   refine wT (i := 5) (v := .pointer (some ⟨g2, 0, none⟩)) rfl (Or.inl ⟨by rfl, ?_⟩) hH ?_
   ·intro wq hSw
    try dsimp only at hSw
    go_simp
   try simp only [Act.put, zq1, zq2, zq3, zq4, zq5, zq6]
   refine wR 6 (by kernel_rfl) rfl (fun KK hK => ?_)
   simp only [zq1, zq2, zq3]
   rw [if_pos (by rfl)]
   refine wps2 76 (.tmp 27) (.tmp 30) _ rfl in_compare (.pointer (some ⟨g1, 0, none⟩)) (.pointer (some ⟨g2, 0, none⟩)) rfl rfl (compare_impl _ ((unhide T).kept (Kept.refl 0 0 _).drew).n1 ((unhide T).kept (Kept.refl 0 0 _).drew).n2 hx hy) ?_
   rintro e w5 ⟨rfl, k5⟩
   refine ⟨_, rfl, ?_⟩
   have K5 := hide ((Kept.refl 0 0 _).drew.trans k5)
   clear k5
   clear hH
   refine hK.out _ _ ?_ (fun hH => ?_)
   ·trivial
   clear hK KK
   try simp only [Act.put, zq1, zq2, zq3, zq4, zq5, zq6]
   refine wT (i := 7) (v := .int .i64 (cmpI (val xs) (val ys))) rfl (Or.inl ⟨by rfl, ?_⟩) hH ?_
   ·intro wq hSw
    try dsimp only at hSw
    go_simp
   try simp only [Act.put, zq1, zq2, zq3, zq4, zq5, zq6]
   refine wpAnyH_done (by kernel_rfl) ?_ _
   clear hH
   go_wp2
   go_ret
   exact ⟨rfl, unhide K5⟩
  ·have e : cmpI (wval false xs) (wval true ys) = 1 := by simp [wval] at y1 ⊢; unfold cmpI; rw [if_neg (by omega), if_pos (by omega)]
   rw [e]
   clear x1 y1 e
   go_enter Tryd.func56, Tryd.ntmps56
   go_wp2_with (first | (go_at_call_of 75 (Value.pointer (some ⟨g1, 0, none⟩)); refine (unhide B1).mono ?_; rintro e w' ⟨rfl, rfl⟩) | (go_at_call_of 75 (Value.pointer (some ⟨g2, 0, none⟩)); refine (unhide B2).mono ?_; rintro e w' ⟨rfl, rfl⟩))
   go_ret
   exact ⟨rfl, Kept.refl 0 0 _⟩
  ·have e : cmpI (wval true xs) (wval false ys) = -1 := by simp [wval] at x1 ⊢; unfold cmpI; rw [if_pos (by omega)]
   rw [e]
   clear x1 y1 e
   go_enter Tryd.func56, Tryd.ntmps56
   go_wp2_with (first | (go_at_call_of 75 (Value.pointer (some ⟨g1, 0, none⟩)); refine (unhide B1).mono ?_; rintro e w' ⟨rfl, rfl⟩) | (go_at_call_of 75 (Value.pointer (some ⟨g2, 0, none⟩)); refine (unhide B2).mono ?_; rintro e w' ⟨rfl, rfl⟩))
   go_ret
   exact ⟨rfl, Kept.refl 0 0 _⟩
  ·have e : cmpI (wval true xs) (wval true ys) = cmpI (val ys) (val xs) := by simp [wval]; unfold cmpI; split <;> split <;> (try split) <;> (try split) <;> omega
   rw [e]
   clear x1 y1 e
   go_enter Tryd.func56, Tryd.ntmps56
   go_wp2_with (first | (go_at_call_of 75 (Value.pointer (some ⟨g1, 0, none⟩)); refine (unhide B1).mono ?_; rintro e w' ⟨rfl, rfl⟩) | (go_at_call_of 75 (Value.pointer (some ⟨g2, 0, none⟩)); refine (unhide B2).mono ?_; rintro e w' ⟨rfl, rfl⟩))
   refine wp_region_held_drew (S := (fun _ => True)) (by kernel_rfl) ?_ (fun hH => ?_)
   ·trivial
   refine wT (i := 0) (v := .pointer (some ⟨g2, 0, none⟩)) rfl (Or.inl ⟨by rfl, ?_⟩) hH ?_
   ·intro wq hSw
    try dsimp only at hSw
    go_simp
   try simp only [Act.put, zq1, zq2, zq3, zq4, zq5, zq6]
   refine wT (i := 1) (v := .pointer (some ⟨g2, 0, none⟩)) rfl (Or.inl ⟨by rfl, ?_⟩) hH ?_
   ·intro wq hSw
    try dsimp only at hSw
    go_simp
   try simp only [Act.put, zq1, zq2, zq3, zq4, zq5, zq6]
   refine wT (i := 2) (v := .pointer (some ⟨g2, 0, none⟩)) rfl (Or.inl ⟨by rfl, ?_⟩) hH ?_
   ·intro wq hSw
    try dsimp only at hSw
    go_simp
   try simp only [Act.put, zq1, zq2, zq3, zq4, zq5, zq6]
   refine wT (i := 3) (v := .pointer (some ⟨g1, 0, none⟩)) rfl (Or.inl ⟨by rfl, ?_⟩) hH ?_
   ·intro wq hSw
    try dsimp only at hSw
    go_simp
   try simp only [Act.put, zq1, zq2, zq3, zq4, zq5, zq6]
   refine wT (i := 4) (v := .pointer (some ⟨g1, 0, none⟩)) rfl (Or.inl ⟨by rfl, ?_⟩) hH ?_
   ·intro wq hSw
    try dsimp only at hSw
    go_simp
   try simp only [Act.put, zq1, zq2, zq3, zq4, zq5, zq6]
   refine wT (i := 5) (v := .pointer (some ⟨g1, 0, none⟩)) rfl (Or.inl ⟨by rfl, ?_⟩) hH ?_
   ·intro wq hSw
    try dsimp only at hSw
    go_simp
   try simp only [Act.put, zq1, zq2, zq3, zq4, zq5, zq6]
   refine wR 6 (by kernel_rfl) rfl (fun KK hK => ?_)
   simp only [zq1, zq2, zq3]
   rw [if_pos (by rfl)]
   refine wps2 76 (.tmp 14) (.tmp 17) _ rfl in_compare (.pointer (some ⟨g2, 0, none⟩)) (.pointer (some ⟨g1, 0, none⟩)) rfl rfl (compare_impl _ ((unhide T).kept (Kept.refl 0 0 _).drew).n2 ((unhide T).kept (Kept.refl 0 0 _).drew).n1 hy hx) ?_
   rintro e w5 ⟨rfl, k5⟩
   refine ⟨_, rfl, ?_⟩
   have K5 := hide ((Kept.refl 0 0 _).drew.trans k5)
   clear k5
   clear hH
   refine hK.out _ _ ?_ (fun hH => ?_)
   ·trivial
   clear hK KK
   try simp only [Act.put, zq1, zq2, zq3, zq4, zq5, zq6]
   refine wT (i := 7) (v := .int .i64 (cmpI (val ys) (val xs))) rfl (Or.inl ⟨by rfl, ?_⟩) hH ?_
   ·intro wq hSw
    try dsimp only at hSw
    go_simp
   try simp only [Act.put, zq1, zq2, zq3, zq4, zq5, zq6]
   refine wpAnyH_done (by kernel_rfl) ?_ _
   clear hH
   go_wp2
   go_ret
   exact ⟨rfl, unhide K5⟩

set_option maxHeartbeats 8000000 in
theorem compareDyadic_wide {w0 w : World} {g1 g2 : Nat} {s1 s2 : Bool} {xs ys : List Int} {x1 x2 : Int} (sg : Dya2 w0 w g1 g2 s1 xs x1 s2 ys x2) (hx : Nrm xs) (hy : Nrm ys) (nx : xs.length ≤ 50000) (ny : ys.length ≤ 50000) (f1 : -40000 ≤ x1) (f2 : x1 ≤ 40000) (f3 : -40000 ≤ x2) (f4 : x2 ≤ 40000) :
    Calls Tryd.prog 38 #[.pointer (some ⟨g1, 0, none⟩), .pointer (some ⟨g2, 0, none⟩)] w fun e w' => e = .returned (.int .i64 (cmpDI (wval s1 xs) x1 (wval s2 ys) x2)) ∧ Kept 0 0 w0 w' := by
  have SG := hide sg
  go_enter Tryd.func38, Tryd.ntmps38
  go_wp2_with fail
  refine (align_wide (unhide SG) hx hy nx ny f1 f2 f3 f4).mono ?_
  rintro e w5 ⟨⟨r5, rfl⟩, sg5⟩
  have z2 := shl_val s1 hx (x1 - min x1 x2).toNat
  have z4 := shl_val s2 hy (x2 - min x1 x2).toNat
  have z1 := limbs_nrm ((val xs).toNat * 2 ^ (x1 - min x1 x2).toNat)
  have z3 := limbs_nrm ((val ys).toNat * 2 ^ (x2 - min x1 x2).toNat)
  have EQ : Hid (cmpI (wval s1 (limbs ((val xs).toNat * 2 ^ (x1 - min x1 x2).toNat))) (wval s2 (limbs ((val ys).toNat * 2 ^ (x2 - min x1 x2).toNat))) = cmpDI (wval s1 xs) x1 (wval s2 ys) x2) := by show _ = _; rw [z2, z4]; rfl
  generalize limbs ((val xs).toNat * 2 ^ (x1 - min x1 x2).toNat) = L1 at *
  generalize limbs ((val ys).toNat * 2 ^ (x2 - min x1 x2).toNat) = L2 at *
  generalize min x1 x2 = lo at *
  clear z2 z4 SG
  go_wp2_with fail
  replace sg5 := sg5.kept (Kept.refl 0 0 w5).drew
  have SG5 := hide sg5
  clear sg5
  refine wp_region_held_drew (S := (fun _ => True)) (by kernel_rfl) ?_ (fun hH => ?_)
  ·trivial
  generalize w5.drew = wd at *
  refine wT (i := 0) (v := .pointer (some ⟨g1, 0, none⟩)) rfl (Or.inl ⟨by rfl, ?_⟩) hH ?_
  ·intro wq hSw
   try dsimp only at hSw
   go_simp
  try simp only [Act.put, zq1, zq2, zq3, zq4, zq5, zq6]
  refine wT (i := 1) (v := .pointer (some ⟨g1, 0, none⟩)) rfl (Or.inl ⟨by rfl, ?_⟩) hH ?_
  ·intro wq hSw
   try dsimp only at hSw
   go_simp
  try simp only [Act.put, zq1, zq2, zq3, zq4, zq5, zq6]
  refine wT (i := 2) (v := .pointer (some ⟨g1, 0, none⟩)) rfl (Or.inl ⟨by rfl, ?_⟩) hH ?_
  ·intro wq hSw
   try dsimp only at hSw
   go_simp
  try simp only [Act.put, zq1, zq2, zq3, zq4, zq5, zq6]
  refine wT (i := 3) (v := .pointer (some ⟨g2, 0, none⟩)) rfl (Or.inl ⟨by rfl, ?_⟩) hH ?_
  ·intro wq hSw
   try dsimp only at hSw
   go_simp
  try simp only [Act.put, zq1, zq2, zq3, zq4, zq5, zq6]
  refine wT (i := 4) (v := .pointer (some ⟨g2, 0, none⟩)) rfl (Or.inl ⟨by rfl, ?_⟩) hH ?_
  ·intro wq hSw
   try dsimp only at hSw
   go_simp
  try simp only [Act.put, zq1, zq2, zq3, zq4, zq5, zq6]
  refine wT (i := 5) (v := .pointer (some ⟨g2, 0, none⟩)) rfl (Or.inl ⟨by rfl, ?_⟩) hH ?_
  ·intro wq hSw
   try dsimp only at hSw
   go_simp
  try simp only [Act.put, zq1, zq2, zq3, zq4, zq5, zq6]
  refine wR 6 (by kernel_rfl) rfl (fun KK hK => ?_)
  simp only [zq1, zq2, zq3]
  rw [if_pos (by rfl)]
  refine wps2 56 (.tmp 10) (.tmp 13) _ rfl in_compareSigned_w (.pointer (some ⟨g1, 0, none⟩)) (.pointer (some ⟨g2, 0, none⟩)) rfl rfl (compareSigned_nrm (unhide SG5).sg z1 z3) ?_
  rintro e w6 ⟨rfl, k6⟩
  refine ⟨_, rfl, ?_⟩
  clear hH
  refine hK.out _ _ ?_ (fun hH => ?_)
  ·trivial
  clear hK KK
  try simp only [Act.put, zq1, zq2, zq3, zq4, zq5, zq6]
  refine wT (i := 7) (v := .int .i64 (cmpI (wval s1 L1) (wval s2 L2))) rfl (Or.inl ⟨by rfl, ?_⟩) hH ?_
  ·intro wq hSw
   try dsimp only at hSw
   go_simp
  try simp only [Act.put, zq1, zq2, zq3, zq4, zq5, zq6]
  refine wpAnyH_done (by kernel_rfl) ?_ _
  clear hH
  obtain ⟨u1, u2, t⟩ := (unhide SG5).sg.two
  have K7 := hide (t.k.trans k6)
  clear t k6 SG5
  go_wp2_with fail
  go_ret
  exact ⟨by rw [← unhide EQ]; rfl, unhide K7⟩

end Go.Proofs.YtpognolidbgkkaaDoor

