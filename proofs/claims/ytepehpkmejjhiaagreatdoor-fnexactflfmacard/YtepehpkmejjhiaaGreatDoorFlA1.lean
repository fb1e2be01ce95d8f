/-
  A sum of dyadic numbers: what else stands.
-/
import Derived.Test.YtepehpkmejjhiaaGreatDoorBI
import Derived.Test.YtepehpkmejjhiaaGreatDoorBX
import Derived.Test.YtepehpkmejjhiaaGreatDoorDy5a
import Derived.Deep.DeepCutAuto
import Derived.Deep.RegionHeld3
import Derived.BigQuiet
namespace Go.Proofs.YtepehpkmejjhiaaGreatDoor
open Go.RowKit
set_option linter.unusedVariables false
set_option maxRecDepth 8000
set_option linter.unusedSimpArgs false

theorem Mod.mono {S T : Nat → Prop} {a b : World} (h : Mod S a b) (hT : ∀ i, S i → T i) : Mod T a b := ⟨h.os, h.tape, h.output, h.size, fun i h1 h2 => h.block i h1 (fun e => h2 (hT i e))⟩

set_option maxHeartbeats 4000000 in
theorem addSigned_mod {w0 w : World} {g1 g2 : Nat} {s1 s2 : Bool} {u1 u2 : Value} {xs ys : List Int} (t0 : Two w0 w g1 g2 u1 u2 xs ys) (b1 : Sd w g1 s1) (b2 : Sd w g2 s2) (hx : Nrm xs) (hy : Nrm ys) (nx : xs.length ≤ 100000) (ny : ys.length ≤ 100000) :
    Calls Tryz.prog 141 #[.pointer (some ⟨g1, 0, none⟩), .pointer (some ⟨g2, 0, none⟩)] w fun e w' => (∃ r, e = .returned r) ∧ ∃ u s zs, Num w0.heap.size w' g1 u zs ∧ Sd w' g1 s ∧ Nrm zs ∧ wval s zs = wval s1 xs + wval s2 ys ∧ zs.length ≤ 1000000 ∧ Kept 0 0 w0 w' ∧ SameTail g1 w w' ∧ Mod (Own1 g1 u1) w w' ∧ (∀ i, u.ownBlock = some i → u1.ownBlock = some i ∨ w.heap.size ≤ i) := by
  have hc1 := b1.1
  have hc2 := b2.1
  have SS : Hid (Sig2 w0 w g1 g2 s1 xs s2 ys) := ⟨⟨u1, u2, t0⟩, b1, b2⟩
  have T := hide t0
  have hx0 := val_nonneg hx.1
  have hy0 := val_nonneg hy.1
  clear t0 b1 b2
  by_cases hs : s1 = s2
  ·subst hs
   go_enter Tryz.func141, Tryz.ntmps141
   go_wp2_with fail
   go_quiet (fail)
   go_wp2_with fail
   refine wp_region_held_drew (S := (fun _ => True)) (by kernel_rfl) ?_ (fun hH => ?_)
   ·trivial
   refine wT (i := 0) (v := .pointer (some ⟨g1, 0, none⟩)) rfl (Or.inl ⟨by rfl, ?_⟩) hH ?_
   ·intro wq hSw
    try dsimp only at hSw
    go_simp
   try simp only [Act.put, zq1, zq2, zq3, zq4, zq5, zq6]
   refine wT (i := 1) (v := .pointer (some ⟨g1, 0, none⟩)) rfl (Or.inl ⟨by rfl, ?_⟩) hH ?_
   ·intro wq hSw
    try dsimp only at hSw
    go_simp
   try simp only [Act.put, zq1, zq2, zq3, zq4, zq5, zq6]
   refine wT (i := 2) (v := .pointer (some ⟨g1, 0, none⟩)) rfl (Or.inl ⟨by rfl, ?_⟩) hH ?_
   ·intro wq hSw
    try dsimp only at hSw
    go_simp
   try simp only [Act.put, zq1, zq2, zq3, zq4, zq5, zq6]
   refine wT (i := 3) (v := .pointer (some ⟨g2, 0, none⟩)) rfl (Or.inl ⟨by rfl, ?_⟩) hH ?_
   ·intro wq hSw
    try dsimp only at hSw
    go_simp
   try simp only [Act.put, zq1, zq2, zq3, zq4, zq5, zq6]
   refine wT (i := 4) (v := .pointer (some ⟨g2, 0, none⟩)) rfl (Or.inl ⟨by rfl, ?_⟩) hH ?_
   ·intro wq hSw
    try dsimp only at hSw
    go_simp
   try simp only [Act.put, zq1, zq2, zq3, zq4, zq5, zq6]
   refine wT (i := 5) (v := .pointer (some ⟨g2, 0, none⟩)) rfl (Or.inl ⟨by rfl, ?_⟩) hH ?_
   ·intro wq hSw
    try dsimp only at hSw
    go_simp
   try simp only [Act.put, zq1, zq2, zq3, zq4, zq5, zq6]
   refine wR 6 (by kernel_rfl) rfl (fun KK hK => ?_)
   simp only [zq1, zq2, zq3]
   rw [if_pos (by rfl)]
   refine wps2 93 (.tmp 15) (.tmp 18) _ rfl in_add (.pointer (some ⟨g1, 0, none⟩)) (.pointer (some ⟨g2, 0, none⟩)) rfl rfl (add_twoS ⟨_, _, (((unhide T).kept ((Kept.refl 0 0 w).drewN _)).kept (Kept.refl 0 0 _).drew).startS⟩ hx hy nx ny) ?_
   rintro e w6 ⟨⟨r6, rfl⟩, u6, v6, t6⟩
   refine ⟨_, rfl, ?_⟩
   have N6 := hide t6.n1
   have D6 := hide ((((unhide SS).d1.kept ((Kept.refl 0 0 w).drewN _)).kept (Kept.refl 0 0 _).drew).same t6.d1)
   have K6 := hide t6.k
   have M6 : Hid (Mod (Own1 g1 u1) w w6) := ((Mod.refl (Own1 g1 u1) w).kept (((Kept.refl 0 0 w).drewN _).trans (Kept.refl 0 0 _).drew)).trans t6.m
   have O6 : Hid (∀ i, u6.ownBlock = some i → u1.ownBlock = some i ∨ w.heap.size ≤ i) := t6.ob
   have TL6 : Hid (SameTail g1 w w6) := SameSide.tail t6.d1
   have EQ : Hid (wval s1 (limbs (val xs + val ys).toNat) = wval s1 xs + wval s1 ys) := add_sgn s1 hx.1 hy.1
   have LN : Hid ((limbs (val xs + val ys).toNat).length ≤ 1000000) := add_len hx.1 hy.1 nx ny _ (by omega)
   clear t6 hc1 hc2
   clear hH
   refine hK.out _ _ ?_ (fun hH => ?_)
   ·trivial
   clear hK KK
   try simp only [Act.put, zq1, zq2, zq3, zq4, zq5, zq6]
   refine wpAnyH_done (by kernel_rfl) ?_ _
   clear hH
   go_wp2_with fail
   exact bodyPost_ret (v := .tuple #[]) (by simp [results, Tryz.results141, go_sem]) rfl ⟨⟨_, rfl⟩, _, _, _, unhide N6, unhide D6, limbs_nrm _, unhide EQ, unhide LN, unhide K6, unhide TL6, unhide M6, unhide O6⟩
  have hsb : (s1 == s2) = false := beq_eq_false_iff_ne.2 hs
  have HNE := hide hs
  clear hs
  by_cases hle : val ys ≤ val xs
  ·have hd : decide (cmpI (val xs) (val ys) < 0) = false := decide_eq_false (by unfold cmpI; split <;> (try split) <;> omega)
   have hd' : ¬ cmpI (val xs) (val ys) < 0 := of_decide_eq_false hd
   go_enter Tryz.func141, Tryz.ntmps141
   go_wp2_with fail
   go_quiet (fail)
   go_upto_region 2 with fail
   refine wp_region_held_drew (S := (fun _ => True)) (by kernel_rfl) ?_ (fun hH => ?_)
   ·trivial
   refine wT (i := 0) (v := .pointer (some ⟨g1, 0, none⟩)) rfl (Or.inl ⟨by rfl, ?_⟩) hH ?_
   ·intro wq hSw
    try dsimp only at hSw
    go_simp
   try simp only [Act.put, zq1, zq2, zq3, zq4, zq5, zq6]
   refine wT (i := 1) (v := .pointer (some ⟨g1, 0, none⟩)) rfl (Or.inl ⟨by rfl, ?_⟩) hH ?_
   ·intro wq hSw
    try dsimp only at hSw
    go_simp
   try simp only [Act.put, zq1, zq2, zq3, zq4, zq5, zq6]
   refine wT (i := 2) (v := .pointer (some ⟨g1, 0, none⟩)) rfl (Or.inl ⟨by rfl, ?_⟩) hH ?_
   ·intro wq hSw
    try dsimp only at hSw
    go_simp
   try simp only [Act.put, zq1, zq2, zq3, zq4, zq5, zq6]
   refine wT (i := 3) (v := .pointer (some ⟨g2, 0, none⟩)) rfl (Or.inl ⟨by rfl, ?_⟩) hH ?_
   ·intro wq hSw
    try dsimp only at hSw
    go_simp
   try simp only [Act.put, zq1, zq2, zq3, zq4, zq5, zq6]
   refine wT (i := 4) (v := .pointer (some ⟨g2, 0, none⟩)) rfl (Or.inl ⟨by rfl, ?_⟩) hH ?_
   ·intro wq hSw
    try dsimp only at hSw
    go_simp
   try simp only [Act.put, zq1, zq2, zq3, zq4, zq5, zq6]
   refine wT (i := 5) (v := .pointer (some ⟨g2, 0, none⟩)) rfl (Or.inl ⟨by rfl, ?_⟩) hH ?_
   ·intro wq hSw
    try dsimp only at hSw
    go_simp
   try simp only [Act.put, zq1, zq2, zq3, zq4, zq5, zq6]
   refine wR 6 (by kernel_rfl) rfl (fun KK hK => ?_)
   simp only [zq1, zq2, zq3]
   rw [if_pos (by rfl)]
   refine wps2 154 (.tmp 22) (.tmp 25) _ rfl in_compare (.pointer (some ⟨g1, 0, none⟩)) (.pointer (some ⟨g2, 0, none⟩)) rfl rfl (compare_impl _ (((unhide T).kept ((Kept.refl 0 0 w).drewN _)).kept (Kept.refl 0 0 _).drew).n1 (((unhide T).kept ((Kept.refl 0 0 w).drewN _)).kept (Kept.refl 0 0 _).drew).n2 hx hy) ?_
   rintro e w5 ⟨rfl, k5⟩
   refine ⟨_, rfl, ?_⟩
   have T5 := hide ((((unhide T).kept ((Kept.refl 0 0 w).drewN _)).kept (Kept.refl 0 0 _).drew).kept k5)
   have E1 := hide ((((unhide SS).d1.kept ((Kept.refl 0 0 w).drewN _)).kept (Kept.refl 0 0 _).drew).kept k5)
   have E2 := hide ((((unhide SS).d2.kept ((Kept.refl 0 0 w).drewN _)).kept (Kept.refl 0 0 _).drew).kept k5)
   have SD5 : Hid (SameSide g1 w w5) := k5.side (unhide SS).d1.lt
   have KK5 : Hid (Kept 0 0 w w5) := (((Kept.refl 0 0 w).drewN _).trans (Kept.refl 0 0 _).drew).trans k5
   clear k5 hc1 hc2
   clear hH
   refine hK.out _ _ ?_ (fun hH => ?_)
   ·trivial
   clear hK KK
   try simp only [Act.put, zq1, zq2, zq3, zq4, zq5, zq6]
   refine wT (i := 7) (v := .bool false) rfl (Or.inl ⟨by rfl, ?_⟩) hH ?_
   ·intro wq hSw
    try dsimp only at hSw
    go_simp
   try simp only [Act.put, zq1, zq2, zq3, zq4, zq5, zq6]
   refine wpAnyH_done (by kernel_rfl) ?_ _
   clear hH
   clear hd hd'
   go_wp2_with fail
   refine wp_region_held_drew (S := (fun _ => True)) (by kernel_rfl) ?_ (fun hH => ?_)
   ·trivial
   refine wT (i := 0) (v := .pointer (some ⟨g1, 0, none⟩)) rfl (Or.inl ⟨by rfl, ?_⟩) hH ?_
   ·intro wq hSw
    try dsimp only at hSw
    go_simp
   try simp only [Act.put, zq1, zq2, zq3, zq4, zq5, zq6]
   refine wT (i := 1) (v := .pointer (some ⟨g1, 0, none⟩)) rfl (Or.inl ⟨by rfl, ?_⟩) hH ?_
   ·intro wq hSw
    try dsimp only at hSw
    go_simp
   try simp only [Act.put, zq1, zq2, zq3, zq4, zq5, zq6]
   refine wT (i := 2) (v := .pointer (some ⟨g1, 0, none⟩)) rfl (Or.inl ⟨by rfl, ?_⟩) hH ?_
   ·intro wq hSw
    try dsimp only at hSw
    go_simp
   try simp only [Act.put, zq1, zq2, zq3, zq4, zq5, zq6]
   refine wT (i := 3) (v := .pointer (some ⟨g2, 0, none⟩)) rfl (Or.inl ⟨by rfl, ?_⟩) hH ?_
   ·intro wq hSw
    try dsimp only at hSw
    go_simp
   try simp only [Act.put, zq1, zq2, zq3, zq4, zq5, zq6]
   refine wT (i := 4) (v := .pointer (some ⟨g2, 0, none⟩)) rfl (Or.inl ⟨by rfl, ?_⟩) hH ?_
   ·intro wq hSw
    try dsimp only at hSw
    go_simp
   try simp only [Act.put, zq1, zq2, zq3, zq4, zq5, zq6]
   refine wT (i := 5) (v := .pointer (some ⟨g2, 0, none⟩)) rfl (Or.inl ⟨by rfl, ?_⟩) hH ?_
   ·intro wq hSw
    try dsimp only at hSw
    go_simp
   try simp only [Act.put, zq1, zq2, zq3, zq4, zq5, zq6]
   refine wR 6 (by kernel_rfl) rfl (fun KK hK => ?_)
   simp only [zq1, zq2, zq3]
   rw [if_pos (by rfl)]
   refine wps2 156 (.tmp 42) (.tmp 45) _ rfl in_subtract (.pointer (some ⟨g1, 0, none⟩)) (.pointer (some ⟨g2, 0, none⟩)) rfl rfl (subtract_twoS ⟨_, _, ((unhide T5).kept (Kept.refl 0 0 _).drew).startS⟩ hx hy nx hle) ?_
   rintro e w6 ⟨⟨r6, rfl⟩, u6, v6, t6⟩
   refine ⟨_, rfl, ?_⟩
   have N6 := hide t6.n1
   have D6 := hide (((unhide E1).kept (Kept.refl 0 0 _).drew).same t6.d1)
   have K6 := hide t6.k
   have M6 : Hid (Mod (Own1 g1 u1) w w6) := ((Mod.refl (Own1 g1 u1) w).kept ((unhide KK5).trans (Kept.refl 0 0 _).drew)).trans t6.m
   have O6 : Hid (∀ i, u6.ownBlock = some i → u1.ownBlock = some i ∨ w.heap.size ≤ i) := fun i e => (t6.ob i e).imp id (fun h => Nat.le_trans (unhide KK5).size h)
   have TL6 : Hid (SameTail g1 w w6) := ((unhide SD5).trans t6.d1).tail
   have EQ : Hid (wval s1 (limbs (val xs - val ys).toNat) = wval s1 xs + wval s2 ys) := sub_sgn (unhide HNE) hle
   have LN : Hid ((limbs (val xs - val ys).toNat).length ≤ 1000000) := add_len hx.1 hy.1 nx ny _ (by omega)
   clear t6
   clear hH
   refine hK.out _ _ ?_ (fun hH => ?_)
   ·trivial
   clear hK KK
   try simp only [Act.put, zq1, zq2, zq3, zq4, zq5, zq6]
   refine wpAnyH_done (by kernel_rfl) ?_ _
   clear hH
   go_wp2_with fail
   exact bodyPost_end (v := .tuple #[]) (by simp [results, Tryz.results141, go_sem]) rfl ⟨⟨_, rfl⟩, _, _, _, unhide N6, unhide D6, limbs_nrm _, unhide EQ, unhide LN, unhide K6, unhide TL6, unhide M6, unhide O6⟩
  ·have hle' : val xs ≤ val ys := by omega
   have hd : decide (cmpI (val xs) (val ys) < 0) = true := decide_eq_true (by unfold cmpI; rw [if_pos (by omega)]; omega)
   have hd' : cmpI (val xs) (val ys) < 0 := of_decide_eq_true hd
   go_enter Tryz.func141, Tryz.ntmps141
   go_wp2_with fail
   go_quiet (fail)
   go_upto_region 2 with fail
   refine wp_region_held_drew (S := (fun _ => True)) (by kernel_rfl) ?_ (fun hH => ?_)
   ·trivial
   refine wT (i := 0) (v := .pointer (some ⟨g1, 0, none⟩)) rfl (Or.inl ⟨by rfl, ?_⟩) hH ?_
   ·intro wq hSw
    try dsimp only at hSw
    go_simp
   try simp only [Act.put, zq1, zq2, zq3, zq4, zq5, zq6]
   refine wT (i := 1) (v := .pointer (some ⟨g1, 0, none⟩)) rfl (Or.inl ⟨by rfl, ?_⟩) hH ?_
   ·intro wq hSw
    try dsimp only at hSw
    go_simp
   try simp only [Act.put, zq1, zq2, zq3, zq4, zq5, zq6]
   refine wT (i := 2) (v := .pointer (some ⟨g1, 0, none⟩)) rfl (Or.inl ⟨by rfl, ?_⟩) hH ?_
   ·intro wq hSw
    try dsimp only at hSw
    go_simp
   try simp only [Act.put, zq1, zq2, zq3, zq4, zq5, zq6]
   refine wT (i := 3) (v := .pointer (some ⟨g2, 0, none⟩)) rfl (Or.inl ⟨by rfl, ?_⟩) hH ?_
   ·intro wq hSw
    try dsimp only at hSw
    go_simp
   try simp only [Act.put, zq1, zq2, zq3, zq4, zq5, zq6]
   refine wT (i := 4) (v := .pointer (some ⟨g2, 0, none⟩)) rfl (Or.inl ⟨by rfl, ?_⟩) hH ?_
   ·intro wq hSw
    try dsimp only at hSw
    go_simp
   try simp only [Act.put, zq1, zq2, zq3, zq4, zq5, zq6]
   refine wT (i := 5) (v := .pointer (some ⟨g2, 0, none⟩)) rfl (Or.inl ⟨by rfl, ?_⟩) hH ?_
   ·intro wq hSw
    try dsimp only at hSw
    go_simp
   try simp only [Act.put, zq1, zq2, zq3, zq4, zq5, zq6]
   refine wR 6 (by kernel_rfl) rfl (fun KK hK => ?_)
   simp only [zq1, zq2, zq3]
   rw [if_pos (by rfl)]
   refine wps2 154 (.tmp 22) (.tmp 25) _ rfl in_compare (.pointer (some ⟨g1, 0, none⟩)) (.pointer (some ⟨g2, 0, none⟩)) rfl rfl (compare_impl _ (((unhide T).kept ((Kept.refl 0 0 w).drewN _)).kept (Kept.refl 0 0 _).drew).n1 (((unhide T).kept ((Kept.refl 0 0 w).drewN _)).kept (Kept.refl 0 0 _).drew).n2 hx hy) ?_
   rintro e w5 ⟨rfl, k5⟩
   refine ⟨_, rfl, ?_⟩
   have T5 := hide ((((unhide T).kept ((Kept.refl 0 0 w).drewN _)).kept (Kept.refl 0 0 _).drew).kept k5)
   have E1 := hide ((((unhide SS).d1.kept ((Kept.refl 0 0 w).drewN _)).kept (Kept.refl 0 0 _).drew).kept k5)
   have E2 := hide ((((unhide SS).d2.kept ((Kept.refl 0 0 w).drewN _)).kept (Kept.refl 0 0 _).drew).kept k5)
   have SD5 : Hid (SameSide g1 w w5) := k5.side (unhide SS).d1.lt
   have KK5 : Hid (Kept 0 0 w w5) := (((Kept.refl 0 0 w).drewN _).trans (Kept.refl 0 0 _).drew).trans k5
   clear k5 hc1 hc2
   clear hH
   refine hK.out _ _ ?_ (fun hH => ?_)
   ·trivial
   clear hK KK
   try simp only [Act.put, zq1, zq2, zq3, zq4, zq5, zq6]
   refine wT (i := 7) (v := .bool true) rfl (Or.inl ⟨by rfl, ?_⟩) hH ?_
   ·intro wq hSw
    try dsimp only at hSw
    go_simp
   try simp only [Act.put, zq1, zq2, zq3, zq4, zq5, zq6]
   refine wpAnyH_done (by kernel_rfl) ?_ _
   clear hH
   clear hd hd'
   go_wp2_with fail
   refine (subtractFrom_impl (unhide T5) hx hy ny hle').mono ?_
   rintro e w6 ⟨⟨r6, rfl⟩, ⟨u6, n6⟩, sd6, m6⟩
   have D1 := hide ((unhide E1).same sd6)
   have D2 := hide ((unhide E2).same (m6.side (unhide E2).lt (fun e => (unhide T5).ne e.symm)))
   have hc1 := (unhide D1).1
   have hf1 := (unhide D1).2
   have hc2 := (unhide D2).1
   have N6 := hide ((n6.less (unhide T5).k.size).side (.bool s2))
   have D6 := hide ((unhide D1).set s2)
   have K6 := hide (((unhide T5).k.mod m6 (fun i e => by rw [e]; exact (unhide T5).b1)).setNew (p := ⟨g1, 1, none⟩) (unhide T5).b1 (.bool s2))
   have EQ : Hid (wval s2 (limbs (val ys - val xs).toNat) = wval s1 xs + wval s2 ys) := sub_sgn' (unhide HNE) hle'
   have LN : Hid ((limbs (val ys - val xs).toNat).length ≤ 1000000) := add_len hx.1 hy.1 nx ny _ (by omega)
   have M6 : Hid (Mod (Own1 g1 u1) w (w6.setCell ⟨g1, 1, none⟩ (.bool s2))) := (((Mod.refl (Own1 g1 u1) w).kept (unhide KK5)).then m6 (fun i e => .inl (.inl e))).set (p := ⟨g1, 1, none⟩) (.inl (.inl rfl)) (.bool s2)
   have O6 : Hid (∀ i, u6.ownBlock = some i → u1.ownBlock = some i ∨ w.heap.size ≤ i) := fun i e => .inr (Nat.le_trans (unhide KK5).size (n6.own.lt i e).1)
   have TL6 : Hid (SameTail g1 w (w6.setCell ⟨g1, 1, none⟩ (.bool s2))) := ((unhide SD5).trans sd6).tail.set1 _
   clear n6 sd6 m6
   go_wp2_with fail
   exact bodyPost_ret (v := .tuple #[]) (by simp [results, Tryz.results141, go_sem]) rfl ⟨⟨_, rfl⟩, _, _, _, unhide N6, unhide D6, limbs_nrm _, unhide EQ, unhide LN, unhide K6, unhide TL6, unhide M6, unhide O6⟩

set_option maxHeartbeats 2000000 in
theorem align_mod {w0 w : World} {g1 g2 : Nat} {s1 s2 : Bool} {u1 u2 : Value} {xs ys : List Int} {x1 x2 : Int} (t0 : Two w0 w g1 g2 u1 u2 xs ys) (d1 : Sd w g1 s1) (d2 : Sd w g2 s2) (e1 : Ex w g1 x1) (e2 : Ex w g2 x2) (hx : Nrm xs) (hy : Nrm ys) (nx : xs.length ≤ 50000) (ny : ys.length ≤ 50000) (f1 : -3000 ≤ x1) (f2 : x1 ≤ 3000) (f3 : -3000 ≤ x2) (f4 : x2 ≤ 3000) :
    Calls Tryz.prog 140 #[.pointer (some ⟨g1, 0, none⟩), .pointer (some ⟨g2, 0, none⟩)] w fun e w' => (∃ r, e = .returned r) ∧ ∃ v1 v2, Two w0 w' g1 g2 v1 v2 (limbs ((val xs).toNat * 2 ^ (x1 - min x1 x2).toNat)) (limbs ((val ys).toNat * 2 ^ (x2 - min x1 x2).toNat)) ∧ Sd w' g1 s1 ∧ Sd w' g2 s2 ∧ Ex w' g1 (min x1 x2) ∧ Ex w' g2 (min x1 x2) ∧ Mod (fun i => i = g1 ∨ i = g2) w w' ∧ (∀ i, v1.ownBlock = some i → u1.ownBlock = some i ∨ w.heap.size ≤ i) := by
  have hc1 := e1.1
  have hc2 := e2.1
  have SS := hide (And.intro t0 (And.intro d1 (And.intro d2 (And.intro e1 e2))))
  clear t0 d1 d2 e1 e2
  obtain ⟨lo, hlo⟩ : ∃ lo : Int, min x1 x2 = lo := ⟨_, rfl⟩
  obtain ⟨k1, hk1⟩ : ∃ k : Nat, x1 - lo = (k : Int) := ⟨(x1 - lo).toNat, by omega⟩
  obtain ⟨k2, hk2⟩ : ∃ k : Nat, x2 - lo = (k : Int) := ⟨(x2 - lo).toNat, by omega⟩
  have q1 : k1 ≤ 6000 := by omega
  have q2 : k2 ≤ 6000 := by omega
  rw [show (x1 - min x1 x2).toNat = k1 by omega, show (x2 - min x1 x2).toNat = k2 by omega, hlo]
  go_enter Tryz.func140, Tryz.ntmps140
  go_wp2
  go_region
  go_wp2_with fail
  clear hc1 hc2
  obtain ⟨t, d1, d2, e1, e2⟩ := unhide SS
  replace t := t.kept (Kept.refl 0 0 w).drew
  replace d1 := d1.kept (Kept.refl 0 0 w).drew
  replace d2 := d2.kept (Kept.refl 0 0 w).drew
  replace e1 := e1.kept (Kept.refl 0 0 w).drew
  replace e2 := e2.kept (Kept.refl 0 0 w).drew
  refine (lowerTo_impl _ t.n1 d1 e1 hx (by omega) t.k.size k1 hk1 (by omega)).mono ?_
  rintro e w2 ⟨⟨r2, rfl⟩, v2, n2, d3, e3, m2, ho⟩
  have t2 := t.put1 n2 (Nat.le_refl _) m2 ho
  have d4 : Sd w2 g2 s2 := d2.same (m2.side d2.lt (fun e => t.ne e.symm))
  have e4 : Ex w2 g2 x2 := e2.tail (m2.side e2.lt (fun e => t.ne e.symm)).tail
  have MM2 : Hid (Mod (fun i => i = g1 ∨ i = g2) w w2) := ((Mod.refl _ w).kept (Kept.refl 0 0 w).drew).then m2 (fun i e => .inl (.inl e))
  have OO2 : Hid (∀ i, v2.ownBlock = some i → u1.ownBlock = some i ∨ w.heap.size ≤ i) := ho
  clear t d1 d2 e1 e2 n2 m2 ho
  go_wp2_with fail
  refine (lowerTo_impl _ t2.n2 d4 e4 hy (by omega) t2.k.size k2 hk2 (by omega)).mono ?_
  rintro e w3 ⟨⟨r3, rfl⟩, v3, n3, d5, e5, m3, ho⟩
  have t3 := (t2.swap.put1 n3 (Nat.le_refl _) m3 ho).swap
  have d6 : Sd w3 g1 s1 := d3.same (m3.side d3.lt (fun e => t2.ne e))
  have e6 : Ex w3 g1 lo := e3.tail (m3.side e3.lt (fun e => t2.ne e)).tail
  have FF : Hid (Two w0 w3 g1 g2 v2 v3 (limbs ((val xs).toNat * 2 ^ k1)) (limbs ((val ys).toNat * 2 ^ k2)) ∧ Sd w3 g1 s1 ∧ Sd w3 g2 s2 ∧ Ex w3 g1 lo ∧ Ex w3 g2 lo ∧ Mod (fun i => i = g1 ∨ i = g2) w w3 ∧ (∀ i, v2.ownBlock = some i → u1.ownBlock = some i ∨ w.heap.size ≤ i)) := ⟨t3, d6, d5, e6, e5, (unhide MM2).then m3 (fun i e => .inl (.inr e)), unhide OO2⟩
  clear t2 t3 d3 d4 d5 d6 e3 e4 e5 e6 n3 m3 ho
  go_wp2_with fail
  exact bodyPost_end (v := .tuple #[]) (by simp [results, Tryz.results140, go_sem]) rfl ⟨⟨_, rfl⟩, _, _, unhide FF⟩

set_option maxHeartbeats 2000000 in
theorem addDyadic_mod {w0 w : World} {g1 g2 : Nat} {s1 s2 : Bool} {u1 u2 : Value} {xs ys : List Int} {x1 x2 : Int} (t0 : Two w0 w g1 g2 u1 u2 xs ys) (b1 : Sd w g1 s1) (b2 : Sd w g2 s2) (c1 : Ex w g1 x1) (c2 : Ex w g2 x2) (hx : Nrm xs) (hy : Nrm ys) (nx : xs.length ≤ 100) (ny : ys.length ≤ 100) (f1 : -3000 ≤ x1) (f2 : x1 ≤ 3000) (f3 : -3000 ≤ x2) (f4 : x2 ≤ 3000) :
    Calls Tryz.prog 115 #[.pointer (some ⟨g1, 0, none⟩), .pointer (some ⟨g2, 0, none⟩)] w fun e w' => (∃ r, e = .returned r) ∧ ∃ u s zs, Num w0.heap.size w' g1 u zs ∧ Sd w' g1 s ∧ Ex w' g1 (min x1 x2) ∧ Nrm zs ∧ wval s zs = wval s1 xs * 2 ^ (x1 - min x1 x2).toNat + wval s2 ys * 2 ^ (x2 - min x1 x2).toNat ∧ Kept 0 0 w0 w' ∧ Mod (fun i => i = g1 ∨ i = g2 ∨ u1.ownBlock = some i) w w' ∧ (∀ i, u.ownBlock = some i → u1.ownBlock = some i ∨ w.heap.size ≤ i) := by
  go_enter Tryz.func115, Tryz.ntmps115
  go_wp2_with fail
  refine (align_mod t0 b1 b2 c1 c2 hx hy (by omega) (by omega) f1 f2 f3 f4).mono ?_
  rintro e w2 ⟨⟨r2, rfl⟩, y1, y2, t2, p1, p2, p3, p4, m2, ob2⟩
  have h1 := limbs_nrm ((val xs).toNat * 2 ^ (x1 - min x1 x2).toNat)
  have h2 := limbs_nrm ((val ys).toNat * 2 ^ (x2 - min x1 x2).toNat)
  have q1 := limbs_shl_len hx nx (x1 - min x1 x2).toNat (by omega)
  have q2 := limbs_shl_len hy ny (x2 - min x1 x2).toNat (by omega)
  have z1 := shl_val s1 hx (x1 - min x1 x2).toNat
  have z2 := shl_val s2 hy (x2 - min x1 x2).toNat
  generalize limbs ((val xs).toNat * 2 ^ (x1 - min x1 x2).toNat) = L1 at *
  generalize limbs ((val ys).toNat * 2 ^ (x2 - min x1 x2).toNat) = L2 at *
  have HAS := hide (addSigned_mod (t2.kept (Kept.refl 0 0 w2).drew) (p1.kept (Kept.refl 0 0 w2).drew) (p2.kept (Kept.refl 0 0 w2).drew) h1 h2 (by omega) (by omega))
  have E2 := hide p3
  have M2 := hide m2
  have OB2 := hide ob2
  clear t0 t2 b1 b2 c1 c2 p1 p2 p3 p4 m2 ob2
  go_wp2_with fail
  refine wp_region_held_drew (S := (fun _ => True)) (by kernel_rfl) ?_ (fun hH => ?_)
  ·trivial
  refine wT (i := 0) (v := .pointer (some ⟨g1, 0, none⟩)) rfl (Or.inl ⟨by rfl, ?_⟩) hH ?_
  ·intro wq hSw
   try dsimp only at hSw
   go_simp
  try simp only [Act.put, zq1, zq2, zq3, zq4, zq5, zq6]
  refine wT (i := 1) (v := .pointer (some ⟨g1, 0, none⟩)) rfl (Or.inl ⟨by rfl, ?_⟩) hH ?_
  ·intro wq hSw
   try dsimp only at hSw
   go_simp
  try simp only [Act.put, zq1, zq2, zq3, zq4, zq5, zq6]
  refine wT (i := 2) (v := .pointer (some ⟨g1, 0, none⟩)) rfl (Or.inl ⟨by rfl, ?_⟩) hH ?_
  ·intro wq hSw
   try dsimp only at hSw
   go_simp
  try simp only [Act.put, zq1, zq2, zq3, zq4, zq5, zq6]
  refine wT (i := 3) (v := .pointer (some ⟨g2, 0, none⟩)) rfl (Or.inl ⟨by rfl, ?_⟩) hH ?_
  ·intro wq hSw
   try dsimp only at hSw
   go_simp
  try simp only [Act.put, zq1, zq2, zq3, zq4, zq5, zq6]
  refine wT (i := 4) (v := .pointer (some ⟨g2, 0, none⟩)) rfl (Or.inl ⟨by rfl, ?_⟩) hH ?_
  ·intro wq hSw
   try dsimp only at hSw
   go_simp
  try simp only [Act.put, zq1, zq2, zq3, zq4, zq5, zq6]
  refine wT (i := 5) (v := .pointer (some ⟨g2, 0, none⟩)) rfl (Or.inl ⟨by rfl, ?_⟩) hH ?_
  ·intro wq hSw
   try dsimp only at hSw
   go_simp
  try simp only [Act.put, zq1, zq2, zq3, zq4, zq5, zq6]
  refine wR 6 (by kernel_rfl) rfl (fun KK hK => ?_)
  simp only [zq1, zq2, zq3]
  rw [if_pos (by rfl)]
  refine wps2 141 (.tmp 9) (.tmp 12) _ rfl in_addSigned (.pointer (some ⟨g1, 0, none⟩)) (.pointer (some ⟨g2, 0, none⟩)) rfl rfl (unhide HAS) ?_
  rintro e w3 ⟨⟨r3, rfl⟩, v3, s3, zs, n3, d3, hz3, hv3, hl3, k3, t3, m3, ob3⟩
  refine ⟨_, rfl, ?_⟩
  clear hH
  refine hK.out _ _ ?_ (fun hH => ?_)
  ·trivial
  clear hK KK
  try simp only [Act.put, zq1, zq2, zq3, zq4, zq5, zq6]
  refine wpAnyH_done (by kernel_rfl) ?_ _
  clear hH
  rw [z1, z2] at hv3
  have FF : Hid (Num w0.heap.size w3 g1 v3 zs ∧ Sd w3 g1 s3 ∧ Ex w3 g1 (min x1 x2) ∧ Nrm zs ∧ wval s3 zs = wval s1 xs * 2 ^ (x1 - min x1 x2).toNat + wval s2 ys * 2 ^ (x2 - min x1 x2).toNat ∧ Kept 0 0 w0 w3 ∧ Mod (fun i => i = g1 ∨ i = g2 ∨ u1.ownBlock = some i) w w3 ∧ (∀ i, v3.ownBlock = some i → u1.ownBlock = some i ∨ w.heap.size ≤ i)) := ⟨n3, d3, Ex.tail (unhide E2) t3, hz3, hv3, k3, (((unhide M2).mono (fun i e => e.elim .inl (fun e => .inr (.inl e)))).kept (Kept.refl 0 0 w2).drew).then m3 (fun i e => e.elim (fun e => .inl (.inl e)) (fun e => ((unhide OB2) i e).imp (fun h => .inr (.inr h)) id)), fun i e => (ob3 i e).elim (fun h => (unhide OB2) i h) (fun h => .inr (Nat.le_trans (unhide M2).size h))⟩
  clear n3 d3 hz3 hv3 k3 t3 m3 ob3 HAS E2 M2 OB2 z1 z2 h1 h2
  go_wp2_with fail
  exact bodyPost_end (v := .tuple #[]) (by simp [results, Tryz.results115, go_sem]) rfl ⟨⟨_, rfl⟩, _, _, _, unhide FF⟩

end Go.Proofs.YtepehpkmejjhiaaGreatDoor

