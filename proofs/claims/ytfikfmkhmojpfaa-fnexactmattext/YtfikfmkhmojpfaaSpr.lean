/-
  The program's spreadInTens: a dyadic number's size as that of all its digits.
-/
import Derived.Test.YtfikfmkhmojpfaaDy2
import Derived.Test.YtfikfmkhmojpfaaBP
import Derived.Test.YtfikfmkhmojpfaaBF
import Derived.Test.YtfikfmkhmojpfaaBI
import Derived.Deep.RegionHeld3
import Derived.Deep.DeepCutAuto
import Derived.Deep.RegionLaw
namespace Go.Proofs.Ytfikfmkhmojpfaa
open Go.RowKit
set_option linter.unusedVariables false
set_option maxRecDepth 8000
set_option linter.unusedSimpArgs false

theorem in_shiftUp_p : ∀ (w : World) (args : Array Value), (callFunc 90 args).run Try.prog w = .ok (.enter 90 args) w := enters Try.func90 (by decide) (fun h => by cases h)

set_option maxHeartbeats 2000000 in
theorem spread_up {b g : Nat} {v : Value} {xs : List Int} {x : Int} (w : World) (h : Num b w g v xs) (ex : Ex w g x) (hx : Nrm xs) (nx : xs.length ≤ 1000) (hb : b ≤ w.heap.size) (x0 : 0 ≤ x) (x1 : x ≤ 3000) :
    Calls Try.prog 70 #[.pointer (some ⟨g, 0, none⟩)] w fun e w' => e = .returned (.int .i64 0) ∧ ∃ u, Num b w' g u (limbs ((val xs).toNat * 2 ^ x.toNat)) ∧ Mod (fun i => i = g) w w' := by
  have hc := ex.1
  have kd := (Kept.refl 0 0 w).drew
  have hcall : Calls Try.prog 90 #[.pointer (some ⟨g, 0, none⟩), .int .i64 x] w.drew fun e w' => (∃ r, e = .returned r) ∧ ∃ u, Num b w' g u (limbs ((val xs).toNat * 2 ^ x.toNat)) ∧ Mod (fun i => i = g) w w' ∧ w'.cell? ⟨g, 2, none⟩ = some (.int .i64 x) := by
    obtain ⟨K, rfl⟩ : ∃ K : Nat, x = (K : Int) := ⟨x.toNat, by omega⟩
    rw [Int.toNat_natCast]
    by_cases hne : xs = []
    · subst hne
      refine (shiftUp_zero w.drew (h.kept kd) _).mono ?_
      rintro e w' ⟨r, rfl⟩
      refine ⟨r, v, ?_, kd.toMod, hc⟩
      rw [show (val ([] : List Int)).toNat = 0 from rfl, Nat.zero_mul, limbs_zero]
      exact h.kept kd
    · refine (shiftUp_S w.drew (h.kept kd) hx.1 hne (by omega) K (by omega)).mono ?_
      rintro e w' ⟨r, u, n, m, s⟩
      exact ⟨r, u, n.less hb, kd.toMod.then m (fun i hi => .inl hi), (s 2 (by decide)).1.trans hc⟩
  have HC := hide hcall
  have hx0 : ¬ x < 0 := by omega
  clear hcall kd
  go_enter Try.func70, Try.ntmps70
  go_wp2_with fail
  have hc' : w.drew.cell? ⟨g, 2, none⟩ = some (.int .i64 x) := hc
  refine wp_region_held_drew (S := (fun w' => w'.cell? ⟨g, 2, none⟩ = some (.int .i64 x))) (by kernel_rfl) ?_ (fun hHeld => ?_)
  · exact hc'
  refine wpAnyH_take (i := 0) (oi := _) (v := .pointer (some ⟨g, 0, none⟩)) rfl (by kernel_rfl) (by kernel_rfl) (by kernel_rfl) (fun _ _ _ h => h) (Or.inl ⟨by rfl, ?_⟩) hHeld ?_
  · intro wq hSw
    try dsimp only at hSw
    go_simp
  try simp only [Act.put, List.getElem_toArray, List.getElem_cons_succ, List.getElem_cons_zero, List.setIfInBounds_toArray, List.set_cons_zero, List.set_cons_succ]
  refine wpAnyH_take (i := 1) (oi := _) (v := .pointer (some ⟨g, 0, none⟩)) rfl (by kernel_rfl) (by kernel_rfl) (by kernel_rfl) (fun _ _ _ h => h) (Or.inl ⟨by rfl, ?_⟩) hHeld ?_
  · intro wq hSw
    try dsimp only at hSw
    go_simp
  try simp only [Act.put, List.getElem_toArray, List.getElem_cons_succ, List.getElem_cons_zero, List.setIfInBounds_toArray, List.set_cons_zero, List.set_cons_succ]
  refine wpAnyH_take (i := 2) (oi := _) (v := .pointer (some ⟨g, 0, none⟩)) rfl (by kernel_rfl) (by kernel_rfl) (by kernel_rfl) (fun _ _ _ h => h) (Or.inl ⟨by rfl, ?_⟩) hHeld ?_
  · intro wq hSw
    try dsimp only at hSw
    go_simp
  try simp only [Act.put, List.getElem_toArray, List.getElem_cons_succ, List.getElem_cons_zero, List.setIfInBounds_toArray, List.set_cons_zero, List.set_cons_succ]
  refine wpAnyH_take (i := 3) (oi := _) (v := .pointer (some ⟨g, 0, none⟩)) rfl (by kernel_rfl) (by kernel_rfl) (by kernel_rfl) (fun _ _ _ h => h) (Or.inl ⟨by rfl, ?_⟩) hHeld ?_
  · intro wq hSw
    try dsimp only at hSw
    go_simp
  try simp only [Act.put, List.getElem_toArray, List.getElem_cons_succ, List.getElem_cons_zero, List.setIfInBounds_toArray, List.set_cons_zero, List.set_cons_succ]
  refine wpAnyH_take (i := 4) (oi := _) (v := .pointer (some ⟨g, 0, none⟩)) rfl (by kernel_rfl) (by kernel_rfl) (by kernel_rfl) (fun _ _ _ h => h) (Or.inl ⟨by rfl, ?_⟩) hHeld ?_
  · intro wq hSw
    try dsimp only at hSw
    go_simp
  try simp only [Act.put, List.getElem_toArray, List.getElem_cons_succ, List.getElem_cons_zero, List.setIfInBounds_toArray, List.set_cons_zero, List.set_cons_succ]
  refine wpAnyH_take (i := 5) (oi := _) (v := .pointer (some ⟨g, 0, none⟩)) rfl (by kernel_rfl) (by kernel_rfl) (by kernel_rfl) (fun _ _ _ h => h) (Or.inl ⟨by rfl, ?_⟩) hHeld ?_
  · intro wq hSw
    try dsimp only at hSw
    go_simp
  try simp only [Act.put, List.getElem_toArray, List.getElem_cons_succ, List.getElem_cons_zero, List.setIfInBounds_toArray, List.set_cons_zero, List.set_cons_succ]
  refine wpAnyH_take (i := 6) (oi := _) (v := .pointer (some ⟨g, 2, none⟩)) rfl (by kernel_rfl) (by kernel_rfl) (by kernel_rfl) (fun _ _ _ h => h) (Or.inl ⟨by rfl, ?_⟩) hHeld ?_
  · intro wq hSw
    try dsimp only at hSw
    go_simp
  try simp only [Act.put, List.getElem_toArray, List.getElem_cons_succ, List.getElem_cons_zero, List.setIfInBounds_toArray, List.set_cons_zero, List.set_cons_succ]
  refine wpAnyH_take (i := 7) (oi := _) (v := .int .i64 x) rfl (by kernel_rfl) (by kernel_rfl) (by kernel_rfl) (fun _ _ _ h => h) (Or.inl ⟨by rfl, ?_⟩) hHeld ?_
  · intro wq hSw
    try dsimp only at hSw
    go_simp
  try simp only [Act.put, List.getElem_toArray, List.getElem_cons_succ, List.getElem_cons_zero, List.setIfInBounds_toArray, List.set_cons_zero, List.set_cons_succ]
  refine wpAnyH_ready (rs := [8]) (by kernel_rfl) (by simp) ?_
  refine AllReadyH.cons rfl (fun KK hK => ?_) AllReadyH.nil
  simp only [List.getElem_toArray, List.getElem_cons_succ, List.getElem_cons_zero]
  rw [if_pos (by rfl)]
  refine wps2 90 (.tmp 14) (.tmp 18) _ rfl in_shiftUp_p (.pointer (some ⟨g, 0, none⟩)) (.int .i64 x) rfl rfl (unhide HC) ?_
  rintro e w2 ⟨⟨r2, rfl⟩, u, n2, m2, c2⟩
  refine ⟨_, rfl, ?_⟩
  clear hHeld
  refine hK.out _ _ ?_ (fun hHeld => ?_)
  · exact c2
  clear hK KK
  refine wpAnyH_done (by kernel_rfl) ?_ _
  clear hHeld HC hc hc'
  go_wp2_with fail
  go_ret
  exact ⟨rfl, u, n2, m2⟩

theorem new_numL {w : World} {b : Nat} {u : Value} {zs : List Int} (t : TypeId) (o : w.ownsRow b 3 1 u zs.length (zs.map (Value.int .i64))) : Num b (w.alloc (.cells #[u] t)) w.heap.size u zs :=
  ⟨new_cell_at _ _ _ _ rfl, new_loose _ _ _ _ rfl, own_kept o ((Kept.refl 0 0 w).alloc _), fun e => by have := (o.lt _ e).2; omega⟩

set_option maxHeartbeats 2000000 in
theorem spread_down {b g : Nat} {v : Value} {xs : List Int} {x : Int} (w : World) (h : Num b w g v xs) (ex : Ex w g x) (hx : Nrm xs) (nx : xs.length ≤ 1000) (hb : b ≤ w.heap.size) (x0 : -100 ≤ x) (x1 : x < 0) (HP : ∀ m, m ≤ (-x).toNat → (limbs (5 ^ m)).length ≤ 1000) :
    Calls Try.prog 70 #[.pointer (some ⟨g, 0, none⟩)] w fun e w' => e = .returned (.int .i64 (-x)) ∧ ∃ u, Num b w' g u (limbs ((val xs).toNat * 5 ^ (-x).toNat)) ∧ Mod (fun i => i = g) w w' := by
  have hc := ex.1
  have hx0 : ¬ (0 : Int) ≤ x := by omega
  obtain ⟨K, hK⟩ : ∃ K : Nat, -x = (K : Int) := ⟨(-x).toNat, by omega⟩
  have hw1 : IntKind.i64.wrap (-x) = (K : Int) := by rw [IntKind.wrap_i64]; omega
  have hKl : K ≤ 1600 := by omega
  rw [hK, Int.toNat_natCast] at HP ⊢
  have HP1 : Hid (∀ m, m ≤ K → (limbs (5 ^ m)).length ≤ 100000) := fun m hm => Nat.le_trans (HP m hm) (by decide)
  have HPK := hide (HP K (Nat.le_refl _))
  have HK := hide hK
  clear hK HP
  go_enter Try.func70, Try.ntmps70
  go_wp2_with fail
  refine (limbsOfInt_impl _ 5 (by decide)).mono ?_
  rintro e w1 ⟨u1, rfl, o1, k1⟩
  obtain ⟨L5, hL5⟩ : ∃ L, limbs (5 : Int).toNat = L := ⟨_, rfl⟩
  rw [hL5] at o1
  have hl5 : L5.length ≤ 100000 := by rw [← hL5]; decide
  obtain ⟨a1, c1, hv⟩ := own_slice o1
  subst hv
  have n1 := new_numL 77 o1
  have ka := (Kept.refl 0 0 w1).alloc (.cells #[.slice a1 L5.length c1] 77)
  replace ka := k1.trans ka
  clear o1 k1
  go_wp2_with fail
  generalize hW : w1.alloc (.cells #[.slice a1 L5.length c1] 77) = W1 at *
  clear hW
  refine (power_impl W1 n1 5 hL5.symm K hKl (unhide HP1) hl5).mono ?_
  rintro e w2 ⟨u2, rfl, o2, k2⟩
  obtain ⟨LP, hLP⟩ : ∃ L, limbs (5 ^ K) = L := ⟨_, rfl⟩
  rw [hLP] at o2
  obtain ⟨a2, c2, hv⟩ := own_slice o2
  subst hv
  have n2 := new_numL 77 o2
  have kb := (Kept.refl 0 0 w2).alloc (.cells #[.slice a2 LP.length c2] 77)
  replace kb := (ka.trans k2).trans kb
  clear o2 k2 n1 ka
  go_wp2_with fail
  generalize hW : w2.alloc (.cells #[.slice a2 LP.length c2] 77) = W2 at *
  clear hW
  have HLP := hide hLP
  have hLl : LP.length ≤ 1000 := by rw [← hLP]; exact unhide HPK
  have hLm : Lim LP := by rw [← hLP]; exact limbs_lim _
  clear hLP
  refine (multiply_impl W2 (h.kept kb) n2 hx.1 hLm (by omega) (by omega)).mono ?_
  rintro e w3 ⟨⟨r3, rfl⟩, u, n3, m3⟩
  rw [← unhide HLP, limbs_val] at n3
  have hval : (val xs * ((5 ^ K : Nat) : Int)).toNat = (val xs).toNat * 5 ^ K := by
    have hv := val_nonneg hx.1
    obtain ⟨V, hV⟩ : ∃ V : Nat, val xs = (V : Int) := ⟨(val xs).toNat, by omega⟩
    rw [hV, ← Int.natCast_mul, Int.toNat_natCast, Int.toNat_natCast]
  rw [hval] at n3
  have ks := kb.size
  have mm : Mod (fun i => i = g) w w3 := kb.toMod.then m3 (fun i hi => .inl hi)
  clear hval m3 n2
  go_wp2_with fail
  go_ret
  exact ⟨rfl, u, n3.less (by omega), mm⟩

end Go.Proofs.Ytfikfmkhmojpfaa
