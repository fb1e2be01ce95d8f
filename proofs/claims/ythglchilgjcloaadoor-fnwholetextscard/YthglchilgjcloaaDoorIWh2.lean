/-
  The program's methods turnSign, multiplySigned, subtractFrom, addSigned, compareSigned of numbers with a sign; signedOfInt.
-/
import Derived.Test.YthglchilgjcloaaDoorBH
import Derived.Test.YthglchilgjcloaaDoorINat26
import Derived.Deep.QuietTactic
import Derived.BigQuiet
import Derived.BigRegion
namespace Go.Proofs.YthglchilgjcloaaDoor
open Go.RowKit
set_option linter.unusedVariables false
set_option maxRecDepth 8000
set_option linter.unusedSimpArgs false

theorem front_set (w : World) (g : Nat) (u : Value) : (w.setCell ⟨g, 1, none⟩ u).cell? ⟨g, 0, none⟩ = w.cell? ⟨g, 0, none⟩ := by
  unfold World.cell? World.setCell
  simp only [Array.getElem?_modify]
  cases hb : w.heap[g]? with
  | none => simp
  | some b => cases b <;> simp
theorem Num.side {b g : Nat} {w : World} {v : Value} {zs : List Int} (h : Num b w g v zs) (u : Value) : Num b (w.setCell ⟨g, 1, none⟩ u) g v zs :=
  ⟨(front_set w g u).trans h.cell, by rw [frozen_set]; exact h.loose, own_apart h.own (p := ⟨g, 1, none⟩) h.apart u, h.apart⟩
theorem Sd.set {w : World} {g : Nat} {s : Bool} (h : Sd w g s) (t : Bool) : Sd (w.setCell ⟨g, 1, none⟩ (.bool t)) g t :=
  ⟨by have := cell_set w g 1 1 (.bool t) (.bool s) h.1; simpa using this, by rw [frozen_set]; exact h.2⟩

theorem in_add : ∀ (w : World) (args : Array Value), (callFunc 65 args).run Tryd.prog w = .ok (.enter 65 args) w := enters Tryd.func65 (by decide) (fun h => by cases h)

theorem in_copied : ∀ (w : World) (args : Array Value), (callFunc 75 args).run Tryd.prog w = .ok (.enter 75 args) w := enters Tryd.func75 (by decide) (fun h => by cases h)

theorem own_base {w : World} {b b' n : Nat} {e : TypeId} {v : Value} {xs : List Value} (h : w.ownsRow b e 1 v n xs) (hb : ∀ i, v.ownBlock = some i → b' ≤ i) : w.ownsRow b' e 1 v n xs := by
  refine ⟨h.1, ?_⟩
  rcases h.2 with hn | ⟨g, cap, cur, rfl, h1, rest⟩
  · exact .inl hn
  · exact .inr ⟨g, cap, cur, rfl, hb g rfl, rest⟩
/-- Two numbers with signs, apart, newer than w0. -/
structure Sig2 (w0 w : World) (g1 g2 : Nat) (s1 : Bool) (xs : List Int) (s2 : Bool) (ys : List Int) : Prop where
  two : ∃ u1 u2, Two w0 w g1 g2 u1 u2 xs ys
  d1 : Sd w g1 s1
  d2 : Sd w g2 s2

set_option maxHeartbeats 4000000 in
theorem signedOfInt_impl (n : Int) (hn1 : n ≤ 9223372036854775807) (hn0 : -9223372036854775808 ≤ n) (w : World) :
    Calls Tryd.prog 37 #[.int .i64 n] w fun e w' => ∃ v', e = .returned (.agg #[v', .bool (wsg n)]) ∧ w'.ownsRow w.heap.size 3 1 v' (wlm n).length ((wlm n).map (Value.int .i64)) ∧ Kept 0 0 w w' := by
  obtain ⟨zz, hzz⟩ : ∃ zz, zz = wlm n := ⟨_, rfl⟩
  obtain ⟨ss, hss⟩ : ∃ ss, ss = wsg n := ⟨_, rfl⟩
  rw [← hzz, ← hss]
  have HZ := hide hzz
  have HS := hide hss
  clear hzz hss
  have k0 : Kept 0 0 w (w.alloc (.cells #[.slice none 0 0, .bool false] 46)) := ((Kept.refl 0 0 w).alloc (.cells #[.slice none 0 0, .bool false] 46))
  have q0 : (w.alloc (.cells #[.slice none 0 0, .bool false] 46)).cell? ⟨w.heap.size, 0, none⟩ = some (.slice none 0 0) := new_cell2 _ _ _ _ _ _ (by simp) rfl
  have qf0 : (w.alloc (.cells #[.slice none 0 0, .bool false] 46)).frozen? ⟨w.heap.size, 0, none⟩ = false := new_loose2 _ _ _ _ _ (by simp)
  have q1 : (w.alloc (.cells #[.slice none 0 0, .bool false] 46)).cell? ⟨w.heap.size, 1, none⟩ = some (.bool false) := new_cell2 _ _ _ _ _ _ (by simp) rfl
  have qf1 : (w.alloc (.cells #[.slice none 0 0, .bool false] 46)).frozen? ⟨w.heap.size, 1, none⟩ = false := new_loose2 _ _ _ _ _ (by simp)
  have s0 : (w.alloc (.cells #[.slice none 0 0, .bool false] 46)).heap.size = w.heap.size + 1 := by simp
  have K := hide (k0)
  clear k0
  have S0 := hide s0
  clear s0
  by_cases h : n < 0
  · have h0 := limbs_int_length (-(n + 1)) (by omega)
    have h1 := limbs_int_length 1 (by omega)
    have hm : -(n + 1) ≤ 9223372036854775807 := by omega
    have HSS : Hid (ss = true) := by show _ = _; rw [unhide HS]; unfold wsg; simp; omega
    have hzz : zz = limbs (val (limbs (-(n + 1)).toNat) + val (limbs (1 : Int).toNat)).toNat := by rw [unhide HZ]; unfold wlm; rw [limbs_val, limbs_val]; congr 1; omega
    have HZZ := hide hzz
    clear hzz
    go_enter Tryd.func37, Tryd.ntmps37
    go_wp2_with fail
    generalize (w.alloc (.cells #[.slice none 0 0, .bool false] 46)) = W at *
    have KW := Kept.refl 0 0 W
    have QW := hide (And.intro q0 (And.intro q1 (And.intro qf0 qf1)))
    have KW0 := hide (unhide K)
    refine (limbsOfInt_impl _ (-(n + 1)) hm).mono ?_
    rintro e w1 ⟨v3, rfl, o3, k1⟩
    replace KW := KW.trans k1
    replace qf0 := k1.loose0 (World.block_lt_of_cell? _ _ q0) qf0
    replace qf1 := k1.loose0 (World.block_lt_of_cell? _ _ q1) qf1
    replace q0 := k1.cell0 q0
    replace q1 := k1.cell0 q1
    replace K := hide ((unhide K).trans k1)
    have z2 := k1.size
    clear k1
    generalize hzx : limbs (-(n + 1)).toNat = xs at *
    obtain ⟨a3, c3, hv⟩ := own_slice o3
    subst hv
    have k4 := (Kept.refl 0 0 w1).alloc (.cells #[.slice a3 xs.length c3, .bool true] 46)
    have n3 : Num W.heap.size (w1.alloc (.cells #[.slice a3 xs.length c3, .bool true] 46)) w1.heap.size (.slice a3 xs.length c3) xs := ⟨new_cell2 _ _ _ _ _ _ rfl rfl, new_loose2 _ _ _ _ _ rfl, own_kept o3 k4, fun e => by have := (o3.lt _ e).2; omega⟩
    have d3 : Sd (w1.alloc (.cells #[.slice a3 xs.length c3, .bool true] 46)) w1.heap.size true := ⟨new_cell2 _ _ _ _ _ _ rfl rfl, new_loose2 _ _ _ _ _ rfl⟩
    replace KW := KW.trans k4
    replace qf0 := k4.loose0 (World.block_lt_of_cell? _ _ q0) qf0
    replace qf1 := k4.loose0 (World.block_lt_of_cell? _ _ q1) qf1
    replace q0 := k4.cell0 q0
    replace q1 := k4.cell0 q1
    replace K := hide ((unhide K).trans k4)
    have z3 := k4.size
    have z4 : w1.heap.size < (w1.alloc (.cells #[.slice a3 xs.length c3, .bool true] 46)).heap.size := by simp
    clear k4
    go_wp2_with fail
    generalize w1.alloc (.cells #[.slice a3 xs.length c3, .bool true] 46) = W4 at *
    refine (limbsOfInt_impl _ 1 (by omega)).mono ?_
    rintro e w4 ⟨v5, rfl, o5, k4⟩
    replace KW := KW.trans k4
    replace n3 := n3.kept k4
    replace d3 := d3.kept k4
    replace qf0 := k4.loose0 (World.block_lt_of_cell? _ _ q0) qf0
    replace qf1 := k4.loose0 (World.block_lt_of_cell? _ _ q1) qf1
    replace q0 := k4.cell0 q0
    replace q1 := k4.cell0 q1
    replace K := hide ((unhide K).trans k4)
    have z5 := k4.size
    clear k4
    generalize hyy : limbs (1 : Int).toNat = ys at *
    obtain ⟨a5, c5, hv⟩ := own_slice o5
    subst hv
    have k6 := (Kept.refl 0 0 w4).alloc (.cells #[.slice a5 ys.length c5] 44)
    have n5 : Num W4.heap.size (w4.alloc (.cells #[.slice a5 ys.length c5] 44)) w4.heap.size (.slice a5 ys.length c5) ys := Num.new _ o5
    replace KW := KW.trans k6
    replace n3 := n3.kept k6
    replace d3 := d3.kept k6
    replace qf0 := k6.loose0 (World.block_lt_of_cell? _ _ q0) qf0
    replace qf1 := k6.loose0 (World.block_lt_of_cell? _ _ q1) qf1
    replace q0 := k6.cell0 q0
    replace q1 := k6.cell0 q1
    replace K := hide ((unhide K).trans k6)
    have z6 := k6.size
    clear k6
    have l3 := o3.lt
    have l5 := o5.lt
    have hnx : Nrm xs := by rw [← hzx]; exact limbs_nrm _
    have hny : Nrm ys := by rw [← hyy]; exact limbs_nrm _
    have t5 : Two W (w4.alloc (.cells #[.slice a5 ys.length c5] 44)) w1.heap.size w4.heap.size (.slice a3 xs.length c3) (.slice a5 ys.length c5) xs ys := ⟨n3, n5.less (by omega), by omega, fun e => by have := (l3 _ e).2; omega, fun e => by have := (l5 _ e).1; omega, fun k e1 e2 => by have := (l3 _ e1).2; have := (l5 _ e2).1; omega, KW, by omega, by omega⟩
    clear o3 o5 l3 l5 n3 n5
    go_wp2_with fail
    generalize w4.alloc (.cells #[.slice a5 ys.length c5] 44) = W6 at *
    refine (add_twoS ⟨_, _, t5.startS⟩ hnx hny (by omega) (by omega)).mono ?_
    rintro e w7 ⟨⟨r7, rfl⟩, u7, v7, t7⟩
    rw [← unhide HZZ] at t7
    have o7 := t7.n1.own
    have c70 := t7.n1.cell
    have D7 := d3.same t7.d1
    have c71 := D7.1
    have k7 := t7.k
    replace qf0 := k7.loose0 (World.block_lt_of_cell? _ _ (unhide QW).1) (unhide QW).2.2.1
    replace qf1 := k7.loose0 (World.block_lt_of_cell? _ _ (unhide QW).2.1) (unhide QW).2.2.2
    replace q0 := k7.cell0 (unhide QW).1
    replace q1 := k7.cell0 (unhide QW).2.1
    replace K := hide ((unhide KW0).trans k7)
    clear k7 KW KW0 QW t5 d3 D7 t7
    obtain ⟨a7, c7, hv⟩ := own_slice o7
    subst hv
    have hX1 : w1.heap.size ≠ w.heap.size := by have := unhide S0; omega
    have hX2 : w.heap.size ≠ w1.heap.size := by have := unhide S0; omega
    have ol := o7.lt
    have O := hide (own_less (own_apart (own_apart o7 (p := ⟨w.heap.size, 0, none⟩) (fun e => by have := (ol _ e).1; have := unhide S0; dsimp only at *; omega) (.slice a7 zz.length c7)) (p := ⟨w.heap.size, 1, none⟩) (fun e => by have := (ol _ e).1; have := unhide S0; dsimp only at *; omega) (.bool true)) (base' := w.heap.size) (by have := unhide S0; omega))
    have K7 := hide (((unhide K).setNew (p := ⟨w.heap.size, 0, none⟩) (by simp) (.slice a7 zz.length c7)).setNew (p := ⟨w.heap.size, 1, none⟩) (by simp) (.bool true))
    clear o7 ol K
    go_wp2_with fail
    exact bodyPost_ret (v := .agg #[.slice a7 zz.length c7, .bool true]) (by simp [results, Tryd.results37, go_sem, q0, q1]) rfl ⟨_, by rw [unhide HSS], unhide O, unhide K7⟩
  · have h0 := limbs_int_length n hn1
    have HSS : Hid (ss = false) := by show _ = _; rw [unhide HS]; unfold wsg; simp; omega
    have hzz : zz = limbs n.toNat := by rw [unhide HZ]; unfold wlm; congr 1; omega
    have HZZ := hide hzz
    clear hzz
    go_enter Tryd.func37, Tryd.ntmps37
    go_wp2_with fail
    generalize (w.alloc (.cells #[.slice none 0 0, .bool false] 46)) = W at *
    refine (limbsOfInt_impl _ n hn1).mono ?_
    rintro e w1 ⟨v3, rfl, o3, k1⟩
    replace qf0 := k1.loose0 (World.block_lt_of_cell? _ _ q0) qf0
    replace qf1 := k1.loose0 (World.block_lt_of_cell? _ _ q1) qf1
    replace q0 := k1.cell0 q0
    replace q1 := k1.cell0 q1
    replace K := hide ((unhide K).trans k1)
    have z2 := k1.size
    clear k1
    rw [← unhide HZZ] at o3
    obtain ⟨a3, c3, hv⟩ := own_slice o3
    subst hv
    have ol := o3.lt
    have O := hide (own_less (own_apart (own_apart o3 (p := ⟨w.heap.size, 0, none⟩) (fun e => by have := (ol _ e).1; have := unhide S0; dsimp only at *; omega) (.slice a3 zz.length c3)) (p := ⟨w.heap.size, 1, none⟩) (fun e => by have := (ol _ e).1; have := unhide S0; dsimp only at *; omega) (.bool false)) (base' := w.heap.size) (by have := unhide S0; omega))
    have K7 := hide (((unhide K).setNew (p := ⟨w.heap.size, 0, none⟩) (by simp) (.slice a3 zz.length c3)).setNew (p := ⟨w.heap.size, 1, none⟩) (by simp) (.bool false))
    clear o3 ol K
    go_wp2_with fail
    exact bodyPost_ret (v := .agg #[.slice a3 zz.length c3, .bool false]) (by simp [results, Tryd.results37, go_sem, q0, q1]) rfl ⟨_, by rw [unhide HSS], unhide O, unhide K7⟩

end Go.Proofs.YthglchilgjcloaaDoor
