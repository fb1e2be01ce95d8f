/-
  Contracts that the proofs of this seat share: INat26, IWh2, IWh3.
-/
import Derived.Test.YtkdapefddhbjdaaBH
import Derived.Test.YtkdapefddhbjdaaBC
import Derived.Deep.QuietTactic
import Derived.BigQuiet
import Derived.BigRegion
import Derived.Deep.DeepCutAuto
namespace Go.Proofs.Ytkdapefddhbjdaa
open Go.RowKit
set_option linter.unusedVariables false
set_option maxRecDepth 8000

set_option maxHeartbeats 1000000 in
theorem copied_impl {b g : Nat} {v : Value} {zs : List Int} (w : World) (h : Num b w g v zs) (hlen : zs.length ≤ 1000000) :
    Calls Try.prog 62 #[.pointer (some ⟨g, 0, none⟩)] w fun e w' => ∃ v', e = .returned (.agg #[v']) ∧ w'.ownsRow w.heap.size 3 1 v' zs.length (zs.map (Value.int .i64)) ∧ Kept 0 0 w w' := by
  have s1 := h.row.kept ((Kept.refl 0 0 w).alloc (.cells #[.slice none 0 0] 48)) (by omega)
  obtain ⟨a1, c1, rfl⟩ := h.form
  have hce := old_cell (.cells #[.slice none 0 0] 48) h.cell
  clear h
  go_enter Try.func62, Try.ntmps62
  go_wp2_with fail
  generalize hW : w.alloc (.cells #[.slice none 0 0] 48) = W at *
  have c2' : W.cell? ⟨w.heap.size, 0, none⟩ = some (.slice none 0 0) := by rw [← hW]; exact new_cell_at _ _ _ _ rfl
  have f2' : W.frozen? ⟨w.heap.size, 0, none⟩ = false := by rw [← hW]; exact new_loose _ _ _ _ rfl
  have hs : W.heap.size = w.heap.size + 1 := by rw [← hW]; simp
  have hk : Kept 0 0 w W := by rw [← hW]; exact (Kept.refl 0 0 w).alloc _
  clear hW
  refine (clone_impl _ s1 hlen).mono ?_
  rintro e w6 ⟨v6, rfl, o6, k6⟩
  have c4 := k6.cell0 c2'
  have f4 := k6.loose0 (by simp; omega) f2'
  have O : Hid ((w6.setCell ⟨w.heap.size, 0, none⟩ v6).ownsRow w.heap.size 3 1 v6 zs.length (zs.map (Value.int .i64))) := own_less (ownsRow_setCell_below o6 (a := ⟨w.heap.size, 0, none⟩) (by simp; omega) v6) (by omega)
  have K : Hid (Kept 0 0 w (w6.setCell ⟨w.heap.size, 0, none⟩ v6)) := (hk.trans k6).setNew (p := ⟨w.heap.size, 0, none⟩) (by simp) _
  obtain ⟨a6, c6, rfl⟩ := own_slice o6
  clear s1 c2' f2' hs hk k6 o6 hce
  go_wp2
  exact bodyPost_ret (v := .agg #[.slice a6 zs.length c6]) (by simp [results, Try.results62, go_sem, c4]) rfl ⟨_, rfl, unhide O, unhide K⟩

/-- What the next square is, behind zs: the number itself at first. -/
def nextSq (xs zs : List Int) : List Int := if zs.length = 0 then xs else limbs (val zs * val zs).toNat

end Go.Proofs.Ytkdapefddhbjdaa

namespace Go.Proofs.Ytkdapefddhbjdaa
open Go.RowKit
set_option linter.unusedVariables false
set_option maxRecDepth 8000
set_option linter.unusedSimpArgs false

theorem front_set (w : World) (g : Nat) (u : Value) : (w.setCell ⟨g, 1, none⟩ u).cell? ⟨g, 0, none⟩ = w.cell? ⟨g, 0, none⟩ := by
  unfold World.cell? World.setCell
  simp only [Array.getElem?_modify]
  cases hb : w.heap[g]? with
  | none => simp
  | some b => cases b <;> simp
theorem Num.side {b g : Nat} {w : World} {v : Value} {zs : List Int} (h : Num b w g v zs) (u : Value) : Num b (w.setCell ⟨g, 1, none⟩ u) g v zs :=
  ⟨(front_set w g u).trans h.cell, by rw [frozen_set]; exact h.loose, own_apart h.own (p := ⟨g, 1, none⟩) h.apart u, h.apart⟩
theorem Sd.set {w : World} {g : Nat} {s : Bool} (h : Sd w g s) (t : Bool) : Sd (w.setCell ⟨g, 1, none⟩ (.bool t)) g t :=
  ⟨by have := cell_set w g 1 1 (.bool t) (.bool s) h.1; simpa using this, by rw [frozen_set]; exact h.2⟩

theorem in_multiply : ∀ (w : World) (args : Array Value), (callFunc 29 args).run Try.prog w = .ok (.enter 29 args) w := enters Try.func29 (by decide) (fun h => by cases h)

theorem in_add : ∀ (w : World) (args : Array Value), (callFunc 27 args).run Try.prog w = .ok (.enter 27 args) w := enters Try.func27 (by decide) (fun h => by cases h)

theorem in_subtract : ∀ (w : World) (args : Array Value), (callFunc 31 args).run Try.prog w = .ok (.enter 31 args) w := enters Try.func31 (by decide) (fun h => by cases h)

theorem in_compare : ∀ (w : World) (args : Array Value), (callFunc 30 args).run Try.prog w = .ok (.enter 30 args) w := enters Try.func30 (by decide) (fun h => by cases h)

theorem in_subtractFrom : ∀ (w : World) (args : Array Value), (callFunc 53 args).run Try.prog w = .ok (.enter 53 args) w := enters Try.func53 (by decide) (fun h => by cases h)

theorem in_copied : ∀ (w : World) (args : Array Value), (callFunc 62 args).run Try.prog w = .ok (.enter 62 args) w := enters Try.func62 (by decide) (fun h => by cases h)

set_option maxHeartbeats 1000000 in
theorem turnSign_tail {b g : Nat} {v : Value} {zs : List Int} {s : Bool} (w : World) (h : Num b w g v zs) (d : Sd w g s) :
    Calls Try.prog 37 #[.pointer (some ⟨g, 0, none⟩)] w fun e w' => (∃ r, e = .returned r) ∧ Num b w' g v zs ∧ Sd w' g (!s) ∧ Mod (fun i => i = g) w w' ∧ SameTail g w w' := by
  have hc := d.1
  have hf := d.2
  have N1 := hide h
  have D1 := hide d
  clear h d
  go_enter Try.func37, Try.ntmps37
  go_wp2
  exact bodyPost_end (v := .tuple #[]) (by simp [results, Try.results37, go_sem]) rfl ⟨⟨_, rfl⟩, (unhide N1).side _, (unhide D1).set _, Mod.set (S := fun i => i = g) (Mod.refl _ _) (p := ⟨g, 1, none⟩) (.inl rfl) _, (SameTail.refl _ _).set1 _⟩

theorem turnSign_impl {b g : Nat} {v : Value} {zs : List Int} {s : Bool} (w : World) (h : Num b w g v zs) (d : Sd w g s) :
    Calls Try.prog 37 #[.pointer (some ⟨g, 0, none⟩)] w fun e w' => (∃ r, e = .returned r) ∧ Num b w' g v zs ∧ Sd w' g (!s) ∧ Mod (fun i => i = g) w w' :=
  (turnSign_tail w h d).mono fun _ _ ⟨a, b, c, d, _⟩ => ⟨a, b, c, d⟩

set_option maxHeartbeats 2000000 in
theorem multiplySigned_tail {b1 b2 g1 g2 : Nat} {v1 v2 : Value} {xs ys : List Int} {s1 s2 : Bool} (w : World) (n1 : Num b1 w g1 v1 xs) (n2 : Num b2 w g2 v2 ys) (d1 : Sd w g1 s1) (d2 : Sd w g2 s2) (hne : g1 ≠ g2) (hx : Lim xs) (hy : Lim ys) (nx : xs.length ≤ 100000) (ny : ys.length ≤ 100000) :
    Calls Try.prog 36 #[.pointer (some ⟨g1, 0, none⟩), .pointer (some ⟨g2, 0, none⟩)] w fun e w' => (∃ r, e = .returned r) ∧ ∃ u, Num w.heap.size w' g1 u (limbs (val xs * val ys).toNat) ∧ Sd w' g1 (!(s1 == s2)) ∧ Mod (fun i => i = g1) w w' ∧ SameTail g1 w w' := by
  have kd := (Kept.refl 0 0 w).drew
  have ml := multiply_side w.drew (n1.kept kd) (n2.kept kd) hx hy nx ny
  go_enter Try.func36, Try.ntmps36
  go_wp2_with fail
  refine wp_region_held_drew (S := (fun _ => True)) (by kernel_rfl) ?_ (fun hHeld => ?_)
  · trivial
  refine wpAnyH_take (i := 0) (oi := _) (v := .pointer (some ⟨g1, 0, none⟩)) rfl (by kernel_rfl) (by kernel_rfl) (by kernel_rfl) (fun _ _ _ h => h) (Or.inl ⟨by rfl, ?_⟩) hHeld ?_
  · intro wq hSw
    try dsimp only at hSw
    go_simp
  try simp only [Act.put, List.getElem_toArray, List.getElem_cons_succ, List.getElem_cons_zero, List.setIfInBounds_toArray, List.set_cons_zero, List.set_cons_succ]
  refine wpAnyH_take (i := 1) (oi := _) (v := .pointer (some ⟨g1, 0, none⟩)) rfl (by kernel_rfl) (by kernel_rfl) (by kernel_rfl) (fun _ _ _ h => h) (Or.inl ⟨by rfl, ?_⟩) hHeld ?_
  · intro wq hSw
    try dsimp only at hSw
    go_simp
  try simp only [Act.put, List.getElem_toArray, List.getElem_cons_succ, List.getElem_cons_zero, List.setIfInBounds_toArray, List.set_cons_zero, List.set_cons_succ]
  refine wpAnyH_take (i := 2) (oi := _) (v := .pointer (some ⟨g1, 0, none⟩)) rfl (by kernel_rfl) (by kernel_rfl) (by kernel_rfl) (fun _ _ _ h => h) (Or.inl ⟨by rfl, ?_⟩) hHeld ?_
  · intro wq hSw
    try dsimp only at hSw
    go_simp
  try simp only [Act.put, List.getElem_toArray, List.getElem_cons_succ, List.getElem_cons_zero, List.setIfInBounds_toArray, List.set_cons_zero, List.set_cons_succ]
  refine wpAnyH_take (i := 3) (oi := _) (v := .pointer (some ⟨g2, 0, none⟩)) rfl (by kernel_rfl) (by kernel_rfl) (by kernel_rfl) (fun _ _ _ h => h) (Or.inl ⟨by rfl, ?_⟩) hHeld ?_
  · intro wq hSw
    try dsimp only at hSw
    go_simp
  try simp only [Act.put, List.getElem_toArray, List.getElem_cons_succ, List.getElem_cons_zero, List.setIfInBounds_toArray, List.set_cons_zero, List.set_cons_succ]
  refine wpAnyH_take (i := 4) (oi := _) (v := .pointer (some ⟨g2, 0, none⟩)) rfl (by kernel_rfl) (by kernel_rfl) (by kernel_rfl) (fun _ _ _ h => h) (Or.inl ⟨by rfl, ?_⟩) hHeld ?_
  · intro wq hSw
    try dsimp only at hSw
    go_simp
  try simp only [Act.put, List.getElem_toArray, List.getElem_cons_succ, List.getElem_cons_zero, List.setIfInBounds_toArray, List.set_cons_zero, List.set_cons_succ]
  refine wpAnyH_take (i := 5) (oi := _) (v := .pointer (some ⟨g2, 0, none⟩)) rfl (by kernel_rfl) (by kernel_rfl) (by kernel_rfl) (fun _ _ _ h => h) (Or.inl ⟨by rfl, ?_⟩) hHeld ?_
  · intro wq hSw
    try dsimp only at hSw
    go_simp
  try simp only [Act.put, List.getElem_toArray, List.getElem_cons_succ, List.getElem_cons_zero, List.setIfInBounds_toArray, List.set_cons_zero, List.set_cons_succ]
  refine wpAnyH_ready (rs := [6]) (by kernel_rfl) (by simp) ?_
  refine AllReadyH.cons rfl (fun KK hK => ?_) AllReadyH.nil
  simp only [List.getElem_toArray, List.getElem_cons_succ, List.getElem_cons_zero]
  rw [if_pos (by rfl)]
  refine wps2 29 (.tmp 6) (.tmp 9) _ rfl in_multiply (.pointer (some ⟨g1, 0, none⟩)) (.pointer (some ⟨g2, 0, none⟩)) rfl rfl ml ?_
  rintro e w6 ⟨⟨r6, rfl⟩, u6, n6, m6, sd6⟩
  refine ⟨_, rfl, ?_⟩
  have D1 := hide ((d1.kept kd).same sd6)
  have D2 := hide ((d2.kept kd).same (m6.side (d2.kept kd).lt (fun e => hne e.symm)))
  have hc1 := (unhide D1).1
  have hf1 := (unhide D1).2
  have hc2 := (unhide D2).1
  have SD6 : Hid (SameTail g1 w w6) := SameSide.tail sd6
  have N6 := hide n6
  have M6 := hide m6
  clear n1 n2 d1 d2 n6 m6 sd6 ml
  clear hHeld
  refine hK.out _ _ ?_ (fun hHeld => ?_)
  · trivial
  clear hK KK
  try simp only [Act.put, List.getElem_toArray, List.getElem_cons_succ, List.getElem_cons_zero, List.setIfInBounds_toArray, List.set_cons_zero, List.set_cons_succ]
  refine wpAnyH_done (by kernel_rfl) ?_ _
  clear hHeld
  go_wp2
  go_region
  go_wp2
  exact bodyPost_end (v := .tuple #[]) (by simp [results, Try.results36, go_sem]) rfl ⟨⟨_, rfl⟩, _, ((unhide N6).kept (Kept.refl 0 0 _).drew).side _, ((unhide D1).kept (Kept.refl 0 0 _).drew).set _, Mod.set (S := fun i => i = g1) ((kd.toMod.trans (unhide M6)).kept (Kept.refl 0 0 _).drew) (p := ⟨g1, 1, none⟩) (.inl rfl) _, (unhide SD6).drew.set1 _⟩

theorem multiplySigned_impl {b1 b2 g1 g2 : Nat} {v1 v2 : Value} {xs ys : List Int} {s1 s2 : Bool} (w : World) (n1 : Num b1 w g1 v1 xs) (n2 : Num b2 w g2 v2 ys) (d1 : Sd w g1 s1) (d2 : Sd w g2 s2) (hne : g1 ≠ g2) (hx : Lim xs) (hy : Lim ys) (nx : xs.length ≤ 100000) (ny : ys.length ≤ 100000) :
    Calls Try.prog 36 #[.pointer (some ⟨g1, 0, none⟩), .pointer (some ⟨g2, 0, none⟩)] w fun e w' => (∃ r, e = .returned r) ∧ ∃ u, Num w.heap.size w' g1 u (limbs (val xs * val ys).toNat) ∧ Sd w' g1 (!(s1 == s2)) ∧ Mod (fun i => i = g1) w w' :=
  (multiplySigned_tail w n1 n2 d1 d2 hne hx hy nx ny).mono fun _ _ ⟨a, u, b, c, d, _⟩ => ⟨a, u, b, c, d⟩

theorem own_base {w : World} {b b' n : Nat} {e : TypeId} {v : Value} {xs : List Value} (h : w.ownsRow b e 1 v n xs) (hb : ∀ i, v.ownBlock = some i → b' ≤ i) : w.ownsRow b' e 1 v n xs := by
  refine ⟨h.1, ?_⟩
  rcases h.2 with hn | ⟨g, cap, cur, rfl, h1, rest⟩
  · exact .inl hn
  · exact .inr ⟨g, cap, cur, rfl, hb g rfl, rest⟩
/-- Two numbers with signs, apart, newer than w0. -/
structure Sig2 (w0 w : World) (g1 g2 : Nat) (s1 : Bool) (xs : List Int) (s2 : Bool) (ys : List Int) : Prop where
  two : ∃ u1 u2, Two w0 w g1 g2 u1 u2 xs ys
  d1 : Sd w g1 s1
  d2 : Sd w g2 s2

set_option maxHeartbeats 2000000 in
theorem subtractFrom_impl {w0 w : World} {g1 g2 : Nat} {u1 u2 : Value} {xs ys : List Int} (t : Two w0 w g1 g2 u1 u2 xs ys) (hx : Nrm xs) (hy : Nrm ys) (hl1 : ys.length ≤ 100000) (hle : val xs ≤ val ys) :
    Calls Try.prog 53 #[.pointer (some ⟨g1, 0, none⟩), .pointer (some ⟨g2, 0, none⟩)] w fun e w' => (∃ r, e = .returned r) ∧ (∃ u, Num w.heap.size w' g1 u (limbs (val ys - val xs).toNat)) ∧ SameSide g1 w w' ∧ Mod (fun i => i = g1) w w' := by
  go_enter Try.func53, Try.ntmps53
  go_wp2_with fail
  refine (copied_impl _ t.n2 (by omega)).mono ?_
  rintro e w2 ⟨v2, rfl, o2, k2⟩
  have hl := o2.lt
  have n3 := Num.new 48 o2
  have kk := k2.alloc (.cells #[v2] 48)
  have lg := t.n1.lt
  have hs := k2.size
  have ht := t.k.size
  have t3 : Two w0 (w2.alloc (.cells #[v2] 48)) w2.heap.size g1 v2 u1 ys xs :=
    ⟨n3.less ht, t.n1.kept kk, by omega, fun e => by have := (hl _ e).1; omega, fun e => by have := (t.n1.own.lt _ e).2; omega, fun k e1 e2 => by have := (hl _ e1).1; have := (t.n1.own.lt _ e2).2; omega, t.k.trans kk, by omega, t.b1⟩
  obtain ⟨a2, c2, rfl⟩ := own_slice o2
  have ts := t3.startS
  have ob : ∀ i, (Value.slice a2 ys.length c2).ownBlock = some i → w.heap.size ≤ i := fun i e => (hl i e).1
  have KK := hide kk
  have T := hide t
  have OB := hide ob
  clear n3 t3 o2 k2 hl ob kk t
  go_wp2_with fail
  generalize w2.alloc (.cells #[.slice a2 ys.length c2] 48) = W3 at *
  refine (subtract_twoS ⟨_, _, ts⟩ hy hx hl1 hle).mono ?_
  rintro e w6 ⟨⟨r6, rfl⟩, v6, v6', t6⟩
  have c6 := t6.n1.cell
  have c7 := t6.n2.cell
  have f7 := t6.n2.loose
  have o6 := t6.n1.own
  have ap := t6.two.o12
  have TT := hide t6
  obtain ⟨a6, d6, hv⟩ := own_slice o6
  generalize hzz : limbs (val ys - val xs).toNat = zz at *
  subst hv
  obtain ⟨a7, d7, hv⟩ := (unhide TT).n2.form
  subst hv
  have hne : g1 ≠ w2.heap.size := by omega
  have hb6 : ∀ i, (Value.slice a6 zz.length d6).ownBlock = some i → w.heap.size ≤ i := fun i e => by
    rcases (unhide TT).ob i e with h | h
    · exact unhide OB i h
    · have := (unhide KK).size; omega
  have HN : Hid (∀ n, Num w.heap.size ((w6.drewN n).setCell ⟨g1, 0, none⟩ (.slice a6 zz.length d6)) g1 (.slice a6 zz.length d6) zz) := fun n =>
    ⟨cell_on _ _ _ _ _ c7, by rw [frozen_set]; exact f7, own_apart (own_base o6 hb6) (p := ⟨g1, 0, none⟩) (fun e => ap e) _, fun e => ap e⟩
  have HS : Hid (∀ n, SameSide g1 w ((w6.drewN n).setCell ⟨g1, 0, none⟩ (.slice a6 zz.length d6))) := fun n => ((((unhide KK).side lg).trans ((unhide TT).m.side (by have := (unhide KK).size; omega) (fun e => e.elim (fun e => hne e) (fun e => by have := unhide OB _ e; omega)))).drewN n).set0 _
  have HM : Hid (∀ n, Mod (fun i => i = g1) w ((w6.drewN n).setCell ⟨g1, 0, none⟩ (.slice a6 zz.length d6))) := fun n => Mod.set (S := fun i => i = g1) ((Mod.then (S := fun i => i = g1) (unhide KK).toMod (unhide TT).m (fun i e => e.elim (fun e => by omega) (fun e => .inr (unhide OB _ e)))).drewN n) (p := ⟨g1, 0, none⟩) (.inl rfl) _
  have HZ := hide hzz
  clear o6 ap t6 ts hzz hb6 TT
  go_wp2_with fail
  exact bodyPost_end (v := .tuple #[]) (by simp [results, Try.results53, go_sem]) rfl ⟨⟨_, rfl⟩, ⟨_, by rw [unhide HZ]; exact unhide HN 0⟩, unhide HS 0, unhide HM 0⟩

set_option maxHeartbeats 4000000 in
theorem addSigned_tail {w0 w : World} {g1 g2 : Nat} {s1 s2 : Bool} {xs ys : List Int} (S : Sig2 w0 w g1 g2 s1 xs s2 ys) (hx : Nrm xs) (hy : Nrm ys) (nx : xs.length ≤ 100000) (ny : ys.length ≤ 100000) :
    Calls Try.prog 34 #[.pointer (some ⟨g1, 0, none⟩), .pointer (some ⟨g2, 0, none⟩)] w fun e w' => (∃ r, e = .returned r) ∧ ∃ u s zs, Num w0.heap.size w' g1 u zs ∧ Sd w' g1 s ∧ Nrm zs ∧ wval s zs = wval s1 xs + wval s2 ys ∧ zs.length ≤ 1000000 ∧ Kept 0 0 w0 w' ∧ SameTail g1 w w' := by
  have hc1 := S.d1.1
  have hc2 := S.d2.1
  have SS := hide S
  obtain ⟨u1, u2, t⟩ := S.two
  have T := hide t
  have hx0 := val_nonneg hx.1
  have hy0 := val_nonneg hy.1
  clear S t
  by_cases hs : s1 = s2
  · subst hs
    go_enter Try.func34, Try.ntmps34
    go_wp2_with fail
    go_quiet (fail)
    go_wp2_with fail
    refine wp_region_held_drew (S := (fun _ => True)) (by kernel_rfl) ?_ (fun hHeld => ?_)
    · trivial
    refine wpAnyH_take (i := 0) (oi := _) (v := .pointer (some ⟨g1, 0, none⟩)) rfl (by kernel_rfl) (by kernel_rfl) (by kernel_rfl) (fun _ _ _ h => h) (Or.inl ⟨by rfl, ?_⟩) hHeld ?_
    · intro wq hSw
      try dsimp only at hSw
      go_simp
    try simp only [Act.put, List.getElem_toArray, List.getElem_cons_succ, List.getElem_cons_zero, List.setIfInBounds_toArray, List.set_cons_zero, List.set_cons_succ]
    refine wpAnyH_take (i := 1) (oi := _) (v := .pointer (some ⟨g1, 0, none⟩)) rfl (by kernel_rfl) (by kernel_rfl) (by kernel_rfl) (fun _ _ _ h => h) (Or.inl ⟨by rfl, ?_⟩) hHeld ?_
    · intro wq hSw
      try dsimp only at hSw
      go_simp
    try simp only [Act.put, List.getElem_toArray, List.getElem_cons_succ, List.getElem_cons_zero, List.setIfInBounds_toArray, List.set_cons_zero, List.set_cons_succ]
    refine wpAnyH_take (i := 2) (oi := _) (v := .pointer (some ⟨g1, 0, none⟩)) rfl (by kernel_rfl) (by kernel_rfl) (by kernel_rfl) (fun _ _ _ h => h) (Or.inl ⟨by rfl, ?_⟩) hHeld ?_
    · intro wq hSw
      try dsimp only at hSw
      go_simp
    try simp only [Act.put, List.getElem_toArray, List.getElem_cons_succ, List.getElem_cons_zero, List.setIfInBounds_toArray, List.set_cons_zero, List.set_cons_succ]
    refine wpAnyH_take (i := 3) (oi := _) (v := .pointer (some ⟨g2, 0, none⟩)) rfl (by kernel_rfl) (by kernel_rfl) (by kernel_rfl) (fun _ _ _ h => h) (Or.inl ⟨by rfl, ?_⟩) hHeld ?_
    · intro wq hSw
      try dsimp only at hSw
      go_simp
    try simp only [Act.put, List.getElem_toArray, List.getElem_cons_succ, List.getElem_cons_zero, List.setIfInBounds_toArray, List.set_cons_zero, List.set_cons_succ]
    refine wpAnyH_take (i := 4) (oi := _) (v := .pointer (some ⟨g2, 0, none⟩)) rfl (by kernel_rfl) (by kernel_rfl) (by kernel_rfl) (fun _ _ _ h => h) (Or.inl ⟨by rfl, ?_⟩) hHeld ?_
    · intro wq hSw
      try dsimp only at hSw
      go_simp
    try simp only [Act.put, List.getElem_toArray, List.getElem_cons_succ, List.getElem_cons_zero, List.setIfInBounds_toArray, List.set_cons_zero, List.set_cons_succ]
    refine wpAnyH_take (i := 5) (oi := _) (v := .pointer (some ⟨g2, 0, none⟩)) rfl (by kernel_rfl) (by kernel_rfl) (by kernel_rfl) (fun _ _ _ h => h) (Or.inl ⟨by rfl, ?_⟩) hHeld ?_
    · intro wq hSw
      try dsimp only at hSw
      go_simp
    try simp only [Act.put, List.getElem_toArray, List.getElem_cons_succ, List.getElem_cons_zero, List.setIfInBounds_toArray, List.set_cons_zero, List.set_cons_succ]
    refine wpAnyH_ready (rs := [6]) (by kernel_rfl) (by simp) ?_
    refine AllReadyH.cons rfl (fun KK hK => ?_) AllReadyH.nil
    simp only [List.getElem_toArray, List.getElem_cons_succ, List.getElem_cons_zero]
    rw [if_pos (by rfl)]
    refine wps2 27 (.tmp 15) (.tmp 18) _ rfl in_add (.pointer (some ⟨g1, 0, none⟩)) (.pointer (some ⟨g2, 0, none⟩)) rfl rfl (add_twoS ⟨_, _, (((unhide T).kept ((Kept.refl 0 0 w).drewN _)).kept (Kept.refl 0 0 _).drew).startS⟩ hx hy nx ny) ?_
    rintro e w6 ⟨⟨r6, rfl⟩, u6, v6, t6⟩
    refine ⟨_, rfl, ?_⟩
    have N6 := hide t6.n1
    have D6 := hide ((((unhide SS).d1.kept ((Kept.refl 0 0 w).drewN _)).kept (Kept.refl 0 0 _).drew).same t6.d1)
    have K6 := hide t6.k
    have TL6 : Hid (SameTail g1 w w6) := SameSide.tail t6.d1
    have EQ : Hid (wval s1 (limbs (val xs + val ys).toNat) = wval s1 xs + wval s1 ys) := add_sgn s1 hx.1 hy.1
    have LN : Hid ((limbs (val xs + val ys).toNat).length ≤ 1000000) := add_len hx.1 hy.1 nx ny _ (by omega)
    clear t6 hc1 hc2
    clear hHeld
    refine hK.out _ _ ?_ (fun hHeld => ?_)
    · trivial
    clear hK KK
    try simp only [Act.put, List.getElem_toArray, List.getElem_cons_succ, List.getElem_cons_zero, List.setIfInBounds_toArray, List.set_cons_zero, List.set_cons_succ]
    refine wpAnyH_done (by kernel_rfl) ?_ _
    clear hHeld
    go_wp2_with fail
    exact bodyPost_ret (v := .tuple #[]) (by simp [results, Try.results34, go_sem]) rfl ⟨⟨_, rfl⟩, _, _, _, unhide N6, unhide D6, limbs_nrm _, unhide EQ, unhide LN, unhide K6, unhide TL6⟩
  have hsb : (s1 == s2) = false := beq_eq_false_iff_ne.2 hs
  have HNE := hide hs
  clear hs
  by_cases hle : val ys ≤ val xs
  · have hd : decide (cmpI (val xs) (val ys) < 0) = false := decide_eq_false (by unfold cmpI; split <;> (try split) <;> omega)
    have hd' : ¬ cmpI (val xs) (val ys) < 0 := of_decide_eq_false hd
    go_enter Try.func34, Try.ntmps34
    go_wp2_with fail
    go_quiet (fail)
    go_upto_region 2 with fail
    refine wp_region_held_drew (S := (fun _ => True)) (by kernel_rfl) ?_ (fun hHeld => ?_)
    · trivial
    refine wpAnyH_take (i := 0) (oi := _) (v := .pointer (some ⟨g1, 0, none⟩)) rfl (by kernel_rfl) (by kernel_rfl) (by kernel_rfl) (fun _ _ _ h => h) (Or.inl ⟨by rfl, ?_⟩) hHeld ?_
    · intro wq hSw
      try dsimp only at hSw
      go_simp
    try simp only [Act.put, List.getElem_toArray, List.getElem_cons_succ, List.getElem_cons_zero, List.setIfInBounds_toArray, List.set_cons_zero, List.set_cons_succ]
    refine wpAnyH_take (i := 1) (oi := _) (v := .pointer (some ⟨g1, 0, none⟩)) rfl (by kernel_rfl) (by kernel_rfl) (by kernel_rfl) (fun _ _ _ h => h) (Or.inl ⟨by rfl, ?_⟩) hHeld ?_
    · intro wq hSw
      try dsimp only at hSw
      go_simp
    try simp only [Act.put, List.getElem_toArray, List.getElem_cons_succ, List.getElem_cons_zero, List.setIfInBounds_toArray, List.set_cons_zero, List.set_cons_succ]
    refine wpAnyH_take (i := 2) (oi := _) (v := .pointer (some ⟨g1, 0, none⟩)) rfl (by kernel_rfl) (by kernel_rfl) (by kernel_rfl) (fun _ _ _ h => h) (Or.inl ⟨by rfl, ?_⟩) hHeld ?_
    · intro wq hSw
      try dsimp only at hSw
      go_simp
    try simp only [Act.put, List.getElem_toArray, List.getElem_cons_succ, List.getElem_cons_zero, List.setIfInBounds_toArray, List.set_cons_zero, List.set_cons_succ]
    refine wpAnyH_take (i := 3) (oi := _) (v := .pointer (some ⟨g2, 0, none⟩)) rfl (by kernel_rfl) (by kernel_rfl) (by kernel_rfl) (fun _ _ _ h => h) (Or.inl ⟨by rfl, ?_⟩) hHeld ?_
    · intro wq hSw
      try dsimp only at hSw
      go_simp
    try simp only [Act.put, List.getElem_toArray, List.getElem_cons_succ, List.getElem_cons_zero, List.setIfInBounds_toArray, List.set_cons_zero, List.set_cons_succ]
    refine wpAnyH_take (i := 4) (oi := _) (v := .pointer (some ⟨g2, 0, none⟩)) rfl (by kernel_rfl) (by kernel_rfl) (by kernel_rfl) (fun _ _ _ h => h) (Or.inl ⟨by rfl, ?_⟩) hHeld ?_
    · intro wq hSw
      try dsimp only at hSw
      go_simp
    try simp only [Act.put, List.getElem_toArray, List.getElem_cons_succ, List.getElem_cons_zero, List.setIfInBounds_toArray, List.set_cons_zero, List.set_cons_succ]
    refine wpAnyH_take (i := 5) (oi := _) (v := .pointer (some ⟨g2, 0, none⟩)) rfl (by kernel_rfl) (by kernel_rfl) (by kernel_rfl) (fun _ _ _ h => h) (Or.inl ⟨by rfl, ?_⟩) hHeld ?_
    · intro wq hSw
      try dsimp only at hSw
      go_simp
    try simp only [Act.put, List.getElem_toArray, List.getElem_cons_succ, List.getElem_cons_zero, List.setIfInBounds_toArray, List.set_cons_zero, List.set_cons_succ]
    refine wpAnyH_ready (rs := [6]) (by kernel_rfl) (by simp) ?_
    refine AllReadyH.cons rfl (fun KK hK => ?_) AllReadyH.nil
    simp only [List.getElem_toArray, List.getElem_cons_succ, List.getElem_cons_zero]
    rw [if_pos (by rfl)]
    refine wps2 30 (.tmp 22) (.tmp 25) _ rfl in_compare (.pointer (some ⟨g1, 0, none⟩)) (.pointer (some ⟨g2, 0, none⟩)) rfl rfl (compare_impl _ (((unhide T).kept ((Kept.refl 0 0 w).drewN _)).kept (Kept.refl 0 0 _).drew).n1 (((unhide T).kept ((Kept.refl 0 0 w).drewN _)).kept (Kept.refl 0 0 _).drew).n2 hx hy) ?_
    rintro e w5 ⟨rfl, k5⟩
    refine ⟨_, rfl, ?_⟩
    have T5 := hide ((((unhide T).kept ((Kept.refl 0 0 w).drewN _)).kept (Kept.refl 0 0 _).drew).kept k5)
    have E1 := hide ((((unhide SS).d1.kept ((Kept.refl 0 0 w).drewN _)).kept (Kept.refl 0 0 _).drew).kept k5)
    have E2 := hide ((((unhide SS).d2.kept ((Kept.refl 0 0 w).drewN _)).kept (Kept.refl 0 0 _).drew).kept k5)
    have SD5 : Hid (SameSide g1 w w5) := k5.side (unhide SS).d1.lt
    clear k5 hc1 hc2
    clear hHeld
    refine hK.out _ _ ?_ (fun hHeld => ?_)
    · trivial
    clear hK KK
    try simp only [Act.put, List.getElem_toArray, List.getElem_cons_succ, List.getElem_cons_zero, List.setIfInBounds_toArray, List.set_cons_zero, List.set_cons_succ]
    refine wpAnyH_take (i := 7) (oi := _) (v := .bool false) rfl (by kernel_rfl) (by kernel_rfl) (by kernel_rfl) (fun _ _ _ h => h) (Or.inl ⟨by rfl, ?_⟩) hHeld ?_
    · intro wq hSw
      try dsimp only at hSw
      go_simp
    try simp only [Act.put, List.getElem_toArray, List.getElem_cons_succ, List.getElem_cons_zero, List.setIfInBounds_toArray, List.set_cons_zero, List.set_cons_succ]
    refine wpAnyH_done (by kernel_rfl) ?_ _
    clear hHeld
    clear hd hd'
    go_wp2_with fail
    refine wp_region_held_drew (S := (fun _ => True)) (by kernel_rfl) ?_ (fun hHeld => ?_)
    · trivial
    refine wpAnyH_take (i := 0) (oi := _) (v := .pointer (some ⟨g1, 0, none⟩)) rfl (by kernel_rfl) (by kernel_rfl) (by kernel_rfl) (fun _ _ _ h => h) (Or.inl ⟨by rfl, ?_⟩) hHeld ?_
    · intro wq hSw
      try dsimp only at hSw
      go_simp
    try simp only [Act.put, List.getElem_toArray, List.getElem_cons_succ, List.getElem_cons_zero, List.setIfInBounds_toArray, List.set_cons_zero, List.set_cons_succ]
    refine wpAnyH_take (i := 1) (oi := _) (v := .pointer (some ⟨g1, 0, none⟩)) rfl (by kernel_rfl) (by kernel_rfl) (by kernel_rfl) (fun _ _ _ h => h) (Or.inl ⟨by rfl, ?_⟩) hHeld ?_
    · intro wq hSw
      try dsimp only at hSw
      go_simp
    try simp only [Act.put, List.getElem_toArray, List.getElem_cons_succ, List.getElem_cons_zero, List.setIfInBounds_toArray, List.set_cons_zero, List.set_cons_succ]
    refine wpAnyH_take (i := 2) (oi := _) (v := .pointer (some ⟨g1, 0, none⟩)) rfl (by kernel_rfl) (by kernel_rfl) (by kernel_rfl) (fun _ _ _ h => h) (Or.inl ⟨by rfl, ?_⟩) hHeld ?_
    · intro wq hSw
      try dsimp only at hSw
      go_simp
    try simp only [Act.put, List.getElem_toArray, List.getElem_cons_succ, List.getElem_cons_zero, List.setIfInBounds_toArray, List.set_cons_zero, List.set_cons_succ]
    refine wpAnyH_take (i := 3) (oi := _) (v := .pointer (some ⟨g2, 0, none⟩)) rfl (by kernel_rfl) (by kernel_rfl) (by kernel_rfl) (fun _ _ _ h => h) (Or.inl ⟨by rfl, ?_⟩) hHeld ?_
    · intro wq hSw
      try dsimp only at hSw
      go_simp
    try simp only [Act.put, List.getElem_toArray, List.getElem_cons_succ, List.getElem_cons_zero, List.setIfInBounds_toArray, List.set_cons_zero, List.set_cons_succ]
    refine wpAnyH_take (i := 4) (oi := _) (v := .pointer (some ⟨g2, 0, none⟩)) rfl (by kernel_rfl) (by kernel_rfl) (by kernel_rfl) (fun _ _ _ h => h) (Or.inl ⟨by rfl, ?_⟩) hHeld ?_
    · intro wq hSw
      try dsimp only at hSw
      go_simp
    try simp only [Act.put, List.getElem_toArray, List.getElem_cons_succ, List.getElem_cons_zero, List.setIfInBounds_toArray, List.set_cons_zero, List.set_cons_succ]
    refine wpAnyH_take (i := 5) (oi := _) (v := .pointer (some ⟨g2, 0, none⟩)) rfl (by kernel_rfl) (by kernel_rfl) (by kernel_rfl) (fun _ _ _ h => h) (Or.inl ⟨by rfl, ?_⟩) hHeld ?_
    · intro wq hSw
      try dsimp only at hSw
      go_simp
    try simp only [Act.put, List.getElem_toArray, List.getElem_cons_succ, List.getElem_cons_zero, List.setIfInBounds_toArray, List.set_cons_zero, List.set_cons_succ]
    refine wpAnyH_ready (rs := [6]) (by kernel_rfl) (by simp) ?_
    refine AllReadyH.cons rfl (fun KK hK => ?_) AllReadyH.nil
    simp only [List.getElem_toArray, List.getElem_cons_succ, List.getElem_cons_zero]
    rw [if_pos (by rfl)]
    refine wps2 31 (.tmp 42) (.tmp 45) _ rfl in_subtract (.pointer (some ⟨g1, 0, none⟩)) (.pointer (some ⟨g2, 0, none⟩)) rfl rfl (subtract_twoS ⟨_, _, ((unhide T5).kept (Kept.refl 0 0 _).drew).startS⟩ hx hy nx hle) ?_
    rintro e w6 ⟨⟨r6, rfl⟩, u6, v6, t6⟩
    refine ⟨_, rfl, ?_⟩
    have N6 := hide t6.n1
    have D6 := hide (((unhide E1).kept (Kept.refl 0 0 _).drew).same t6.d1)
    have K6 := hide t6.k
    have TL6 : Hid (SameTail g1 w w6) := ((unhide SD5).trans t6.d1).tail
    have EQ : Hid (wval s1 (limbs (val xs - val ys).toNat) = wval s1 xs + wval s2 ys) := sub_sgn (unhide HNE) hle
    have LN : Hid ((limbs (val xs - val ys).toNat).length ≤ 1000000) := add_len hx.1 hy.1 nx ny _ (by omega)
    clear t6
    clear hHeld
    refine hK.out _ _ ?_ (fun hHeld => ?_)
    · trivial
    clear hK KK
    try simp only [Act.put, List.getElem_toArray, List.getElem_cons_succ, List.getElem_cons_zero, List.setIfInBounds_toArray, List.set_cons_zero, List.set_cons_succ]
    refine wpAnyH_done (by kernel_rfl) ?_ _
    clear hHeld
    go_wp2_with fail
    exact bodyPost_end (v := .tuple #[]) (by simp [results, Try.results34, go_sem]) rfl ⟨⟨_, rfl⟩, _, _, _, unhide N6, unhide D6, limbs_nrm _, unhide EQ, unhide LN, unhide K6, unhide TL6⟩
  · have hle' : val xs ≤ val ys := by omega
    have hd : decide (cmpI (val xs) (val ys) < 0) = true := decide_eq_true (by unfold cmpI; rw [if_pos (by omega)]; omega)
    have hd' : cmpI (val xs) (val ys) < 0 := of_decide_eq_true hd
    go_enter Try.func34, Try.ntmps34
    go_wp2_with fail
    go_quiet (fail)
    go_upto_region 2 with fail
    refine wp_region_held_drew (S := (fun _ => True)) (by kernel_rfl) ?_ (fun hHeld => ?_)
    · trivial
    refine wpAnyH_take (i := 0) (oi := _) (v := .pointer (some ⟨g1, 0, none⟩)) rfl (by kernel_rfl) (by kernel_rfl) (by kernel_rfl) (fun _ _ _ h => h) (Or.inl ⟨by rfl, ?_⟩) hHeld ?_
    · intro wq hSw
      try dsimp only at hSw
      go_simp
    try simp only [Act.put, List.getElem_toArray, List.getElem_cons_succ, List.getElem_cons_zero, List.setIfInBounds_toArray, List.set_cons_zero, List.set_cons_succ]
    refine wpAnyH_take (i := 1) (oi := _) (v := .pointer (some ⟨g1, 0, none⟩)) rfl (by kernel_rfl) (by kernel_rfl) (by kernel_rfl) (fun _ _ _ h => h) (Or.inl ⟨by rfl, ?_⟩) hHeld ?_
    · intro wq hSw
      try dsimp only at hSw
      go_simp
    try simp only [Act.put, List.getElem_toArray, List.getElem_cons_succ, List.getElem_cons_zero, List.setIfInBounds_toArray, List.set_cons_zero, List.set_cons_succ]
    refine wpAnyH_take (i := 2) (oi := _) (v := .pointer (some ⟨g1, 0, none⟩)) rfl (by kernel_rfl) (by kernel_rfl) (by kernel_rfl) (fun _ _ _ h => h) (Or.inl ⟨by rfl, ?_⟩) hHeld ?_
    · intro wq hSw
      try dsimp only at hSw
      go_simp
    try simp only [Act.put, List.getElem_toArray, List.getElem_cons_succ, List.getElem_cons_zero, List.setIfInBounds_toArray, List.set_cons_zero, List.set_cons_succ]
    refine wpAnyH_take (i := 3) (oi := _) (v := .pointer (some ⟨g2, 0, none⟩)) rfl (by kernel_rfl) (by kernel_rfl) (by kernel_rfl) (fun _ _ _ h => h) (Or.inl ⟨by rfl, ?_⟩) hHeld ?_
    · intro wq hSw
      try dsimp only at hSw
      go_simp
    try simp only [Act.put, List.getElem_toArray, List.getElem_cons_succ, List.getElem_cons_zero, List.setIfInBounds_toArray, List.set_cons_zero, List.set_cons_succ]
    refine wpAnyH_take (i := 4) (oi := _) (v := .pointer (some ⟨g2, 0, none⟩)) rfl (by kernel_rfl) (by kernel_rfl) (by kernel_rfl) (fun _ _ _ h => h) (Or.inl ⟨by rfl, ?_⟩) hHeld ?_
    · intro wq hSw
      try dsimp only at hSw
      go_simp
    try simp only [Act.put, List.getElem_toArray, List.getElem_cons_succ, List.getElem_cons_zero, List.setIfInBounds_toArray, List.set_cons_zero, List.set_cons_succ]
    refine wpAnyH_take (i := 5) (oi := _) (v := .pointer (some ⟨g2, 0, none⟩)) rfl (by kernel_rfl) (by kernel_rfl) (by kernel_rfl) (fun _ _ _ h => h) (Or.inl ⟨by rfl, ?_⟩) hHeld ?_
    · intro wq hSw
      try dsimp only at hSw
      go_simp
    try simp only [Act.put, List.getElem_toArray, List.getElem_cons_succ, List.getElem_cons_zero, List.setIfInBounds_toArray, List.set_cons_zero, List.set_cons_succ]
    refine wpAnyH_ready (rs := [6]) (by kernel_rfl) (by simp) ?_
    refine AllReadyH.cons rfl (fun KK hK => ?_) AllReadyH.nil
    simp only [List.getElem_toArray, List.getElem_cons_succ, List.getElem_cons_zero]
    rw [if_pos (by rfl)]
    refine wps2 30 (.tmp 22) (.tmp 25) _ rfl in_compare (.pointer (some ⟨g1, 0, none⟩)) (.pointer (some ⟨g2, 0, none⟩)) rfl rfl (compare_impl _ (((unhide T).kept ((Kept.refl 0 0 w).drewN _)).kept (Kept.refl 0 0 _).drew).n1 (((unhide T).kept ((Kept.refl 0 0 w).drewN _)).kept (Kept.refl 0 0 _).drew).n2 hx hy) ?_
    rintro e w5 ⟨rfl, k5⟩
    refine ⟨_, rfl, ?_⟩
    have T5 := hide ((((unhide T).kept ((Kept.refl 0 0 w).drewN _)).kept (Kept.refl 0 0 _).drew).kept k5)
    have E1 := hide ((((unhide SS).d1.kept ((Kept.refl 0 0 w).drewN _)).kept (Kept.refl 0 0 _).drew).kept k5)
    have E2 := hide ((((unhide SS).d2.kept ((Kept.refl 0 0 w).drewN _)).kept (Kept.refl 0 0 _).drew).kept k5)
    have SD5 : Hid (SameSide g1 w w5) := k5.side (unhide SS).d1.lt
    clear k5 hc1 hc2
    clear hHeld
    refine hK.out _ _ ?_ (fun hHeld => ?_)
    · trivial
    clear hK KK
    try simp only [Act.put, List.getElem_toArray, List.getElem_cons_succ, List.getElem_cons_zero, List.setIfInBounds_toArray, List.set_cons_zero, List.set_cons_succ]
    refine wpAnyH_take (i := 7) (oi := _) (v := .bool true) rfl (by kernel_rfl) (by kernel_rfl) (by kernel_rfl) (fun _ _ _ h => h) (Or.inl ⟨by rfl, ?_⟩) hHeld ?_
    · intro wq hSw
      try dsimp only at hSw
      go_simp
    try simp only [Act.put, List.getElem_toArray, List.getElem_cons_succ, List.getElem_cons_zero, List.setIfInBounds_toArray, List.set_cons_zero, List.set_cons_succ]
    refine wpAnyH_done (by kernel_rfl) ?_ _
    clear hHeld
    clear hd hd'
    go_wp2_with fail
    refine (subtractFrom_impl (unhide T5) hx hy ny hle').mono ?_
    rintro e w6 ⟨⟨r6, rfl⟩, ⟨u6, n6⟩, sd6, m6⟩
    have D1 := hide ((unhide E1).same sd6)
    have D2 := hide ((unhide E2).same (m6.side (unhide E2).lt (fun e => (unhide T5).ne e.symm)))
    have hc1 := (unhide D1).1
    have hf1 := (unhide D1).2
    have hc2 := (unhide D2).1
    have N6 := hide ((n6.less (unhide T5).k.size).side (.bool s2))
    have D6 := hide ((unhide D1).set s2)
    have K6 := hide (((unhide T5).k.mod m6 (fun i e => by rw [e]; exact (unhide T5).b1)).setNew (p := ⟨g1, 1, none⟩) (unhide T5).b1 (.bool s2))
    have EQ : Hid (wval s2 (limbs (val ys - val xs).toNat) = wval s1 xs + wval s2 ys) := sub_sgn' (unhide HNE) hle'
    have LN : Hid ((limbs (val ys - val xs).toNat).length ≤ 1000000) := add_len hx.1 hy.1 nx ny _ (by omega)
    have TL6 : Hid (SameTail g1 w (w6.setCell ⟨g1, 1, none⟩ (.bool s2))) := ((unhide SD5).trans sd6).tail.set1 _
    clear n6 sd6 m6
    go_wp2_with fail
    exact bodyPost_ret (v := .tuple #[]) (by simp [results, Try.results34, go_sem]) rfl ⟨⟨_, rfl⟩, _, _, _, unhide N6, unhide D6, limbs_nrm _, unhide EQ, unhide LN, unhide K6, unhide TL6⟩

theorem addSigned_impl {w0 w : World} {g1 g2 : Nat} {s1 s2 : Bool} {xs ys : List Int} (S : Sig2 w0 w g1 g2 s1 xs s2 ys) (hx : Nrm xs) (hy : Nrm ys) (nx : xs.length ≤ 100000) (ny : ys.length ≤ 100000) :
    Calls Try.prog 34 #[.pointer (some ⟨g1, 0, none⟩), .pointer (some ⟨g2, 0, none⟩)] w fun e w' => (∃ r, e = .returned r) ∧ ∃ u s zs, Num w0.heap.size w' g1 u zs ∧ Sd w' g1 s ∧ Nrm zs ∧ wval s zs = wval s1 xs + wval s2 ys ∧ zs.length ≤ 1000000 ∧ Kept 0 0 w0 w' :=
  (addSigned_tail S hx hy nx ny).mono fun _ _ ⟨a, u, s, zs, b, c, d, e, f, g, _⟩ => ⟨a, u, s, zs, b, c, d, e, f, g⟩

set_option maxHeartbeats 4000000 in
theorem compareSigned_wn {w0 w : World} {g1 g2 : Nat} {s1 s2 : Bool} {xs ys : List Int} (S : Sig2 w0 w g1 g2 s1 xs s2 ys) (o1 : WN s1 xs) (o2 : WN s2 ys) :
    Calls Try.prog 40 #[.pointer (some ⟨g1, 0, none⟩), .pointer (some ⟨g2, 0, none⟩)] w fun e w' => e = .returned (.int .i64 (cmpI (wval s1 xs) (wval s2 ys))) ∧ Kept 0 0 w w' := by
  obtain ⟨x1, x2, hx⟩ := o1.int
  obtain ⟨y1, y2, hy⟩ := o2.int
  have nx := val_nonneg hx.1
  have ny := val_nonneg hy.1
  obtain ⟨u1, u2, t⟩ := S.two
  have b1 := isBelow_impl w t.n1 S.d1
  have b2 := isBelow_impl w t.n2 S.d2
  have e1 : (s1 && decide (0 < xs.length)) = s1 := by
    cases s1
    · rfl
    · exact decide_eq_true (o1.2 rfl)
  have e2 : (s2 && decide (0 < ys.length)) = s2 := by
    cases s2
    · rfl
    · exact decide_eq_true (o2.2 rfl)
  rw [e1] at b1
  rw [e2] at b2
  have T := hide t
  have B1 := hide b1
  have B2 := hide b2
  clear S t b1 b2 x2 y2 e1 e2 o1 o2
  cases s1 <;> cases s2
  · have e : cmpI (wval false xs) (wval false ys) = cmpI (val xs) (val ys) := by simp [wval]
    rw [e]
    clear x1 y1 e
    go_enter Try.func40, Try.ntmps40
    go_wp2_with (first | (go_at_call_of 54 (Value.pointer (some ⟨g1, 0, none⟩)); refine (unhide B1).mono ?_; rintro e w' ⟨rfl, rfl⟩) | (go_at_call_of 54 (Value.pointer (some ⟨g2, 0, none⟩)); refine (unhide B2).mono ?_; rintro e w' ⟨rfl, rfl⟩))
    refine wp_region_held_drew (S := (fun _ => True)) (by kernel_rfl) ?_ (fun hHeld => ?_)
    · trivial
    refine wpAnyH_take (i := 0) (oi := _) (v := .pointer (some ⟨g1, 0, none⟩)) rfl (by kernel_rfl) (by kernel_rfl) (by kernel_rfl) (fun _ _ _ h => h) (Or.inl ⟨by rfl, ?_⟩) hHeld ?_
    · intro wq hSw
      try dsimp only at hSw
      go_simp
    try simp only [Act.put, List.getElem_toArray, List.getElem_cons_succ, List.getElem_cons_zero, List.setIfInBounds_toArray, List.set_cons_zero, List.set_cons_succ]
    refine wpAnyH_take (i := 1) (oi := _) (v := .pointer (some ⟨g1, 0, none⟩)) rfl (by kernel_rfl) (by kernel_rfl) (by kernel_rfl) (fun _ _ _ h => h) (Or.inl ⟨by rfl, ?_⟩) hHeld ?_
    · intro wq hSw
      try dsimp only at hSw
      go_simp
    try simp only [Act.put, List.getElem_toArray, List.getElem_cons_succ, List.getElem_cons_zero, List.setIfInBounds_toArray, List.set_cons_zero, List.set_cons_succ]
    refine wpAnyH_take (i := 2) (oi := _) (v := .pointer (some ⟨g1, 0, none⟩)) rfl (by kernel_rfl) (by kernel_rfl) (by kernel_rfl) (fun _ _ _ h => h) (Or.inl ⟨by rfl, ?_⟩) hHeld ?_
    · intro wq hSw
      try dsimp only at hSw
      go_simp
    try simp only [Act.put, List.getElem_toArray, List.getElem_cons_succ, List.getElem_cons_zero, List.setIfInBounds_toArray, List.set_cons_zero, List.set_cons_succ]
    refine wpAnyH_take (i := 3) (oi := _) (v := .pointer (some ⟨g2, 0, none⟩)) rfl (by kernel_rfl) (by kernel_rfl) (by kernel_rfl) (fun _ _ _ h => h) (Or.inl ⟨by rfl, ?_⟩) hHeld ?_
    · intro wq hSw
      try dsimp only at hSw
      go_simp
    try simp only [Act.put, List.getElem_toArray, List.getElem_cons_succ, List.getElem_cons_zero, List.setIfInBounds_toArray, List.set_cons_zero, List.set_cons_succ]
    refine wpAnyH_take (i := 4) (oi := _) (v := .pointer (some ⟨g2, 0, none⟩)) rfl (by kernel_rfl) (by kernel_rfl) (by kernel_rfl) (fun _ _ _ h => h) (Or.inl ⟨by rfl, ?_⟩) hHeld ?_
    · intro wq hSw
      try dsimp only at hSw
      go_simp
    try simp only [Act.put, List.getElem_toArray, List.getElem_cons_succ, List.getElem_cons_zero, List.setIfInBounds_toArray, List.set_cons_zero, List.set_cons_succ]
    refine wpAnyH_take (i := 5) (oi := _) (v := .pointer (some ⟨g2, 0, none⟩)) rfl (by kernel_rfl) (by kernel_rfl) (by kernel_rfl) (fun _ _ _ h => h) (Or.inl ⟨by rfl, ?_⟩) hHeld ?_
    · intro wq hSw
      try dsimp only at hSw
      go_simp
    try simp only [Act.put, List.getElem_toArray, List.getElem_cons_succ, List.getElem_cons_zero, List.setIfInBounds_toArray, List.set_cons_zero, List.set_cons_succ]
    refine wpAnyH_ready (rs := [6]) (by kernel_rfl) (by simp) ?_
    refine AllReadyH.cons rfl (fun KK hK => ?_) AllReadyH.nil
    simp only [List.getElem_toArray, List.getElem_cons_succ, List.getElem_cons_zero]
    rw [if_pos (by rfl)]
    refine wps2 30 (.tmp 27) (.tmp 30) _ rfl in_compare (.pointer (some ⟨g1, 0, none⟩)) (.pointer (some ⟨g2, 0, none⟩)) rfl rfl (compare_impl _ ((unhide T).kept (Kept.refl 0 0 _).drew).n1 ((unhide T).kept (Kept.refl 0 0 _).drew).n2 hx hy) ?_
    rintro e w5 ⟨rfl, k5⟩
    refine ⟨_, rfl, ?_⟩
    have K5 := hide ((Kept.refl 0 0 _).drew.trans k5)
    clear k5
    clear hHeld
    refine hK.out _ _ ?_ (fun hHeld => ?_)
    · trivial
    clear hK KK
    try simp only [Act.put, List.getElem_toArray, List.getElem_cons_succ, List.getElem_cons_zero, List.setIfInBounds_toArray, List.set_cons_zero, List.set_cons_succ]
    refine wpAnyH_take (i := 7) (oi := _) (v := .int .i64 (cmpI (val xs) (val ys))) rfl (by kernel_rfl) (by kernel_rfl) (by kernel_rfl) (fun _ _ _ h => h) (Or.inl ⟨by rfl, ?_⟩) hHeld ?_
    · intro wq hSw
      try dsimp only at hSw
      go_simp
    try simp only [Act.put, List.getElem_toArray, List.getElem_cons_succ, List.getElem_cons_zero, List.setIfInBounds_toArray, List.set_cons_zero, List.set_cons_succ]
    refine wpAnyH_done (by kernel_rfl) ?_ _
    clear hHeld
    go_wp2
    go_ret
    exact ⟨rfl, unhide K5⟩
  · have e : cmpI (wval false xs) (wval true ys) = 1 := by simp [wval] at y1 ⊢; unfold cmpI; rw [if_neg (by omega), if_pos (by omega)]
    rw [e]
    clear x1 y1 e
    go_enter Try.func40, Try.ntmps40
    go_wp2_with (first | (go_at_call_of 54 (Value.pointer (some ⟨g1, 0, none⟩)); refine (unhide B1).mono ?_; rintro e w' ⟨rfl, rfl⟩) | (go_at_call_of 54 (Value.pointer (some ⟨g2, 0, none⟩)); refine (unhide B2).mono ?_; rintro e w' ⟨rfl, rfl⟩))
    go_ret
    exact ⟨rfl, Kept.refl 0 0 _⟩
  · have e : cmpI (wval true xs) (wval false ys) = -1 := by simp [wval] at x1 ⊢; unfold cmpI; rw [if_pos (by omega)]
    rw [e]
    clear x1 y1 e
    go_enter Try.func40, Try.ntmps40
    go_wp2_with (first | (go_at_call_of 54 (Value.pointer (some ⟨g1, 0, none⟩)); refine (unhide B1).mono ?_; rintro e w' ⟨rfl, rfl⟩) | (go_at_call_of 54 (Value.pointer (some ⟨g2, 0, none⟩)); refine (unhide B2).mono ?_; rintro e w' ⟨rfl, rfl⟩))
    go_ret
    exact ⟨rfl, Kept.refl 0 0 _⟩
  · have e : cmpI (wval true xs) (wval true ys) = cmpI (val ys) (val xs) := by simp [wval]; unfold cmpI; split <;> split <;> (try split) <;> (try split) <;> omega
    rw [e]
    clear x1 y1 e
    go_enter Try.func40, Try.ntmps40
    go_wp2_with (first | (go_at_call_of 54 (Value.pointer (some ⟨g1, 0, none⟩)); refine (unhide B1).mono ?_; rintro e w' ⟨rfl, rfl⟩) | (go_at_call_of 54 (Value.pointer (some ⟨g2, 0, none⟩)); refine (unhide B2).mono ?_; rintro e w' ⟨rfl, rfl⟩))
    refine wp_region_held_drew (S := (fun _ => True)) (by kernel_rfl) ?_ (fun hHeld => ?_)
    · trivial
    refine wpAnyH_take (i := 0) (oi := _) (v := .pointer (some ⟨g2, 0, none⟩)) rfl (by kernel_rfl) (by kernel_rfl) (by kernel_rfl) (fun _ _ _ h => h) (Or.inl ⟨by rfl, ?_⟩) hHeld ?_
    · intro wq hSw
      try dsimp only at hSw
      go_simp
    try simp only [Act.put, List.getElem_toArray, List.getElem_cons_succ, List.getElem_cons_zero, List.setIfInBounds_toArray, List.set_cons_zero, List.set_cons_succ]
    refine wpAnyH_take (i := 1) (oi := _) (v := .pointer (some ⟨g2, 0, none⟩)) rfl (by kernel_rfl) (by kernel_rfl) (by kernel_rfl) (fun _ _ _ h => h) (Or.inl ⟨by rfl, ?_⟩) hHeld ?_
    · intro wq hSw
      try dsimp only at hSw
      go_simp
    try simp only [Act.put, List.getElem_toArray, List.getElem_cons_succ, List.getElem_cons_zero, List.setIfInBounds_toArray, List.set_cons_zero, List.set_cons_succ]
    refine wpAnyH_take (i := 2) (oi := _) (v := .pointer (some ⟨g2, 0, none⟩)) rfl (by kernel_rfl) (by kernel_rfl) (by kernel_rfl) (fun _ _ _ h => h) (Or.inl ⟨by rfl, ?_⟩) hHeld ?_
    · intro wq hSw
      try dsimp only at hSw
      go_simp
    try simp only [Act.put, List.getElem_toArray, List.getElem_cons_succ, List.getElem_cons_zero, List.setIfInBounds_toArray, List.set_cons_zero, List.set_cons_succ]
    refine wpAnyH_take (i := 3) (oi := _) (v := .pointer (some ⟨g1, 0, none⟩)) rfl (by kernel_rfl) (by kernel_rfl) (by kernel_rfl) (fun _ _ _ h => h) (Or.inl ⟨by rfl, ?_⟩) hHeld ?_
    · intro wq hSw
      try dsimp only at hSw
      go_simp
    try simp only [Act.put, List.getElem_toArray, List.getElem_cons_succ, List.getElem_cons_zero, List.setIfInBounds_toArray, List.set_cons_zero, List.set_cons_succ]
    refine wpAnyH_take (i := 4) (oi := _) (v := .pointer (some ⟨g1, 0, none⟩)) rfl (by kernel_rfl) (by kernel_rfl) (by kernel_rfl) (fun _ _ _ h => h) (Or.inl ⟨by rfl, ?_⟩) hHeld ?_
    · intro wq hSw
      try dsimp only at hSw
      go_simp
    try simp only [Act.put, List.getElem_toArray, List.getElem_cons_succ, List.getElem_cons_zero, List.setIfInBounds_toArray, List.set_cons_zero, List.set_cons_succ]
    refine wpAnyH_take (i := 5) (oi := _) (v := .pointer (some ⟨g1, 0, none⟩)) rfl (by kernel_rfl) (by kernel_rfl) (by kernel_rfl) (fun _ _ _ h => h) (Or.inl ⟨by rfl, ?_⟩) hHeld ?_
    · intro wq hSw
      try dsimp only at hSw
      go_simp
    try simp only [Act.put, List.getElem_toArray, List.getElem_cons_succ, List.getElem_cons_zero, List.setIfInBounds_toArray, List.set_cons_zero, List.set_cons_succ]
    refine wpAnyH_ready (rs := [6]) (by kernel_rfl) (by simp) ?_
    refine AllReadyH.cons rfl (fun KK hK => ?_) AllReadyH.nil
    simp only [List.getElem_toArray, List.getElem_cons_succ, List.getElem_cons_zero]
    rw [if_pos (by rfl)]
    refine wps2 30 (.tmp 14) (.tmp 17) _ rfl in_compare (.pointer (some ⟨g2, 0, none⟩)) (.pointer (some ⟨g1, 0, none⟩)) rfl rfl (compare_impl _ ((unhide T).kept (Kept.refl 0 0 _).drew).n2 ((unhide T).kept (Kept.refl 0 0 _).drew).n1 hy hx) ?_
    rintro e w5 ⟨rfl, k5⟩
    refine ⟨_, rfl, ?_⟩
    have K5 := hide ((Kept.refl 0 0 _).drew.trans k5)
    clear k5
    clear hHeld
    refine hK.out _ _ ?_ (fun hHeld => ?_)
    · trivial
    clear hK KK
    try simp only [Act.put, List.getElem_toArray, List.getElem_cons_succ, List.getElem_cons_zero, List.setIfInBounds_toArray, List.set_cons_zero, List.set_cons_succ]
    refine wpAnyH_take (i := 7) (oi := _) (v := .int .i64 (cmpI (val ys) (val xs))) rfl (by kernel_rfl) (by kernel_rfl) (by kernel_rfl) (fun _ _ _ h => h) (Or.inl ⟨by rfl, ?_⟩) hHeld ?_
    · intro wq hSw
      try dsimp only at hSw
      go_simp
    try simp only [Act.put, List.getElem_toArray, List.getElem_cons_succ, List.getElem_cons_zero, List.setIfInBounds_toArray, List.set_cons_zero, List.set_cons_succ]
    refine wpAnyH_done (by kernel_rfl) ?_ _
    clear hHeld
    go_wp2
    go_ret
    exact ⟨rfl, unhide K5⟩

theorem compareSigned_impl {w0 w : World} {g1 g2 : Nat} {s1 s2 : Bool} {xs ys : List Int} (S : Sig2 w0 w g1 g2 s1 xs s2 ys) (o1 : wokB s1 xs = true) (o2 : wokB s2 ys = true) :
    Calls Try.prog 40 #[.pointer (some ⟨g1, 0, none⟩), .pointer (some ⟨g2, 0, none⟩)] w fun e w' => e = .returned (.int .i64 (cmpI (wval s1 xs) (wval s2 ys))) ∧ Kept 0 0 w w' :=
  compareSigned_wn S (wok_wn o1) (wok_wn o2)

set_option maxHeartbeats 4000000 in
theorem signedOfInt_impl (n : Int) (hn1 : n ≤ 9223372036854775807) (hn0 : -9223372036854775808 ≤ n) (w : World) :
    Calls Try.prog 38 #[.int .i64 n] w fun e w' => ∃ v', e = .returned (.agg #[v', .bool (wsg n)]) ∧ w'.ownsRow w.heap.size 3 1 v' (wlm n).length ((wlm n).map (Value.int .i64)) ∧ Kept 0 0 w w' := by
  obtain ⟨zz, hzz⟩ : ∃ zz, zz = wlm n := ⟨_, rfl⟩
  obtain ⟨ss, hss⟩ : ∃ ss, ss = wsg n := ⟨_, rfl⟩
  rw [← hzz, ← hss]
  have HZ := hide hzz
  have HS := hide hss
  clear hzz hss
  have k0 : Kept 0 0 w (w.alloc (.cells #[.slice none 0 0, .bool false] 55)) := ((Kept.refl 0 0 w).alloc (.cells #[.slice none 0 0, .bool false] 55))
  have q0 : (w.alloc (.cells #[.slice none 0 0, .bool false] 55)).cell? ⟨w.heap.size, 0, none⟩ = some (.slice none 0 0) := new_cell2 _ _ _ _ _ _ (by simp) rfl
  have qf0 : (w.alloc (.cells #[.slice none 0 0, .bool false] 55)).frozen? ⟨w.heap.size, 0, none⟩ = false := new_loose2 _ _ _ _ _ (by simp)
  have q1 : (w.alloc (.cells #[.slice none 0 0, .bool false] 55)).cell? ⟨w.heap.size, 1, none⟩ = some (.bool false) := new_cell2 _ _ _ _ _ _ (by simp) rfl
  have qf1 : (w.alloc (.cells #[.slice none 0 0, .bool false] 55)).frozen? ⟨w.heap.size, 1, none⟩ = false := new_loose2 _ _ _ _ _ (by simp)
  have s0 : (w.alloc (.cells #[.slice none 0 0, .bool false] 55)).heap.size = w.heap.size + 1 := by simp
  have K := hide (k0)
  clear k0
  have S0 := hide s0
  clear s0
  by_cases h : n < 0
  · have h0 := limbs_int_length (-(n + 1)) (by omega)
    have h1 := limbs_int_length 1 (by omega)
    have hm : -(n + 1) ≤ 9223372036854775807 := by omega
    have HSS : Hid (ss = true) := by show _ = _; rw [unhide HS]; unfold wsg; simp; omega
    have hzz : zz = limbs (val (limbs (-(n + 1)).toNat) + val (limbs (1 : Int).toNat)).toNat := by rw [unhide HZ]; unfold wlm; rw [limbs_val, limbs_val]; congr 1; omega
    have HZZ := hide hzz
    clear hzz
    go_enter Try.func38, Try.ntmps38
    go_wp2_with fail
    generalize (w.alloc (.cells #[.slice none 0 0, .bool false] 55)) = W at *
    have KW := Kept.refl 0 0 W
    have QW := hide (And.intro q0 (And.intro q1 (And.intro qf0 qf1)))
    have KW0 := hide (unhide K)
    refine (limbsOfInt_impl _ (-(n + 1)) hm).mono ?_
    rintro e w1 ⟨v3, rfl, o3, k1⟩
    replace KW := KW.trans k1
    replace qf0 := k1.loose0 (World.block_lt_of_cell? _ _ q0) qf0
    replace qf1 := k1.loose0 (World.block_lt_of_cell? _ _ q1) qf1
    replace q0 := k1.cell0 q0
    replace q1 := k1.cell0 q1
    replace K := hide ((unhide K).trans k1)
    have z2 := k1.size
    clear k1
    generalize hzx : limbs (-(n + 1)).toNat = xs at *
    obtain ⟨a3, c3, hv⟩ := own_slice o3
    subst hv
    have k4 := (Kept.refl 0 0 w1).alloc (.cells #[.slice a3 xs.length c3, .bool true] 55)
    have n3 : Num W.heap.size (w1.alloc (.cells #[.slice a3 xs.length c3, .bool true] 55)) w1.heap.size (.slice a3 xs.length c3) xs := ⟨new_cell2 _ _ _ _ _ _ rfl rfl, new_loose2 _ _ _ _ _ rfl, own_kept o3 k4, fun e => by have := (o3.lt _ e).2; omega⟩
    have d3 : Sd (w1.alloc (.cells #[.slice a3 xs.length c3, .bool true] 55)) w1.heap.size true := ⟨new_cell2 _ _ _ _ _ _ rfl rfl, new_loose2 _ _ _ _ _ rfl⟩
    replace KW := KW.trans k4
    replace qf0 := k4.loose0 (World.block_lt_of_cell? _ _ q0) qf0
    replace qf1 := k4.loose0 (World.block_lt_of_cell? _ _ q1) qf1
    replace q0 := k4.cell0 q0
    replace q1 := k4.cell0 q1
    replace K := hide ((unhide K).trans k4)
    have z3 := k4.size
    have z4 : w1.heap.size < (w1.alloc (.cells #[.slice a3 xs.length c3, .bool true] 55)).heap.size := by simp
    clear k4
    go_wp2_with fail
    generalize w1.alloc (.cells #[.slice a3 xs.length c3, .bool true] 55) = W4 at *
    refine (limbsOfInt_impl _ 1 (by omega)).mono ?_
    rintro e w4 ⟨v5, rfl, o5, k4⟩
    replace KW := KW.trans k4
    replace n3 := n3.kept k4
    replace d3 := d3.kept k4
    replace qf0 := k4.loose0 (World.block_lt_of_cell? _ _ q0) qf0
    replace qf1 := k4.loose0 (World.block_lt_of_cell? _ _ q1) qf1
    replace q0 := k4.cell0 q0
    replace q1 := k4.cell0 q1
    replace K := hide ((unhide K).trans k4)
    have z5 := k4.size
    clear k4
    generalize hyy : limbs (1 : Int).toNat = ys at *
    obtain ⟨a5, c5, hv⟩ := own_slice o5
    subst hv
    have k6 := (Kept.refl 0 0 w4).alloc (.cells #[.slice a5 ys.length c5] 48)
    have n5 : Num W4.heap.size (w4.alloc (.cells #[.slice a5 ys.length c5] 48)) w4.heap.size (.slice a5 ys.length c5) ys := Num.new _ o5
    replace KW := KW.trans k6
    replace n3 := n3.kept k6
    replace d3 := d3.kept k6
    replace qf0 := k6.loose0 (World.block_lt_of_cell? _ _ q0) qf0
    replace qf1 := k6.loose0 (World.block_lt_of_cell? _ _ q1) qf1
    replace q0 := k6.cell0 q0
    replace q1 := k6.cell0 q1
    replace K := hide ((unhide K).trans k6)
    have z6 := k6.size
    clear k6
    have l3 := o3.lt
    have l5 := o5.lt
    have hnx : Nrm xs := by rw [← hzx]; exact limbs_nrm _
    have hny : Nrm ys := by rw [← hyy]; exact limbs_nrm _
    have t5 : Two W (w4.alloc (.cells #[.slice a5 ys.length c5] 48)) w1.heap.size w4.heap.size (.slice a3 xs.length c3) (.slice a5 ys.length c5) xs ys := ⟨n3, n5.less (by omega), by omega, fun e => by have := (l3 _ e).2; omega, fun e => by have := (l5 _ e).1; omega, fun k e1 e2 => by have := (l3 _ e1).2; have := (l5 _ e2).1; omega, KW, by omega, by omega⟩
    clear o3 o5 l3 l5 n3 n5
    go_wp2_with fail
    generalize w4.alloc (.cells #[.slice a5 ys.length c5] 48) = W6 at *
    refine (add_twoS ⟨_, _, t5.startS⟩ hnx hny (by omega) (by omega)).mono ?_
    rintro e w7 ⟨⟨r7, rfl⟩, u7, v7, t7⟩
    rw [← unhide HZZ] at t7
    have o7 := t7.n1.own
    have c70 := t7.n1.cell
    have D7 := d3.same t7.d1
    have c71 := D7.1
    have k7 := t7.k
    replace qf0 := k7.loose0 (World.block_lt_of_cell? _ _ (unhide QW).1) (unhide QW).2.2.1
    replace qf1 := k7.loose0 (World.block_lt_of_cell? _ _ (unhide QW).2.1) (unhide QW).2.2.2
    replace q0 := k7.cell0 (unhide QW).1
    replace q1 := k7.cell0 (unhide QW).2.1
    replace K := hide ((unhide KW0).trans k7)
    clear k7 KW KW0 QW t5 d3 D7 t7
    obtain ⟨a7, c7, hv⟩ := own_slice o7
    subst hv
    have hX1 : w1.heap.size ≠ w.heap.size := by have := unhide S0; omega
    have hX2 : w.heap.size ≠ w1.heap.size := by have := unhide S0; omega
    have ol := o7.lt
    have O := hide (own_less (own_apart (own_apart o7 (p := ⟨w.heap.size, 0, none⟩) (fun e => by have := (ol _ e).1; have := unhide S0; dsimp only at *; omega) (.slice a7 zz.length c7)) (p := ⟨w.heap.size, 1, none⟩) (fun e => by have := (ol _ e).1; have := unhide S0; dsimp only at *; omega) (.bool true)) (base' := w.heap.size) (by have := unhide S0; omega))
    have K7 := hide (((unhide K).setNew (p := ⟨w.heap.size, 0, none⟩) (by simp) (.slice a7 zz.length c7)).setNew (p := ⟨w.heap.size, 1, none⟩) (by simp) (.bool true))
    clear o7 ol K
    go_wp2_with fail
    exact bodyPost_ret (v := .agg #[.slice a7 zz.length c7, .bool true]) (by simp [results, Try.results38, go_sem, q0, q1]) rfl ⟨_, by rw [unhide HSS], unhide O, unhide K7⟩
  · have h0 := limbs_int_length n hn1
    have HSS : Hid (ss = false) := by show _ = _; rw [unhide HS]; unfold wsg; simp; omega
    have hzz : zz = limbs n.toNat := by rw [unhide HZ]; unfold wlm; congr 1; omega
    have HZZ := hide hzz
    clear hzz
    go_enter Try.func38, Try.ntmps38
    go_wp2_with fail
    generalize (w.alloc (.cells #[.slice none 0 0, .bool false] 55)) = W at *
    refine (limbsOfInt_impl _ n hn1).mono ?_
    rintro e w1 ⟨v3, rfl, o3, k1⟩
    replace qf0 := k1.loose0 (World.block_lt_of_cell? _ _ q0) qf0
    replace qf1 := k1.loose0 (World.block_lt_of_cell? _ _ q1) qf1
    replace q0 := k1.cell0 q0
    replace q1 := k1.cell0 q1
    replace K := hide ((unhide K).trans k1)
    have z2 := k1.size
    clear k1
    rw [← unhide HZZ] at o3
    obtain ⟨a3, c3, hv⟩ := own_slice o3
    subst hv
    have ol := o3.lt
    have O := hide (own_less (own_apart (own_apart o3 (p := ⟨w.heap.size, 0, none⟩) (fun e => by have := (ol _ e).1; have := unhide S0; dsimp only at *; omega) (.slice a3 zz.length c3)) (p := ⟨w.heap.size, 1, none⟩) (fun e => by have := (ol _ e).1; have := unhide S0; dsimp only at *; omega) (.bool false)) (base' := w.heap.size) (by have := unhide S0; omega))
    have K7 := hide (((unhide K).setNew (p := ⟨w.heap.size, 0, none⟩) (by simp) (.slice a3 zz.length c3)).setNew (p := ⟨w.heap.size, 1, none⟩) (by simp) (.bool false))
    clear o3 ol K
    go_wp2_with fail
    exact bodyPost_ret (v := .agg #[.slice a3 zz.length c3, .bool false]) (by simp [results, Try.results38, go_sem, q0, q1]) rfl ⟨_, by rw [unhide HSS], unhide O, unhide K7⟩

end Go.Proofs.Ytkdapefddhbjdaa

namespace Go.Proofs.Ytkdapefddhbjdaa
open Go.RowKit
set_option linter.unusedVariables false
set_option maxRecDepth 8000
set_option linter.unusedSimpArgs false

theorem put_sig {w : World} {X b : Nat} {u z p : Value} {xs : List Int} (s : Bool) (O : w.ownsRow b 3 1 u xs.length (xs.map (Value.int .i64)))
    (cX : w.cell? ⟨X, 0, none⟩ = some z) (dX : w.cell? ⟨X, 1, none⟩ = some p) (fX : w.frozen? ⟨X, 0, none⟩ = false) (gX : w.frozen? ⟨X, 1, none⟩ = false) (hu : u.ownBlock ≠ some X) :
    Num b ((w.setCell ⟨X, 0, none⟩ u).setCell ⟨X, 1, none⟩ (.bool s)) X u xs ∧ Sd ((w.setCell ⟨X, 0, none⟩ u).setCell ⟨X, 1, none⟩ (.bool s)) X s ∧ Mod (fun i => i = X) w ((w.setCell ⟨X, 0, none⟩ u).setCell ⟨X, 1, none⟩ (.bool s)) := by
  have a2 : (w.setCell ⟨X, 0, none⟩ u).cell? ⟨X, 1, none⟩ = some p := (side_set _ _ _).trans dX
  refine ⟨⟨(front_set _ _ _).trans (cell_on _ _ _ _ _ cX), by rw [frozen_set, frozen_set]; exact fX, own_apart (own_apart O (p := ⟨X, 0, none⟩) hu u) (p := ⟨X, 1, none⟩) hu _, hu⟩, ⟨by have := cell_set _ X 1 1 (.bool s) _ a2; simpa using this, by rw [frozen_set, frozen_set]; exact gX⟩, ?_⟩
  exact Mod.set (S := fun i => i = X) (Mod.set (S := fun i => i = X) (Mod.refl _ _) (p := ⟨X, 0, none⟩) (.inl rfl) _) (p := ⟨X, 1, none⟩) (.inl rfl) _
theorem sig_pair {w0 w4 : World} {X Y b1 b2 : Nat} {u1 u2 z1 z2 p1 p2 : Value} {xs ys : List Int} (s1 s2 : Bool) (hk : Kept 0 0 w0 w4) (O1 : w4.ownsRow b1 3 1 u1 xs.length (xs.map (Value.int .i64))) (O2 : w4.ownsRow b2 3 1 u2 ys.length (ys.map (Value.int .i64)))
    (cX : w4.cell? ⟨X, 0, none⟩ = some z1) (dX : w4.cell? ⟨X, 1, none⟩ = some p1) (fX : w4.frozen? ⟨X, 0, none⟩ = false) (gX : w4.frozen? ⟨X, 1, none⟩ = false)
    (cY : w4.cell? ⟨Y, 0, none⟩ = some z2) (dY : w4.cell? ⟨Y, 1, none⟩ = some p2) (fY : w4.frozen? ⟨Y, 0, none⟩ = false) (gY : w4.frozen? ⟨Y, 1, none⟩ = false)
    (hXY : X ≠ Y) (hX : w0.heap.size ≤ X) (hY : w0.heap.size ≤ Y) (hb1 : w0.heap.size ≤ b1) (hb2 : w0.heap.size ≤ b2)
    (h1X : u1.ownBlock ≠ some X) (h1Y : u1.ownBlock ≠ some Y) (h2X : u2.ownBlock ≠ some X) (h2Y : u2.ownBlock ≠ some Y) (h12 : ∀ k, u1.ownBlock = some k → u2.ownBlock ≠ some k) :
    Sig2 w0 ((((w4.setCell ⟨X, 0, none⟩ u1).setCell ⟨X, 1, none⟩ (.bool s1)).setCell ⟨Y, 0, none⟩ u2).setCell ⟨Y, 1, none⟩ (.bool s2)) X Y s1 xs s2 ys := by
  obtain ⟨n1, d1, m1⟩ := put_sig s1 O1 cX dX fX gX h1X
  have lY : Y < w4.heap.size := World.block_lt_of_cell? _ ⟨Y, 0, none⟩ cY
  obtain ⟨n2, d2, m2⟩ := put_sig s2 (m1.own O2 (fun i e e' => h2X (by rw [e, e']))) (m1.cellAt (fun e => hXY e.symm) cY) (m1.cellAt (fun e => hXY e.symm) dY) (m1.looseAt (fun e => hXY e.symm) lY fY) (m1.looseAt (fun e => hXY e.symm) lY gY) h2Y
  have n1' := n1.mod m2 hXY (fun i e e' => h1Y (by rw [e, e']))
  exact ⟨⟨u1, u2, n1'.less hb1, n2.less hb2, hXY, h1Y, h2X, h12, (hk.mod m1 (fun i e => by rw [e]; exact hX)).mod m2 (fun i e => by rw [e]; exact hY), hX, hY⟩, d1.same (m2.side d1.lt hXY), d2⟩

theorem in_signedOf : ∀ (w : World) (args : Array Value), (callFunc 33 args).run Try.prog w = .ok (.enter 33 args) w := enters Try.func33 (by decide) (fun h => by cases h)

theorem told_ans {c s : Bool} {x : Int} {zs : List Int} (hc : c = true) (hn : Nrm zs) (he : wval s zs = x) :
    (decide (zs.length ≤ 100) && (s && decide (0 < zs.length))) = ansWS c x ∧ decide (zs.length ≤ 100) = ansWB c x ∧ tell zs = ansWL c x := by
  have e1 : wlm x = zs := by rw [← he, wlm_wval s hn.1, ← nrm_limbs hn]
  have e2 : wsg x = (s && decide (0 < zs.length)) := by
    have := wsg_wval s (val zs).toNat
    rw [← nrm_limbs hn, he] at this
    exact this
  unfold ansWS ansWL
  rw [ansWB_yes hc, e1, e2]
  refine ⟨rfl, rfl, ?_⟩
  unfold tell
  by_cases h : zs.length ≤ 100
  · rw [if_pos h, decide_eq_true h, if_pos rfl]
  · rw [if_neg h, decide_eq_false h, if_neg (by simp)]

end Go.Proofs.Ytkdapefddhbjdaa
