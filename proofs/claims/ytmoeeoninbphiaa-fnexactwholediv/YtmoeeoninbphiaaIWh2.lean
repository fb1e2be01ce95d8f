/-
  The program's methods turnSign, multiplySigned, subtractFrom, addSigned, compareSigned of numbers with a sign; signedOfInt.
-/
import Derived.Test.YtmoeeoninbphiaaBH
import Derived.Test.YtmoeeoninbphiaaINat26
import Derived.Deep.QuietTactic
import Derived.BigQuiet
import Derived.BigRegion
namespace Go.Proofs.Ytmoeeoninbphiaa
open Go.RowKit
set_option linter.unusedVariables false
set_option maxRecDepth 8000
set_option linter.unusedSimpArgs false

theorem front_set (w : World) (g : Nat) (u : Value) : (w.setCell ⟨g, 1, none⟩ u).cell? ⟨g, 0, none⟩ = w.cell? ⟨g, 0, none⟩ := by
  unfold World.cell? World.setCell
  simp only [Array.getElem?_modify]
  cases hb : w.heap[g]? with
  | none => simp
  | some b => cases b <;> simp
theorem Num.side {b g : Nat} {w : World} {v : Value} {zs : List Int} (h : Num b w g v zs) (u : Value) : Num b (w.setCell ⟨g, 1, none⟩ u) g v zs :=
  ⟨(front_set w g u).trans h.cell, by rw [frozen_set]; exact h.loose, own_apart h.own (p := ⟨g, 1, none⟩) h.apart u, h.apart⟩
theorem Sd.set {w : World} {g : Nat} {s : Bool} (h : Sd w g s) (t : Bool) : Sd (w.setCell ⟨g, 1, none⟩ (.bool t)) g t :=
  ⟨by have := cell_set w g 1 1 (.bool t) (.bool s) h.1; simpa using this, by rw [frozen_set]; exact h.2⟩

theorem in_add : ∀ (w : World) (args : Array Value), (callFunc 36 args).run Try.prog w = .ok (.enter 36 args) w := enters Try.func36 (by decide) (fun h => by cases h)

theorem in_subtract : ∀ (w : World) (args : Array Value), (callFunc 55 args).run Try.prog w = .ok (.enter 55 args) w := enters Try.func55 (by decide) (fun h => by cases h)

theorem in_subtractFrom : ∀ (w : World) (args : Array Value), (callFunc 37 args).run Try.prog w = .ok (.enter 37 args) w := enters Try.func37 (by decide) (fun h => by cases h)

theorem in_copied : ∀ (w : World) (args : Array Value), (callFunc 48 args).run Try.prog w = .ok (.enter 48 args) w := enters Try.func48 (by decide) (fun h => by cases h)

theorem own_base {w : World} {b b' n : Nat} {e : TypeId} {v : Value} {xs : List Value} (h : w.ownsRow b e 1 v n xs) (hb : ∀ i, v.ownBlock = some i → b' ≤ i) : w.ownsRow b' e 1 v n xs := by
  refine ⟨h.1, ?_⟩
  rcases h.2 with hn | ⟨g, cap, cur, rfl, h1, rest⟩
  · exact .inl hn
  · exact .inr ⟨g, cap, cur, rfl, hb g rfl, rest⟩
/-- Two numbers with signs, apart, newer than w0. -/
structure Sig2 (w0 w : World) (g1 g2 : Nat) (s1 : Bool) (xs : List Int) (s2 : Bool) (ys : List Int) : Prop where
  two : ∃ u1 u2, Two w0 w g1 g2 u1 u2 xs ys
  d1 : Sd w g1 s1
  d2 : Sd w g2 s2

set_option maxHeartbeats 2000000 in
theorem subtractFrom_impl {w0 w : World} {g1 g2 : Nat} {u1 u2 : Value} {xs ys : List Int} (t : Two w0 w g1 g2 u1 u2 xs ys) (hx : Nrm xs) (hy : Nrm ys) (hl1 : ys.length ≤ 100000) (hle : val xs ≤ val ys) :
    Calls Try.prog 37 #[.pointer (some ⟨g1, 0, none⟩), .pointer (some ⟨g2, 0, none⟩)] w fun e w' => (∃ r, e = .returned r) ∧ (∃ u, Num w.heap.size w' g1 u (limbs (val ys - val xs).toNat)) ∧ SameSide g1 w w' ∧ Mod (fun i => i = g1) w w' := by
  go_enter Try.func37, Try.ntmps37
  go_wp2_with fail
  refine (copied_impl _ t.n2 (by omega)).mono ?_
  rintro e w2 ⟨v2, rfl, o2, k2⟩
  have hl := o2.lt
  have n3 := Num.new 45 o2
  have kk := k2.alloc (.cells #[v2] 45)
  have lg := t.n1.lt
  have hs := k2.size
  have ht := t.k.size
  have t3 : Two w0 (w2.alloc (.cells #[v2] 45)) w2.heap.size g1 v2 u1 ys xs :=
    ⟨n3.less ht, t.n1.kept kk, by omega, fun e => by have := (hl _ e).1; omega, fun e => by have := (t.n1.own.lt _ e).2; omega, fun k e1 e2 => by have := (hl _ e1).1; have := (t.n1.own.lt _ e2).2; omega, t.k.trans kk, by omega, t.b1⟩
  obtain ⟨a2, c2, rfl⟩ := own_slice o2
  have ts := t3.startS
  have ob : ∀ i, (Value.slice a2 ys.length c2).ownBlock = some i → w.heap.size ≤ i := fun i e => (hl i e).1
  have KK := hide kk
  have T := hide t
  have OB := hide ob
  clear n3 t3 o2 k2 hl ob kk t
  go_wp2_with fail
  generalize w2.alloc (.cells #[.slice a2 ys.length c2] 45) = W3 at *
  refine (subtract_twoS ⟨_, _, ts⟩ hy hx hl1 hle).mono ?_
  rintro e w6 ⟨⟨r6, rfl⟩, v6, v6', t6⟩
  have c6 := t6.n1.cell
  have c7 := t6.n2.cell
  have f7 := t6.n2.loose
  have o6 := t6.n1.own
  have ap := t6.two.o12
  have TT := hide t6
  obtain ⟨a6, d6, hv⟩ := own_slice o6
  generalize hzz : limbs (val ys - val xs).toNat = zz at *
  subst hv
  obtain ⟨a7, d7, hv⟩ := (unhide TT).n2.form
  subst hv
  have hne : g1 ≠ w2.heap.size := by omega
  have hb6 : ∀ i, (Value.slice a6 zz.length d6).ownBlock = some i → w.heap.size ≤ i := fun i e => by
    rcases (unhide TT).ob i e with h | h
    · exact unhide OB i h
    · have := (unhide KK).size; omega
  have HN : Hid (∀ n, Num w.heap.size ((w6.drewN n).setCell ⟨g1, 0, none⟩ (.slice a6 zz.length d6)) g1 (.slice a6 zz.length d6) zz) := fun n =>
    ⟨cell_on _ _ _ _ _ c7, by rw [frozen_set]; exact f7, own_apart (own_base o6 hb6) (p := ⟨g1, 0, none⟩) (fun e => ap e) _, fun e => ap e⟩
  have HS : Hid (∀ n, SameSide g1 w ((w6.drewN n).setCell ⟨g1, 0, none⟩ (.slice a6 zz.length d6))) := fun n => ((((unhide KK).side lg).trans ((unhide TT).m.side (by have := (unhide KK).size; omega) (fun e => e.elim (fun e => hne e) (fun e => by have := unhide OB _ e; omega)))).drewN n).set0 _
  have HM : Hid (∀ n, Mod (fun i => i = g1) w ((w6.drewN n).setCell ⟨g1, 0, none⟩ (.slice a6 zz.length d6))) := fun n => Mod.set (S := fun i => i = g1) ((Mod.then (S := fun i => i = g1) (unhide KK).toMod (unhide TT).m (fun i e => e.elim (fun e => by omega) (fun e => .inr (unhide OB _ e)))).drewN n) (p := ⟨g1, 0, none⟩) (.inl rfl) _
  have HZ := hide hzz
  clear o6 ap t6 ts hzz hb6 TT
  go_wp2_with fail
  exact bodyPost_end (v := .tuple #[]) (by simp [results, Try.results37, go_sem]) rfl ⟨⟨_, rfl⟩, ⟨_, by rw [unhide HZ]; exact unhide HN 0⟩, unhide HS 0, unhide HM 0⟩

end Go.Proofs.Ytmoeeoninbphiaa
