/-
  Numbers that are worked on, written anew; the contract of the program's limbsOfInt.
-/
import Derived.Test.YtdhponfpikclhaaINat2
namespace Go.Proofs.Ytdhponfpikclhaa
open Go.RowKit
set_option linter.unusedVariables false
set_option maxRecDepth 8000

theorem own_apart {w : World} {b n : Nat} {e : TypeId} {v : Value} {xs : List Value} (h : w.ownsRow b e 1 v n xs) {p : Addr} (hne : v.ownBlock ≠ some p.block) (u : Value) : (w.setCell p u).ownsRow b e 1 v n xs :=
  ((Mod.refl (fun i => i = p.block) w).set (.inl rfl) u).own h (fun i hi e => hne (by rw [hi, e]))
theorem Mod.cellAt {S : Nat → Prop} {W w' : World} (k : Mod S W w') {g o : Nat} {v : Value} (hS : ¬ S g) (h : W.cell? ⟨g, o, none⟩ = some v) : w'.cell? ⟨g, o, none⟩ = some v := k.cell (a := ⟨g, o, none⟩) hS h
theorem Mod.looseAt {S : Nat → Prop} {W w' : World} (k : Mod S W w') {g o : Nat} (hS : ¬ S g) (hb : g < W.heap.size) (h : W.frozen? ⟨g, o, none⟩ = false) : w'.frozen? ⟨g, o, none⟩ = false := k.loose (a := ⟨g, o, none⟩) hS hb h
theorem Num.stored {b g : Nat} {w w' : World} {v u v' : Value} {ys : List Int} (m : Mod (Own1 g v) w w') (hc : w'.cell? ⟨g, 0, none⟩ = some u) (hf : w'.frozen? ⟨g, 0, none⟩ = false)
    (ho : w'.ownsRow b 3 1 v' ys.length (ys.map (Value.int .i64))) (ha : v'.ownBlock ≠ some g) : Num b (w'.setCell ⟨g, 0, none⟩ v') g v' ys ∧ Mod (Own1 g v) w (w'.setCell ⟨g, 0, none⟩ v') :=
  ⟨⟨by have := cell_set w' g 0 0 v' u hc; simpa using this, by rw [frozen_set]; exact hf, own_apart ho ha v', ha⟩, m.set (.inl (.inl rfl)) v'⟩

/-- A list of limbs of the call's own. -/
def OwnL (b : Nat) (w : World) (v : Value) (zs : List Int) : Prop := w.ownsRow b 3 1 v zs.length (zs.map (Value.int .i64))

/-- One more limb appended to a list of the call's own. -/
theorem wpList_snoc {ops : Array Oper} {rest : List Oper} {o : Oper} {a : Act} {Q : Exit → Act → World → Prop} {b : Nat} {wr : World} {v : Value} {zs : List Int} (hgd : o.guard = none) (s x : Operand)
    (ho : o.op = .call { callee := .builtin .append, args := #[s, x], argTypes := #[24, 24] }) (hs : a.eval s = v) (ad : Addr) (hx : a.eval x = .slice (some ad) 1 1) (z : Int)
    (hc : wr.cell? ad = some (.int .i64 z)) (hown : wr.ownsRow b 3 1 v zs.length (zs.map (Value.int .i64))) (hn : zs.length ≤ 1000000) (hb : b ≤ wr.heap.size)
    (h : ∀ v' w', OwnL b w' v' (zs ++ [z]) → wr.grownBy w' v.ownBlock → Hid (v'.ownBlock = v.ownBlock ∨ v'.ownBlock = some wr.heap.size) → wpList Try.prog ops Q rest (a.put o.dst v') w') : wpList Try.prog ops Q (o :: rest) a wr := by
  obtain ⟨i0, hi0, hz0, hz1, hz2⟩ := info_parts Try.info3'
  refine wpList_append_own_at _ hgd _ _ 24 ho b 3 i0 (.int .i64 0) 1 8 Try.underlying24 hi0 hz0 hz1 hz2 rfl (by decide) _ _ _ hs hown ad 1 1 [.int .i64 z] hx rfl (lit_cell hc) ?_ ?_ ?_ hb ?_
  · intro u hu; simp at hu; subst hu; rfl
  · unfold maxLen; omega
  · omega
  · intro v' w' hown hgrow _ hat
    exact h v' w' (by unfold OwnL; simpa using hown) hgrow (hide hat)

/-- A number with one more limb, behind the append: what holds when it is stored. -/
theorem Num.snoc {b g : Nat} {w w' : World} {v v' : Value} {zs ys : List Int} (h : Num b w g v zs) (o : Obj) (hg : (w.alloc o).grownBy w' v.ownBlock) (hat : v'.ownBlock = v.ownBlock ∨ v'.ownBlock = some (w.heap.size + 1))
    (hown : w'.ownsRow b 3 1 v' ys.length (ys.map (Value.int .i64))) :
    w'.cell? ⟨g, 0, none⟩ = some v ∧ w'.frozen? ⟨g, 0, none⟩ = false ∧ Num b (w'.setCell ⟨g, 0, none⟩ v') g v' ys ∧ Mod (Own1 g v) w (w'.setCell ⟨g, 0, none⟩ v') := by
  have k := (Kept.refl 0 0 w).alloc o
  have m : Mod (Own1 g v) w w' := (k.toMod).grow hg (fun i hi => .inl (.inr hi))
  have m1 : Mod (fun i => v.ownBlock = some i) (w.alloc o) w' := (Mod.refl _ _).grow hg (fun i hi => .inl hi)
  have hlt := h.lt
  have h1 := m1.cell (a := ⟨g, 0, none⟩) h.apart (k.cell0 h.cell)
  have h2 := m1.loose (a := ⟨g, 0, none⟩) h.apart (by simp; omega) (k.loose0 hlt h.loose)
  have ha : v'.ownBlock ≠ some g := by
    rcases hat with e | e
    · rw [e]; exact h.apart
    · rw [e]; simp; omega
  exact ⟨h1, h2, Num.stored m h1 h2 hown ha⟩

set_option maxHeartbeats 2000000 in
theorem limbsOfInt_impl (w : World) (n : Int) (hn : n ≤ 9223372036854775807) :
    Calls Try.prog 150 #[.int .i64 n] w fun e w' => ∃ v', e = .returned (.agg #[v']) ∧ w'.ownsRow w.heap.size 3 1 v' (limbs n.toNat).length ((limbs n.toNat).map (Value.int .i64)) ∧ Kept 0 0 w w' := by
  have hlen : (limbs n.toNat).length ≤ 4 := (limbs_length_le _ _).2 (by
    have : (65536 : Int) ^ 4 = 18446744073709551616 := by decide
    omega)
  generalize hL : limbs n.toNat = L at *
  have HL := hide hL
  have k0 := ((Kept.refl 0 0 w).alloc (.cells #[.slice none 0 0] 76)).alloc (.cells #[.slice none 0 0] 76)
  have n0 : Num (w.heap.size + 2) ((w.alloc (.cells #[.slice none 0 0] 76)).alloc (.cells #[.slice none 0 0] 76)) (w.heap.size + 1) (.slice none 0 0) [] := by
    have := Num.new (w := w.alloc (.cells #[.slice none 0 0] 76)) (b := w.heap.size + 2) (zs := []) 76 (World.ownsRow_nil _ _ _ _)
    simpa using this
  have c0 : ((w.alloc (.cells #[.slice none 0 0] 76)).alloc (.cells #[.slice none 0 0] 76)).cell? ⟨w.heap.size, 0, none⟩ = some (.slice none 0 0) := old_cell _ (new_cell_at _ _ _ _ rfl)
  have f0 : ((w.alloc (.cells #[.slice none 0 0] 76)).alloc (.cells #[.slice none 0 0] 76)).frozen? ⟨w.heap.size, 0, none⟩ = false := loose_old (by simp) (new_loose _ _ _ _ rfl)
  have s0 : w.heap.size + 2 ≤ ((w.alloc (.cells #[.slice none 0 0] 76)).alloc (.cells #[.slice none 0 0] 76)).heap.size := by simp
  clear hL
  go_enter Try.func150, Try.ntmps150
  go_wp2
  generalize (w.alloc (.cells #[.slice none 0 0] 76)).alloc (.cells #[.slice none 0 0] 76) = w1 at *
  go_loopw [0] (fun m wr => ∃ (zs : List Int) (i : Int) (v : Value), m = .int .i64 i ∧ i ≤ 9223372036854775807 ∧ Hid (zs ++ limbs i.toNat = L) ∧ Num (w.heap.size + 2) wr (w.heap.size + 1) v zs ∧ Hid (Kept 0 0 w wr) ∧ wr.cell? ⟨w.heap.size, 0, none⟩ = some (.slice none 0 0) ∧ wr.frozen? ⟨w.heap.size, 0, none⟩ = false ∧ Hid (w.heap.size + 2 ≤ wr.heap.size)) (fun m _ => (intOf m).toNat)
  case atStart => exact ⟨[], n, _, rfl, hn, by have := unhide HL; show _ = _; simpa using this, n0, hide k0, c0, f0, hide s0⟩
  case round =>
    clear k0 n0 c0 f0 s0
    obtain ⟨zs, i, v, rfl, hi, hzs, hN, hK, hc0, hf0, hs0⟩ := hrel
    by_cases hp : 0 < i
    · have hc := limbs_cons i.toNat (by omega)
      have hz := unhide hzs
      rw [hc] at hz
      have hl : zs.length ≤ 4 := by
        have := congrArg List.length hz
        simp at this; omega
      have e1 : ((i.toNat % 65536 : Nat) : Int) = i % 65536 := by omega
      have e2 : i.toNat / 65536 = (i / 65536).toNat := by omega
      have e3 : i.tmod 65536 = i % 65536 := by rw [Int.tmod_eq_emod_of_nonneg (by omega)]
      have e4 : i.tdiv 65536 = i / 65536 := by rw [Int.tdiv_eq_ediv_of_nonneg (by omega)]
      rw [e1, e2] at hz
      have HZ := hide hz
      clear hc hz e1 e2
      obtain ⟨a1, c1, rfl⟩ := hN.form
      have hcell := hN.cell
      have hloose := hN.loose
      have hown' := own_kept hN.own ((Kept.refl 0 0 wr).alloc (.cells #[.int .i64 (i % 65536)] 3))
      have hl' : zs.length ≤ 1000000 := by omega
      have hbb : w.heap.size + 2 ≤ (wr.alloc (.cells #[.int .i64 (i % 65536)] 3)).heap.size := by have := unhide hs0; simp; omega
      have HBB := hide hbb
      have hcc : (wr.alloc (.cells #[.int .i64 (i % 65536)] 3)).cell? ⟨wr.heap.size, 0, none⟩ = some (.int .i64 (i % 65536)) := new_cell_at _ _ _ _ rfl
      clear hbb
      go_wp2_with (at_builtin; refine wpList_snoc rfl _ _ rfl rfl _ rfl (i % 65536) hcc hown' hl' (unhide HBB) ?_)
      intro v' w' hown2 hgrow hat
      unfold OwnL at hown2
      replace hat := unhide hat
      obtain ⟨d1, d2, d3, d4⟩ := hN.snoc _ hgrow hat hown2
      obtain ⟨a2, c2, e2⟩ := own_slice hown2
      rw [List.length_append, List.length_singleton] at e2
      subst e2
      have hS0 : ¬ Own1 (w.heap.size + 1) (.slice a1 zs.length c1) w.heap.size := fun e => e.elim (by omega) (fun h => by have := (hN.own.lt _ h).1; omega)
      have x1 := d4.cellAt hS0 hc0
      have x2 := d4.looseAt hS0 (by have := unhide hs0; omega) hf0
      have x3 := hide ((unhide hK).mod d4 (fun i hi => hi.elim (by omega) (fun h => by have := (hN.own.lt _ h).1; omega)))
      have x4 := hide (Nat.le_trans (unhide hs0) d4.size)
      have D3 := hide d3
      have X1 := hide x1
      have X2 := hide x2
      clear hown' hown2 hgrow hat hN d4 hcell hloose x1 x2 hc0 hf0 hcc d3 hS0
      go_wp2
      go_roundw
      case rel => exact ⟨zs ++ [i % 65536], i / 65536, _, by go_num, by omega, by show _ = _; rw [← unhide HZ]; simp, unhide D3, x3, unhide X1, unhide X2, x4⟩
      case measure => simp [intOf]; omega
    · have e0 : zs = L := by have := unhide hzs; rw [show i.toNat = 0 from by omega, limbs_zero, List.append_nil] at this; exact this
      subst e0
      obtain ⟨a1, c1, rfl⟩ := hN.form
      have hcell := hN.cell
      have O := hide (own_less (own_apart hN.own (p := ⟨w.heap.size, 0, none⟩) (fun h => by have := (hN.own.lt _ h).1; simp at this; omega) (.slice a1 zs.length c1)) (Nat.le_add_right w.heap.size 2))
      have K := hide ((unhide hK).setNew (p := ⟨w.heap.size, 0, none⟩) (Nat.le_refl _) (.slice a1 zs.length c1))
      clear hN hK hzs
      go_wp2
      exact bodyPost_ret (v := .agg #[(.slice a1 zs.length c1)]) (by simp [results, Try.results150, go_sem, hc0]) rfl ⟨_, rfl, unhide O, unhide K⟩

end Go.Proofs.Ytdhponfpikclhaa
