/-
  WholeText of the model and of the program: a sign ahead where the number is below nought, then its digits.
-/
import Derived.Test.YthglchilgjcloaaDoorDig3
import Derived.Test.YthglchilgjcloaaDoorBH
import Derived.Test.YthglchilgjcloaaDoorBE
namespace Go.Proofs.YthglchilgjcloaaDoor
open Go.RowKit
set_option linter.unusedVariables false
set_option maxRecDepth 8000

/-- The text of a sign and a size. -/
def sgt (b : Bool) (n : Nat) : List Int := if b then 45 :: decText n else decText n
/-- The text of what is a whole number; nothing of what is none. -/
def wtx (b : Bool) (zs : List Int) : List Int := if wokB b zs then sgt b (val zs).toNat else []
theorem wok_ok {b : Bool} {zs : List Int} (h : wokB b zs = true) : okB zs = true := by
  unfold wokB at h
  cases ho : okB zs
  · rw [ho] at h; cases h
  · rfl
theorem wok_pos {zs : List Int} (h : wokB true zs = true) : 0 < zs.length := by
  unfold wokB at h
  simp at h
  omega
theorem wtx_len (b : Bool) (zs : List Int) : (wtx b zs).length ≤ 1601 := by
  unfold wtx
  cases h : wokB b zs
  · simp
  · rw [if_pos rfl]
    have := decText_len (wok_ok h)
    unfold sgt
    cases b <;> simp <;> omega
theorem decText_ne (n : Nat) : decText n ≠ [] := by
  unfold decText
  by_cases h : n = 0
  · rw [if_pos h]; simp
  · rw [if_neg h, tdig_step h]; simp

/-- What lies behind an append of a text to a sign. -/
theorem wpList_signed {ops : Array Oper} {rest : List Oper} {o : Oper} {a : Act} {Q : Exit → Act → World → Prop} {b lo hi : Nat} {wr : World} {v1 v2 : Value} {zs ts : List Int} (hgd : o.guard = none) (s x : Operand)
    (ho : o.op = .call { callee := .builtin .append, args := #[s, x], argTypes := #[22, 22] }) (hs : a.eval s = v1) (hx : a.eval x = v2)
    (hown : wr.ownsRow b 5 1 v1 zs.length (zs.map (Value.int .u8))) (r : Row .u8 true lo hi wr v2 ts) (hz : ts ≠ []) (hb : b ≤ wr.heap.size) (hn : zs.length ≤ 2000000) (hm : ts.length ≤ 2000000)
    (h : ∀ v' w', Row .u8 true b w'.heap.size w' v' (zs ++ ts) → wr.grownBy w' v1.ownBlock → wpList Tryd.prog ops Q rest (a.put o.dst v') w') : wpList Tryd.prog ops Q (o :: rest) a wr := by
  obtain ⟨i0, hi0, hz0, hz1, hz2⟩ := info_parts Tryd.info5
  obtain ⟨g, off, c, hv, -, -, hnews⟩ := r.news hz
  refine wpList_append_own _ hgd _ _ 22 ho b 5 i0 (.int .u8 0) 1 1 Tryd.underlying22 hi0 hz0 hz1 hz2 rfl (by decide) _ _ _ hs hown ⟨g, off, none⟩ ts.length c (ts.map (Value.int .u8)) (by rw [hx, hv]) (by simp) hnews (ints_one _ _) ?_ ?_ hb ?_
  · unfold maxLen; omega
  · omega
  · intro v' w' hown' hgrow _
    rw [← List.map_append, ← List.length_append] at hown'
    exact h v' w' (Row.own hown') hgrow

set_option maxHeartbeats 2000000 in
theorem wholeText_impl {bw : Bool} {lo hi : Nat} {v : Value} {zs : List Int} (b : Bool) (w : World) (r : Row .i64 bw lo hi w v zs) :
    Calls Tryd.prog 14 #[.agg #[.bool b, v]] w fun e w' => ∃ v', e = .returned v' ∧ Row .u8 true w.heap.size w'.heap.size w' v' (wtx b zs) ∧ Kept 0 0 w w' := by
  have k0 : Kept 0 0 w (w.alloc (.cells #[.bool b, v] 27)) := (Kept.refl 0 0 w).alloc _
  have p0 : (w.alloc (.cells #[.bool b, v] 27)).cell? ⟨w.heap.size, 0, none⟩ = some (.bool b) := new_cell2 _ _ _ _ _ _ rfl rfl
  have p1 : (w.alloc (.cells #[.bool b, v] 27)).cell? ⟨w.heap.size, 1, none⟩ = some v := new_cell2 _ _ _ _ _ _ rfl rfl
  replace r := r.kept k0 (by omega)
  obtain ⟨a, c, hv⟩ := Row.form' r
  subst hv
  go_enter Tryd.func14, Tryd.ntmps14
  go_wp2_with fail
  generalize (w.alloc (.cells #[.bool b, .slice a zs.length c] 27)) = W at *
  refine (wok_impl b _ r).mono ?_
  rintro e w1 ⟨rfl, k1⟩
  replace p0 := k1.cell0 p0
  replace p1 := k1.cell0 p1
  replace r := r.kept k1 (by omega)
  have K1 := hide (k0.trans k1)
  clear k0 k1
  cases hok : wokB b zs
  · have HK := hide hok
    clear r hok
    go_wp2_with fail
    go_ret
    exact ⟨_, rfl, by unfold wtx; rw [unhide HK]; exact Row.nil _ _ _ _ _, unhide K1⟩
  obtain ⟨hl, hn⟩ := (okB_iff zs).1 (wok_ok hok)
  have hlen := decText_len (wok_ok hok)
  have hpos : b = true → 0 < zs.length := fun e => by subst e; exact wok_pos hok
  have hzl := nrm_limbs hn
  obtain ⟨N, hN⟩ : ∃ N, (val zs).toNat = N := ⟨_, rfl⟩
  have hw : wtx b zs = if b then 45 :: decText N else decText N := by unfold wtx; rw [if_pos hok]; unfold sgt; rw [hN]
  obtain ⟨TN, hTN⟩ : ∃ TN, decText N = TN := ⟨_, rfl⟩
  rw [hTN] at hw
  rw [hN] at hlen hzl
  rw [hTN] at hlen
  have hne : TN ≠ [] := by rw [← hTN]; exact decText_ne _
  have HW := hide hw
  have HTN := hide hTN
  have HL := hide hlen
  have HZ := hide hzl
  clear hTN hw hlen hok hN hzl
  go_wp2_with fail
  refine (signedOf_impl b _ r (by omega)).mono ?_
  rintro e w2 ⟨v2, rfl, o2, k2⟩
  obtain ⟨a2, c2, hv2⟩ := own_slice o2
  subst hv2
  have n2 : Num w1.heap.size (w2.alloc (.cells #[.slice a2 zs.length c2, .bool b] 46)) w2.heap.size (.slice a2 zs.length c2) zs :=
    ⟨new_cell2 _ _ _ _ _ _ rfl rfl, new_loose2 _ _ _ _ _ rfl, own_kept o2 ((Kept.refl 0 0 w2).alloc _), fun e => by have := (o2.lt _ e).2; omega⟩
  have d2 : Sd (w2.alloc (.cells #[.slice a2 zs.length c2, .bool b] 46)) w2.heap.size b := ⟨new_cell2 _ _ _ _ _ _ rfl rfl, new_loose2 _ _ _ _ _ rfl⟩
  have K2 := hide (((unhide K1).trans k2).alloc (.cells #[.slice a2 zs.length c2, .bool b] 46))
  have s2 := (unhide K2).size
  clear r k2 o2 p0 p1
  go_wp2_with fail
  generalize w2.alloc (.cells #[.slice a2 zs.length c2, .bool b] 46) = w3 at *
  have hb := isBelow_impl w3 n2 d2
  have hbb : (b && decide (0 < zs.length)) = b := by cases b <;> simp; exact hpos rfl
  rw [hbb] at hb
  clear hbb hpos
  refine hb.mono ?_
  rintro e w4 ⟨rfl, hw4⟩
  subst hw4
  have hlim : (limbs N).length ≤ 100 := by rw [← unhide HZ]; exact hl
  rw [unhide HZ] at n2
  clear hb d2
  cases b
  · have ht := text_impl _ n2 (by omega)
    rw [unhide HTN] at ht
    go_wp2_with fail
    refine ht.mono ?_
    rintro e w5 ⟨v5, rfl, r5, k5⟩
    obtain ⟨a5, c5, hv5⟩ := Row.form' r5
    subst hv5
    have R5 := hide (r5.wider s2 (Nat.le_refl _))
    have K5 := hide ((unhide K2).trans k5)
    clear r5 k5 ht n2
    go_wp2_with fail
    go_ret
    exact ⟨_, rfl, by rw [unhide HW]; exact unhide R5, unhide K5⟩
  · go_wp2_with fail
    have o1 := own_lit .u8 w4 5 w4.heap.size (Nat.le_refl _) [45] (by simp [maxLen])
    have k1 := (Kept.refl 0 0 w4).alloc (.cells #[.int .u8 45] 5)
    replace o1 : (w4.alloc (.cells #[.int .u8 45] 5)).ownsRow w4.heap.size 5 1 (.slice (some ⟨w4.heap.size, 0, none⟩) 1 1) 1 ([45].map (Value.int .u8)) := o1
    replace n2 := n2.kept k1
    have K3 := hide ((unhide K2).trans k1)
    have s3 := k1.size
    clear k1
    generalize (w4.alloc (.cells #[.int .u8 45] 5)) = W1 at *
    have ht := text_impl _ n2 (by omega)
    rw [unhide HTN] at ht
    refine ht.mono ?_
    rintro e w5 ⟨v5, rfl, r5, k5⟩
    obtain ⟨a5, c5, hv5⟩ := Row.form' r5
    subst hv5
    replace o1 := own_kept o1 k5
    have K5 := hide ((unhide K3).trans k5)
    have s5 := k5.size
    have O1 := hide o1
    have R5 := hide r5
    have NE := hide hne
    have NL : Hid (TN.length ≤ 2000000) := by show _ ≤ _; have := unhide HL; omega
    have NB : Hid (w4.heap.size ≤ w5.heap.size) := by show _ ≤ _; omega
    clear k5 ht n2 o1 r5 hne
    go_wp2_with (at_builtin; refine wpList_signed rfl _ _ rfl rfl rfl (zs := [45]) (unhide O1) (unhide R5) (unhide NE) (unhide NB) (by decide) (unhide NL) ?_)
    intro v6 w6 r6 g6
    have s6 := g6.size
    have K6 := hide ((unhide K5).growNew g6 (fun q hq => by simp [Value.ownBlock] at hq; omega))
    obtain ⟨a6, c6, hv6⟩ := Row.form' r6
    subst hv6
    have R6 := hide (r6.wider s2 (Nat.le_refl _))
    clear r6 g6
    go_wp2
    go_ret
    exact ⟨_, rfl, by rw [unhide HW]; exact unhide R6, unhide K6⟩

end Go.Proofs.YthglchilgjcloaaDoor
