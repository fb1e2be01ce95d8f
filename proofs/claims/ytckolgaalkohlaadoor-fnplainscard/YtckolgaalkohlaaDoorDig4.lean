/-
  WholeText of the model and of the program: a sign ahead where the number is below nought, then its digits.
-/
import Derived.Test.YtckolgaalkohlaaDoorDig3
import Derived.Test.YtckolgaalkohlaaDoorBH
import Derived.Test.YtckolgaalkohlaaDoorBE
namespace Go.Proofs.YtckolgaalkohlaaDoor
open Go.RowKit
set_option linter.unusedVariables false
set_option maxRecDepth 8000

/-- The text of a sign and a size. -/
def sgt (b : Bool) (n : Nat) : List Int := if b then 45 :: decText n else decText n
/-- The text of what is a whole number; nothing of what is none. -/
def wtx (b : Bool) (zs : List Int) : List Int := if wokB b zs then sgt b (val zs).toNat else []
theorem wok_ok {b : Bool} {zs : List Int} (h : wokB b zs = true) : okB zs = true := by
  unfold wokB at h
  cases ho : okB zs
  · rw [ho] at h; cases h
  · rfl
theorem wok_pos {zs : List Int} (h : wokB true zs = true) : 0 < zs.length := by
  unfold wokB at h
  simp at h
  omega
theorem wtx_len (b : Bool) (zs : List Int) : (wtx b zs).length ≤ 1601 := by
  unfold wtx
  cases h : wokB b zs
  · simp
  · rw [if_pos rfl]
    have := decText_len (wok_ok h)
    unfold sgt
    cases b <;> simp <;> omega
theorem decText_ne (n : Nat) : decText n ≠ [] := by
  unfold decText
  by_cases h : n = 0
  · rw [if_pos h]; simp
  · rw [if_neg h, tdig_step h]; simp

/-- What lies behind an append of a text to a sign. -/
theorem wpList_signed {ops : Array Oper} {rest : List Oper} {o : Oper} {a : Act} {Q : Exit → Act → World → Prop} {b lo hi : Nat} {wr : World} {v1 v2 : Value} {zs ts : List Int} (hgd : o.guard = none) (s x : Operand)
    (ho : o.op = .call { callee := .builtin .append, args := #[s, x], argTypes := #[22, 22] }) (hs : a.eval s = v1) (hx : a.eval x = v2)
    (hown : wr.ownsRow b 5 1 v1 zs.length (zs.map (Value.int .u8))) (r : Row .u8 true lo hi wr v2 ts) (hz : ts ≠ []) (hb : b ≤ wr.heap.size) (hn : zs.length ≤ 2000000) (hm : ts.length ≤ 2000000)
    (h : ∀ v' w', Row .u8 true b w'.heap.size w' v' (zs ++ ts) → wr.grownBy w' v1.ownBlock → wpList Tryd.prog ops Q rest (a.put o.dst v') w') : wpList Tryd.prog ops Q (o :: rest) a wr := by
  obtain ⟨i0, hi0, hz0, hz1, hz2⟩ := info_parts Tryd.info5
  obtain ⟨g, off, c, hv, -, -, hnews⟩ := r.news hz
  refine wpList_append_own _ hgd _ _ 22 ho b 5 i0 (.int .u8 0) 1 1 Tryd.underlying22 hi0 hz0 hz1 hz2 rfl (by decide) _ _ _ hs hown ⟨g, off, none⟩ ts.length c (ts.map (Value.int .u8)) (by rw [hx, hv]) (by simp) hnews (ints_one _ _) ?_ ?_ hb ?_
  · unfold maxLen; omega
  · omega
  · intro v' w' hown' hgrow _
    rw [← List.map_append, ← List.length_append] at hown'
    exact h v' w' (Row.own hown') hgrow

set_option maxHeartbeats 2000000 in
theorem l3text_spec {bw : Bool} {lo hi : Nat} {v : Value} {zs : List Int} (b : Bool) (w : World) (r : Row .i64 bw lo hi w v zs) (hn : Nrm zs) (nx : zs.length ≤ 100) :
    Calls Tryd.prog 18 #[.agg #[.bool b, v]] w fun e w' => ∃ v', e = .returned v' ∧ Row .u8 true w.heap.size w'.heap.size w' v' (sgt b (val zs).toNat) ∧ Kept 0 0 w w' := by
  have hlen : (decText (val zs).toNat).length ≤ 1600 := decText_len ((okB_iff zs).2 ⟨nx, hn⟩)
  have k0 : Kept 0 0 w (w.alloc (.cells #[.bool b, v] 28)) := (Kept.refl 0 0 w).alloc _
  have p0 : (w.alloc (.cells #[.bool b, v] 28)).cell? ⟨w.heap.size, 0, none⟩ = some (.bool b) := new_cell2 _ _ _ _ _ _ rfl rfl
  have p1 : (w.alloc (.cells #[.bool b, v] 28)).cell? ⟨w.heap.size, 1, none⟩ = some v := new_cell2 _ _ _ _ _ _ rfl rfl
  replace r := r.kept k0 (by omega)
  have s0 : (w.alloc (.cells #[.bool b, v] 28)).heap.size = w.heap.size + 1 := by simp
  obtain ⟨a, c, hv⟩ := Row.form' r
  subst hv
  obtain ⟨TN, hTN⟩ : ∃ TN, decText (val zs).toNat = TN := ⟨_, rfl⟩
  have HS : ∀ b, sgt b (val zs).toNat = if b then 45 :: TN else TN := fun b => by unfold sgt; rw [hTN]
  rw [hTN] at hlen
  have hne : TN ≠ [] := by rw [← hTN]; exact decText_ne _
  have HTN := hide hTN
  clear hTN
  rw [HS]
  clear HS
  have K := hide k0
  clear k0
  have S0 := hide s0
  clear s0
  cases b
  · go_enter Tryd.func18, Tryd.ntmps18
    go_wp2_with fail
    generalize (w.alloc (.cells #[.bool false, .slice a zs.length c] 28)) = W at *
    have hts := text_spec _ r hn (by omega)
    rw [unhide HTN] at hts
    refine hts.mono ?_
    clear hts
    rintro e w2 ⟨v2, rfl, r2, k2⟩
    obtain ⟨a2, c2, hv2⟩ := Row.form' r2
    subst hv2
    have s1 := (unhide K).size
    have R2 := hide (r2.wider s1 (Nat.le_refl _))
    have K2 := hide ((unhide K).trans k2)
    clear r2 r k2
    go_wp2_with fail
    go_ret
    exact ⟨_, rfl, unhide R2, unhide K2⟩
  · go_enter Tryd.func18, Tryd.ntmps18
    go_wp2_with fail
    generalize (w.alloc (.cells #[.bool true, .slice a zs.length c] 28)) = W at *
    have o1 := own_lit .u8 W 5 W.heap.size (Nat.le_refl _) [45] (by simp [maxLen])
    have k1 := (Kept.refl 0 0 W).alloc (.cells #[.int .u8 45] 5)
    replace o1 : (W.alloc (.cells #[.int .u8 45] 5)).ownsRow W.heap.size 5 1 (.slice (some ⟨W.heap.size, 0, none⟩) 1 1) 1 ([45].map (Value.int .u8)) := o1
    rw [unhide S0] at o1
    replace r := r.kept k1 (by omega)
    have s1 := (unhide K).size
    have sW := unhide S0
    have K1 := hide ((unhide K).trans k1)
    have s2 := k1.size
    clear k1
    generalize (W.alloc (.cells #[.int .u8 45] 5)) = W1 at *
    have hts := text_spec _ r hn (by omega)
    rw [unhide HTN] at hts
    refine hts.mono ?_
    clear hts
    rintro e w2 ⟨v2, rfl, r2, k2⟩
    obtain ⟨a2, c2, hv2⟩ := Row.form' r2
    subst hv2
    replace o1 := own_kept o1 k2
    have K2 := hide ((unhide K1).trans k2)
    have s3 := k2.size
    clear r k2
    have O1 := hide o1
    have R2 := hide r2
    have NE := hide hne
    have NL : Hid (TN.length ≤ 2000000) := by show _ ≤ _; omega
    have NB : Hid (w.heap.size + 1 ≤ w2.heap.size) := by show _ ≤ _; omega
    clear o1 r2 hlen hne
    go_wp2_with (at_builtin; refine wpList_signed rfl _ _ rfl rfl rfl (zs := [45]) (unhide O1) (unhide R2) (unhide NE) (unhide NB) (by decide) (unhide NL) ?_)
    intro v4 w4 r4 g4
    have s4 := g4.size
    have K4 := hide ((unhide K2).growNew g4 (fun q hq => by simp [Value.ownBlock] at hq; omega))
    obtain ⟨a4, c4, hv4⟩ := Row.form' r4
    subst hv4
    have R4 := hide (r4.wider (Nat.le_succ _) (Nat.le_refl _))
    clear r4 g4
    go_wp2
    go_ret
    exact ⟨_, rfl, unhide R4, unhide K4⟩

end Go.Proofs.YtckolgaalkohlaaDoor
