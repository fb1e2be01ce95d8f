/-
  Factorials: what Fact of the program and of the model answer.
-/
import Derived.Test.YtinbdhnkpdbdgaaFct2
import Derived.Test.YtinbdhnkpdbdgaaBC
namespace Go.Proofs.Ytinbdhnkpdbdgaa
open Go.RowKit Go.Shelf
set_option linter.unusedVariables false
set_option maxRecDepth 8000
attribute [local go_sem] Oper.semAt_some

theorem factorials_impl (last : Int) (w : World) :
    Calls Try.prog 14 #[.int .i64 last] w fun e w' => e = .returned (.func (.func 23) #[] #[.pointer (some ⟨w.heap.size, 0, none⟩)]) ∧ w' = w.alloc (.cells #[.int .i64 last] 3) := by
  go_enter Try.func14, Try.ntmps14
  go_wp2
  go_ret
  exact ⟨rfl, rfl⟩

theorem Kept.winThenF {lo hi : Nat} {w A B : World} (h : Kept 0 0 w A) (k : Kept lo hi A B) (hl : w.heap.size ≤ lo) : Kept 0 0 w B :=
  ⟨k.os.trans h.os, k.tape.trans h.tape, k.output.trans h.output, Nat.le_trans h.size k.size, fun i hi' ho => (k.block i (Nat.lt_of_lt_of_le hi' h.size) (.inl (by omega))).trans (h.block i hi' ho)⟩
theorem Kept.modF {lo hi : Nat} {A B : World} (k : Kept lo hi A B) : Mod (fun i => lo ≤ i ∧ i < hi) A B :=
  ⟨k.os, k.tape, k.output, k.size, fun i hi' ho => k.block i hi' (by omega)⟩

/-- What the loop of Fact holds: the last product. -/
def FctI (w : World) (B0 hi : Nat) (pre : List Nat) (W : World) : Prop :=
  ∃ v zs, Num hi W B0 v zs ∧ (∀ p x, pre = p ++ [x] → zs = limbs (fct x)) ∧ hi ≤ W.heap.size ∧ Kept 0 0 w W ∧ W.cell? ⟨w.heap.size, 0, none⟩ = some (.slice none 0 0) ∧ W.frozen? ⟨w.heap.size, 0, none⟩ = false

/-- A round's own box holds the product; the act that the body begins with. -/
def FctA (ac : Nat → Value → Nat → Act) (hi : Nat) (x : Nat) (args : Array Value) (W : World) (a1 : Act) (W' : World) : Prop :=
  ∃ v, args = #[.int .i64 (x : Int), .agg #[v]] ∧ a1 = ac x v W.heap.size ∧ W' = W.alloc (.cells #[v] 34)

set_option maxHeartbeats 8000000 in
theorem fact_impl (N : Nat) (hN : N ≤ 200) (w : World) :
    Calls Try.prog 6 #[.int .i64 (N : Int)] w fun e w' => ∃ v', e = .returned (.tuple #[.agg #[v'], .bool (decide ((limbs (fct N)).length ≤ 100))]) ∧ Row .i64 true w.heap.size w'.heap.size w' v' (tell (limbs (fct N))) ∧ Kept 0 0 w w' := by
  obtain ⟨LF, hLF⟩ : ∃ L, L = limbs (fct N) := ⟨_, rfl⟩
  rw [← hLF]
  have HLF := hide hLF
  clear hLF
  have h1 : ¬ (N : Int) < 0 := by omega
  have h2 : ¬ 200 < (N : Int) := by omega
  have hd := fun w => factorials_impl (N : Int) w
  refine (callsIn_wide (n := 3)).1 ?_
  refine callsIn_of_wp_marks Try.func6 rfl trivial ?_ rfl
  simp only [Try.ntmps6, List.size_toArray, List.length_cons, List.length_nil, Nat.reduceAdd, Nat.reduceSub, Array.replicate_succ, Array.replicate_zero, List.push_toArray, List.append_toArray, List.nil_append, List.cons_append]
  gi_wp2_with fail
  refine ⟨trivial, ?_⟩
  refine (callsIn_wide.2 (hd _)).mono ?_
  rintro e w4 ⟨rfl, rfl⟩
  clear hd
  have k0 : Kept 0 0 w (((w.alloc (.cells #[.slice none 0 0] 24)).alloc (.cells #[.slice none 0 0] 34)).alloc (.cells #[.int .i64 (N : Int)] 3)) := (((Kept.refl 0 0 w).alloc _).alloc _).alloc _
  have cR : (((w.alloc (.cells #[.slice none 0 0] 24)).alloc (.cells #[.slice none 0 0] 34)).alloc (.cells #[.int .i64 (N : Int)] 3)).cell? ⟨w.heap.size, 0, none⟩ = some (.slice none 0 0) := old_cell _ (old_cell _ (new_cell_at _ _ _ _ rfl))
  have fR : (((w.alloc (.cells #[.slice none 0 0] 24)).alloc (.cells #[.slice none 0 0] 34)).alloc (.cells #[.int .i64 (N : Int)] 3)).frozen? ⟨w.heap.size, 0, none⟩ = false := loose_old (by simp <;> omega) (loose_old (by simp) (new_loose _ _ _ _ rfl))
  have cT : (((w.alloc (.cells #[.slice none 0 0] 24)).alloc (.cells #[.slice none 0 0] 34)).alloc (.cells #[.int .i64 (N : Int)] 3)).cell? ⟨w.heap.size + 1, 0, none⟩ = some (.slice none 0 0) := old_cell _ (new_cell_at _ _ _ _ (by simp))
  have fT : (((w.alloc (.cells #[.slice none 0 0] 24)).alloc (.cells #[.slice none 0 0] 34)).alloc (.cells #[.int .i64 (N : Int)] 3)).frozen? ⟨w.heap.size + 1, 0, none⟩ = false := loose_old (by simp) (new_loose _ _ _ _ (by simp))
  have cB : (((w.alloc (.cells #[.slice none 0 0] 24)).alloc (.cells #[.slice none 0 0] 34)).alloc (.cells #[.int .i64 (N : Int)] 3)).cell? ⟨w.heap.size + 2, 0, none⟩ = some (.int .i64 (N : Int)) := new_cell_at _ _ _ _ (by simp)
  have sB : (((w.alloc (.cells #[.slice none 0 0] 24)).alloc (.cells #[.slice none 0 0] 34)).alloc (.cells #[.int .i64 (N : Int)] 3)).heap.size = w.heap.size + 3 := by simp
  gi_wp2_with fail
  generalize (((w.alloc (.cells #[.slice none 0 0] 24)).alloc (.cells #[.slice none 0 0] 34)).alloc (.cells #[.int .i64 (N : Int)] 3)) = W2 at *
  refine wpIn_rangeFunc_ownR 0 rfl (by decide) (gf := 23) (lb := #[.pointer (some ⟨w.heap.size + 2, 0, none⟩)]) rfl trivial (enters_of Try.func23 (by kernel_rfl) rfl) (factorials1_own 2 (by decide) N (N + 1) rfl (by omega) W2 cB) (fun hi x args W hG => by obtain ⟨v, rfl, -⟩ := hG; rfl) ?gk (FctI w (w.heap.size + 1)) (fun _ _ _ => False) ?i0 ?ik (fun _ _ _ _ h _ => h)
    (FctA (fun x v b => { tmps := #[.int .i64 (N : Int), undef, .pointer (some ⟨w.heap.size, 0, none⟩), .bool false, .pointer (some ⟨w.heap.size + 1, 0, none⟩), undef, .pointer (some ⟨b, 0, none⟩), .int .i64 (N : Int), .bool false, .bool false, .int .i64 (N : Int), .bool false, .bool false, undef, .int .i64 (N : Int), .func (.func 23) #[] #[.pointer (some ⟨w.heap.size + 1 + 1, 0, none⟩)], .int .i64 (x : Int), .agg #[v], undef, undef, undef, undef], defers := [] })) ?asn ?assign ?body ?done ?left
  case gk =>
    rintro hi x args A B ⟨v, rfl, ho⟩ k
    exact ⟨v, rfl, k.modF.own ho (fun i hi' => by have := ho.lt i hi'; omega)⟩
  case i0 =>
    intro hi W' k h1 e
    exact ⟨_, [], ⟨k.cell0 cT, k.loose0 (show w.heap.size + 1 < _ by omega) fT, World.ownsRow_nil _ _ _ _, by simp [Value.ownBlock]⟩, fun p x hp => by simp at hp, by omega, k0.trans k, k.cell0 cR, k.loose0 (show w.heap.size < _ by omega) fR⟩
  case ik =>
    rintro hi pre A B ⟨u, zs, n1, hz, s1, k1, c1, f1⟩ k
    exact ⟨u, zs, n1.mod k.modF (show ¬ (_ ≤ w.heap.size + 1 ∧ _) by omega) (fun i hi' => by have := n1.own.lt i hi'; omega), hz, Nat.le_trans s1 k.size, k1.winThenF k (by omega), k.modF.cell (show ¬ (_ ≤ w.heap.size ∧ _) by omega) c1, k.modF.loose (show ¬ (_ ≤ w.heap.size ∧ _) by omega) (World.block_lt_of_cell? _ _ c1) f1⟩
  case asn =>
    rintro hi x args W a1 W' ⟨v, -, -, rfl⟩
    exact (Kept.refl 0 0 W).alloc _
  case assign =>
    rintro l hi x args W K ⟨v, rfl, ho⟩ hK
    obtain ⟨a1, c1, rfl⟩ := own_slice ho
    have hK2 := hK _ _ ⟨_, rfl, rfl, rfl⟩
    clear hK ho
    gi_wp2
    exact hK2
  case left =>
    intro D hi pre post W h1 h2 h3 h4
    exact h4.elim
  case body =>
    rintro l hi pre x post args W0 a1 W1 W3 hx h2 ⟨-, -, -, -, s0, -⟩ ⟨u, zs, n1, hz, s1, k1, cR, fR⟩ ⟨v, hv, ho⟩ ⟨v2, hv2, rfl, rfl⟩ kW
    have hvv : v2 = v := by rw [hv] at hv2; simpa using hv2.symm
    subst hvv
    obtain ⟨a2, c2, hs⟩ := own_slice ho
    subst hs
    have c6 := kW.modF.cell (a := ⟨W0.heap.size, 0, none⟩) (by dsimp only; omega) (new_cell_at W0 (.slice a2 (limbs (fct x)).length c2) 34 W0.heap.size rfl)
    have cT := n1.cell
    have fT := n1.loose
    obtain ⟨zz, hzz⟩ : ∃ zz, zz = limbs (fct x) := ⟨_, rfl⟩
    rw [← hzz] at ho c6
    have HZ := hide hzz
    have hbl := World.block_lt_of_cell? _ _ cT
    dsimp only at hbl
    have HI : Hid (FctI w (w.heap.size + 1) hi (pre ++ [x]) (W3.setCell ⟨w.heap.size + 1, 0, none⟩ (.slice a2 zz.length c2)) ∧ Mod (Old W2.heap.size) W3 (W3.setCell ⟨w.heap.size + 1, 0, none⟩ (.slice a2 zz.length c2))) := by
      refine ⟨⟨_, zz, ⟨cell_on _ _ _ _ _ cT, by rw [frozen_set]; exact fT, own_apart ho (fun e => by have := ho.lt _ e; dsimp only at this; omega) _, fun e => by have := ho.lt _ e; omega⟩, ?_, by rw [size_set]; exact s1, k1.setNew (p := ⟨w.heap.size + 1, 0, none⟩) (by dsimp only; omega) _, cell_aside _ (by dsimp only; omega) cR, by rw [frozen_set]; exact fR⟩, ?_⟩
      · intro p y h
        have := (List.append_inj' h rfl).2
        simp at this
        rw [hzz, this]
      · exact (Mod.refl _ W3).set (.inl (show Old W2.heap.size (w.heap.size + 1) from by unfold Old; omega)) _
    clear ho n1 hx hv hv2 hz k1 cR fR kW hzz
    rw [← unhide HZ]
    gi_wp2
    exact unhide HI
  case done =>
    rintro D hi W hD1 hD2 ⟨u, zs, n1, hz, s1, k1, cR, fR⟩ hK
    have hzs : zs = limbs (fct N) := hz (List.range N) N (by rw [List.range_succ])
    subst hzs
    have ht := told_impl W n1
    rw [← unhide HLF] at ht
    clear n1 hz k0 cT fT cB
    gi_wp2_with (refine ⟨trivial, ?_⟩; gi_at_call 15; refine (callsIn_wide.2 ht).mono ?_; rintro e w5 ⟨v5, rfl, r5, k5⟩; have cR5 := k5.cell0 cR; have fR5 := k5.loose0 (World.block_lt_of_cell? _ _ cR) fR; have hK5 := (k5.block D (by omega) (by omega)).trans hK; obtain ⟨a5, c5, hv5⟩ := Row.form' r5; subst hv5)
    obtain ⟨V, hV⟩ : ∃ V, V = Value.slice a5 (tell LF).length c5 := ⟨_, rfl⟩
    have hsz := k5.size
    have kp := Kept.put (lo := D) (hi := D + 1) (w5.setCell ⟨w.heap.size, 0, none⟩ (.slice a5 (tell LF).length c5)) (.deferred none) (Nat.le_refl _) (Nat.lt_succ_self _)
    have cF := kp.modF.cell (a := ⟨w.heap.size, 0, none⟩) (by dsimp only; omega) (cell_on _ _ _ (.slice a5 (tell LF).length c5) _ cR5)
    have kw := ((k1.trans k5).setNew (p := ⟨w.heap.size, 0, none⟩) (by simp) (.slice a5 (tell LF).length c5)).winThenF kp (by omega)
    have R := ((r5.set_other (p := ⟨w.heap.size, 0, none⟩) (.inl (by dsimp only; omega)) (.slice a5 (tell LF).length c5)).kept kp (by omega)).tight.wider (lo' := w.heap.size) (by omega) (Nat.le_refl _)
    refine ⟨by simp, .inl ⟨_, _, rfl, run_takeDeferred (b := D) ((Below.heap_setCell _ _ _ _ (by dsimp only; omega)).trans hK5), ?_⟩⟩
    exact ⟨.tuple #[.agg #[.slice a5 (tell LF).length c5], .bool (decide (LF.length ≤ 100))], by simp [results, Try.results6, go_sem, cF], _, rfl, R, kw⟩

end Go.Proofs.Ytinbdhnkpdbdgaa
