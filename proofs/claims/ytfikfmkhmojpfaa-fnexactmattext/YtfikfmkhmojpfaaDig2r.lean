/-
  The program's text of a number, with the room behind it.
-/
import Derived.Test.YtfikfmkhmojpfaaBT
import Derived.Test.YtfikfmkhmojpfaaInsR
namespace Go.Proofs.Ytfikfmkhmojpfaa
open Go.RowKit Go.Shelf
set_option linter.unusedVariables false
set_option maxRecDepth 8000
attribute [local go_sem] Oper.semAt_some

set_option maxHeartbeats 4000000 in
theorem text_room {b g : Nat} {v : Value} {N : Nat} (w : World) (h : Num b w g v (limbs N)) (nx : (limbs N).length ≤ 100000) :
    Calls Try.prog 71 #[.pointer (some ⟨g, 0, none⟩)] w fun e w' => ∃ v', e = .returned v' ∧ Row .u8 true w.heap.size w'.heap.size w' v' (decText N) ∧ (∃ g' c, v' = .slice (some ⟨g', 0, none⟩) (decText N).length c ∧ Room w' g' 0 c) ∧ Kept 0 0 w w' := by
  have hz := isZero_impl w h
  by_cases h0 : N = 0
  · subst h0
    rw [limbs_zero, decide_eq_true (by rfl)] at hz
    have r1 := Row.lit .u8 w 5 [48] (by simp [maxLen])
    have k1 := (Kept.refl 0 0 w).alloc (.cells #[.int .u8 48] 5)
    go_enter Try.func71, Try.ntmps71
    go_wp2_with (go_at_call 69; refine hz.mono ?_; rintro e w3 ⟨rfl, rfl⟩)
    go_ret
    exact ⟨_, rfl, r1, ⟨_, _, rfl, room_own (xs := [.int .u8 48]) ⟨rfl, .inr ⟨_, 1, #[.int .u8 48], rfl, Nat.le_refl _, heap_alloc_new _ _, by decide, by decide, rfl, rfl⟩⟩⟩, k1⟩
  · rw [decide_eq_false (fun e => h0 (limbs_eq_nil.1 (List.length_eq_zero_iff.1 e)))] at hz
    have hd := digits_impl (w.alloc (.cells #[.slice none 0 0] 30)) (some ⟨g, 0, none⟩)
    have hdl : (ddig N).length ≤ 1600000 := by
      have h1 := val_lt (limbs_lim N)
      rw [limbs_val, pow_limb] at h1
      have h2 := tdig_len (16 * (limbs N).length) N (by omega)
      unfold ddig
      rw [List.length_map]
      omega
    refine (callsIn_wide (n := 3)).1 ?_
    refine callsIn_of_wp_marks Try.func71 rfl trivial ?_ rfl
    simp only [Try.ntmps71, List.size_toArray, List.length_cons, List.length_nil, Nat.reduceAdd, Nat.reduceSub, Array.replicate_succ, Array.replicate_zero, List.push_toArray, List.append_toArray, List.nil_append, List.cons_append]
    gi_wp2_with (first | (refine ⟨trivial, ?_⟩; gi_at_call 69; refine (callsIn_wide.2 hz).mono ?_; rintro e w3 ⟨rfl, rfl⟩) | (refine ⟨trivial, ?_⟩; gi_at_call 94; refine (callsIn_wide.2 hd).mono ?_; rintro e w4 ⟨rfl, rfl⟩))
    clear hz hd
    have k0 : Kept 0 0 w3 ((w3.alloc (.cells #[.slice none 0 0] 30)).alloc (.cells #[.pointer (some ⟨g, 0, none⟩)] 129)) := ((Kept.refl 0 0 w3).alloc _).alloc _
    have cT : ((w3.alloc (.cells #[.slice none 0 0] 30)).alloc (.cells #[.pointer (some ⟨g, 0, none⟩)] 129)).cell? ⟨w3.heap.size, 0, none⟩ = some (.slice none 0 0) := old_cell _ (new_cell_at _ _ _ _ rfl)
    have fT : ((w3.alloc (.cells #[.slice none 0 0] 30)).alloc (.cells #[.pointer (some ⟨g, 0, none⟩)] 129)).frozen? ⟨w3.heap.size, 0, none⟩ = false := ((Kept.refl 0 0 _).alloc _).loose0 (by simp) (new_loose _ _ _ _ rfl)
    have cB : ((w3.alloc (.cells #[.slice none 0 0] 30)).alloc (.cells #[.pointer (some ⟨g, 0, none⟩)] 129)).cell? ⟨w3.heap.size + 1, 0, none⟩ = some (.pointer (some ⟨g, 0, none⟩)) := new_cell_at _ _ _ _ (by simp)
    have sB : ((w3.alloc (.cells #[.slice none 0 0] 30)).alloc (.cells #[.pointer (some ⟨g, 0, none⟩)] 129)).heap.size = w3.heap.size + 2 := by simp
    have n2 := h.kept k0
    generalize ((w3.alloc (.cells #[.slice none 0 0] 30)).alloc (.cells #[.pointer (some ⟨g, 0, none⟩)] 129)) = W2 at *
    refine wpIn_rangeFunc_ownW rfl (by decide) (gf := 109) (lb := #[.pointer (some ⟨w3.heap.size + 1, 0, none⟩)]) rfl trivial (enters_of Try.func109 (by kernel_rfl) rfl) (digits1_own 2 (by decide) W2 n2 cB nx) (fun _ => rfl) (TxtI w3 w3.heap.size) ?i0 ?ik
      (fun x => { tmps := #[.pointer (some ⟨g, 0, none⟩), undef, .slice none 0 0, .pointer (some ⟨w3.heap.size, 0, none⟩), .int .i64 x, .pointer (some ⟨g, 0, none⟩), .bool false, undef, .pointer (some ⟨g, 0, none⟩), .func (.func 109) #[] #[.pointer (some ⟨w3.heap.size + 1, 0, none⟩)], .int .i64 x, undef, undef, undef, undef, undef, undef, undef, undef, undef], defers := [] }) ?assign ?body ?done
    case i0 =>
      intro hi W' k h1 e
      exact ⟨_, k.cell0 cT, k.loose0 (show w3.heap.size < _ by omega) fT, World.ownsRow_nil _ _ _ _, by omega, k0.trans k⟩
    case ik =>
      rintro hi pre A B ⟨u, c1, f1, o1, s1, k1⟩ k
      exact ⟨u, k.modw.cell (show ¬ (_ ≤ w3.heap.size ∧ _) by omega) c1, k.modw.loose (show ¬ (_ ≤ w3.heap.size ∧ _) by omega) (World.block_lt_of_cell? _ _ c1) f1, k.modw.own o1 (fun i hi' => by have := o1.lt i hi'; omega), Nat.le_trans s1 k.size, k1.winThen k (by omega)⟩
    case assign =>
      intro l x W K hK
      gi_wp2
      exact hK
    case body =>
      rintro l hi pre x post W hx h2 ⟨u, c1, f1, o1, s1, k1⟩
      obtain ⟨hx0, hx9⟩ := ddig_at N x (by rw [hx]; simp)
      have hpl : pre.length ≤ 1600000 := by have := congrArg List.length hx; simp at this; omega
      obtain ⟨bs, hbs⟩ : ∃ bs, pre.map (fun z => 48 + z) = bs := ⟨_, rfl⟩
      have hbl : bs.length ≤ 1600000 := by rw [← hbs]; simpa using hpl
      have hbx : (pre ++ [x]).map (fun z => 48 + z) = bs ++ [48 + x] := by rw [List.map_append, hbs]; rfl
      rw [hbs] at o1
      have HB := hide hbx
      have hw1 : IntKind.i64.wrap (48 + x) = 48 + x := by rw [IntKind.wrap_i64]; omega
      have hw2 : IntKind.u8.wrap (48 + x) = 48 + x := byte_small (by omega) (by omega)
      obtain ⟨a1, d1, hv1⟩ := own_slice o1
      subst hv1
      obtain ⟨i0, hi0, hz0, hz1, hz2⟩ := info_parts Try.info5
      have O2 := hide (own_kept o1 ((Kept.refl 0 0 W).alloc (.cells #[.int .u8 (48 + x)] 5)))
      have C1 : (W.alloc (.cells #[.int .u8 (48 + x)] 5)).cell? ⟨W.heap.size, 0, none⟩ = some (.int .u8 (48 + x)) := new_cell_at _ _ _ _ rfl
      have C2 := hide (lit_cell C1)
      clear C1
      have B1 : Hid (bs.length + 1 ≤ maxLen) := by show _ ≤ _; unfold maxLen; omega
      have B2 : Hid ((bs.length + 1) * 1 ≤ 140737488355328) := by show _ ≤ _; omega
      have B3 : Hid (hi ≤ (W.alloc (.cells #[.int .u8 (48 + x)] 5)).heap.size) := by show _ ≤ _; simp; omega
      have ko := ((Kept.refl 0 0 W).alloc (.cells #[.int .u8 (48 + x)] 5))
      have c2 := ko.cell0 c1
      have f2 := ko.loose0 (World.block_lt_of_cell? _ _ c1) f1
      have hbase := fun i hi' => o1.lt i hi'
      have hno : ¬ (hi ≤ w3.heap.size ∧ w3.heap.size < W.heap.size) := by omega
      clear hpl hbs hbx hx o1
      gi_wp2_with (gi_at_builtin; refine wpListIn_append_own _ rfl _ _ 30 rfl hi 5 i0 (.int .u8 0) 1 1 Try.underlying30 hi0 hz0 hz1 hz2 rfl (by decide) _ _ _ rfl (unhide O2) ⟨W.heap.size, 0, none⟩ 1 1 [.int .u8 (48 + x)] rfl rfl (unhide C2) (by intro u hu; simp at hu; subst hu; rfl) (unhide B1) (unhide B2) (unhide B3) ?_; intro v3 w5 o5 g5 _; obtain ⟨g', cap', hv3⟩ := ownsRow_succ o5; subst hv3; have k5 := Kept.grown g5 hbase; have c5 := k5.modw.cell hno c2; have f5 := k5.modw.loose hno (World.block_lt_of_cell? _ _ c2) f2; clear c2 f2)
      have hb := unhide HB
      have hg' := o5.lt g' rfl
      have m5 : Mod (Out W2.heap.size hi) W w5 := (ko.toMod (S := Out W2.heap.size hi)).then k5.modw (fun i hi' => .inl (by unfold Out; omega))
      have m6 := m5.set (p := ⟨w3.heap.size, 0, none⟩) (.inl (show Out _ _ w3.heap.size by unfold Out; omega)) (.slice (some ⟨g', 0, none⟩) (bs.length + 1) cap')
      have kw := (k1.trans ko).winThen (k5.wider (Nat.le_refl _) (Nat.le_refl _)) (by omega)
      refine ⟨⟨_, cell_on _ _ _ _ _ c5, by rw [frozen_set]; exact f5, ?_, ?_, ?_⟩, m6⟩
      · rw [hb]
        have o6 := (Mod.set (Mod.refl (fun i => i = w3.heap.size) w5) (p := ⟨w3.heap.size, 0, none⟩) (.inl rfl) (.slice (some ⟨g', 0, none⟩) (bs.length + 1) cap')).own o5 (fun i hi' e => by have := o5.lt i hi'; omega)
        simpa using o6
      · rw [size_set]; have := k5.size; have := unhide B3; omega
      · exact (kw.winThen (lo := w3.heap.size) (hi := w3.heap.size + 1) ((Kept.refl _ _ _).setCell (p := ⟨w3.heap.size, 0, none⟩) (Nat.le_refl _) (Nat.lt_succ_self _) _) (Nat.le_refl _))
    case done =>
      rintro D hi W hD1 hD2 ⟨u, c1, f1, o1, s1, k1⟩ hK
      have ht : (ddig N).map (fun z => 48 + z) = tdig N := by
        unfold ddig
        rw [List.map_map]
        conv => rhs; rw [← List.map_id (tdig N)]
        apply List.map_congr_left
        intro z _
        simp only [Function.comp, id]
        omega
      rw [ht] at o1
      have hdt : decText N = (tdig N).reverse := by unfold decText; rw [if_neg h0]
      have hpos : 0 < (tdig N).length := by rw [tdig_step h0]; simp
      obtain ⟨g', cap', hv3⟩ : ∃ g' cap', u = .slice (some ⟨g', 0, none⟩) (tdig N).length cap' := by
        obtain ⟨L, hL⟩ : ∃ L, (tdig N).length = L + 1 := ⟨(tdig N).length - 1, by omega⟩
        rw [hL] at o1 ⊢
        exact ownsRow_succ o1
      subst hv3
      have hg' := o1.lt g' rfl
      have hr := reverse_room W (Row.own o1) hpos
      obtain ⟨TN, hTN⟩ : ∃ TN, TN = tdig N := ⟨_, rfl⟩
      rw [← hTN] at hr hdt c1
      have HDT := hide hdt
      have RM := hide (room_own o1)
      have hcp : 0 < cap' := by have := own_cap o1; omega
      clear hTN hdt ht o1 hpos hdl h n2 cB cT fT k0
      gi_wp2_with (refine ⟨trivial, ?_⟩; gi_at_call 95; refine (callsIn_wide.2 hr).mono ?_; rintro e w5 ⟨rfl, r5, k5, m5⟩; have c5 := k5.modw.cell (show ¬ (g' ≤ w3.heap.size ∧ w3.heap.size < g' + 1) by omega) c1; have hK5 := (k5.block D (by omega) (by omega)).trans hK)
      refine ⟨by simp, .inl ⟨_, _, rfl, run_takeDeferred hK5, ?_⟩⟩
      have kp := Kept.put (lo := D) (hi := D + 1) w5 (.deferred none) (Nat.le_refl _) (Nat.lt_succ_self _)
      have kw := (k1.winThen k5 (by omega)).winThen kp (by omega)
      have rm := ((unhide RM).same m5).keptR kp (by omega) hcp
      refine ⟨_, results_tmp rfl _ _ _, _, rfl, ?_, ⟨_, _, by rw [unhide HDT, List.length_reverse]; rfl, rm⟩, kw⟩
      rw [unhide HDT]
      have s5 := k5.size
      exact ((r5.kept kp (by omega)).wider (by omega) (Nat.le_refl _)).tight

end Go.Proofs.Ytfikfmkhmojpfaa
