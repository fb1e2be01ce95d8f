/-
  How many terms are enough: the program's ExpTerms.
-/
import Derived.Test.YtinbdhnkpdbdgaaFct3
import Derived.Test.YtinbdhnkpdbdgaaFct5
import Derived.Test.YtinbdhnkpdbdgaaBF
import Derived.RangeFuncCalls
import Derived.Stop.RegionWithIn
namespace Go.Proofs.Ytinbdhnkpdbdgaa
open Go.RowKit Go.Shelf
set_option linter.unusedVariables false
set_option maxRecDepth 8000
attribute [local go_sem] Oper.semAt_some

theorem range_pre {n x : Nat} {pre post : List Nat} (h : List.range n = pre ++ x :: post) : pre = List.range x := by
  have hl := congrArg List.length h
  simp at hl
  have h1 : (pre ++ x :: post)[pre.length]? = some x := by simp
  rw [← h, List.getElem?_range (by omega)] at h1
  have h2 : pre.length = x := by simpa using h1
  obtain ⟨post', h3⟩ := range_split (n := n) (i := x) (by omega)
  exact (List.append_inj (h.symm.trans h3) (by simp [h2])).1

/-- What the loop holds: no number of terms that has come is enough. -/
def TrmI (w : World) (W hi : Nat) (pre : List Nat) (A : World) : Prop :=
  (∃ m : Int, A.cell? ⟨w.heap.size + 1, 0, none⟩ = some (.int .i64 m)) ∧ A.frozen? ⟨w.heap.size + 1, 0, none⟩ = false ∧ A.cell? ⟨w.heap.size, 0, none⟩ = some (.int .i64 (-(W : Int))) ∧ (∀ j, 1 ≤ j → j + 1 ∈ pre → EnT W j = false) ∧ hi ≤ A.heap.size ∧ Kept 0 0 w A
/-- What it leaves with. -/
def TrmX (w : World) (W hi : Nat) (pre : List Nat) (A : World) : Prop :=
  A.cell? ⟨w.heap.size + 1, 0, none⟩ = some (.int .i64 (trm W : Int)) ∧ hi ≤ A.heap.size ∧ Kept 0 0 w A

theorem TrmI.kept {w A B : World} {W hi : Nat} {pre : List Nat} (h : TrmI w W hi pre A) (k : Kept 0 0 A B) : TrmI w W hi pre B := by
  obtain ⟨⟨m, cm⟩, fm, ca, hn, s1, k1⟩ := h
  exact ⟨⟨m, k.cell0 cm⟩, k.loose0 (World.block_lt_of_cell? _ _ cm) fm, k.cell0 ca, hn, Nat.le_trans s1 k.size, k1.trans k⟩
theorem TrmX.kept {w A B : World} {W hi : Nat} {pre : List Nat} (h : TrmX w W hi pre A) (k : Kept 0 0 A B) : TrmX w W hi pre B := by
  obtain ⟨cm, s1, k1⟩ := h
  exact ⟨k.cell0 cm, Nat.le_trans s1 k.size, k1.trans k⟩

/-- A round's own box holds the product; the act that the body begins with. -/
def FctT (ac : Nat → Value → Nat → Act) (hi : Nat) (x : Nat) (args : Array Value) (W : World) (a1 : Act) (W' : World) : Prop :=
  ∃ v, args = #[.int .i64 (x : Int), .agg #[v]] ∧ W.ownsRow hi 3 1 v (limbs (fct x)).length ((limbs (fct x)).map (Value.int .i64)) ∧ a1 = ac x v W.heap.size ∧ W' = W.alloc (.cells #[v] 34)

set_option maxHeartbeats 8000000 in
theorem terms_impl (W : Nat) (hW : W ≤ 400) (w : World) :
    Calls Try.prog 11 #[.int .i64 (-(W : Int))] w fun e w' => e = .returned (.int .i64 (trm W : Int)) ∧ Kept 0 0 w w' := by
  have h1 : ¬ (-(W : Int)) < -400 := by omega
  have h2 : ¬ 0 < (-(W : Int)) := by omega
  have h3 : ¬ (W : Int) < 0 := by omega
  have hneg : IntKind.i64.wrap (-(-(W : Int))) = (W : Int) := by rw [IntKind.wrap_i64]; omega
  have hneg2 : IntKind.i64.wrap (W : Int) = (W : Int) := by rw [IntKind.wrap_i64]; omega
  obtain ⟨R, hR⟩ : ∃ R, trm W = R := ⟨_, rfl⟩
  rw [hR]
  have HR := hide hR
  clear hR
  have hd := fun w => factorials_impl 200 w
  have k0 : Kept 0 0 w ((w.alloc (.cells #[.int .i64 (-(W : Int))] 3)).alloc (.cells #[.int .i64 0] 3)) := ((Kept.refl 0 0 w).alloc _).alloc _
  have c0 : ((w.alloc (.cells #[.int .i64 (-(W : Int))] 3)).alloc (.cells #[.int .i64 0] 3)).cell? ⟨w.heap.size, 0, none⟩ = some (.int .i64 (-(W : Int))) := old_cell _ (new_cell_at _ _ _ _ rfl)
  have cM : ((w.alloc (.cells #[.int .i64 (-(W : Int))] 3)).alloc (.cells #[.int .i64 0] 3)).cell? ⟨w.heap.size + 1, 0, none⟩ = some (.int .i64 0) := new_cell_at _ _ _ _ (by simp)
  have fM : ((w.alloc (.cells #[.int .i64 (-(W : Int))] 3)).alloc (.cells #[.int .i64 0] 3)).frozen? ⟨w.heap.size + 1, 0, none⟩ = false := new_loose _ _ _ _ (by simp)
  have s0 : ((w.alloc (.cells #[.int .i64 (-(W : Int))] 3)).alloc (.cells #[.int .i64 0] 3)).heap.size = w.heap.size + 2 := by simp
  refine (callsIn_wide (n := 3)).1 ?_
  refine callsIn_of_wp_marks Try.func11 rfl trivial ?_ rfl
  simp only [Try.ntmps11, List.size_toArray, List.length_cons, List.length_nil, Nat.reduceAdd, Nat.reduceSub, Array.replicate_succ, Array.replicate_zero, List.push_toArray, List.append_toArray, List.nil_append, List.cons_append]
  gi_wp2_with fail
  generalize (w.alloc (.cells #[.int .i64 (-(W : Int))] 3)).alloc (.cells #[.int .i64 0] 3) = W0 at *
  refine ⟨trivial, ?_⟩
  refine (callsIn_wide.2 (hd _)).mono ?_
  rintro e w4 ⟨rfl, rfl⟩
  clear hd
  have kB : Kept 0 0 W0 (W0.alloc (.cells #[.int .i64 200] 3)) := (Kept.refl 0 0 W0).alloc _
  have cB : (W0.alloc (.cells #[.int .i64 200] 3)).cell? ⟨w.heap.size + 2, 0, none⟩ = some (.int .i64 ((200 : Nat) : Int)) := new_cell_at _ _ _ _ (by omega)
  replace c0 := kB.cell0 c0
  replace fM := kB.loose0 (World.block_lt_of_cell? _ _ cM) fM
  replace cM := kB.cell0 cM
  have sB : (W0.alloc (.cells #[.int .i64 200] 3)).heap.size = w.heap.size + 3 := by simp; omega
  replace k0 := k0.trans kB
  rw [s0]
  clear kB
  gi_wp2_with fail
  generalize W0.alloc (.cells #[.int .i64 200] 3) = W2 at *
  refine wpIn_rangeFunc_ownR 0 rfl (by decide) (gf := 23) (lb := #[.pointer (some ⟨w.heap.size + 2, 0, none⟩)]) rfl trivial (enters_of Try.func23 (by kernel_rfl) rfl) (factorials1_own 2 (by decide) 200 201 rfl (by omega) W2 cB) (fun hi x args W hG => by obtain ⟨v, rfl, -⟩ := hG; rfl) ?gk (TrmI w W) (TrmX w W) ?i0 ?ik ?ixk
    (FctT (fun x v b => { tmps := #[.int .i64 (-(W : Int)), .pointer (some ⟨w.heap.size, 0, none⟩), .int .i64 0, .pointer (some ⟨w.heap.size + 1, 0, none⟩), .int .i64 (x : Int), .pointer (some ⟨b, 0, none⟩), .int .i64 (-(W : Int)), .bool false, .bool false, .int .i64 (-(W : Int)), .bool false, .bool false, .func (.func 23) #[] #[.pointer (some ⟨w.heap.size + 2, 0, none⟩)], .int .i64 (x : Int), .agg #[v], undef, undef, undef, undef, undef, undef, undef, undef, undef, undef, undef, undef, undef], defers := [] })) ?asn ?assign ?body ?done ?left
  case gk =>
    rintro hi x args A B ⟨v, rfl, ho⟩ k
    exact ⟨v, rfl, k.modF.own ho (fun i hi' => by have := ho.lt i hi'; omega)⟩
  case i0 =>
    intro hi W' k h1 e
    exact ⟨⟨_, k.cell0 cM⟩, k.loose0 (World.block_lt_of_cell? _ _ cM) fM, k.cell0 c0, fun j _ h => by simp at h, by omega, k0.trans k⟩
  case ik =>
    rintro hi pre A B ⟨⟨m, cm⟩, fm, ca, hn, s1, k1⟩ k
    exact ⟨⟨m, k.modF.cell (a := ⟨w.heap.size + 1, 0, none⟩) (by dsimp only; omega) cm⟩, k.modF.loose (a := ⟨w.heap.size + 1, 0, none⟩) (by dsimp only; omega) (World.block_lt_of_cell? _ _ cm) fm, k.modF.cell (a := ⟨w.heap.size, 0, none⟩) (by dsimp only; omega) ca, hn, Nat.le_trans s1 k.size, k1.winThenF k (by omega)⟩
  case ixk =>
    rintro hi pre A B ⟨cm, s1, k1⟩ k
    exact ⟨k.modF.cell (a := ⟨w.heap.size + 1, 0, none⟩) (by dsimp only; omega) cm, Nat.le_trans s1 k.size, k1.winThenF k (by omega)⟩
  case asn =>
    rintro hi x args W a1 W' ⟨v, -, -, -, rfl⟩
    exact (Kept.refl 0 0 W).alloc _
  case assign =>
    rintro l hi x args A K ⟨v, rfl, ho⟩ hK
    obtain ⟨a1, c1, rfl⟩ := own_slice ho
    have hK2 := hK _ _ ⟨_, rfl, ho, rfl, rfl⟩
    clear hK ho
    gi_wp2
    exact hK2
  case done =>
    rintro D hi A hD1 hD2 ⟨-, -, -, hn, -⟩ hK
    exfalso
    have h := trm_is W hW
    have := hn (trm W) h.1 (by rw [List.mem_range]; omega)
    rw [h.2.2.1] at this
    cases this
  case left =>
    rintro D hi pre post A hD1 hD2 hx ⟨cm, s1, k1⟩ hK
    rw [unhide HR] at cm
    clear k0 c0 cM fM cB
    gi_wp2_with fail
    refine ⟨by simp, .inl ⟨_, _, rfl, run_takeDeferred hK, ?_⟩⟩
    exact ⟨_, results_tmp rfl _ _ _, rfl, k1.winThenF (Kept.put (lo := D) (hi := D + 1) A (.deferred none) (Nat.le_refl _) (Nat.lt_succ_self _)) (by omega)⟩
  case body =>
    rintro l hi pre x post args A0 a1 A1 A3 hx h2 ⟨-, -, -, -, s0', -⟩ ⟨⟨m, cm⟩, fm, ca, hn, s1, k1⟩ ⟨v, hv, ho⟩ ⟨v2, hv2, ho0, rfl, rfl⟩ kW
    have hvv : v2 = v := by rw [hv] at hv2; simpa using hv2.symm
    subst hvv
    have hp := range_pre hx
    have hx2 : x < 201 := by have : x ∈ List.range 201 := by rw [hx]; simp
                             exact List.mem_range.1 this
    subst hp
    obtain ⟨a2, c2, hs⟩ := own_slice ho
    subst hs
    have c5 := kW.modF.cell (a := ⟨A0.heap.size, 0, none⟩) (by dsimp only; omega) (new_cell_at A0 (.slice a2 (limbs (fct x)).length c2) 34 A0.heap.size rfl)
    have f5 := kW.modF.loose (a := ⟨A0.heap.size, 0, none⟩) (by dsimp only; omega) (by simp) (new_loose _ _ _ _ rfl)
    have nB : Num hi A3 A0.heap.size (.slice a2 (limbs (fct x)).length c2) (limbs (fct x)) := ⟨c5, f5, ho, fun e => by have := ho0.lt _ e; omega⟩
    have hw1 : IntKind.i64.wrap ((x : Int) - 1) = (x : Int) - 1 := by rw [IntKind.wrap_i64]; omega
    have hb := World.block_lt_of_cell? _ _ cm
    dsimp only at hb
    have hM : Mod (Old W2.heap.size) A3 (A3.setCell ⟨w.heap.size + 1, 0, none⟩ (.int .i64 ((x : Int) - 1))) := (Mod.refl _ A3).set (.inl (show Old W2.heap.size (w.heap.size + 1) from by unfold Old; omega)) _
    have cm6 := cell_on _ _ _ (.int .i64 ((x : Int) - 1)) _ cm
    have ca6 := cell_aside (.int .i64 ((x : Int) - 1)) (r := ⟨w.heap.size + 1, 0, none⟩) (by dsimp only; omega) ca
    have k6 := k1.setNew (p := ⟨w.heap.size + 1, 0, none⟩) (by dsimp only; omega) (.int .i64 ((x : Int) - 1))
    have fm6 : (A3.setCell ⟨w.heap.size + 1, 0, none⟩ (.int .i64 ((x : Int) - 1))).frozen? ⟨w.heap.size + 1, 0, none⟩ = false := by rw [frozen_set]; exact fm
    have s6 : hi ≤ (A3.setCell ⟨w.heap.size + 1, 0, none⟩ (.int .i64 ((x : Int) - 1))).heap.size := by rw [size_set]; exact s1
    by_cases hx1 : x ≤ 1
    · have hg : ¬ 0 < (x : Int) - 1 := by omega
      have HI : Hid (TrmI w W hi (List.range x ++ [x]) (A3.setCell ⟨w.heap.size + 1, 0, none⟩ (.int .i64 ((x : Int) - 1))) ∧ Mod (Old W2.heap.size) A3 (A3.setCell ⟨w.heap.size + 1, 0, none⟩ (.int .i64 ((x : Int) - 1)))) := by
        refine ⟨⟨⟨_, cm6⟩, fm6, ca6, fun j h1 h => ?_, s6, k6⟩, hM⟩
        rw [← List.range_succ, List.mem_range] at h
        omega
      clear hM k6 nB hn hx hv hv2 ho k1 kW
      gi_wp2_with fail
      gi_region_with (refine ⟨trivial, ?_⟩)
      all_goals (gi_wp2; exact ⟨(unhide HI).1.kept (Kept.refl 0 0 _).drew, (unhide HI).2.kept (Kept.refl 0 0 _).drew⟩)
    · have hg : 0 < (x : Int) - 1 := by omega
      have hbb := fct_bits x (by omega)
      have hl := fct_len x (by omega)
      obtain ⟨B, hB⟩ : ∃ B, bitsN (fct x) = B := ⟨_, rfl⟩
      have n6 : Num hi (A3.setCell ⟨w.heap.size + 1, 0, none⟩ (.int .i64 ((x : Int) - 1))) A0.heap.size (.slice a2 (limbs (fct x)).length c2) (limbs (fct x)) := nB.mod ((Mod.refl (fun i => i = w.heap.size + 1) A3).set (.inl rfl) _) (by omega) (fun i hi' e => by have := ho.lt i hi'; omega)
      have mb : ∀ A7, Kept 0 0 (A3.setCell ⟨w.heap.size + 1, 0, none⟩ (.int .i64 ((x : Int) - 1))) A7 → Calls Try.prog 20 #[.pointer (some ⟨A0.heap.size, 0, none⟩)] A7 fun e w' => e = .returned (.int .i64 (B : Int)) ∧ Kept 0 0 A7 w' := fun A7 k7 => by
        have := bitsM_impl A7 (n6.kept k7) (limbs_nrm _) (by omega)
        rw [limbs_val, Int.toNat_natCast, hB] at this
        exact this
      rw [hB] at hbb
      have hw2 : IntKind.i64.wrap ((x : Int) - 1 + (B : Int)) = (x : Int) - 1 + (B : Int) := by rw [IntKind.wrap_i64]; omega
      have hen : EnT W (x - 1) = decide (W < x - 1 + B) := by unfold EnT; rw [show x - 1 + 1 = x by omega, hB]
      have MB := hide mb
      clear mb n6 nB hB hbb hl
      by_cases hc : W < x - 1 + B
      · have hlt : (W : Int) < (x : Int) - 1 + (B : Int) := by omega
        have HX : Hid (TrmX w W hi (List.range x ++ [x]) (A3.setCell ⟨w.heap.size + 1, 0, none⟩ (.int .i64 ((x : Int) - 1))) ∧ Mod (Old W2.heap.size) A3 (A3.setCell ⟨w.heap.size + 1, 0, none⟩ (.int .i64 ((x : Int) - 1)))) := by
          refine ⟨⟨?_, s6, k6⟩, hM⟩
          have : x - 1 = trm W := trm_unique hW (by omega) (by rw [hen, decide_eq_true hc]) (fun j h1 h2 => hn j h1 (by rw [List.mem_range]; omega))
          rw [← this, show ((x - 1 : Nat) : Int) = (x : Int) - 1 by omega]
          exact cm6
        clear hM k6 hn hx hv hv2 ho k1 kW hen hc
        gi_wp2_with fail
        gi_region_with (first | (refine ⟨trivial, ?_⟩; gi_at_call 20; refine (CallsIn.inRound l (callsIn_wide.2 (unhide MB _ (Kept.refl 0 0 _).drew))).mono ?_; rintro e w5 ⟨rfl, k5⟩; have cm7 := k5.cell0 cm6; have ca7 := k5.cell0 ca6) | (refine ⟨trivial, ?_⟩))
        all_goals (gi_wp2; exact ⟨rfl, (unhide HX).1.kept ((Kept.refl 0 0 _).drew.trans k5), (unhide HX).2.kept ((Kept.refl 0 0 _).drew.trans k5)⟩)
      · have hlt : ¬ (W : Int) < (x : Int) - 1 + (B : Int) := by omega
        have HI : Hid (TrmI w W hi (List.range x ++ [x]) (A3.setCell ⟨w.heap.size + 1, 0, none⟩ (.int .i64 ((x : Int) - 1))) ∧ Mod (Old W2.heap.size) A3 (A3.setCell ⟨w.heap.size + 1, 0, none⟩ (.int .i64 ((x : Int) - 1)))) := by
          refine ⟨⟨⟨_, cm6⟩, fm6, ca6, fun j h1 h => ?_, s6, k6⟩, hM⟩
          rw [← List.range_succ, List.mem_range] at h
          by_cases hj : j + 1 = x
          · rw [show j = x - 1 by omega, hen, decide_eq_false hc]
          · exact hn j h1 (by rw [List.mem_range]; omega)
        clear hM k6 hn hx hv hv2 ho k1 kW hen hc
        gi_wp2_with fail
        gi_region_with (first | (refine ⟨trivial, ?_⟩; gi_at_call 20; refine (CallsIn.inRound l (callsIn_wide.2 (unhide MB _ (Kept.refl 0 0 _).drew))).mono ?_; rintro e w5 ⟨rfl, k5⟩; have cm7 := k5.cell0 cm6; have ca7 := k5.cell0 ca6) | (refine ⟨trivial, ?_⟩))
        all_goals (gi_wp2; exact ⟨(unhide HI).1.kept ((Kept.refl 0 0 _).drew.trans k5), (unhide HI).2.kept ((Kept.refl 0 0 _).drew.trans k5)⟩)

end Go.Proofs.Ytinbdhnkpdbdgaa
