/-
  The model's decimal text of a dyadic number.
-/
import Derived.Test.YtfikfmkhmojpfaaDyt1
import Derived.Test.YtfikfmkhmojpfaaBK
import Derived.Test.YtfikfmkhmojpfaaBB
import Derived.Test.YtfikfmkhmojpfaaBT
import Derived.Test.YtfikfmkhmojpfaaBJ
import Derived.Test.YtfikfmkhmojpfaaNat11
import Derived.Deep.RegionHeld3
import Derived.Deep.DeepCutAuto
import Derived.Deep.RegionLaw
import Derived.Maps.AppendAt
namespace Go.Proofs.Ytfikfmkhmojpfaa
open Go.RowKit
set_option linter.unusedVariables false
set_option maxRecDepth 8000
set_option linter.unusedSimpArgs false

theorem in_l4dec : ∀ (w : World) (args : Array Value), (callFunc 36 args).run Try.prog w = .ok (.enter 36 args) w := enters Try.func36 (by decide) (fun h => by cases h)

/-- An append of a row that is not empty, as a single step. -/
theorem wp_cat {o : Oper} {a : Act} {K : Act → World → Prop} {Q : Exit → Act → World → Prop} {bw : Bool} {b lo hi : Nat} {wr : World} {v1 v2 : Value} {zs ts : List Int} (s x : Operand)
    (ho : o.op = .call { callee := .builtin .append, args := #[s, x], argTypes := #[30, 30] }) (hs : a.eval s = v1) (hx : a.eval x = v2)
    (hown : wr.ownsRow b 5 1 v1 zs.length (zs.map (Value.int .u8))) (r : Row .u8 bw lo hi wr v2 ts) (hz : ts ≠ []) (hb : b ≤ wr.heap.size) (hn : zs.length ≤ 2000000) (hm : ts.length ≤ 2000000)
    (h : ∀ v' w', w'.ownsRow b 5 1 v' (zs ++ ts).length ((zs ++ ts).map (Value.int .u8)) → wr.grownBy w' v1.ownBlock → (v'.ownBlock = v1.ownBlock ∨ v'.ownBlock = some wr.heap.size) → K (a.put o.dst v') w') : Oper.wp Try.prog o a wr K Q := by
  obtain ⟨i0, hi0, hz0, hz1, hz2⟩ := info_parts Try.info5
  obtain ⟨g, off, c, hv, -, -, hnews⟩ := r.news hz
  have hl1 : (zs.length + ts.length) ≤ maxLen := by unfold maxLen; omega
  obtain ⟨v', w', hr, h2, h3, h4, h5⟩ := run_append_own_at (P := Try.prog) wr b 30 o.type 5 i0 (.int .u8 0) 1 1 Try.underlying30 hi0 hz0 hz1 hz2 rfl (by decide) v1 _ _ hown ⟨g, off, none⟩ ts.length c (ts.map (Value.int .u8)) (by simp) hnews (ints_one _ _) hl1 (by omega) hb
  unfold Oper.wp execOp
  rw [hv] at hx
  simp only [ho, resolve, invoke, builtin, Sem.run_bind, Sem.run_pure, Result.andThen_ok, List.map_toArray, List.map_cons, List.map_nil, hs, hx, hr]
  rw [← List.map_append, ← List.length_append] at h2
  exact h v' w' h2 h3 h5

theorem row_apart {k : IntKind} {bw : Bool} {b : Nat} {w w' : World} {v : Value} {zs : List Int} {ob : Option Nat} (r : Row k bw b (b + 1) w v zs) (g : w.grownBy w' ob) (h : ∀ q, ob = some q → q ≠ b) : Row k bw b (b + 1) w' v zs := by
  cases ob with
  | none => exact r.kept (l := 0) (h := 0) ⟨g.os, g.tape, g.output, g.size, fun i hi _ => g.block i hi (by simp)⟩ (by omega)
  | some q =>
    have := h q rfl
    exact r.kept (l := q) (h := q + 1) ⟨g.os, g.tape, g.output, g.size, fun i hi ho => g.block i hi (by intro e; injection e with e; omega)⟩ (by omega)

theorem row_block1 {k : IntKind} {bw : Bool} {lo hi : Nat} {w : World} {v : Value} {zs : List Int} (r : Row k bw lo hi w v zs) : ∃ b, (zs ≠ [] → lo ≤ b ∧ b < hi) ∧ Row k bw b (b + 1) w v zs := by
  obtain ⟨a, c, rfl, h1, h2, h3⟩ := r
  by_cases hz : zs = []
  · exact ⟨lo, fun e => absurd hz e, a, c, rfl, h1, h2, fun e => absurd hz e⟩
  · obtain ⟨g, off, rfl, hl, hh, rest⟩ := h3 hz
    exact ⟨g, fun _ => ⟨hl, hh⟩, _, c, rfl, h1, h2, fun _ => ⟨g, off, rfl, Nat.le_refl _, Nat.lt_succ_self _, rest⟩⟩
theorem row_cap {k : IntKind} {bw : Bool} {lo hi n c : Nat} {a : Option Addr} {w : World} {zs : List Int} (r : Row k bw lo hi w (.slice a n c) zs) : n ≤ c ∧ c ≤ maxLen := by
  obtain ⟨a', c', e, q1, q2, q3⟩ := r
  injection e with e1 e2 e3
  subst e3
  exact ⟨by omega, q2⟩
theorem val_num {zs : List Int} {N : Nat} (h : zs = limbs N) : (val zs).toNat = N := by rw [h, limbs_val]; rfl
theorem rep_more (j : Nat) (D : List Int) : (48 : Int) :: (List.replicate j 48 ++ D) = List.replicate (j + 1) 48 ++ D := by
  rw [List.replicate_succ]; rfl
theorem five_step (N i : Nat) : (val (limbs (N * 5 ^ i)) * val (limbs (5 : Int).toNat)).toNat = N * 5 ^ (i + 1) := by
  rw [limbs_val, limbs_val, Nat.pow_succ, ← Nat.mul_assoc]
  rfl

set_option maxHeartbeats 4000000 in
theorem l4dec_up_false {bw : Bool} {lo hi : Nat} {v : Value} {zs : List Int} (k : Nat) (w : World) (r : Row .i64 bw lo hi w v zs) (hn : Nrm zs) (nx : zs.length ≤ 100) (hk1 : k ≤ 1000) (hU : Hid ((limbs ((val zs).toNat * 2 ^ k)).length ≤ 100000 ∧ (decText ((val zs).toNat * 2 ^ k)).length ≤ 2000000)) :
    Calls Try.prog 36 #[.agg #[.bool false, v, .int .i64 (k : Int)]] w fun e w' => ∃ v', e = .returned v' ∧ Row .u8 true w.heap.size w'.heap.size w' v' (sgnT false (decText ((val zs).toNat * 2 ^ k))) ∧ Kept 0 0 w w' := by
  obtain ⟨M, hM⟩ : ∃ M, (val zs).toNat * 2 ^ k = M := ⟨_, rfl⟩
  rw [hM] at hU ⊢
  have HM := hide hM
  clear hM
  have k0 : Kept 0 0 w (w.alloc (.cells #[.bool false, v, .int .i64 (k : Int)] 37)) := (Kept.refl 0 0 w).alloc _
  have p0 : (w.alloc (.cells #[.bool false, v, .int .i64 (k : Int)] 37)).cell? ⟨w.heap.size, 0, none⟩ = some (.bool false) := new_cell2 _ _ _ _ _ _ rfl rfl
  have p1 : (w.alloc (.cells #[.bool false, v, .int .i64 (k : Int)] 37)).cell? ⟨w.heap.size, 1, none⟩ = some (v) := new_cell2 _ _ _ _ _ _ rfl rfl
  have p2 : (w.alloc (.cells #[.bool false, v, .int .i64 (k : Int)] 37)).cell? ⟨w.heap.size, 2, none⟩ = some (.int .i64 (k : Int)) := new_cell2 _ _ _ _ _ _ rfl rfl
  have S0W : Hid ((w.alloc (.cells #[.bool false, v, .int .i64 (k : Int)] 37)).heap.size = w.heap.size + 1) := by (show _ = _; simp)
  replace r := r.kept k0 (by omega)
  obtain ⟨a, c, hv⟩ := Row.form' r
  subst hv
  go_enter Try.func36, Try.ntmps36
  go_wp2_with fail
  generalize (w.alloc (.cells #[.bool false, .slice a zs.length c, .int .i64 (k : Int)] 37)) = W at *
  have K0 := hide k0
  clear k0
  have K1 := hide (unhide K0)
  have zB : W.heap.size ≤ W.heap.size := Nat.le_refl _
  have zw := (unhide K0).size
  have hsh := shl_spec _ r hn.1 (by omega) k (.inr (by omega)) (by omega)
  rw [unhide HM] at hsh
  clear r hn nx
  go_wp2_with fail
  refine hsh.mono ?_
  rintro e w7 ⟨v7, rfl, r7, k7⟩
  obtain ⟨a7, c7, hv7⟩ := Row.form' r7
  subst hv7
  have ht := text_spec _ r7 (limbs_nrm _) (unhide hU).1
  rw [val_num rfl] at ht
  have hTT := hU
  clear hsh
  go_wp2_with fail
  refine ht.mono ?_
  rintro e w8 ⟨v8, rfl, r8, k8⟩
  obtain ⟨a8, c8, hv8⟩ := Row.form' r8
  subst hv8
  have KK := hide (k7.trans k8)
  have K8 := hide ((unhide K1).trans (unhide KK))
  have z8 := (unhide KK).size
  have R8 := hide r8
  have NE : Hid (decText M ≠ []) := decText_ne _
  have NL : Hid ((decText M).length ≤ 2000000) := by (show _ ≤ _; have := (unhide hU).2; omega)
  have NB : Hid (W.heap.size ≤ w8.heap.size) := by show _ ≤ _; omega
  clear ht r7 r8 k7 k8
  go_wp2_with (at_builtin; refine wpList_signed rfl _ _ rfl rfl rfl (zs := []) (World.ownsRow_nil _ _ _ _) (unhide R8) (unhide NE) (unhide NB) (by decide) (unhide NL) ?_)
  intro v9 w9 r9 g9
  have K9 := hide ((unhide K8).growNew g9 (fun q hq => by simp [Value.ownBlock] at hq))
  obtain ⟨a9, c9, hv9⟩ := Row.form' r9
  subst hv9
  have R9 := hide (r9.wider (lo' := w.heap.size) (by omega) (Nat.le_refl _))
  clear r9 g9
  go_wp2
  go_ret
  exact ⟨_, rfl, unhide R9, unhide K9⟩

set_option maxHeartbeats 16000000 in
theorem l4dec_down_false {bw : Bool} {lo hi : Nat} {v : Value} {zs : List Int} (x : Int) (K : Nat) (w : World) (r : Row .i64 bw lo hi w v zs) (hn : Nrm zs) (nx : zs.length ≤ 100) (h0 : ¬ x ≥ 0) (hw : IntKind.i64.wrap (-x) = (K : Int)) (hK0 : 0 < K) (hK1 : K ≤ 100) (HL : Hid (∀ i, i ≤ K → (limbs ((val zs).toNat * 5 ^ i)).length ≤ 200)) (hU : Hid (True ∧ (decText ((val zs).toNat * 5 ^ K)).length ≤ 2000)) :
    Calls Try.prog 36 #[.agg #[.bool false, v, .int .i64 x]] w fun e w' => ∃ v', e = .returned v' ∧ Row .u8 true w.heap.size w'.heap.size w' v' (sgnT false (dpText ((val zs).toNat * 5 ^ K) K)) ∧ Kept 0 0 w w' := by
  have hzl := nrm_limbs hn
  obtain ⟨N, hN⟩ : ∃ N, (val zs).toNat = N := ⟨_, rfl⟩
  rw [hN] at hU HL hzl ⊢
  have HZ := hide hzl
  obtain ⟨V, hV⟩ : ∃ V, N * 5 ^ K = V := ⟨_, rfl⟩
  rw [hV] at hU ⊢
  have HV := hide hV
  clear hzl hn nx hN hV
  have k0 : Kept 0 0 w (w.alloc (.cells #[.bool false, v, .int .i64 x] 37)) := (Kept.refl 0 0 w).alloc _
  have p0 : (w.alloc (.cells #[.bool false, v, .int .i64 x] 37)).cell? ⟨w.heap.size, 0, none⟩ = some (.bool false) := new_cell2 _ _ _ _ _ _ rfl rfl
  have p1 : (w.alloc (.cells #[.bool false, v, .int .i64 x] 37)).cell? ⟨w.heap.size, 1, none⟩ = some (v) := new_cell2 _ _ _ _ _ _ rfl rfl
  have p2 : (w.alloc (.cells #[.bool false, v, .int .i64 x] 37)).cell? ⟨w.heap.size, 2, none⟩ = some (.int .i64 x) := new_cell2 _ _ _ _ _ _ rfl rfl
  have S0W : Hid ((w.alloc (.cells #[.bool false, v, .int .i64 x] 37)).heap.size = w.heap.size + 1) := by (show _ = _; simp)
  replace r := r.kept k0 (by omega)
  obtain ⟨a, c, hv⟩ := Row.form' r
  subst hv
  go_enter Try.func36, Try.ntmps36
  go_wp2_with fail
  generalize (w.alloc (.cells #[.bool false, .slice a zs.length c, .int .i64 x] 37)) = W at *
  have K0 := hide k0
  clear k0
  have K1 := hide (unhide K0)
  have zB : W.heap.size ≤ W.heap.size := Nat.le_refl _
  have zw := (unhide K0).size
  obtain ⟨NB, hNB0⟩ : ∃ NB, NB = w.heap.size + 1 := ⟨_, rfl⟩
  have hNB : NB = W.heap.size := by rw [unhide S0W]; exact hNB0
  have HNB0 := hide hNB0
  clear hNB0
  have cN : (W.alloc (.cells #[.slice a zs.length c] 33)).cell? ⟨NB, 0, none⟩ = some (.slice a zs.length c) := new_cell_at _ _ _ _ hNB
  have fN : (W.alloc (.cells #[.slice a zs.length c] 33)).frozen? ⟨NB, 0, none⟩ = false := new_loose _ _ _ _ hNB
  have kN := (Kept.refl 0 0 W).alloc (.cells #[.slice a zs.length c] 33)
  have rN : Row .i64 false 0 (W.alloc (.cells #[.slice a zs.length c] 33)).heap.size (W.alloc (.cells #[.slice a zs.length c] 33)) (.slice a zs.length c) zs := (r.kept kN (by omega)).tight.read.wider (Nat.zero_le _) (Nat.le_refl _)
  have KN := hide kN
  have HNB := hide hNB
  clear r kN hNB
  go_wp2_with fail
  rw [← unhide HNB0]
  generalize (W.alloc (.cells #[.slice a zs.length c] 33)) = W6 at *
  have RN : Hid (∃ v, W6.cell? ⟨NB, 0, none⟩ = some v ∧ W6.frozen? ⟨NB, 0, none⟩ = false ∧ Row .i64 false 0 W6.heap.size W6 v (limbs (N * 5 ^ 0))) := ⟨_, cN, fN, by rw [Nat.pow_zero, Nat.mul_one, ← unhide HZ]; exact rN⟩
  clear cN fN rN
  go_loopw [6] (fun s6 wr => ∃ i : Nat, s6 = .int .i64 i ∧ i ≤ K ∧ Hid (∃ v, wr.cell? ⟨NB, 0, none⟩ = some v ∧ wr.frozen? ⟨NB, 0, none⟩ = false ∧ Row .i64 false 0 wr.heap.size wr v (limbs (N * 5 ^ i))) ∧ Hid (Kept 0 0 W wr)) (fun s6 _ => K - (intOf s6).toNat)
  case atStart => exact ⟨0, rfl, Nat.zero_le _, RN, KN⟩
  case round =>
    clear RN KN p0 p1 p2
    obtain ⟨i, rfl, hi, hR, hK⟩ := hrel
    obtain ⟨v, cN, fN, rN⟩ := unhide hR
    obtain ⟨Z, hZ⟩ : ∃ Z, limbs (N * 5 ^ i) = Z := ⟨_, rfl⟩
    rw [hZ] at rN
    obtain ⟨an, cn, hv⟩ := Row.form' rN
    subst hv
    by_cases hlt : i < K
    · have hwi : IntKind.i64.wrap ((i : Int) + 1) = ((i + 1 : Nat) : Int) := by rw [IntKind.wrap_i64]; omega
      have hZl : Z.length ≤ 200 := by rw [← hZ]; exact unhide HL i hi
      have HZi := hide hZ
      have hZm : Lim Z := by rw [← hZ]; exact limbs_lim _
      clear hZ hR
      go_wp2_with fail
      have cNd : wr.drew.cell? ⟨NB, 0, none⟩ = some (.slice an Z.length cn) := cN
      have fNd : wr.drew.frozen? ⟨NB, 0, none⟩ = false := fN
      have kd := (Kept.refl 0 0 wr).drew
      have rNd := rN.kept kd (by omega)
      have KD := hide ((unhide hK).trans kd)
      clear cN fN rN kd
      refine wp_region_held_drew (S := (fun _ => True)) (by kernel_rfl) ?_ (fun hHeld => ?_)
      · trivial
      generalize wr.drew = wd at *
      refine wpAnyH_ready (rs := [0, 1]) (by kernel_rfl) (by simp) ?_
      refine AllReadyH.cons rfl (fun KK hK => ?_) (AllReadyH.cons rfl (fun KK hK => ?_) AllReadyH.nil)
      · simp only [List.getElem_toArray, List.getElem_cons_succ, List.getElem_cons_zero]
        rw [if_pos (by rfl)]
        go_simp
        clear hHeld
        refine hK.out _ _ ?_ (fun hHeld => ?_)
        · trivial
        clear hK KK
        try simp only [Act.put, List.getElem_toArray, List.getElem_cons_succ, List.getElem_cons_zero, List.setIfInBounds_toArray, List.set_cons_zero, List.set_cons_succ]
        refine wpAnyH_ready (rs := [1]) (by kernel_rfl) (by simp) ?_
        refine AllReadyH.cons rfl (fun KK hK => ?_) AllReadyH.nil
        simp only [List.getElem_toArray, List.getElem_cons_succ, List.getElem_cons_zero]
        rw [if_pos (by rfl)]
        refine wps1 65 _ _ rfl l2of_enter (.int .i64 5) rfl (of_spec _ 5 (by decide)) ?_
        rintro e wA ⟨vA, rfl, rA, kA⟩
        refine ⟨_, rfl, ?_⟩
        obtain ⟨aA, cA, hv⟩ := Row.form' rA
        subst hv
        have cNA := kA.cell0 cNd
        have fNA := kA.loose0 (World.block_lt_of_cell? _ _ cNd) fNd
        have rNA := rNd.kept kA (by omega)
        have zA := kA.size
        have KA := hide ((unhide KD).trans kA)
        clear hHeld
        refine hK.out _ _ ?_ (fun hHeld => ?_)
        · trivial
        clear hK KK
        try simp only [Act.put, List.getElem_toArray, List.getElem_cons_succ, List.getElem_cons_zero, List.setIfInBounds_toArray, List.set_cons_zero, List.set_cons_succ]
        refine wpAnyH_ready (rs := [2]) (by kernel_rfl) (by simp) ?_
        refine AllReadyH.cons rfl (fun KK hK => ?_) AllReadyH.nil
        simp only [List.getElem_toArray, List.getElem_cons_succ, List.getElem_cons_zero]
        rw [if_pos (by rfl)]
        refine wps2 64 _ _ _ rfl l2mul_enter (.agg #[.slice an Z.length cn]) (.agg #[.slice aA _ cA]) rfl rfl (mul_spec _ rNA rA hZm (limbs_lim _) (by omega) (by have := limbs_lt (V := (5 : Int).toNat) (k := 1) (by decide); omega)) ?_
        rintro e wB ⟨vB, rfl, rB, kB⟩
        refine ⟨_, rfl, ?_⟩
        rw [← unhide HZi, five_step] at rB
        obtain ⟨LB, hLB⟩ : ∃ L, L = limbs (N * 5 ^ (i + 1)) := ⟨_, rfl⟩
        rw [← hLB] at rB
        obtain ⟨aB, cB, hv⟩ := Row.form' rB
        subst hv
        have cNB := kB.cell0 cNA
        have fNB := kB.loose0 (World.block_lt_of_cell? _ _ cNA) fNA
        have HLB := hide hLB
        have hNlt := World.block_lt_of_cell? _ _ cNA
        have HNLT : Hid (NB + 1 ≤ wA.heap.size) := hNlt
        have RB := hide rB
        have KB := hide ((unhide KA).trans kB)
        clear rB kB hLB hNlt cNA fNA rNA rA kA KA
        clear hHeld
        refine hK.out _ _ ?_ (fun hHeld => ?_)
        · trivial
        clear hK KK
        try simp only [Act.put, List.getElem_toArray, List.getElem_cons_succ, List.getElem_cons_zero, List.setIfInBounds_toArray, List.set_cons_zero, List.set_cons_succ]
        refine wpAnyH_ready (rs := [3]) (by kernel_rfl) (by simp) ?_
        refine AllReadyH.cons rfl (fun KK hK => ?_) AllReadyH.nil
        simp only [List.getElem_toArray, List.getElem_cons_succ, List.getElem_cons_zero]
        rw [if_pos (by rfl)]
        go_simp
        clear hHeld
        refine hK.out _ _ ?_ (fun hHeld => ?_)
        · trivial
        clear hK KK
        try simp only [Act.put, List.getElem_toArray, List.getElem_cons_succ, List.getElem_cons_zero, List.setIfInBounds_toArray, List.set_cons_zero, List.set_cons_succ]
        refine wpAnyH_done (by kernel_rfl) ?_ _
        clear hHeld
        have E1 := cell_on wB NB 0 (.slice aB LB.length cB) _ cNB
        have ks : Kept NB (NB + 1) wB (wB.setCell ⟨NB, 0, none⟩ (.slice aB LB.length cB)) := (Kept.refl _ _ _).setCell (p := ⟨NB, 0, none⟩) (Nat.le_refl _) (Nat.lt_succ_self _) _
        have RN2 : Hid (∃ v, (wB.setCell ⟨NB, 0, none⟩ (.slice aB LB.length cB)).cell? ⟨NB, 0, none⟩ = some v ∧ (wB.setCell ⟨NB, 0, none⟩ (.slice aB LB.length cB)).frozen? ⟨NB, 0, none⟩ = false ∧ Row .i64 false 0 (wB.setCell ⟨NB, 0, none⟩ (.slice aB LB.length cB)).heap.size (wB.setCell ⟨NB, 0, none⟩ (.slice aB LB.length cB)) v (limbs (N * 5 ^ (i + 1)))) := ⟨_, E1, by rw [frozen_set]; exact fNB, by rw [← unhide HLB]; exact ((unhide RB).kept ks (.inr (.inl (unhide HNLT)))).read.wider (Nat.zero_le _) (by rw [size_set]; exact Nat.le_refl _)⟩
        have KX := hide ((unhide KB).wide ks (by rw [unhide HNB]; exact Nat.le_refl _))
        clear E1 ks cNB fNB RB KB HLB HNLT
        go_wp2
        go_roundw
        case rel => exact ⟨i + 1, by simp, hlt, RN2, KX⟩
        case measure => simp [intOf]; omega
      · simp only [List.getElem_toArray, List.getElem_cons_succ, List.getElem_cons_zero]
        rw [if_pos (by rfl)]
        refine wps1 65 _ _ rfl l2of_enter (.int .i64 5) rfl (of_spec _ 5 (by decide)) ?_
        rintro e wA ⟨vA, rfl, rA, kA⟩
        refine ⟨_, rfl, ?_⟩
        obtain ⟨aA, cA, hv⟩ := Row.form' rA
        subst hv
        have cNA := kA.cell0 cNd
        have fNA := kA.loose0 (World.block_lt_of_cell? _ _ cNd) fNd
        have rNA := rNd.kept kA (by omega)
        have zA := kA.size
        have KA := hide ((unhide KD).trans kA)
        clear hHeld
        refine hK.out _ _ ?_ (fun hHeld => ?_)
        · trivial
        clear hK KK
        try simp only [Act.put, List.getElem_toArray, List.getElem_cons_succ, List.getElem_cons_zero, List.setIfInBounds_toArray, List.set_cons_zero, List.set_cons_succ]
        refine wpAnyH_ready (rs := [0]) (by kernel_rfl) (by simp) ?_
        refine AllReadyH.cons rfl (fun KK hK => ?_) AllReadyH.nil
        simp only [List.getElem_toArray, List.getElem_cons_succ, List.getElem_cons_zero]
        rw [if_pos (by rfl)]
        go_simp
        clear hHeld
        refine hK.out _ _ ?_ (fun hHeld => ?_)
        · trivial
        clear hK KK
        try simp only [Act.put, List.getElem_toArray, List.getElem_cons_succ, List.getElem_cons_zero, List.setIfInBounds_toArray, List.set_cons_zero, List.set_cons_succ]
        refine wpAnyH_ready (rs := [2]) (by kernel_rfl) (by simp) ?_
        refine AllReadyH.cons rfl (fun KK hK => ?_) AllReadyH.nil
        simp only [List.getElem_toArray, List.getElem_cons_succ, List.getElem_cons_zero]
        rw [if_pos (by rfl)]
        refine wps2 64 _ _ _ rfl l2mul_enter (.agg #[.slice an Z.length cn]) (.agg #[.slice aA _ cA]) rfl rfl (mul_spec _ rNA rA hZm (limbs_lim _) (by omega) (by have := limbs_lt (V := (5 : Int).toNat) (k := 1) (by decide); omega)) ?_
        rintro e wB ⟨vB, rfl, rB, kB⟩
        refine ⟨_, rfl, ?_⟩
        rw [← unhide HZi, five_step] at rB
        obtain ⟨LB, hLB⟩ : ∃ L, L = limbs (N * 5 ^ (i + 1)) := ⟨_, rfl⟩
        rw [← hLB] at rB
        obtain ⟨aB, cB, hv⟩ := Row.form' rB
        subst hv
        have cNB := kB.cell0 cNA
        have fNB := kB.loose0 (World.block_lt_of_cell? _ _ cNA) fNA
        have HLB := hide hLB
        have hNlt := World.block_lt_of_cell? _ _ cNA
        have HNLT : Hid (NB + 1 ≤ wA.heap.size) := hNlt
        have RB := hide rB
        have KB := hide ((unhide KA).trans kB)
        clear rB kB hLB hNlt cNA fNA rNA rA kA KA
        clear hHeld
        refine hK.out _ _ ?_ (fun hHeld => ?_)
        · trivial
        clear hK KK
        try simp only [Act.put, List.getElem_toArray, List.getElem_cons_succ, List.getElem_cons_zero, List.setIfInBounds_toArray, List.set_cons_zero, List.set_cons_succ]
        refine wpAnyH_ready (rs := [3]) (by kernel_rfl) (by simp) ?_
        refine AllReadyH.cons rfl (fun KK hK => ?_) AllReadyH.nil
        simp only [List.getElem_toArray, List.getElem_cons_succ, List.getElem_cons_zero]
        rw [if_pos (by rfl)]
        go_simp
        clear hHeld
        refine hK.out _ _ ?_ (fun hHeld => ?_)
        · trivial
        clear hK KK
        try simp only [Act.put, List.getElem_toArray, List.getElem_cons_succ, List.getElem_cons_zero, List.setIfInBounds_toArray, List.set_cons_zero, List.set_cons_succ]
        refine wpAnyH_done (by kernel_rfl) ?_ _
        clear hHeld
        have E1 := cell_on wB NB 0 (.slice aB LB.length cB) _ cNB
        have ks : Kept NB (NB + 1) wB (wB.setCell ⟨NB, 0, none⟩ (.slice aB LB.length cB)) := (Kept.refl _ _ _).setCell (p := ⟨NB, 0, none⟩) (Nat.le_refl _) (Nat.lt_succ_self _) _
        have RN2 : Hid (∃ v, (wB.setCell ⟨NB, 0, none⟩ (.slice aB LB.length cB)).cell? ⟨NB, 0, none⟩ = some v ∧ (wB.setCell ⟨NB, 0, none⟩ (.slice aB LB.length cB)).frozen? ⟨NB, 0, none⟩ = false ∧ Row .i64 false 0 (wB.setCell ⟨NB, 0, none⟩ (.slice aB LB.length cB)).heap.size (wB.setCell ⟨NB, 0, none⟩ (.slice aB LB.length cB)) v (limbs (N * 5 ^ (i + 1)))) := ⟨_, E1, by rw [frozen_set]; exact fNB, by rw [← unhide HLB]; exact ((unhide RB).kept ks (.inr (.inl (unhide HNLT)))).read.wider (Nat.zero_le _) (by rw [size_set]; exact Nat.le_refl _)⟩
        have KX := hide ((unhide KB).wide ks (by rw [unhide HNB]; exact Nat.le_refl _))
        clear E1 ks cNB fNB RB KB HLB HNLT
        go_wp2
        go_roundw
        case rel => exact ⟨i + 1, by simp, hlt, RN2, KX⟩
        case measure => simp [intOf]; omega
    · have hiK : i = K := by omega
      subst hiK
      have hZ0 : Nrm Z := by rw [← hZ]; exact limbs_nrm _
      have hZl : Z.length ≤ 200 := by rw [← hZ]; exact unhide HL i (Nat.le_refl _)
      have ht := text_spec _ rN hZ0 (by omega)
      rw [val_num hZ.symm] at ht
      rw [unhide HV] at ht
      obtain ⟨D, hD⟩ : ∃ D, decText V = D := ⟨_, rfl⟩
      rw [hD] at ht
      have HD := hide hD
      have hD0 : 0 < D.length := by rw [← hD]; exact decText_pos _
      have hD1 : D.length ≤ 2000 := by rw [← hD]; exact (unhide hU).2
      clear hZ hZ0 hZl hR hD rN
      go_wp2_with fail
      refine ht.mono ?_
      rintro e w7 ⟨v7, rfl, r7, k7⟩
      clear ht
      have K7 := hide ((unhide hK).trans k7)
      have z7 : W.heap.size ≤ w7.heap.size := (unhide K7).size
      have R7 : Hid (Row .u8 true W.heap.size w7.heap.size w7 v7 (List.replicate 0 48 ++ D)) := by (show Row _ _ _ _ _ _ _; rw [List.replicate_zero, List.nil_append]; exact r7.wider (unhide hK).size (Nat.le_refl _))
      clear r7 k7 cN fN hK
      go_wp2_with fail
      go_loopw [7] (fun s7 wr => ∃ j : Nat, j ≤ i + 1 - D.length ∧ lenV s7 = j + D.length ∧ Hid (Row .u8 true W.heap.size wr.heap.size wr s7 (List.replicate j 48 ++ D)) ∧ Hid (Kept 0 0 W wr)) (fun s7 _ => i + 1 - lenV s7)
      case atStart =>
        obtain ⟨a7, c7, hv⟩ := Row.form' (unhide R7)
        exact ⟨0, Nat.zero_le _, by rw [hv]; simp [lenV], R7, K7⟩
      case round =>
        clear R7 K7 z7
        obtain ⟨j, hj, hln, hR, hK⟩ := hrel
        obtain ⟨TL, hTL⟩ : ∃ T, List.replicate j 48 ++ D = T := ⟨_, rfl⟩
        have hTl : TL.length = j + D.length := by rw [← hTL]; simp
        rw [hTL] at hR
        obtain ⟨a7, c7, hv⟩ := Row.form' (unhide hR)
        subst hv
        have HTL := hide hTL
        have HTl := hide hTl
        clear hTL hTl hln
        by_cases hle : TL.length ≤ i
        · have hle' : (TL.length : Int) ≤ (i : Int) := by omega
          have o1 := own_lit .u8 wr 5 wr.heap.size (Nat.le_refl _) [48] (by simp [maxLen])
          have k1 := (Kept.refl 0 0 wr).alloc (.cells #[.int .u8 48] 5)
          have O1 : Hid ((wr.alloc (.cells #[.int .u8 48] 5)).ownsRow wr.heap.size 5 1 (.slice (some ⟨wr.heap.size, 0, none⟩) 1 1) 1 ([48].map (Value.int .u8))) := o1
          have R1 := hide ((unhide hR).kept k1 (by omega))
          have NE : Hid (TL ≠ []) := fun e => by (have := unhide HTl; rw [e] at this; simp at this; omega)
          have NL : Hid (TL.length ≤ 2000000) := by show _ ≤ _; omega
          have NB1 : Hid (wr.heap.size ≤ (wr.alloc (.cells #[.int .u8 48] 5)).heap.size) := k1.size
          have KA := hide k1
          clear o1 k1 hR
          go_wp2_with (at_builtin; refine wpList_signed rfl _ _ rfl rfl rfl (zs := [48]) (unhide O1) (unhide R1) (unhide NE) (unhide NB1) (by decide) (unhide NL) ?_)
          intro v9 w9 r9 g9
          have k9 := (unhide KA).growNew g9 (fun q hq => by simp [Value.ownBlock] at hq; omega)
          have K9 := hide ((unhide hK).trans k9)
          have zK := (unhide hK).size
          rw [← unhide HTL, rep_more] at r9
          obtain ⟨a9, c9, hv9⟩ := Row.form' r9
          have hl9 : lenV v9 = j + 1 + D.length := by rw [hv9]; simp [lenV]
          have R9 : Hid (Row .u8 true W.heap.size w9.heap.size w9 v9 (List.replicate (j + 1) 48 ++ D)) := r9.wider zK (Nat.le_refl _)
          have hT1 := unhide HTl
          clear r9 g9 k9 hv9 KA O1 R1 NE NL NB1
          go_wp2
          go_roundw
          case rel => exact ⟨j + 1, by omega, hl9, R9, K9⟩
          case measure => rw [hl9]; simp [lenV]; omega
        · have hgt : ¬ (TL.length : Int) ≤ (i : Int) := by omega
          have hjj : j = i + 1 - D.length := by have := unhide HTl; omega
          have HDP : Hid (dpText V i = TL.take (TL.length - i) ++ 46 :: TL.drop (TL.length - i)) := by (show _ = _; unfold dpText; rw [unhide HD, ← hjj, unhide HTL])
          obtain ⟨Q, hQ⟩ : ∃ Q, TL.length - i = Q := ⟨_, rfl⟩
          rw [hQ] at HDP
          have hQ0 : 0 < Q := by omega
          have hQl : Q < TL.length := by omega
          have hsub : IntKind.i64.wrap ((TL.length : Int) - (i : Int)) = (Q : Int) := by rw [IntKind.wrap_i64]; have := unhide HTl; omega
          have hR1 : Row .u8 true W.heap.size wr.heap.size wr (.slice a7 TL.length c7) TL := unhide hR
          obtain ⟨b7, hb7, rb7⟩ := row_block1 hR1
          have hb7 := hb7 (fun e => by rw [e] at hQl; simp at hQl)
          have zX := (unhide hK).size
          obtain ⟨g7, o7, c7', hv, -, -, -⟩ := hR1.news (fun e => by rw [e] at hQl; simp at hQl)
          injection hv with e1 e2 e3
          subst e1 e3
          obtain ⟨hcap, hmax⟩ := row_cap hR1
          unfold maxLen at hmax
          have rA := rb7.front Q (Nat.le_of_lt hQl)
          have rB := rb7.drop Q hQl
          have hLA : (TL.take Q).length = Q := by rw [List.length_take]; omega
          have hLB : (TL.drop Q).length = TL.length - Q := List.length_drop
          have hK1 : Kept 0 0 W wr := unhide hK
          have hQc : Q ≤ c7 := by omega
          have hQ1 : Q ≤ TL.length := by omega
          have hQ2 : ¬ c7 = Q := by omega
          have HLA := hide hLA
          have HLB := hide hLB
          have RA := hide rA
          have RB := hide rB
          have HT2 : Hid (TL.length ≤ 3000) := by (show _ ≤ _; have := unhide HTL; rw [← this]; simp; omega)
          have HB7 : Hid (W.heap.size ≤ b7 ∧ b7 < wr.heap.size) := hb7
          clear hLA hLB rA rB rb7 hb7 hj hD0 hD1 HTl hQ hle hjj hR hR1
          go_wp2_with fail
          have kd := (Kept.refl 0 0 wr).drew
          have KD := hide (hK1.trans kd)
          replace RA := hide ((unhide RA).kept kd (by omega))
          replace RB := hide ((unhide RB).kept kd (by omega))
          replace HB7 : Hid (W.heap.size ≤ b7 ∧ b7 < wr.drew.heap.size) := HB7
          clear kd hK1
          refine wp_region_held_drew (S := (fun _ => True)) (by kernel_rfl) ?_ (fun hHeld => ?_)
          · trivial
          generalize wr.drew = wd at *
          refine wpAnyH_take (i := 0) (oi := _) (v := .slice none 0 0) rfl (by kernel_rfl) (by kernel_rfl) (by kernel_rfl) (fun _ _ _ h => h) (Or.inl ⟨by rfl, ?_⟩) hHeld ?_
          · intro wq hSw
            try dsimp only at hSw
            go_simp
          try simp only [Act.put, List.getElem_toArray, List.getElem_cons_succ, List.getElem_cons_zero, List.setIfInBounds_toArray, List.set_cons_zero, List.set_cons_succ]
          refine wpAnyH_take (i := 1) (oi := _) (v := .slice (some ⟨g7, o7, none⟩) TL.length c7) rfl (by kernel_rfl) (by kernel_rfl) (by kernel_rfl) (fun _ _ _ h => h) (Or.inl ⟨by rfl, ?_⟩) hHeld ?_
          · intro wq hSw
            try dsimp only at hSw
            go_simp
          try simp only [Act.put, List.getElem_toArray, List.getElem_cons_succ, List.getElem_cons_zero, List.setIfInBounds_toArray, List.set_cons_zero, List.set_cons_succ]
          refine wpAnyH_take (i := 2) (oi := _) (v := .slice (some ⟨g7, o7, none⟩) TL.length c7) rfl (by kernel_rfl) (by kernel_rfl) (by kernel_rfl) (fun _ _ _ h => h) (Or.inl ⟨by rfl, ?_⟩) hHeld ?_
          · intro wq hSw
            try dsimp only at hSw
            go_simp
          try simp only [Act.put, List.getElem_toArray, List.getElem_cons_succ, List.getElem_cons_zero, List.setIfInBounds_toArray, List.set_cons_zero, List.set_cons_succ]
          refine wpAnyH_take (i := 3) (oi := _) (v := .int .i64 (TL.length : Int)) rfl (by kernel_rfl) (by kernel_rfl) (by kernel_rfl) (fun _ _ _ h => h) (Or.inl ⟨by rfl, ?_⟩) hHeld ?_
          · intro wq hSw
            try dsimp only at hSw
            go_simp
          try simp only [Act.put, List.getElem_toArray, List.getElem_cons_succ, List.getElem_cons_zero, List.setIfInBounds_toArray, List.set_cons_zero, List.set_cons_succ]
          refine wpAnyH_take (i := 4) (oi := _) (v := .int .i64 (i : Int)) rfl (by kernel_rfl) (by kernel_rfl) (by kernel_rfl) (fun _ _ _ h => h) (Or.inl ⟨by rfl, ?_⟩) hHeld ?_
          · intro wq hSw
            try dsimp only at hSw
            go_simp
          try simp only [Act.put, List.getElem_toArray, List.getElem_cons_succ, List.getElem_cons_zero, List.setIfInBounds_toArray, List.set_cons_zero, List.set_cons_succ]
          refine wpAnyH_take (i := 5) (oi := _) (v := .int .i64 (Q : Int)) rfl (by kernel_rfl) (by kernel_rfl) (by kernel_rfl) (fun _ _ _ h => h) (Or.inl ⟨by rfl, ?_⟩) hHeld ?_
          · intro wq hSw
            try dsimp only at hSw
            go_simp
          try simp only [Act.put, List.getElem_toArray, List.getElem_cons_succ, List.getElem_cons_zero, List.setIfInBounds_toArray, List.set_cons_zero, List.set_cons_succ]
          refine wpAnyH_take (i := 6) (oi := _) (v := .slice (some ⟨g7, o7, none⟩) Q c7) rfl (by kernel_rfl) (by kernel_rfl) (by kernel_rfl) (fun _ _ _ h => h) (Or.inl ⟨by rfl, ?_⟩) hHeld ?_
          · intro wq hSw
            try dsimp only at hSw
            go_simp
          try simp only [Act.put, List.getElem_toArray, List.getElem_cons_succ, List.getElem_cons_zero, List.setIfInBounds_toArray, List.set_cons_zero, List.set_cons_succ]
          refine wpAnyH_take (i := 10) (oi := _) (v := .slice (some ⟨g7, o7, none⟩) TL.length c7) rfl (by kernel_rfl) (by kernel_rfl) (by kernel_rfl) (fun _ _ _ h => h) (Or.inl ⟨by rfl, ?_⟩) hHeld ?_
          · intro wq hSw
            try dsimp only at hSw
            go_simp
          try simp only [Act.put, List.getElem_toArray, List.getElem_cons_succ, List.getElem_cons_zero, List.setIfInBounds_toArray, List.set_cons_zero, List.set_cons_succ]
          refine wpAnyH_take (i := 11) (oi := _) (v := .slice (some ⟨g7, o7, none⟩) TL.length c7) rfl (by kernel_rfl) (by kernel_rfl) (by kernel_rfl) (fun _ _ _ h => h) (Or.inl ⟨by rfl, ?_⟩) hHeld ?_
          · intro wq hSw
            try dsimp only at hSw
            go_simp
          try simp only [Act.put, List.getElem_toArray, List.getElem_cons_succ, List.getElem_cons_zero, List.setIfInBounds_toArray, List.set_cons_zero, List.set_cons_succ]
          refine wpAnyH_take (i := 12) (oi := _) (v := .int .i64 (TL.length : Int)) rfl (by kernel_rfl) (by kernel_rfl) (by kernel_rfl) (fun _ _ _ h => h) (Or.inl ⟨by rfl, ?_⟩) hHeld ?_
          · intro wq hSw
            try dsimp only at hSw
            go_simp
          try simp only [Act.put, List.getElem_toArray, List.getElem_cons_succ, List.getElem_cons_zero, List.setIfInBounds_toArray, List.set_cons_zero, List.set_cons_succ]
          refine wpAnyH_take (i := 13) (oi := _) (v := .int .i64 (i : Int)) rfl (by kernel_rfl) (by kernel_rfl) (by kernel_rfl) (fun _ _ _ h => h) (Or.inl ⟨by rfl, ?_⟩) hHeld ?_
          · intro wq hSw
            try dsimp only at hSw
            go_simp
          try simp only [Act.put, List.getElem_toArray, List.getElem_cons_succ, List.getElem_cons_zero, List.setIfInBounds_toArray, List.set_cons_zero, List.set_cons_succ]
          refine wpAnyH_take (i := 14) (oi := _) (v := .int .i64 (Q : Int)) rfl (by kernel_rfl) (by kernel_rfl) (by kernel_rfl) (fun _ _ _ h => h) (Or.inl ⟨by rfl, ?_⟩) hHeld ?_
          · intro wq hSw
            try dsimp only at hSw
            go_simp
          try simp only [Act.put, List.getElem_toArray, List.getElem_cons_succ, List.getElem_cons_zero, List.setIfInBounds_toArray, List.set_cons_zero, List.set_cons_succ]
          refine wpAnyH_take (i := 15) (oi := _) (v := .slice (some ⟨g7, o7 + Q, none⟩) (TL.length - Q) (c7 - Q)) rfl (by kernel_rfl) (by kernel_rfl) (by kernel_rfl) (fun _ _ _ h => h) (Or.inl ⟨by rfl, ?_⟩) hHeld ?_
          · intro wq hSw
            try dsimp only at hSw
            go_simp
          try simp only [Act.put, List.getElem_toArray, List.getElem_cons_succ, List.getElem_cons_zero, List.setIfInBounds_toArray, List.set_cons_zero, List.set_cons_succ]
          refine wpAnyH_ready (rs := [7, 8]) (by kernel_rfl) (by simp) ?_
          refine AllReadyH.cons rfl (fun KK hK => ?_) (AllReadyH.cons rfl (fun KK hK => ?_) AllReadyH.nil)
          · simp only [List.getElem_toArray, List.getElem_cons_succ, List.getElem_cons_zero]
            rw [if_pos (by rfl)]
            have NBA : Hid (W.heap.size ≤ wd.heap.size) := by (show _ ≤ _; have := (unhide KD).size; omega)
            refine wp_cat (v1 := .slice none 0 0) (v2 := .slice (some ⟨g7, o7, none⟩) Q c7) _ _ rfl rfl rfl (zs := []) (b := W.heap.size) (World.ownsRow_nil _ _ _ _) (unhide RA) (fun e => by (have h := unhide HLA; rw [e] at h; simp at h; omega)) (unhide NBA) (by decide) (by (have := unhide HLA; have := unhide HT2; omega)) ?_
            intro vA wA oA gA eA
            obtain ⟨S1, hS1⟩ : ∃ S1, S1 = [] ++ TL.take Q := ⟨_, rfl⟩
            rw [← hS1] at oA
            have HS1 := hide hS1
            have hl1 : S1.length ≤ 3900 := by (rw [hS1, List.length_append]; have := unhide HLA; have := unhide HT2; simp; omega)
            have HL1 := hide hl1
            clear hS1 hl1
            obtain ⟨aA, cA, hvA⟩ := own_slice oA
            subst hvA
            have hbb := unhide HB7
            have PA : Hid (∀ q, (Value.slice aA S1.length cA).ownBlock = some q → W.heap.size ≤ q ∧ q ≠ b7) := fun q hq => by
              have h1 := (oA.lt q hq).1
              refine ⟨h1, ?_⟩
              rcases eA with e | e
              · rw [e] at hq
                simp [Value.ownBlock] at hq
              · rw [e] at hq
                injection hq with hq
                have := (unhide KD).size
                omega
            have RB1 := hide (row_apart (unhide RB) gA (fun q hq => by simp [Value.ownBlock] at hq))
            have KX := hide (((unhide K1).trans (unhide KD)).growNew gA (fun q hq => by simp [Value.ownBlock] at hq))
            have ZA := gA.size
            have OX := hide oA
            clear oA gA eA NBA RA RB hbb
            clear hHeld
            refine hK.out _ _ ?_ (fun hHeld => ?_)
            · trivial
            clear hK KK
            try simp only [Act.put, List.getElem_toArray, List.getElem_cons_succ, List.getElem_cons_zero, List.setIfInBounds_toArray, List.set_cons_zero, List.set_cons_succ]
            refine wpAnyH_ready (rs := [8]) (by kernel_rfl) (by simp) ?_
            refine AllReadyH.cons rfl (fun KK hK => ?_) AllReadyH.nil
            simp only [List.getElem_toArray, List.getElem_cons_succ, List.getElem_cons_zero]
            rw [if_pos (by rfl)]
            go_simp
            have k2 := (Kept.refl 0 0 wA).alloc (.cells #[.int .u8 46] 5)
            have RL : Hid (Row .u8 true wA.heap.size (wA.alloc (.cells #[.int .u8 46] 5)).heap.size (wA.alloc (.cells #[.int .u8 46] 5)) (.slice (some ⟨wA.heap.size, 0, none⟩) 1 1) [46]) := Row.own (own_lit .u8 wA 5 wA.heap.size (Nat.le_refl _) [46] (by simp [maxLen]))
            have OY := hide (own_kept (unhide OX) k2)
            have RB2 := hide ((unhide RB1).kept k2 (by omega))
            have KY := hide ((unhide KX).trans k2)
            have ZB : Hid (wd.heap.size ≤ (wA.alloc (.cells #[.int .u8 46] 5)).heap.size) := by (show _ ≤ _; have := k2.size; omega)
            clear k2 OX RB1 KX ZA
            clear hHeld
            refine hK.out _ _ ?_ (fun hHeld => ?_)
            · trivial
            clear hK KK
            try simp only [Act.put, List.getElem_toArray, List.getElem_cons_succ, List.getElem_cons_zero, List.setIfInBounds_toArray, List.set_cons_zero, List.set_cons_succ]
            generalize (wA.alloc (.cells #[.int .u8 46] 5)) = wL at *
            refine wpAnyH_ready (rs := [9]) (by kernel_rfl) (by simp) ?_
            refine AllReadyH.cons rfl (fun KK hK => ?_) AllReadyH.nil
            simp only [List.getElem_toArray, List.getElem_cons_succ, List.getElem_cons_zero]
            rw [if_pos (by rfl)]
            have hLL := unhide HL1
            have NB9 : W.heap.size ≤ wL.heap.size := by (have := unhide ZB; have := unhide HB7; omega)
            have NW : Hid (b7 < wL.heap.size) := by (show _ < _; have := unhide ZB; have := unhide HB7; omega)
            refine wp_cat (v1 := .slice aA S1.length cA) _ _ rfl rfl rfl (zs := S1) (b := W.heap.size) (unhide OY) (unhide RL) (by simp) NB9 (by omega) (by decide) ?_
            intro vC wC oC gC eC
            obtain ⟨S2, hS2⟩ : ∃ S2, S2 = S1 ++ [46] := ⟨_, rfl⟩
            rw [← hS2] at oC
            have HS2 := hide hS2
            have hl2 : S2.length ≤ 4001 := by (rw [hS2, List.length_append]; simp; omega)
            have HL2 := hide hl2
            clear hS2 hl2
            obtain ⟨aC, cC, hvC⟩ := own_slice oC
            subst hvC
            have PC : Hid (∀ q, (Value.slice aC S2.length cC).ownBlock = some q → W.heap.size ≤ q ∧ q ≠ b7) := fun q hq => by
              rcases eC with e | e
              · rw [e] at hq; exact unhide PA q hq
              · rw [e] at hq
                injection hq with hq
                have := unhide NW
                omega
            have RB4 := hide (row_apart (unhide RB2) gC (fun q hq => (unhide PA q hq).2))
            have KC := hide ((unhide KY).growNew gC (fun q hq => by have := (unhide PA q hq).1; omega))
            have ZC := gC.size
            have NBC : Hid (W.heap.size ≤ wC.heap.size) := by (show _ ≤ _; omega)
            have OC := hide oC
            clear oC gC eC NB9 hLL OY RL RB2 KY PA NW ZC
            clear hHeld
            refine hK.out _ _ ?_ (fun hHeld => ?_)
            · trivial
            clear hK KK
            try simp only [Act.put, List.getElem_toArray, List.getElem_cons_succ, List.getElem_cons_zero, List.setIfInBounds_toArray, List.set_cons_zero, List.set_cons_succ]
            refine wpAnyH_ready (rs := [16]) (by kernel_rfl) (by simp) ?_
            refine AllReadyH.cons rfl (fun KK hK => ?_) AllReadyH.nil
            simp only [List.getElem_toArray, List.getElem_cons_succ, List.getElem_cons_zero]
            rw [if_pos (by rfl)]
            have hL2 := unhide HL2
            refine wp_cat (v1 := .slice aC S2.length cC) _ _ rfl rfl rfl (zs := S2) (b := W.heap.size) (unhide OC) (unhide RB4) (fun e => by (have h := unhide HLB; rw [e] at h; simp at h; omega)) (unhide NBC) (by omega) (by (have := unhide HLB; have := unhide HT2; omega)) ?_
            intro vF wF oF gF eF
            have KF := hide ((unhide KC).growNew gF (fun q hq => by have := (unhide PC q hq).1; omega))
            have RF := hide ((Row.own oF).wider (lo' := w.heap.size) (hi' := wF.heap.size) (by omega) (Nat.le_refl _))
            clear oF gF eF hL2 OC RB4 KC PC NBC HL2
            clear hHeld
            refine hK.out _ _ ?_ (fun hHeld => ?_)
            · trivial
            clear hK KK
            try simp only [Act.put, List.getElem_toArray, List.getElem_cons_succ, List.getElem_cons_zero, List.setIfInBounds_toArray, List.set_cons_zero, List.set_cons_succ]
            refine wpAnyH_take (i := 17) (oi := _) (v := vF) rfl (by kernel_rfl) (by kernel_rfl) (by kernel_rfl) (fun _ _ _ h => h) (Or.inl ⟨by rfl, ?_⟩) hHeld ?_
            · intro wq hSw
              try dsimp only at hSw
              go_simp
            try simp only [Act.put, List.getElem_toArray, List.getElem_cons_succ, List.getElem_cons_zero, List.setIfInBounds_toArray, List.set_cons_zero, List.set_cons_succ]
            refine wpAnyH_done (by kernel_rfl) ?_ _
            clear hHeld
            go_wp2
            go_ret
            exact ⟨_, rfl, by rw [unhide HDP]; have h := unhide RF; rw [unhide HS2, unhide HS1] at h; simpa [sgnT] using h, unhide KF⟩
          · simp only [List.getElem_toArray, List.getElem_cons_succ, List.getElem_cons_zero]
            rw [if_pos (by rfl)]
            go_simp
            have k2 := (Kept.refl 0 0 wd).alloc (.cells #[.int .u8 46] 5)
            have RL0 : Hid (Row .u8 true wd.heap.size (wd.heap.size + 1) (wd.alloc (.cells #[.int .u8 46] 5)) (.slice (some ⟨wd.heap.size, 0, none⟩) 1 1) [46]) := (Row.own (own_lit .u8 wd 5 wd.heap.size (Nat.le_refl _) [46] (by simp [maxLen]))).wider (Nat.le_refl _) (by simp)
            replace RA := hide ((unhide RA).kept k2 (by omega))
            replace RB := hide ((unhide RB).kept k2 (by omega))
            have KD2 := hide ((unhide KD).trans k2)
            replace HB7 : Hid (W.heap.size ≤ b7 ∧ b7 < (wd.alloc (.cells #[.int .u8 46] 5)).heap.size) := by (have h := unhide HB7; have := k2.size; exact ⟨h.1, by omega⟩)
            have ZD : Hid (W.heap.size ≤ wd.heap.size ∧ wd.heap.size < (wd.alloc (.cells #[.int .u8 46] 5)).heap.size) := ⟨(unhide KD).size, by simp⟩
            clear k2
            clear hHeld
            refine hK.out _ _ ?_ (fun hHeld => ?_)
            · trivial
            clear hK KK
            try simp only [Act.put, List.getElem_toArray, List.getElem_cons_succ, List.getElem_cons_zero, List.setIfInBounds_toArray, List.set_cons_zero, List.set_cons_succ]
            generalize (wd.alloc (.cells #[.int .u8 46] 5)) = wK at *
            refine wpAnyH_ready (rs := [7]) (by kernel_rfl) (by simp) ?_
            refine AllReadyH.cons rfl (fun KK hK => ?_) AllReadyH.nil
            simp only [List.getElem_toArray, List.getElem_cons_succ, List.getElem_cons_zero]
            rw [if_pos (by rfl)]
            have NBA : Hid (W.heap.size ≤ wK.heap.size) := by (show _ ≤ _; have := (unhide KD2).size; omega)
            refine wp_cat (v1 := .slice none 0 0) (v2 := .slice (some ⟨g7, o7, none⟩) Q c7) _ _ rfl rfl rfl (zs := []) (b := W.heap.size) (World.ownsRow_nil _ _ _ _) (unhide RA) (fun e => by (have h := unhide HLA; rw [e] at h; simp at h; omega)) (unhide NBA) (by decide) (by (have := unhide HLA; have := unhide HT2; omega)) ?_
            intro vA wL oA gA eA
            obtain ⟨S1, hS1⟩ : ∃ S1, S1 = [] ++ TL.take Q := ⟨_, rfl⟩
            rw [← hS1] at oA
            have HS1 := hide hS1
            have hl1 : S1.length ≤ 3900 := by (rw [hS1, List.length_append]; have := unhide HLA; have := unhide HT2; simp; omega)
            have HL1 := hide hl1
            clear hS1 hl1
            obtain ⟨aA, cA, hvA⟩ := own_slice oA
            subst hvA
            have hbb := unhide HB7
            have PA : Hid (∀ q, (Value.slice aA S1.length cA).ownBlock = some q → W.heap.size ≤ q ∧ q ≠ b7) := fun q hq => by
              have h1 := (oA.lt q hq).1
              refine ⟨h1, ?_⟩
              rcases eA with e | e
              · rw [e] at hq
                simp [Value.ownBlock] at hq
              · rw [e] at hq
                injection hq with hq
                have := (unhide KD2).size
                omega
            have RB1 := hide (row_apart (unhide RB) gA (fun q hq => by simp [Value.ownBlock] at hq))
            have KX := hide (((unhide K1).trans (unhide KD2)).growNew gA (fun q hq => by simp [Value.ownBlock] at hq))
            have ZA := gA.size
            have OX := hide oA
            have RL := hide (row_apart (unhide RL0) gA (fun q hq => by simp [Value.ownBlock] at hq))
            have OY := OX
            have RB2 := RB1
            have KY := KX
            have ZB : Hid (wK.heap.size ≤ wL.heap.size) := ZA
            clear oA gA eA NBA RA RB RL0 hbb OX RB1 KX ZA
            clear hHeld
            refine hK.out _ _ ?_ (fun hHeld => ?_)
            · trivial
            clear hK KK
            try simp only [Act.put, List.getElem_toArray, List.getElem_cons_succ, List.getElem_cons_zero, List.setIfInBounds_toArray, List.set_cons_zero, List.set_cons_succ]
            refine wpAnyH_ready (rs := [9]) (by kernel_rfl) (by simp) ?_
            refine AllReadyH.cons rfl (fun KK hK => ?_) AllReadyH.nil
            simp only [List.getElem_toArray, List.getElem_cons_succ, List.getElem_cons_zero]
            rw [if_pos (by rfl)]
            have hLL := unhide HL1
            have NB9 : W.heap.size ≤ wL.heap.size := by (have := unhide ZB; have := unhide HB7; omega)
            have NW : Hid (b7 < wL.heap.size) := by (show _ < _; have := unhide ZB; have := unhide HB7; omega)
            refine wp_cat (v1 := .slice aA S1.length cA) _ _ rfl rfl rfl (zs := S1) (b := W.heap.size) (unhide OY) (unhide RL) (by simp) NB9 (by omega) (by decide) ?_
            intro vC wC oC gC eC
            obtain ⟨S2, hS2⟩ : ∃ S2, S2 = S1 ++ [46] := ⟨_, rfl⟩
            rw [← hS2] at oC
            have HS2 := hide hS2
            have hl2 : S2.length ≤ 4001 := by (rw [hS2, List.length_append]; simp; omega)
            have HL2 := hide hl2
            clear hS2 hl2
            obtain ⟨aC, cC, hvC⟩ := own_slice oC
            subst hvC
            have PC : Hid (∀ q, (Value.slice aC S2.length cC).ownBlock = some q → W.heap.size ≤ q ∧ q ≠ b7) := fun q hq => by
              rcases eC with e | e
              · rw [e] at hq; exact unhide PA q hq
              · rw [e] at hq
                injection hq with hq
                have := unhide NW
                omega
            have RB4 := hide (row_apart (unhide RB2) gC (fun q hq => (unhide PA q hq).2))
            have KC := hide ((unhide KY).growNew gC (fun q hq => by have := (unhide PA q hq).1; omega))
            have ZC := gC.size
            have NBC : Hid (W.heap.size ≤ wC.heap.size) := by (show _ ≤ _; omega)
            have OC := hide oC
            clear oC gC eC NB9 hLL OY RL RB2 KY PA NW ZC
            clear hHeld
            refine hK.out _ _ ?_ (fun hHeld => ?_)
            · trivial
            clear hK KK
            try simp only [Act.put, List.getElem_toArray, List.getElem_cons_succ, List.getElem_cons_zero, List.setIfInBounds_toArray, List.set_cons_zero, List.set_cons_succ]
            refine wpAnyH_ready (rs := [16]) (by kernel_rfl) (by simp) ?_
            refine AllReadyH.cons rfl (fun KK hK => ?_) AllReadyH.nil
            simp only [List.getElem_toArray, List.getElem_cons_succ, List.getElem_cons_zero]
            rw [if_pos (by rfl)]
            have hL2 := unhide HL2
            refine wp_cat (v1 := .slice aC S2.length cC) _ _ rfl rfl rfl (zs := S2) (b := W.heap.size) (unhide OC) (unhide RB4) (fun e => by (have h := unhide HLB; rw [e] at h; simp at h; omega)) (unhide NBC) (by omega) (by (have := unhide HLB; have := unhide HT2; omega)) ?_
            intro vF wF oF gF eF
            have KF := hide ((unhide KC).growNew gF (fun q hq => by have := (unhide PC q hq).1; omega))
            have RF := hide ((Row.own oF).wider (lo' := w.heap.size) (hi' := wF.heap.size) (by omega) (Nat.le_refl _))
            clear oF gF eF hL2 OC RB4 KC PC NBC HL2
            clear hHeld
            refine hK.out _ _ ?_ (fun hHeld => ?_)
            · trivial
            clear hK KK
            try simp only [Act.put, List.getElem_toArray, List.getElem_cons_succ, List.getElem_cons_zero, List.setIfInBounds_toArray, List.set_cons_zero, List.set_cons_succ]
            refine wpAnyH_take (i := 17) (oi := _) (v := vF) rfl (by kernel_rfl) (by kernel_rfl) (by kernel_rfl) (fun _ _ _ h => h) (Or.inl ⟨by rfl, ?_⟩) hHeld ?_
            · intro wq hSw
              try dsimp only at hSw
              go_simp
            try simp only [Act.put, List.getElem_toArray, List.getElem_cons_succ, List.getElem_cons_zero, List.setIfInBounds_toArray, List.set_cons_zero, List.set_cons_succ]
            refine wpAnyH_done (by kernel_rfl) ?_ _
            clear hHeld
            go_wp2
            go_ret
            exact ⟨_, rfl, by rw [unhide HDP]; have h := unhide RF; rw [unhide HS2, unhide HS1] at h; simpa [sgnT] using h, unhide KF⟩

set_option maxHeartbeats 4000000 in
theorem l4dec_up_true {bw : Bool} {lo hi : Nat} {v : Value} {zs : List Int} (k : Nat) (w : World) (r : Row .i64 bw lo hi w v zs) (hn : Nrm zs) (nx : zs.length ≤ 100) (hk1 : k ≤ 1000) (hU : Hid ((limbs ((val zs).toNat * 2 ^ k)).length ≤ 100000 ∧ (decText ((val zs).toNat * 2 ^ k)).length ≤ 2000000)) :
    Calls Try.prog 36 #[.agg #[.bool true, v, .int .i64 (k : Int)]] w fun e w' => ∃ v', e = .returned v' ∧ Row .u8 true w.heap.size w'.heap.size w' v' (sgnT true (decText ((val zs).toNat * 2 ^ k))) ∧ Kept 0 0 w w' := by
  obtain ⟨M, hM⟩ : ∃ M, (val zs).toNat * 2 ^ k = M := ⟨_, rfl⟩
  rw [hM] at hU ⊢
  have HM := hide hM
  clear hM
  have k0 : Kept 0 0 w (w.alloc (.cells #[.bool true, v, .int .i64 (k : Int)] 37)) := (Kept.refl 0 0 w).alloc _
  have p0 : (w.alloc (.cells #[.bool true, v, .int .i64 (k : Int)] 37)).cell? ⟨w.heap.size, 0, none⟩ = some (.bool true) := new_cell2 _ _ _ _ _ _ rfl rfl
  have p1 : (w.alloc (.cells #[.bool true, v, .int .i64 (k : Int)] 37)).cell? ⟨w.heap.size, 1, none⟩ = some (v) := new_cell2 _ _ _ _ _ _ rfl rfl
  have p2 : (w.alloc (.cells #[.bool true, v, .int .i64 (k : Int)] 37)).cell? ⟨w.heap.size, 2, none⟩ = some (.int .i64 (k : Int)) := new_cell2 _ _ _ _ _ _ rfl rfl
  have S0W : Hid ((w.alloc (.cells #[.bool true, v, .int .i64 (k : Int)] 37)).heap.size = w.heap.size + 1) := by (show _ = _; simp)
  replace r := r.kept k0 (by omega)
  obtain ⟨a, c, hv⟩ := Row.form' r
  subst hv
  go_enter Try.func36, Try.ntmps36
  have k5 := (Kept.refl 0 0 (w.alloc (.cells #[.bool true, .slice a zs.length c, .int .i64 (k : Int)] 37))).alloc (.cells #[.int .u8 45] 5)
  have C5 : Hid (((w.alloc (.cells #[.bool true, .slice a zs.length c, .int .i64 (k : Int)] 37)).alloc (.cells #[.int .u8 45] 5)).cell? ⟨w.heap.size + 1, 0, none⟩ = some (.int .u8 45)) := new_cell_at _ _ _ _ (by simp)
  have NB0 : Hid (w.heap.size + 1 ≤ ((w.alloc (.cells #[.bool true, .slice a zs.length c, .int .i64 (k : Int)] 37)).alloc (.cells #[.int .u8 45] 5)).heap.size) := by (show _ ≤ _; simp)
  replace p0 := k5.cell0 p0
  replace p1 := k5.cell0 p1
  replace p2 := k5.cell0 p2
  replace r := r.kept k5 (by omega)
  have K0 := hide (k0.trans k5)
  clear k5 k0
  go_wp2_with (at_builtin; refine wpList_byte rfl _ _ rfl rfl _ rfl 45 (unhide C5) (b := w.heap.size + 1) (zs := []) (World.ownsRow_nil _ _ _ _) (unhide NB0) (by decide) ?_)
  generalize ((w.alloc (.cells #[.bool true, .slice a zs.length c, .int .i64 (k : Int)] 37)).alloc (.cells #[.int .u8 45] 5)) = WA at *
  intro v6 w6 o6 g6
  have o6' : w6.ownsRow (w.heap.size + 1) 5 1 v6 [(45 : Int)].length ([(45 : Int)].map (Value.int .u8)) := o6
  have k6 := (Kept.refl 0 0 WA).growNew g6 (fun q hq => by simp [Value.ownBlock] at hq)
  obtain ⟨a6, c6, hv6⟩ : ∃ a c, v6 = .slice a 1 c := own_slice o6'
  subst hv6
  have O3 := hide o6'
  replace p0 := k6.cell0 p0
  replace p1 := k6.cell0 p1
  replace p2 := k6.cell0 p2
  replace r := r.kept k6 (by omega)
  have K1 := hide ((unhide K0).trans k6)
  have zB : w.heap.size + 1 ≤ w6.heap.size := Nat.le_trans (unhide NB0) k6.size
  clear o6 o6' g6 k6 C5 NB0
  skip
  have hsh := shl_spec _ r hn.1 (by omega) k (.inr (by omega)) (by omega)
  rw [unhide HM] at hsh
  clear r hn nx
  go_wp2_with fail
  refine hsh.mono ?_
  rintro e w7 ⟨v7, rfl, r7, k7⟩
  obtain ⟨a7, c7, hv7⟩ := Row.form' r7
  subst hv7
  have ht := text_spec _ r7 (limbs_nrm _) (unhide hU).1
  rw [val_num rfl] at ht
  have hTT := hU
  clear hsh
  go_wp2_with fail
  refine ht.mono ?_
  rintro e w8 ⟨v8, rfl, r8, k8⟩
  obtain ⟨a8, c8, hv8⟩ := Row.form' r8
  subst hv8
  have KK := hide (k7.trans k8)
  have K8 := hide ((unhide K1).trans (unhide KK))
  have z8 := (unhide KK).size
  have R8 := hide r8
  have NE : Hid (decText M ≠ []) := decText_ne _
  have NL : Hid ((decText M).length ≤ 2000000) := by (show _ ≤ _; have := (unhide hU).2; omega)
  have NB : Hid ((w.heap.size + 1) ≤ w8.heap.size) := by show _ ≤ _; omega
  clear ht r7 r8 k7 k8
  have O8 := hide (own_kept (unhide O3) (unhide KK))
  have OB : Hid (∀ q, (Value.slice a6 1 c6).ownBlock = some q → w.heap.size ≤ q) := fun q hq => by (have := ((unhide O3).lt q hq).1; omega)
  go_wp2_with (at_builtin; refine wpList_signed rfl _ _ rfl rfl rfl (zs := [45]) (unhide O8) (unhide R8) (unhide NE) (unhide NB) (by decide) (unhide NL) ?_)
  intro v9 w9 r9 g9
  have K9 := hide ((unhide K8).growNew g9 (fun q hq => unhide OB q hq))
  obtain ⟨a9, c9, hv9⟩ := Row.form' r9
  subst hv9
  have R9 := hide (r9.wider (lo' := w.heap.size) (by omega) (Nat.le_refl _))
  clear r9 g9
  go_wp2
  go_ret
  exact ⟨_, rfl, unhide R9, unhide K9⟩

set_option maxHeartbeats 16000000 in
theorem l4dec_down_true {bw : Bool} {lo hi : Nat} {v : Value} {zs : List Int} (x : Int) (K : Nat) (w : World) (r : Row .i64 bw lo hi w v zs) (hn : Nrm zs) (nx : zs.length ≤ 100) (h0 : ¬ x ≥ 0) (hw : IntKind.i64.wrap (-x) = (K : Int)) (hK0 : 0 < K) (hK1 : K ≤ 100) (HL : Hid (∀ i, i ≤ K → (limbs ((val zs).toNat * 5 ^ i)).length ≤ 200)) (hU : Hid (True ∧ (decText ((val zs).toNat * 5 ^ K)).length ≤ 2000)) :
    Calls Try.prog 36 #[.agg #[.bool true, v, .int .i64 x]] w fun e w' => ∃ v', e = .returned v' ∧ Row .u8 true w.heap.size w'.heap.size w' v' (sgnT true (dpText ((val zs).toNat * 5 ^ K) K)) ∧ Kept 0 0 w w' := by
  have hzl := nrm_limbs hn
  obtain ⟨N, hN⟩ : ∃ N, (val zs).toNat = N := ⟨_, rfl⟩
  rw [hN] at hU HL hzl ⊢
  have HZ := hide hzl
  obtain ⟨V, hV⟩ : ∃ V, N * 5 ^ K = V := ⟨_, rfl⟩
  rw [hV] at hU ⊢
  have HV := hide hV
  clear hzl hn nx hN hV
  have k0 : Kept 0 0 w (w.alloc (.cells #[.bool true, v, .int .i64 x] 37)) := (Kept.refl 0 0 w).alloc _
  have p0 : (w.alloc (.cells #[.bool true, v, .int .i64 x] 37)).cell? ⟨w.heap.size, 0, none⟩ = some (.bool true) := new_cell2 _ _ _ _ _ _ rfl rfl
  have p1 : (w.alloc (.cells #[.bool true, v, .int .i64 x] 37)).cell? ⟨w.heap.size, 1, none⟩ = some (v) := new_cell2 _ _ _ _ _ _ rfl rfl
  have p2 : (w.alloc (.cells #[.bool true, v, .int .i64 x] 37)).cell? ⟨w.heap.size, 2, none⟩ = some (.int .i64 x) := new_cell2 _ _ _ _ _ _ rfl rfl
  have S0W : Hid ((w.alloc (.cells #[.bool true, v, .int .i64 x] 37)).heap.size = w.heap.size + 1) := by (show _ = _; simp)
  replace r := r.kept k0 (by omega)
  obtain ⟨a, c, hv⟩ := Row.form' r
  subst hv
  go_enter Try.func36, Try.ntmps36
  have k5 := (Kept.refl 0 0 (w.alloc (.cells #[.bool true, .slice a zs.length c, .int .i64 x] 37))).alloc (.cells #[.int .u8 45] 5)
  have C5 : Hid (((w.alloc (.cells #[.bool true, .slice a zs.length c, .int .i64 x] 37)).alloc (.cells #[.int .u8 45] 5)).cell? ⟨w.heap.size + 1, 0, none⟩ = some (.int .u8 45)) := new_cell_at _ _ _ _ (by simp)
  have NB0 : Hid (w.heap.size + 1 ≤ ((w.alloc (.cells #[.bool true, .slice a zs.length c, .int .i64 x] 37)).alloc (.cells #[.int .u8 45] 5)).heap.size) := by (show _ ≤ _; simp)
  replace p0 := k5.cell0 p0
  replace p1 := k5.cell0 p1
  replace p2 := k5.cell0 p2
  replace r := r.kept k5 (by omega)
  have K0 := hide (k0.trans k5)
  clear k5 k0
  go_wp2_with (at_builtin; refine wpList_byte rfl _ _ rfl rfl _ rfl 45 (unhide C5) (b := w.heap.size + 1) (zs := []) (World.ownsRow_nil _ _ _ _) (unhide NB0) (by decide) ?_)
  generalize ((w.alloc (.cells #[.bool true, .slice a zs.length c, .int .i64 x] 37)).alloc (.cells #[.int .u8 45] 5)) = WA at *
  intro v6 w6 o6 g6
  have o6' : w6.ownsRow (w.heap.size + 1) 5 1 v6 [(45 : Int)].length ([(45 : Int)].map (Value.int .u8)) := o6
  have k6 := (Kept.refl 0 0 WA).growNew g6 (fun q hq => by simp [Value.ownBlock] at hq)
  obtain ⟨a6, c6, hv6⟩ : ∃ a c, v6 = .slice a 1 c := own_slice o6'
  subst hv6
  have O3 := hide o6'
  replace p0 := k6.cell0 p0
  replace p1 := k6.cell0 p1
  replace p2 := k6.cell0 p2
  replace r := r.kept k6 (by omega)
  have K1 := hide ((unhide K0).trans k6)
  have zB : w.heap.size + 1 ≤ w6.heap.size := Nat.le_trans (unhide NB0) k6.size
  clear o6 o6' g6 k6 C5 NB0
  skip
  obtain ⟨NB, hNB0⟩ : ∃ NB, NB = w6.heap.size := ⟨_, rfl⟩
  have hNB : NB = w6.heap.size := hNB0
  have HNB0 := hide hNB0
  clear hNB0
  have cN : (w6.alloc (.cells #[.slice a zs.length c] 33)).cell? ⟨NB, 0, none⟩ = some (.slice a zs.length c) := new_cell_at _ _ _ _ hNB
  have fN : (w6.alloc (.cells #[.slice a zs.length c] 33)).frozen? ⟨NB, 0, none⟩ = false := new_loose _ _ _ _ hNB
  have kN := (Kept.refl 0 0 w6).alloc (.cells #[.slice a zs.length c] 33)
  have rN : Row .i64 false 0 (w6.alloc (.cells #[.slice a zs.length c] 33)).heap.size (w6.alloc (.cells #[.slice a zs.length c] 33)) (.slice a zs.length c) zs := (r.kept kN (by omega)).tight.read.wider (Nat.zero_le _) (Nat.le_refl _)
  have KN := hide kN
  have HNB := hide hNB
  clear r kN hNB
  go_wp2_with fail
  rw [← unhide HNB0]
  generalize (w6.alloc (.cells #[.slice a zs.length c] 33)) = W6 at *
  have RN : Hid (∃ v, W6.cell? ⟨NB, 0, none⟩ = some v ∧ W6.frozen? ⟨NB, 0, none⟩ = false ∧ Row .i64 false 0 W6.heap.size W6 v (limbs (N * 5 ^ 0))) := ⟨_, cN, fN, by rw [Nat.pow_zero, Nat.mul_one, ← unhide HZ]; exact rN⟩
  clear cN fN rN
  go_loopw [6] (fun s6 wr => ∃ i : Nat, s6 = .int .i64 i ∧ i ≤ K ∧ Hid (∃ v, wr.cell? ⟨NB, 0, none⟩ = some v ∧ wr.frozen? ⟨NB, 0, none⟩ = false ∧ Row .i64 false 0 wr.heap.size wr v (limbs (N * 5 ^ i))) ∧ Hid (Kept 0 0 w6 wr)) (fun s6 _ => K - (intOf s6).toNat)
  case atStart => exact ⟨0, rfl, Nat.zero_le _, RN, KN⟩
  case round =>
    clear RN KN p0 p1 p2
    obtain ⟨i, rfl, hi, hR, hK⟩ := hrel
    obtain ⟨v, cN, fN, rN⟩ := unhide hR
    obtain ⟨Z, hZ⟩ : ∃ Z, limbs (N * 5 ^ i) = Z := ⟨_, rfl⟩
    rw [hZ] at rN
    obtain ⟨an, cn, hv⟩ := Row.form' rN
    subst hv
    by_cases hlt : i < K
    · have hwi : IntKind.i64.wrap ((i : Int) + 1) = ((i + 1 : Nat) : Int) := by rw [IntKind.wrap_i64]; omega
      have hZl : Z.length ≤ 200 := by rw [← hZ]; exact unhide HL i hi
      have HZi := hide hZ
      have hZm : Lim Z := by rw [← hZ]; exact limbs_lim _
      clear hZ hR
      go_wp2_with fail
      have cNd : wr.drew.cell? ⟨NB, 0, none⟩ = some (.slice an Z.length cn) := cN
      have fNd : wr.drew.frozen? ⟨NB, 0, none⟩ = false := fN
      have kd := (Kept.refl 0 0 wr).drew
      have rNd := rN.kept kd (by omega)
      have KD := hide ((unhide hK).trans kd)
      clear cN fN rN kd
      refine wp_region_held_drew (S := (fun _ => True)) (by kernel_rfl) ?_ (fun hHeld => ?_)
      · trivial
      generalize wr.drew = wd at *
      refine wpAnyH_ready (rs := [0, 1]) (by kernel_rfl) (by simp) ?_
      refine AllReadyH.cons rfl (fun KK hK => ?_) (AllReadyH.cons rfl (fun KK hK => ?_) AllReadyH.nil)
      · simp only [List.getElem_toArray, List.getElem_cons_succ, List.getElem_cons_zero]
        rw [if_pos (by rfl)]
        go_simp
        clear hHeld
        refine hK.out _ _ ?_ (fun hHeld => ?_)
        · trivial
        clear hK KK
        try simp only [Act.put, List.getElem_toArray, List.getElem_cons_succ, List.getElem_cons_zero, List.setIfInBounds_toArray, List.set_cons_zero, List.set_cons_succ]
        refine wpAnyH_ready (rs := [1]) (by kernel_rfl) (by simp) ?_
        refine AllReadyH.cons rfl (fun KK hK => ?_) AllReadyH.nil
        simp only [List.getElem_toArray, List.getElem_cons_succ, List.getElem_cons_zero]
        rw [if_pos (by rfl)]
        refine wps1 65 _ _ rfl l2of_enter (.int .i64 5) rfl (of_spec _ 5 (by decide)) ?_
        rintro e wA ⟨vA, rfl, rA, kA⟩
        refine ⟨_, rfl, ?_⟩
        obtain ⟨aA, cA, hv⟩ := Row.form' rA
        subst hv
        have cNA := kA.cell0 cNd
        have fNA := kA.loose0 (World.block_lt_of_cell? _ _ cNd) fNd
        have rNA := rNd.kept kA (by omega)
        have zA := kA.size
        have KA := hide ((unhide KD).trans kA)
        clear hHeld
        refine hK.out _ _ ?_ (fun hHeld => ?_)
        · trivial
        clear hK KK
        try simp only [Act.put, List.getElem_toArray, List.getElem_cons_succ, List.getElem_cons_zero, List.setIfInBounds_toArray, List.set_cons_zero, List.set_cons_succ]
        refine wpAnyH_ready (rs := [2]) (by kernel_rfl) (by simp) ?_
        refine AllReadyH.cons rfl (fun KK hK => ?_) AllReadyH.nil
        simp only [List.getElem_toArray, List.getElem_cons_succ, List.getElem_cons_zero]
        rw [if_pos (by rfl)]
        refine wps2 64 _ _ _ rfl l2mul_enter (.agg #[.slice an Z.length cn]) (.agg #[.slice aA _ cA]) rfl rfl (mul_spec _ rNA rA hZm (limbs_lim _) (by omega) (by have := limbs_lt (V := (5 : Int).toNat) (k := 1) (by decide); omega)) ?_
        rintro e wB ⟨vB, rfl, rB, kB⟩
        refine ⟨_, rfl, ?_⟩
        rw [← unhide HZi, five_step] at rB
        obtain ⟨LB, hLB⟩ : ∃ L, L = limbs (N * 5 ^ (i + 1)) := ⟨_, rfl⟩
        rw [← hLB] at rB
        obtain ⟨aB, cB, hv⟩ := Row.form' rB
        subst hv
        have cNB := kB.cell0 cNA
        have fNB := kB.loose0 (World.block_lt_of_cell? _ _ cNA) fNA
        have HLB := hide hLB
        have hNlt := World.block_lt_of_cell? _ _ cNA
        have HNLT : Hid (NB + 1 ≤ wA.heap.size) := hNlt
        have RB := hide rB
        have KB := hide ((unhide KA).trans kB)
        clear rB kB hLB hNlt cNA fNA rNA rA kA KA
        clear hHeld
        refine hK.out _ _ ?_ (fun hHeld => ?_)
        · trivial
        clear hK KK
        try simp only [Act.put, List.getElem_toArray, List.getElem_cons_succ, List.getElem_cons_zero, List.setIfInBounds_toArray, List.set_cons_zero, List.set_cons_succ]
        refine wpAnyH_ready (rs := [3]) (by kernel_rfl) (by simp) ?_
        refine AllReadyH.cons rfl (fun KK hK => ?_) AllReadyH.nil
        simp only [List.getElem_toArray, List.getElem_cons_succ, List.getElem_cons_zero]
        rw [if_pos (by rfl)]
        go_simp
        clear hHeld
        refine hK.out _ _ ?_ (fun hHeld => ?_)
        · trivial
        clear hK KK
        try simp only [Act.put, List.getElem_toArray, List.getElem_cons_succ, List.getElem_cons_zero, List.setIfInBounds_toArray, List.set_cons_zero, List.set_cons_succ]
        refine wpAnyH_done (by kernel_rfl) ?_ _
        clear hHeld
        have E1 := cell_on wB NB 0 (.slice aB LB.length cB) _ cNB
        have ks : Kept NB (NB + 1) wB (wB.setCell ⟨NB, 0, none⟩ (.slice aB LB.length cB)) := (Kept.refl _ _ _).setCell (p := ⟨NB, 0, none⟩) (Nat.le_refl _) (Nat.lt_succ_self _) _
        have RN2 : Hid (∃ v, (wB.setCell ⟨NB, 0, none⟩ (.slice aB LB.length cB)).cell? ⟨NB, 0, none⟩ = some v ∧ (wB.setCell ⟨NB, 0, none⟩ (.slice aB LB.length cB)).frozen? ⟨NB, 0, none⟩ = false ∧ Row .i64 false 0 (wB.setCell ⟨NB, 0, none⟩ (.slice aB LB.length cB)).heap.size (wB.setCell ⟨NB, 0, none⟩ (.slice aB LB.length cB)) v (limbs (N * 5 ^ (i + 1)))) := ⟨_, E1, by rw [frozen_set]; exact fNB, by rw [← unhide HLB]; exact ((unhide RB).kept ks (.inr (.inl (unhide HNLT)))).read.wider (Nat.zero_le _) (by rw [size_set]; exact Nat.le_refl _)⟩
        have KX := hide ((unhide KB).wide ks (by rw [unhide HNB]; exact Nat.le_refl _))
        clear E1 ks cNB fNB RB KB HLB HNLT
        go_wp2
        go_roundw
        case rel => exact ⟨i + 1, by simp, hlt, RN2, KX⟩
        case measure => simp [intOf]; omega
      · simp only [List.getElem_toArray, List.getElem_cons_succ, List.getElem_cons_zero]
        rw [if_pos (by rfl)]
        refine wps1 65 _ _ rfl l2of_enter (.int .i64 5) rfl (of_spec _ 5 (by decide)) ?_
        rintro e wA ⟨vA, rfl, rA, kA⟩
        refine ⟨_, rfl, ?_⟩
        obtain ⟨aA, cA, hv⟩ := Row.form' rA
        subst hv
        have cNA := kA.cell0 cNd
        have fNA := kA.loose0 (World.block_lt_of_cell? _ _ cNd) fNd
        have rNA := rNd.kept kA (by omega)
        have zA := kA.size
        have KA := hide ((unhide KD).trans kA)
        clear hHeld
        refine hK.out _ _ ?_ (fun hHeld => ?_)
        · trivial
        clear hK KK
        try simp only [Act.put, List.getElem_toArray, List.getElem_cons_succ, List.getElem_cons_zero, List.setIfInBounds_toArray, List.set_cons_zero, List.set_cons_succ]
        refine wpAnyH_ready (rs := [0]) (by kernel_rfl) (by simp) ?_
        refine AllReadyH.cons rfl (fun KK hK => ?_) AllReadyH.nil
        simp only [List.getElem_toArray, List.getElem_cons_succ, List.getElem_cons_zero]
        rw [if_pos (by rfl)]
        go_simp
        clear hHeld
        refine hK.out _ _ ?_ (fun hHeld => ?_)
        · trivial
        clear hK KK
        try simp only [Act.put, List.getElem_toArray, List.getElem_cons_succ, List.getElem_cons_zero, List.setIfInBounds_toArray, List.set_cons_zero, List.set_cons_succ]
        refine wpAnyH_ready (rs := [2]) (by kernel_rfl) (by simp) ?_
        refine AllReadyH.cons rfl (fun KK hK => ?_) AllReadyH.nil
        simp only [List.getElem_toArray, List.getElem_cons_succ, List.getElem_cons_zero]
        rw [if_pos (by rfl)]
        refine wps2 64 _ _ _ rfl l2mul_enter (.agg #[.slice an Z.length cn]) (.agg #[.slice aA _ cA]) rfl rfl (mul_spec _ rNA rA hZm (limbs_lim _) (by omega) (by have := limbs_lt (V := (5 : Int).toNat) (k := 1) (by decide); omega)) ?_
        rintro e wB ⟨vB, rfl, rB, kB⟩
        refine ⟨_, rfl, ?_⟩
        rw [← unhide HZi, five_step] at rB
        obtain ⟨LB, hLB⟩ : ∃ L, L = limbs (N * 5 ^ (i + 1)) := ⟨_, rfl⟩
        rw [← hLB] at rB
        obtain ⟨aB, cB, hv⟩ := Row.form' rB
        subst hv
        have cNB := kB.cell0 cNA
        have fNB := kB.loose0 (World.block_lt_of_cell? _ _ cNA) fNA
        have HLB := hide hLB
        have hNlt := World.block_lt_of_cell? _ _ cNA
        have HNLT : Hid (NB + 1 ≤ wA.heap.size) := hNlt
        have RB := hide rB
        have KB := hide ((unhide KA).trans kB)
        clear rB kB hLB hNlt cNA fNA rNA rA kA KA
        clear hHeld
        refine hK.out _ _ ?_ (fun hHeld => ?_)
        · trivial
        clear hK KK
        try simp only [Act.put, List.getElem_toArray, List.getElem_cons_succ, List.getElem_cons_zero, List.setIfInBounds_toArray, List.set_cons_zero, List.set_cons_succ]
        refine wpAnyH_ready (rs := [3]) (by kernel_rfl) (by simp) ?_
        refine AllReadyH.cons rfl (fun KK hK => ?_) AllReadyH.nil
        simp only [List.getElem_toArray, List.getElem_cons_succ, List.getElem_cons_zero]
        rw [if_pos (by rfl)]
        go_simp
        clear hHeld
        refine hK.out _ _ ?_ (fun hHeld => ?_)
        · trivial
        clear hK KK
        try simp only [Act.put, List.getElem_toArray, List.getElem_cons_succ, List.getElem_cons_zero, List.setIfInBounds_toArray, List.set_cons_zero, List.set_cons_succ]
        refine wpAnyH_done (by kernel_rfl) ?_ _
        clear hHeld
        have E1 := cell_on wB NB 0 (.slice aB LB.length cB) _ cNB
        have ks : Kept NB (NB + 1) wB (wB.setCell ⟨NB, 0, none⟩ (.slice aB LB.length cB)) := (Kept.refl _ _ _).setCell (p := ⟨NB, 0, none⟩) (Nat.le_refl _) (Nat.lt_succ_self _) _
        have RN2 : Hid (∃ v, (wB.setCell ⟨NB, 0, none⟩ (.slice aB LB.length cB)).cell? ⟨NB, 0, none⟩ = some v ∧ (wB.setCell ⟨NB, 0, none⟩ (.slice aB LB.length cB)).frozen? ⟨NB, 0, none⟩ = false ∧ Row .i64 false 0 (wB.setCell ⟨NB, 0, none⟩ (.slice aB LB.length cB)).heap.size (wB.setCell ⟨NB, 0, none⟩ (.slice aB LB.length cB)) v (limbs (N * 5 ^ (i + 1)))) := ⟨_, E1, by rw [frozen_set]; exact fNB, by rw [← unhide HLB]; exact ((unhide RB).kept ks (.inr (.inl (unhide HNLT)))).read.wider (Nat.zero_le _) (by rw [size_set]; exact Nat.le_refl _)⟩
        have KX := hide ((unhide KB).wide ks (by rw [unhide HNB]; exact Nat.le_refl _))
        clear E1 ks cNB fNB RB KB HLB HNLT
        go_wp2
        go_roundw
        case rel => exact ⟨i + 1, by simp, hlt, RN2, KX⟩
        case measure => simp [intOf]; omega
    · have hiK : i = K := by omega
      subst hiK
      have hZ0 : Nrm Z := by rw [← hZ]; exact limbs_nrm _
      have hZl : Z.length ≤ 200 := by rw [← hZ]; exact unhide HL i (Nat.le_refl _)
      have ht := text_spec _ rN hZ0 (by omega)
      rw [val_num hZ.symm] at ht
      rw [unhide HV] at ht
      obtain ⟨D, hD⟩ : ∃ D, decText V = D := ⟨_, rfl⟩
      rw [hD] at ht
      have HD := hide hD
      have hD0 : 0 < D.length := by rw [← hD]; exact decText_pos _
      have hD1 : D.length ≤ 2000 := by rw [← hD]; exact (unhide hU).2
      clear hZ hZ0 hZl hR hD rN
      go_wp2_with fail
      refine ht.mono ?_
      rintro e w7 ⟨v7, rfl, r7, k7⟩
      clear ht
      have K7 := hide ((unhide hK).trans k7)
      have z7 : w6.heap.size ≤ w7.heap.size := (unhide K7).size
      have R7 : Hid (Row .u8 true w6.heap.size w7.heap.size w7 v7 (List.replicate 0 48 ++ D)) := by (show Row _ _ _ _ _ _ _; rw [List.replicate_zero, List.nil_append]; exact r7.wider (unhide hK).size (Nat.le_refl _))
      clear r7 k7 cN fN hK
      go_wp2_with fail
      go_loopw [7] (fun s7 wr => ∃ j : Nat, j ≤ i + 1 - D.length ∧ lenV s7 = j + D.length ∧ Hid (Row .u8 true w6.heap.size wr.heap.size wr s7 (List.replicate j 48 ++ D)) ∧ Hid (Kept 0 0 w6 wr)) (fun s7 _ => i + 1 - lenV s7)
      case atStart =>
        obtain ⟨a7, c7, hv⟩ := Row.form' (unhide R7)
        exact ⟨0, Nat.zero_le _, by rw [hv]; simp [lenV], R7, K7⟩
      case round =>
        clear R7 K7 z7
        obtain ⟨j, hj, hln, hR, hK⟩ := hrel
        obtain ⟨TL, hTL⟩ : ∃ T, List.replicate j 48 ++ D = T := ⟨_, rfl⟩
        have hTl : TL.length = j + D.length := by rw [← hTL]; simp
        rw [hTL] at hR
        obtain ⟨a7, c7, hv⟩ := Row.form' (unhide hR)
        subst hv
        have HTL := hide hTL
        have HTl := hide hTl
        clear hTL hTl hln
        by_cases hle : TL.length ≤ i
        · have hle' : (TL.length : Int) ≤ (i : Int) := by omega
          have o1 := own_lit .u8 wr 5 wr.heap.size (Nat.le_refl _) [48] (by simp [maxLen])
          have k1 := (Kept.refl 0 0 wr).alloc (.cells #[.int .u8 48] 5)
          have O1 : Hid ((wr.alloc (.cells #[.int .u8 48] 5)).ownsRow wr.heap.size 5 1 (.slice (some ⟨wr.heap.size, 0, none⟩) 1 1) 1 ([48].map (Value.int .u8))) := o1
          have R1 := hide ((unhide hR).kept k1 (by omega))
          have NE : Hid (TL ≠ []) := fun e => by (have := unhide HTl; rw [e] at this; simp at this; omega)
          have NL : Hid (TL.length ≤ 2000000) := by show _ ≤ _; omega
          have NB1 : Hid (wr.heap.size ≤ (wr.alloc (.cells #[.int .u8 48] 5)).heap.size) := k1.size
          have KA := hide k1
          clear o1 k1 hR
          go_wp2_with (at_builtin; refine wpList_signed rfl _ _ rfl rfl rfl (zs := [48]) (unhide O1) (unhide R1) (unhide NE) (unhide NB1) (by decide) (unhide NL) ?_)
          intro v9 w9 r9 g9
          have k9 := (unhide KA).growNew g9 (fun q hq => by simp [Value.ownBlock] at hq; omega)
          have K9 := hide ((unhide hK).trans k9)
          have zK := (unhide hK).size
          rw [← unhide HTL, rep_more] at r9
          obtain ⟨a9, c9, hv9⟩ := Row.form' r9
          have hl9 : lenV v9 = j + 1 + D.length := by rw [hv9]; simp [lenV]
          have R9 : Hid (Row .u8 true w6.heap.size w9.heap.size w9 v9 (List.replicate (j + 1) 48 ++ D)) := r9.wider zK (Nat.le_refl _)
          have hT1 := unhide HTl
          clear r9 g9 k9 hv9 KA O1 R1 NE NL NB1
          go_wp2
          go_roundw
          case rel => exact ⟨j + 1, by omega, hl9, R9, K9⟩
          case measure => rw [hl9]; simp [lenV]; omega
        · have hgt : ¬ (TL.length : Int) ≤ (i : Int) := by omega
          have hjj : j = i + 1 - D.length := by have := unhide HTl; omega
          have HDP : Hid (dpText V i = TL.take (TL.length - i) ++ 46 :: TL.drop (TL.length - i)) := by (show _ = _; unfold dpText; rw [unhide HD, ← hjj, unhide HTL])
          obtain ⟨Q, hQ⟩ : ∃ Q, TL.length - i = Q := ⟨_, rfl⟩
          rw [hQ] at HDP
          have hQ0 : 0 < Q := by omega
          have hQl : Q < TL.length := by omega
          have hsub : IntKind.i64.wrap ((TL.length : Int) - (i : Int)) = (Q : Int) := by rw [IntKind.wrap_i64]; have := unhide HTl; omega
          have hR1 : Row .u8 true w6.heap.size wr.heap.size wr (.slice a7 TL.length c7) TL := unhide hR
          obtain ⟨b7, hb7, rb7⟩ := row_block1 hR1
          have hb7 := hb7 (fun e => by rw [e] at hQl; simp at hQl)
          have zX := (unhide hK).size
          obtain ⟨g7, o7, c7', hv, -, -, -⟩ := hR1.news (fun e => by rw [e] at hQl; simp at hQl)
          injection hv with e1 e2 e3
          subst e1 e3
          obtain ⟨hcap, hmax⟩ := row_cap hR1
          unfold maxLen at hmax
          have rA := rb7.front Q (Nat.le_of_lt hQl)
          have rB := rb7.drop Q hQl
          have hLA : (TL.take Q).length = Q := by rw [List.length_take]; omega
          have hLB : (TL.drop Q).length = TL.length - Q := List.length_drop
          have hK1 : Kept 0 0 w6 wr := unhide hK
          have hQc : Q ≤ c7 := by omega
          have hQ1 : Q ≤ TL.length := by omega
          have hQ2 : ¬ c7 = Q := by omega
          have HLA := hide hLA
          have HLB := hide hLB
          have RA := hide rA
          have RB := hide rB
          have HT2 : Hid (TL.length ≤ 3000) := by (show _ ≤ _; have := unhide HTL; rw [← this]; simp; omega)
          have HB7 : Hid (w6.heap.size ≤ b7 ∧ b7 < wr.heap.size) := hb7
          clear hLA hLB rA rB rb7 hb7 hj hD0 hD1 HTl hQ hle hjj hR hR1
          go_wp2_with fail
          have kd := (Kept.refl 0 0 wr).drew
          have KD := hide (hK1.trans kd)
          replace RA := hide ((unhide RA).kept kd (by omega))
          replace RB := hide ((unhide RB).kept kd (by omega))
          replace HB7 : Hid (w6.heap.size ≤ b7 ∧ b7 < wr.drew.heap.size) := HB7
          clear kd hK1
          refine wp_region_held_drew (S := (fun _ => True)) (by kernel_rfl) ?_ (fun hHeld => ?_)
          · trivial
          generalize wr.drew = wd at *
          refine wpAnyH_take (i := 0) (oi := _) (v := .slice a6 1 c6) rfl (by kernel_rfl) (by kernel_rfl) (by kernel_rfl) (fun _ _ _ h => h) (Or.inl ⟨by rfl, ?_⟩) hHeld ?_
          · intro wq hSw
            try dsimp only at hSw
            go_simp
          try simp only [Act.put, List.getElem_toArray, List.getElem_cons_succ, List.getElem_cons_zero, List.setIfInBounds_toArray, List.set_cons_zero, List.set_cons_succ]
          refine wpAnyH_take (i := 1) (oi := _) (v := .slice (some ⟨g7, o7, none⟩) TL.length c7) rfl (by kernel_rfl) (by kernel_rfl) (by kernel_rfl) (fun _ _ _ h => h) (Or.inl ⟨by rfl, ?_⟩) hHeld ?_
          · intro wq hSw
            try dsimp only at hSw
            go_simp
          try simp only [Act.put, List.getElem_toArray, List.getElem_cons_succ, List.getElem_cons_zero, List.setIfInBounds_toArray, List.set_cons_zero, List.set_cons_succ]
          refine wpAnyH_take (i := 2) (oi := _) (v := .slice (some ⟨g7, o7, none⟩) TL.length c7) rfl (by kernel_rfl) (by kernel_rfl) (by kernel_rfl) (fun _ _ _ h => h) (Or.inl ⟨by rfl, ?_⟩) hHeld ?_
          · intro wq hSw
            try dsimp only at hSw
            go_simp
          try simp only [Act.put, List.getElem_toArray, List.getElem_cons_succ, List.getElem_cons_zero, List.setIfInBounds_toArray, List.set_cons_zero, List.set_cons_succ]
          refine wpAnyH_take (i := 3) (oi := _) (v := .int .i64 (TL.length : Int)) rfl (by kernel_rfl) (by kernel_rfl) (by kernel_rfl) (fun _ _ _ h => h) (Or.inl ⟨by rfl, ?_⟩) hHeld ?_
          · intro wq hSw
            try dsimp only at hSw
            go_simp
          try simp only [Act.put, List.getElem_toArray, List.getElem_cons_succ, List.getElem_cons_zero, List.setIfInBounds_toArray, List.set_cons_zero, List.set_cons_succ]
          refine wpAnyH_take (i := 4) (oi := _) (v := .int .i64 (i : Int)) rfl (by kernel_rfl) (by kernel_rfl) (by kernel_rfl) (fun _ _ _ h => h) (Or.inl ⟨by rfl, ?_⟩) hHeld ?_
          · intro wq hSw
            try dsimp only at hSw
            go_simp
          try simp only [Act.put, List.getElem_toArray, List.getElem_cons_succ, List.getElem_cons_zero, List.setIfInBounds_toArray, List.set_cons_zero, List.set_cons_succ]
          refine wpAnyH_take (i := 5) (oi := _) (v := .int .i64 (Q : Int)) rfl (by kernel_rfl) (by kernel_rfl) (by kernel_rfl) (fun _ _ _ h => h) (Or.inl ⟨by rfl, ?_⟩) hHeld ?_
          · intro wq hSw
            try dsimp only at hSw
            go_simp
          try simp only [Act.put, List.getElem_toArray, List.getElem_cons_succ, List.getElem_cons_zero, List.setIfInBounds_toArray, List.set_cons_zero, List.set_cons_succ]
          refine wpAnyH_take (i := 6) (oi := _) (v := .slice (some ⟨g7, o7, none⟩) Q c7) rfl (by kernel_rfl) (by kernel_rfl) (by kernel_rfl) (fun _ _ _ h => h) (Or.inl ⟨by rfl, ?_⟩) hHeld ?_
          · intro wq hSw
            try dsimp only at hSw
            go_simp
          try simp only [Act.put, List.getElem_toArray, List.getElem_cons_succ, List.getElem_cons_zero, List.setIfInBounds_toArray, List.set_cons_zero, List.set_cons_succ]
          refine wpAnyH_take (i := 10) (oi := _) (v := .slice (some ⟨g7, o7, none⟩) TL.length c7) rfl (by kernel_rfl) (by kernel_rfl) (by kernel_rfl) (fun _ _ _ h => h) (Or.inl ⟨by rfl, ?_⟩) hHeld ?_
          · intro wq hSw
            try dsimp only at hSw
            go_simp
          try simp only [Act.put, List.getElem_toArray, List.getElem_cons_succ, List.getElem_cons_zero, List.setIfInBounds_toArray, List.set_cons_zero, List.set_cons_succ]
          refine wpAnyH_take (i := 11) (oi := _) (v := .slice (some ⟨g7, o7, none⟩) TL.length c7) rfl (by kernel_rfl) (by kernel_rfl) (by kernel_rfl) (fun _ _ _ h => h) (Or.inl ⟨by rfl, ?_⟩) hHeld ?_
          · intro wq hSw
            try dsimp only at hSw
            go_simp
          try simp only [Act.put, List.getElem_toArray, List.getElem_cons_succ, List.getElem_cons_zero, List.setIfInBounds_toArray, List.set_cons_zero, List.set_cons_succ]
          refine wpAnyH_take (i := 12) (oi := _) (v := .int .i64 (TL.length : Int)) rfl (by kernel_rfl) (by kernel_rfl) (by kernel_rfl) (fun _ _ _ h => h) (Or.inl ⟨by rfl, ?_⟩) hHeld ?_
          · intro wq hSw
            try dsimp only at hSw
            go_simp
          try simp only [Act.put, List.getElem_toArray, List.getElem_cons_succ, List.getElem_cons_zero, List.setIfInBounds_toArray, List.set_cons_zero, List.set_cons_succ]
          refine wpAnyH_take (i := 13) (oi := _) (v := .int .i64 (i : Int)) rfl (by kernel_rfl) (by kernel_rfl) (by kernel_rfl) (fun _ _ _ h => h) (Or.inl ⟨by rfl, ?_⟩) hHeld ?_
          · intro wq hSw
            try dsimp only at hSw
            go_simp
          try simp only [Act.put, List.getElem_toArray, List.getElem_cons_succ, List.getElem_cons_zero, List.setIfInBounds_toArray, List.set_cons_zero, List.set_cons_succ]
          refine wpAnyH_take (i := 14) (oi := _) (v := .int .i64 (Q : Int)) rfl (by kernel_rfl) (by kernel_rfl) (by kernel_rfl) (fun _ _ _ h => h) (Or.inl ⟨by rfl, ?_⟩) hHeld ?_
          · intro wq hSw
            try dsimp only at hSw
            go_simp
          try simp only [Act.put, List.getElem_toArray, List.getElem_cons_succ, List.getElem_cons_zero, List.setIfInBounds_toArray, List.set_cons_zero, List.set_cons_succ]
          refine wpAnyH_take (i := 15) (oi := _) (v := .slice (some ⟨g7, o7 + Q, none⟩) (TL.length - Q) (c7 - Q)) rfl (by kernel_rfl) (by kernel_rfl) (by kernel_rfl) (fun _ _ _ h => h) (Or.inl ⟨by rfl, ?_⟩) hHeld ?_
          · intro wq hSw
            try dsimp only at hSw
            go_simp
          try simp only [Act.put, List.getElem_toArray, List.getElem_cons_succ, List.getElem_cons_zero, List.setIfInBounds_toArray, List.set_cons_zero, List.set_cons_succ]
          refine wpAnyH_ready (rs := [7, 8]) (by kernel_rfl) (by simp) ?_
          refine AllReadyH.cons rfl (fun KK hK => ?_) (AllReadyH.cons rfl (fun KK hK => ?_) AllReadyH.nil)
          · simp only [List.getElem_toArray, List.getElem_cons_succ, List.getElem_cons_zero]
            rw [if_pos (by rfl)]
            have NBA : Hid ((w.heap.size + 1) ≤ wd.heap.size) := by (show _ ≤ _; have := (unhide KD).size; omega)
            refine wp_cat (v1 := .slice a6 1 c6) (v2 := .slice (some ⟨g7, o7, none⟩) Q c7) _ _ rfl rfl rfl (zs := [45]) (b := (w.heap.size + 1)) (own_kept (unhide O3) (unhide KD)) (unhide RA) (fun e => by (have h := unhide HLA; rw [e] at h; simp at h; omega)) (unhide NBA) (by decide) (by (have := unhide HLA; have := unhide HT2; omega)) ?_
            intro vA wA oA gA eA
            obtain ⟨S1, hS1⟩ : ∃ S1, S1 = [45] ++ TL.take Q := ⟨_, rfl⟩
            rw [← hS1] at oA
            have HS1 := hide hS1
            have hl1 : S1.length ≤ 3900 := by (rw [hS1, List.length_append]; have := unhide HLA; have := unhide HT2; simp; omega)
            have HL1 := hide hl1
            clear hS1 hl1
            obtain ⟨aA, cA, hvA⟩ := own_slice oA
            subst hvA
            have hbb := unhide HB7
            have PA : Hid (∀ q, (Value.slice aA S1.length cA).ownBlock = some q → (w.heap.size + 1) ≤ q ∧ q ≠ b7) := fun q hq => by
              have h1 := (oA.lt q hq).1
              refine ⟨h1, ?_⟩
              rcases eA with e | e
              · rw [e] at hq
                have := (unhide O3).lt q hq; omega
              · rw [e] at hq
                injection hq with hq
                have := (unhide KD).size
                omega
            have RB1 := hide (row_apart (unhide RB) gA (fun q hq => by have := (unhide O3).lt q hq; omega))
            have KX := hide (((unhide K1).trans (unhide KD)).growNew gA (fun q hq => by have := (unhide O3).lt q hq; omega))
            have ZA := gA.size
            have OX := hide oA
            clear oA gA eA NBA RA RB hbb
            clear hHeld
            refine hK.out _ _ ?_ (fun hHeld => ?_)
            · trivial
            clear hK KK
            try simp only [Act.put, List.getElem_toArray, List.getElem_cons_succ, List.getElem_cons_zero, List.setIfInBounds_toArray, List.set_cons_zero, List.set_cons_succ]
            refine wpAnyH_ready (rs := [8]) (by kernel_rfl) (by simp) ?_
            refine AllReadyH.cons rfl (fun KK hK => ?_) AllReadyH.nil
            simp only [List.getElem_toArray, List.getElem_cons_succ, List.getElem_cons_zero]
            rw [if_pos (by rfl)]
            go_simp
            have k2 := (Kept.refl 0 0 wA).alloc (.cells #[.int .u8 46] 5)
            have RL : Hid (Row .u8 true wA.heap.size (wA.alloc (.cells #[.int .u8 46] 5)).heap.size (wA.alloc (.cells #[.int .u8 46] 5)) (.slice (some ⟨wA.heap.size, 0, none⟩) 1 1) [46]) := Row.own (own_lit .u8 wA 5 wA.heap.size (Nat.le_refl _) [46] (by simp [maxLen]))
            have OY := hide (own_kept (unhide OX) k2)
            have RB2 := hide ((unhide RB1).kept k2 (by omega))
            have KY := hide ((unhide KX).trans k2)
            have ZB : Hid (wd.heap.size ≤ (wA.alloc (.cells #[.int .u8 46] 5)).heap.size) := by (show _ ≤ _; have := k2.size; omega)
            clear k2 OX RB1 KX ZA
            clear hHeld
            refine hK.out _ _ ?_ (fun hHeld => ?_)
            · trivial
            clear hK KK
            try simp only [Act.put, List.getElem_toArray, List.getElem_cons_succ, List.getElem_cons_zero, List.setIfInBounds_toArray, List.set_cons_zero, List.set_cons_succ]
            generalize (wA.alloc (.cells #[.int .u8 46] 5)) = wL at *
            refine wpAnyH_ready (rs := [9]) (by kernel_rfl) (by simp) ?_
            refine AllReadyH.cons rfl (fun KK hK => ?_) AllReadyH.nil
            simp only [List.getElem_toArray, List.getElem_cons_succ, List.getElem_cons_zero]
            rw [if_pos (by rfl)]
            have hLL := unhide HL1
            have NB9 : (w.heap.size + 1) ≤ wL.heap.size := by (have := unhide ZB; have := unhide HB7; omega)
            have NW : Hid (b7 < wL.heap.size) := by (show _ < _; have := unhide ZB; have := unhide HB7; omega)
            refine wp_cat (v1 := .slice aA S1.length cA) _ _ rfl rfl rfl (zs := S1) (b := (w.heap.size + 1)) (unhide OY) (unhide RL) (by simp) NB9 (by omega) (by decide) ?_
            intro vC wC oC gC eC
            obtain ⟨S2, hS2⟩ : ∃ S2, S2 = S1 ++ [46] := ⟨_, rfl⟩
            rw [← hS2] at oC
            have HS2 := hide hS2
            have hl2 : S2.length ≤ 4001 := by (rw [hS2, List.length_append]; simp; omega)
            have HL2 := hide hl2
            clear hS2 hl2
            obtain ⟨aC, cC, hvC⟩ := own_slice oC
            subst hvC
            have PC : Hid (∀ q, (Value.slice aC S2.length cC).ownBlock = some q → (w.heap.size + 1) ≤ q ∧ q ≠ b7) := fun q hq => by
              rcases eC with e | e
              · rw [e] at hq; exact unhide PA q hq
              · rw [e] at hq
                injection hq with hq
                have := unhide NW
                omega
            have RB4 := hide (row_apart (unhide RB2) gC (fun q hq => (unhide PA q hq).2))
            have KC := hide ((unhide KY).growNew gC (fun q hq => by have := (unhide PA q hq).1; omega))
            have ZC := gC.size
            have NBC : Hid ((w.heap.size + 1) ≤ wC.heap.size) := by (show _ ≤ _; omega)
            have OC := hide oC
            clear oC gC eC NB9 hLL OY RL RB2 KY PA NW ZC
            clear hHeld
            refine hK.out _ _ ?_ (fun hHeld => ?_)
            · trivial
            clear hK KK
            try simp only [Act.put, List.getElem_toArray, List.getElem_cons_succ, List.getElem_cons_zero, List.setIfInBounds_toArray, List.set_cons_zero, List.set_cons_succ]
            refine wpAnyH_ready (rs := [16]) (by kernel_rfl) (by simp) ?_
            refine AllReadyH.cons rfl (fun KK hK => ?_) AllReadyH.nil
            simp only [List.getElem_toArray, List.getElem_cons_succ, List.getElem_cons_zero]
            rw [if_pos (by rfl)]
            have hL2 := unhide HL2
            refine wp_cat (v1 := .slice aC S2.length cC) _ _ rfl rfl rfl (zs := S2) (b := (w.heap.size + 1)) (unhide OC) (unhide RB4) (fun e => by (have h := unhide HLB; rw [e] at h; simp at h; omega)) (unhide NBC) (by omega) (by (have := unhide HLB; have := unhide HT2; omega)) ?_
            intro vF wF oF gF eF
            have KF := hide ((unhide KC).growNew gF (fun q hq => by have := (unhide PC q hq).1; omega))
            have RF := hide ((Row.own oF).wider (lo' := w.heap.size) (hi' := wF.heap.size) (by omega) (Nat.le_refl _))
            clear oF gF eF hL2 OC RB4 KC PC NBC HL2
            clear hHeld
            refine hK.out _ _ ?_ (fun hHeld => ?_)
            · trivial
            clear hK KK
            try simp only [Act.put, List.getElem_toArray, List.getElem_cons_succ, List.getElem_cons_zero, List.setIfInBounds_toArray, List.set_cons_zero, List.set_cons_succ]
            refine wpAnyH_take (i := 17) (oi := _) (v := vF) rfl (by kernel_rfl) (by kernel_rfl) (by kernel_rfl) (fun _ _ _ h => h) (Or.inl ⟨by rfl, ?_⟩) hHeld ?_
            · intro wq hSw
              try dsimp only at hSw
              go_simp
            try simp only [Act.put, List.getElem_toArray, List.getElem_cons_succ, List.getElem_cons_zero, List.setIfInBounds_toArray, List.set_cons_zero, List.set_cons_succ]
            refine wpAnyH_done (by kernel_rfl) ?_ _
            clear hHeld
            go_wp2
            go_ret
            exact ⟨_, rfl, by rw [unhide HDP]; have h := unhide RF; rw [unhide HS2, unhide HS1] at h; simpa [sgnT] using h, unhide KF⟩
          · simp only [List.getElem_toArray, List.getElem_cons_succ, List.getElem_cons_zero]
            rw [if_pos (by rfl)]
            go_simp
            have k2 := (Kept.refl 0 0 wd).alloc (.cells #[.int .u8 46] 5)
            have RL0 : Hid (Row .u8 true wd.heap.size (wd.heap.size + 1) (wd.alloc (.cells #[.int .u8 46] 5)) (.slice (some ⟨wd.heap.size, 0, none⟩) 1 1) [46]) := (Row.own (own_lit .u8 wd 5 wd.heap.size (Nat.le_refl _) [46] (by simp [maxLen]))).wider (Nat.le_refl _) (by simp)
            replace RA := hide ((unhide RA).kept k2 (by omega))
            replace RB := hide ((unhide RB).kept k2 (by omega))
            have KD2 := hide ((unhide KD).trans k2)
            replace HB7 : Hid (w6.heap.size ≤ b7 ∧ b7 < (wd.alloc (.cells #[.int .u8 46] 5)).heap.size) := by (have h := unhide HB7; have := k2.size; exact ⟨h.1, by omega⟩)
            have ZD : Hid (w6.heap.size ≤ wd.heap.size ∧ wd.heap.size < (wd.alloc (.cells #[.int .u8 46] 5)).heap.size) := ⟨(unhide KD).size, by simp⟩
            clear k2
            clear hHeld
            refine hK.out _ _ ?_ (fun hHeld => ?_)
            · trivial
            clear hK KK
            try simp only [Act.put, List.getElem_toArray, List.getElem_cons_succ, List.getElem_cons_zero, List.setIfInBounds_toArray, List.set_cons_zero, List.set_cons_succ]
            generalize (wd.alloc (.cells #[.int .u8 46] 5)) = wK at *
            refine wpAnyH_ready (rs := [7]) (by kernel_rfl) (by simp) ?_
            refine AllReadyH.cons rfl (fun KK hK => ?_) AllReadyH.nil
            simp only [List.getElem_toArray, List.getElem_cons_succ, List.getElem_cons_zero]
            rw [if_pos (by rfl)]
            have NBA : Hid ((w.heap.size + 1) ≤ wK.heap.size) := by (show _ ≤ _; have := (unhide KD2).size; omega)
            refine wp_cat (v1 := .slice a6 1 c6) (v2 := .slice (some ⟨g7, o7, none⟩) Q c7) _ _ rfl rfl rfl (zs := [45]) (b := (w.heap.size + 1)) (own_kept (unhide O3) (unhide KD2)) (unhide RA) (fun e => by (have h := unhide HLA; rw [e] at h; simp at h; omega)) (unhide NBA) (by decide) (by (have := unhide HLA; have := unhide HT2; omega)) ?_
            intro vA wL oA gA eA
            obtain ⟨S1, hS1⟩ : ∃ S1, S1 = [45] ++ TL.take Q := ⟨_, rfl⟩
            rw [← hS1] at oA
            have HS1 := hide hS1
            have hl1 : S1.length ≤ 3900 := by (rw [hS1, List.length_append]; have := unhide HLA; have := unhide HT2; simp; omega)
            have HL1 := hide hl1
            clear hS1 hl1
            obtain ⟨aA, cA, hvA⟩ := own_slice oA
            subst hvA
            have hbb := unhide HB7
            have PA : Hid (∀ q, (Value.slice aA S1.length cA).ownBlock = some q → (w.heap.size + 1) ≤ q ∧ q ≠ b7) := fun q hq => by
              have h1 := (oA.lt q hq).1
              refine ⟨h1, ?_⟩
              rcases eA with e | e
              · rw [e] at hq
                have := (unhide O3).lt q hq; omega
              · rw [e] at hq
                injection hq with hq
                have := (unhide KD2).size
                omega
            have RB1 := hide (row_apart (unhide RB) gA (fun q hq => by have := (unhide O3).lt q hq; omega))
            have KX := hide (((unhide K1).trans (unhide KD2)).growNew gA (fun q hq => by have := (unhide O3).lt q hq; omega))
            have ZA := gA.size
            have OX := hide oA
            have RL := hide (row_apart (unhide RL0) gA (fun q hq => by have := (unhide O3).lt q hq; have := unhide ZD; omega))
            have OY := OX
            have RB2 := RB1
            have KY := KX
            have ZB : Hid (wK.heap.size ≤ wL.heap.size) := ZA
            clear oA gA eA NBA RA RB RL0 hbb OX RB1 KX ZA
            clear hHeld
            refine hK.out _ _ ?_ (fun hHeld => ?_)
            · trivial
            clear hK KK
            try simp only [Act.put, List.getElem_toArray, List.getElem_cons_succ, List.getElem_cons_zero, List.setIfInBounds_toArray, List.set_cons_zero, List.set_cons_succ]
            refine wpAnyH_ready (rs := [9]) (by kernel_rfl) (by simp) ?_
            refine AllReadyH.cons rfl (fun KK hK => ?_) AllReadyH.nil
            simp only [List.getElem_toArray, List.getElem_cons_succ, List.getElem_cons_zero]
            rw [if_pos (by rfl)]
            have hLL := unhide HL1
            have NB9 : (w.heap.size + 1) ≤ wL.heap.size := by (have := unhide ZB; have := unhide HB7; omega)
            have NW : Hid (b7 < wL.heap.size) := by (show _ < _; have := unhide ZB; have := unhide HB7; omega)
            refine wp_cat (v1 := .slice aA S1.length cA) _ _ rfl rfl rfl (zs := S1) (b := (w.heap.size + 1)) (unhide OY) (unhide RL) (by simp) NB9 (by omega) (by decide) ?_
            intro vC wC oC gC eC
            obtain ⟨S2, hS2⟩ : ∃ S2, S2 = S1 ++ [46] := ⟨_, rfl⟩
            rw [← hS2] at oC
            have HS2 := hide hS2
            have hl2 : S2.length ≤ 4001 := by (rw [hS2, List.length_append]; simp; omega)
            have HL2 := hide hl2
            clear hS2 hl2
            obtain ⟨aC, cC, hvC⟩ := own_slice oC
            subst hvC
            have PC : Hid (∀ q, (Value.slice aC S2.length cC).ownBlock = some q → (w.heap.size + 1) ≤ q ∧ q ≠ b7) := fun q hq => by
              rcases eC with e | e
              · rw [e] at hq; exact unhide PA q hq
              · rw [e] at hq
                injection hq with hq
                have := unhide NW
                omega
            have RB4 := hide (row_apart (unhide RB2) gC (fun q hq => (unhide PA q hq).2))
            have KC := hide ((unhide KY).growNew gC (fun q hq => by have := (unhide PA q hq).1; omega))
            have ZC := gC.size
            have NBC : Hid ((w.heap.size + 1) ≤ wC.heap.size) := by (show _ ≤ _; omega)
            have OC := hide oC
            clear oC gC eC NB9 hLL OY RL RB2 KY PA NW ZC
            clear hHeld
            refine hK.out _ _ ?_ (fun hHeld => ?_)
            · trivial
            clear hK KK
            try simp only [Act.put, List.getElem_toArray, List.getElem_cons_succ, List.getElem_cons_zero, List.setIfInBounds_toArray, List.set_cons_zero, List.set_cons_succ]
            refine wpAnyH_ready (rs := [16]) (by kernel_rfl) (by simp) ?_
            refine AllReadyH.cons rfl (fun KK hK => ?_) AllReadyH.nil
            simp only [List.getElem_toArray, List.getElem_cons_succ, List.getElem_cons_zero]
            rw [if_pos (by rfl)]
            have hL2 := unhide HL2
            refine wp_cat (v1 := .slice aC S2.length cC) _ _ rfl rfl rfl (zs := S2) (b := (w.heap.size + 1)) (unhide OC) (unhide RB4) (fun e => by (have h := unhide HLB; rw [e] at h; simp at h; omega)) (unhide NBC) (by omega) (by (have := unhide HLB; have := unhide HT2; omega)) ?_
            intro vF wF oF gF eF
            have KF := hide ((unhide KC).growNew gF (fun q hq => by have := (unhide PC q hq).1; omega))
            have RF := hide ((Row.own oF).wider (lo' := w.heap.size) (hi' := wF.heap.size) (by omega) (Nat.le_refl _))
            clear oF gF eF hL2 OC RB4 KC PC NBC HL2
            clear hHeld
            refine hK.out _ _ ?_ (fun hHeld => ?_)
            · trivial
            clear hK KK
            try simp only [Act.put, List.getElem_toArray, List.getElem_cons_succ, List.getElem_cons_zero, List.setIfInBounds_toArray, List.set_cons_zero, List.set_cons_succ]
            refine wpAnyH_take (i := 17) (oi := _) (v := vF) rfl (by kernel_rfl) (by kernel_rfl) (by kernel_rfl) (fun _ _ _ h => h) (Or.inl ⟨by rfl, ?_⟩) hHeld ?_
            · intro wq hSw
              try dsimp only at hSw
              go_simp
            try simp only [Act.put, List.getElem_toArray, List.getElem_cons_succ, List.getElem_cons_zero, List.setIfInBounds_toArray, List.set_cons_zero, List.set_cons_succ]
            refine wpAnyH_done (by kernel_rfl) ?_ _
            clear hHeld
            go_wp2
            go_ret
            exact ⟨_, rfl, by rw [unhide HDP]; have h := unhide RF; rw [unhide HS2, unhide HS1] at h; simpa [sgnT] using h, unhide KF⟩

end Go.Proofs.Ytfikfmkhmojpfaa
