/-
  The model's ListText.
-/
import Derived.Test.YtfikfmkhmojpfaaDyt3
import Derived.Test.YtfikfmkhmojpfaaLst1
namespace Go.Proofs.Ytfikfmkhmojpfaa
open Go.RowKit
set_option linter.unusedVariables false
set_option maxRecDepth 8000
set_option linter.unusedSimpArgs false

/-- An append of a row that is not empty. -/
theorem wpList_cat {ops : Array Oper} {rest : List Oper} {o : Oper} {a : Act} {Q : Exit → Act → World → Prop} {bw : Bool} {b lo hi : Nat} {wr : World} {v1 v2 : Value} {zs ts : List Int} (hgd : o.guard = none) (s x : Operand)
    (ho : o.op = .call { callee := .builtin .append, args := #[s, x], argTypes := #[30, 30] }) (hs : a.eval s = v1) (hx : a.eval x = v2)
    (hown : wr.ownsRow b 5 1 v1 zs.length (zs.map (Value.int .u8))) (r : Row .u8 bw lo hi wr v2 ts) (hz : ts ≠ []) (hb : b ≤ wr.heap.size) (hn : zs.length ≤ 2000000) (hm : ts.length ≤ 2000000)
    (h : ∀ v' w', w'.ownsRow b 5 1 v' (zs ++ ts).length ((zs ++ ts).map (Value.int .u8)) → wr.grownBy w' v1.ownBlock → wpList Try.prog ops Q rest (a.put o.dst v') w') : wpList Try.prog ops Q (o :: rest) a wr :=
  wpList_plain hgd fun _ hK => wp_cat s x ho hs hx hown r hz hb hn hm (fun v' w' h1 h2 _ => hK _ _ (h v' w' h1 h2))

set_option maxHeartbeats 4000000 in
theorem l12may_spec {bw : Bool} {lo hi : Nat} {v : Value} {zs : List Int} (b : Bool) (x : Int) (hx1 : x ≤ 9223372036854775807) (hx0 : -9223372036854775808 ≤ x) (w : World) (r : Row .i64 bw lo hi w v zs) :
    Calls Try.prog 50 #[.agg #[.bool b, v, .int .i64 x]] w fun e w' => e = .returned (.bool (dtB b zs x)) ∧ Kept 0 0 w w' := by
  have k0 : Kept 0 0 w (w.alloc (.cells #[.bool b, v, .int .i64 x] 37)) := (Kept.refl 0 0 w).alloc _
  have p0 : (w.alloc (.cells #[.bool b, v, .int .i64 x] 37)).cell? ⟨w.heap.size, 0, none⟩ = some (.bool b) := new_cell2 _ _ _ _ _ _ rfl rfl
  have p1 : (w.alloc (.cells #[.bool b, v, .int .i64 x] 37)).cell? ⟨w.heap.size, 1, none⟩ = some v := new_cell2 _ _ _ _ _ _ rfl rfl
  have p2 : (w.alloc (.cells #[.bool b, v, .int .i64 x] 37)).cell? ⟨w.heap.size, 2, none⟩ = some (.int .i64 x) := new_cell2 _ _ _ _ _ _ rfl rfl
  have hk := dok_spec b x hx1 hx0 _ (r.kept k0 (by omega))
  obtain ⟨a, c, hv⟩ := Row.form' r
  subst hv
  clear r
  go_enter Try.func50, Try.ntmps50
  go_wp2_with fail
  generalize (w.alloc (.cells #[.bool b, .slice a zs.length c, .int .i64 x] 37)) = W at *
  refine hk.mono ?_
  rintro e w1 ⟨rfl, k1⟩
  replace p0 := k1.cell0 p0
  replace p1 := k1.cell0 p1
  replace p2 := k1.cell0 p2
  have K1 := hide (k0.trans k1)
  clear k0 k1 hk
  cases hd : dokB b zs x
  · have HB := hide (dt_dok hd)
    clear hd
    go_wp2
    go_ret
    exact ⟨by rw [unhide HB]; rfl, unhide K1⟩
  by_cases h0 : x < -100
  · have HB : Hid (dtB b zs x = false) := dt_lo h0
    have h2 : ¬ x ≥ -100 := by omega
    clear hd
    go_wp2
    go_ret
    exact ⟨by rw [unhide HB]; rfl, unhide K1⟩
  have h2 : x ≥ -100 := by omega
  by_cases h1 : x > 1000
  · have HB : Hid (dtB b zs x = false) := dt_hi h1
    have h3 : ¬ x ≤ 1000 := by omega
    clear hd h0
    go_wp2
    go_ret
    exact ⟨by rw [unhide HB]; show Ending.returned (.bool (decide (x ≤ 1000))) = _; rw [decide_eq_false (show ¬ x ≤ 1000 by omega)], unhide K1⟩
  have h3 : x ≤ 1000 := by omega
  have HB := hide (dt_yes hd h0 h1)
  clear hd h0 h1
  go_wp2
  go_ret
  exact ⟨by rw [unhide HB]; rfl, unhide K1⟩

set_option maxHeartbeats 8000000 in
theorem l12all_spec {lo hi : Nat} {v : Value} {ds : List DE} (w : World) (hn : ds.length ≤ 1000) (r : Dys lo hi w v ds) (HY : ∀ i, i < ds.length → I64 (ds.getD i de0).2.2) :
    Calls Try.prog 44 #[v] w fun e w' => e = .returned (.bool (allB (fun i => tB (ds.getD i de0)) ds.length)) ∧ Kept 0 0 w w' := by
  obtain ⟨a, c, rfl, -, -⟩ := r.form
  obtain ⟨n, hnn⟩ : ∃ n, n = ds.length := ⟨_, rfl⟩
  obtain ⟨B, hB⟩ : ∃ B : Nat → Bool, (fun i => tB (ds.getD i de0)) = B := ⟨_, rfl⟩
  rw [← hnn] at r hn ⊢
  rw [hB]
  have HB := hide hB
  have HN := hide hnn
  have R := hide r
  have HYY := hide HY
  clear r hnn HY hB
  go_enter Try.func44, Try.ntmps44
  go_wp2_with fail
  go_loopw [3] (fun s3 wr => ∃ j : Nat, s3 = .int .i64 j ∧ j ≤ n ∧ Hid (∀ i, i < j → B i = true) ∧ Hid (Kept 0 0 w wr)) (fun s3 _ => n - (intOf s3).toNat)
  case atStart => exact ⟨0, rfl, Nat.zero_le _, fun i hi => by omega, Kept.refl _ _ _⟩
  case round =>
    obtain ⟨j, rfl, hj, hall, k⟩ := hrel
    have hwj : IntKind.i64.wrap ((j : Int) + 1) = ((j + 1 : Nat) : Int) := by rw [IntKind.wrap_i64]; omega
    by_cases hlt : j < n
    · have hjl : j < ds.length := by rw [← unhide HN]; exact hlt
      obtain ⟨gA, off, ln, rfl, -, -, -, b, kk, c0, c1, c2, hln, rr⟩ := ((unhide R).kept (unhide k) (by omega)).at (i := j) hjl
      have hy := unhide HYY j hjl
      have hBj : B j = tB (ds.getD j de0) := by rw [← unhide HB]
      obtain ⟨⟨s0, z0, y0⟩, hd⟩ : ∃ q, q = ds.getD j de0 := ⟨_, rfl⟩
      rw [← hd] at c0 c2 rr hy hBj hln
      dsimp only at c0 c2 rr hy hln
      have hc2 := l12may_spec s0 y0 hy.1 hy.2 wr rr
      have hb2 : dtB s0 z0 y0 = B j := hBj.symm
      rw [hb2] at hc2
      clear hd hln rr hjl hBj hb2 hy
      go_wp2_with fail
      refine hc2.mono ?_
      rintro e w3 ⟨rfl, k3⟩
      have K3 := hide ((unhide k).trans k3)
      clear hc2 k3 k c0 c1 c2
      cases hB : B j
      · have HBN := hide (allB_no hlt hB)
        clear hB
        go_wp2
        go_ret
        exact ⟨by rw [unhide HBN]; rfl, unhide K3⟩
      · have HALL : Hid (∀ i, i < j + 1 → B i = true) := fun i hi => by
          rcases Nat.lt_succ_iff_lt_or_eq.1 hi with h | h
          · exact unhide hall i h
          · subst h; exact hB
        clear hB
        go_wp2
        go_roundw
        case rel => exact ⟨j + 1, by simp, hlt, HALL, K3⟩
        case measure => simp [intOf]; omega
    · have hjn : j = n := by omega
      subst hjn
      have HA := hide (allB_yes (unhide hall))
      clear hall
      go_wp2
      go_ret
      exact ⟨by rw [unhide HA]; rfl, unhide k⟩

theorem jT_succ (sep : List Int) (F : Nat → List Int) {j : Nat} (h : j ≠ 0) : jT sep F (j + 1) = jT sep F j ++ sep ++ F j := by rw [jT, if_neg h]
theorem tT_yes {d : DE} (h : tB d = true) : tT d = sgnT d.1 (dszT (val d.2.1).toNat d.2.2) ∧ Nrm d.2.1 ∧ d.2.1.length ≤ 100 ∧ -100 ≤ d.2.2 ∧ d.2.2 ≤ 1000 := by
  have h2 : dtB d.1 d.2.1 d.2.2 = true := h
  refine ⟨by unfold tT dtT; rw [if_pos h2], ?_⟩
  unfold dtB at h2
  rw [Bool.and_eq_true, Bool.and_eq_true] at h2
  obtain ⟨hl, hn⟩ := (okB_iff _).1 (wok_ok (dok_parts h2.1).1)
  exact ⟨hn, hl, of_decide_eq_true h2.2.1, of_decide_eq_true h2.2.2⟩

set_option maxHeartbeats 16000000 in
theorem l12list_spec {lo hi : Nat} {v : Value} {ds : List DE} (w : World) (hn : ds.length ≤ 100) (r : Dys lo hi w v ds) (HA : allB (fun i => tB (ds.getD i de0)) ds.length = true) :
    Calls Try.prog 45 #[v] w fun e w' => ∃ v', e = .returned v' ∧ w'.ownsRow w.heap.size 5 1 v' (jT [32] (ltF ds) ds.length).length ((jT [32] (ltF ds) ds.length).map (Value.int .u8)) ∧ Kept 0 0 w w' := by
  obtain ⟨a, c, rfl, -, -⟩ := r.form
  obtain ⟨n, hnn⟩ : ∃ n, n = ds.length := ⟨_, rfl⟩
  obtain ⟨T, hT⟩ : ∃ T : Nat → List Int, ltF ds = T := ⟨_, rfl⟩
  rw [← hnn] at r hn HA ⊢
  rw [hT]
  have HT := hide hT
  have HN := hide hnn
  have R := hide r
  have HAA := hide HA
  clear r hnn HA hT
  go_enter Try.func45, Try.ntmps45
  go_wp2_with fail
  go_loopw [4, 3] (fun s4 s3 wr => ∃ (j : Nat) (s : Value), s4 = .int .i64 j ∧ s = s3 ∧ j ≤ n ∧ Hid (wr.ownsRow w.heap.size 5 1 s (jT [32] T j).length ((jT [32] T j).map (Value.int .u8))) ∧ Hid (Kept 0 0 w wr)) (fun s4 _ _ => n - (intOf s4).toNat)
  case atStart => exact ⟨0, _, rfl, rfl, Nat.zero_le _, World.ownsRow_nil _ _ _ _, Kept.refl _ _ _⟩
  case round =>
    obtain ⟨j, s3, rfl, rfl, hj, hO, k⟩ := hrel
    have hwj : IntKind.i64.wrap ((j : Int) + 1) = ((j + 1 : Nat) : Int) := by rw [IntKind.wrap_i64]; omega
    by_cases hlt : j < n
    · have hjl : j < ds.length := by rw [← unhide HN]; exact hlt
      have hTJ : Hid (jT [32] T (j + 1) = (if j = 0 then [] else jT [32] T j ++ [32]) ++ T j) := by
        show _ = _
        by_cases h0 : j = 0
        · subst h0; rfl
        · rw [jT_succ _ _ h0, if_neg h0]
      have hTlen : Hid ((jT [32] T j).length ≤ 400000) := by
        show _ ≤ _
        have h1 := jT_len (sep := [32]) (F := T) (M := 3000) (by decide) j (fun i _ => by rw [← unhide HT]; exact tT_len _)
        have h2 : (3000 + 10) * j ≤ (3000 + 10) * 100 := Nat.mul_le_mul_left _ (by omega)
        omega
      have hTj : T j = tT (ds.getD j de0) := by rw [← unhide HT]; rfl
      have hty := tT_yes (allB_at (unhide HAA) hlt)
      have hne := tT_ne (allB_at (unhide HAA) hlt)
      have hlj := tT_len (ds.getD j de0)
      rw [← hTj] at hty hne hlj
      have NE := hide hne
      have NL : Hid ((T j).length ≤ 2000000) := by (show _ ≤ _; omega)
      by_cases h0 : j = 0
      · have hj0 : ¬ (j : Int) > 0 := by omega
        obtain ⟨gA, off, ln, rfl, -, -, -, b, kk, c0, c1, c2, hln, rr⟩ := ((unhide R).kept (unhide k) (by omega)).at (i := j) hjl
        obtain ⟨⟨s0, z0, y0⟩, hd⟩ : ∃ q, q = ds.getD j de0 := ⟨_, rfl⟩
        rw [← hd] at c0 c2 rr hty hln
        dsimp only at c0 c2 rr hty hln
        have hdec := l4dec_spec s0 y0 wr rr hty.2.1 hty.2.2.1 hty.2.2.2.1 hty.2.2.2.2
        rw [← hty.1] at hdec
        clear hd hln rr hty hne hlj hTj hjl
        have O0 : Hid (wr.ownsRow w.heap.size 5 1 s3 ([] : List Int).length (([] : List Int).map (Value.int .u8))) := by (have := unhide hO; subst h0; exact this)
        have H0 := hide h0
        clear h0
        have zk := (unhide k).size
        obtain ⟨a1, c1', hv1⟩ : ∃ a c, s3 = .slice a 0 c := own_slice (unhide O0)
        subst hv1
        go_wp2_with fail
        refine hdec.mono ?_
        rintro e w3 ⟨v3, rfl, r3, k3⟩
        obtain ⟨a3, c3, hv3⟩ := Row.form' r3
        subst hv3
        have K3 := hide ((unhide k).trans k3)
        have R3 := hide r3
        have O3 := hide (own_kept (unhide O0) k3)
        have NB : Hid (w.heap.size ≤ w3.heap.size) := (unhide K3).size
        clear hdec r3 k3 c0 c1 c2
        go_wp2_with (at_builtin; refine wpList_cat rfl _ _ rfl rfl rfl (zs := []) (b := w.heap.size) (unhide O3) (unhide R3) (unhide NE) (unhide NB) (by decide) (unhide NL) ?_)
        intro v4 w4 o4 g4
        have K4 := hide ((unhide K3).growNew g4 (fun q hq => ((unhide O3).lt q hq).1))
        have O4 : Hid (w4.ownsRow w.heap.size 5 1 v4 (jT [32] T (j + 1)).length ((jT [32] T (j + 1)).map (Value.int .u8))) := by (show World.ownsRow _ _ _ _ _ _ _; rw [unhide hTJ, if_pos (unhide H0)]; exact o4)
        clear o4 g4
        go_wp2
        go_roundw
        case rel => exact ⟨j + 1, _, by simp, rfl, hlt, O4, K4⟩
        case measure => simp [intOf]; omega
      · have hj0 : (j : Int) > 0 := by omega
        have C5 : Hid ((wr.alloc (.cells #[.int .u8 32] 5)).cell? ⟨wr.heap.size, 0, none⟩ = some (.int .u8 32)) := new_cell_at _ _ _ _ rfl
        have k5 := (Kept.refl 0 0 wr).alloc (.cells #[.int .u8 32] 5)
        have O5 := hide (own_kept (unhide hO) k5)
        have NB0 : Hid (w.heap.size ≤ (wr.alloc (.cells #[.int .u8 32] 5)).heap.size) := Nat.le_trans (unhide k).size k5.size
        have K5 := hide ((unhide k).trans k5)
        obtain ⟨J, hJ⟩ : ∃ J, jT [32] T j = J := ⟨_, rfl⟩
        rw [hJ] at O5 hTJ hTlen
        obtain ⟨a1, c1', hv1⟩ := own_slice (unhide O5)
        subst hv1
        have hTl2 : Hid (J.length ≤ 2000000) := by (show _ ≤ _; have := unhide hTlen; omega)
        clear k5 hO hJ
        go_wp2_with (at_builtin; refine wpList_byte rfl _ _ rfl rfl _ rfl 32 (unhide C5) (b := w.heap.size) (zs := J) (unhide O5) (unhide NB0) (unhide hTl2) ?_)
        generalize (wr.alloc (.cells #[.int .u8 32] 5)) = W5 at *
        intro v6 w6 o6 g6
        have K6 := hide ((unhide K5).growNew g6 (fun q hq => ((unhide O5).lt q hq).1))
        obtain ⟨J2, hJ2⟩ : ∃ J2, J ++ [32] = J2 := ⟨_, rfl⟩
        replace o6 : w6.ownsRow w.heap.size 5 1 v6 J2.length (J2.map (Value.int .u8)) := by (rw [← hJ2]; simpa using o6)
        have HJ2 := hide hJ2
        have hl2 : Hid (J2.length ≤ 2000000) := by (show _ ≤ _; rw [← hJ2, List.length_append]; have := unhide hTlen; simp; omega)
        clear hJ2
        obtain ⟨a6, c6, hv6⟩ := own_slice o6
        subst hv6
        have O6 := hide o6
        clear o6 g6 O5 C5 NB0
        obtain ⟨gA, off, ln, rfl, -, -, -, b, kk, c0, c1, c2, hln, rr⟩ := ((unhide R).kept (unhide K6) (by omega)).at (i := j) hjl
        obtain ⟨⟨s0, z0, y0⟩, hd⟩ : ∃ q, q = ds.getD j de0 := ⟨_, rfl⟩
        rw [← hd] at c0 c2 rr hty hln
        dsimp only at c0 c2 rr hty hln
        have hdec := l4dec_spec s0 y0 w6 rr hty.2.1 hty.2.2.1 hty.2.2.2.1 hty.2.2.2.2
        rw [← hty.1] at hdec
        clear hd hln rr hty hne hlj hTj hjl
        go_wp2_with fail
        refine hdec.mono ?_
        rintro e w7 ⟨v7, rfl, r7, k7⟩
        obtain ⟨a7, c7, hv7⟩ := Row.form' r7
        subst hv7
        have K7 := hide ((unhide K6).trans k7)
        have R7 := hide r7
        have O7 := hide (own_kept (unhide O6) k7)
        have NB : Hid (w.heap.size ≤ w7.heap.size) := (unhide K7).size
        clear hdec r7 k7 c0 c1 c2
        go_wp2_with (at_builtin; refine wpList_cat rfl _ _ rfl rfl rfl (zs := J2) (b := w.heap.size) (unhide O7) (unhide R7) (unhide NE) (unhide NB) (unhide hl2) (unhide NL) ?_)
        intro v8 w8 o8 g8
        have K8 := hide ((unhide K7).growNew g8 (fun q hq => ((unhide O7).lt q hq).1))
        have O8 : Hid (w8.ownsRow w.heap.size 5 1 v8 (jT [32] T (j + 1)).length ((jT [32] T (j + 1)).map (Value.int .u8))) := by (show World.ownsRow _ _ _ _ _ _ _; rw [unhide hTJ, if_neg h0, unhide HJ2, List.length_append, List.map_append]; exact o8)
        clear o8 g8
        go_wp2
        go_roundw
        case rel => exact ⟨j + 1, _, by simp, rfl, hlt, O8, K8⟩
        case measure => simp [intOf]; omega
    · have hjn : j = n := by omega
      subst hjn
      obtain ⟨L, hL⟩ : ∃ L, jT [32] T j = L := ⟨_, rfl⟩
      rw [hL] at hO
      obtain ⟨a9, c9, rfl⟩ := own_slice (unhide hO)
      have HL := hide hL
      clear hL
      go_wp2
      go_ret
      exact ⟨_, rfl, by rw [unhide HL]; exact unhide hO, unhide k⟩

set_option maxHeartbeats 4000000 in
theorem listText_spec {lo hi : Nat} {v : Value} {ds : List DE} (w : World) (r : Dys lo hi w v ds) (HY : ∀ i, i < ds.length → I64 (ds.getD i de0).2.2) :
    Calls Try.prog 17 #[v] w fun e w' => ∃ v', e = .returned (.tuple #[v', .bool (ltB ds)]) ∧ Row .u8 true w.heap.size w'.heap.size w' v' (ltT ds) ∧ Kept 0 0 w w' := by
  obtain ⟨a, c, rfl, -, -⟩ := r.form
  by_cases hl : ds.length ≤ 20
  · have hl2 : ¬ (ds.length : Int) > 20 := by omega
    have hta := l12all_spec w (by omega) r HY
    obtain ⟨A, hA⟩ : ∃ A, allB (fun i => tB (ds.getD i de0)) ds.length = A := ⟨_, rfl⟩
    rw [hA] at hta
    have HA := hide hA
    have HL := hide hl
    have R := hide r
    clear r HY hA hl
    go_enter Try.func17, Try.ntmps17
    go_wp2_with fail
    refine hta.mono ?_
    rintro e w1 ⟨rfl, k1⟩
    have K1 := hide k1
    have R1 := hide ((unhide R).kept k1 (by omega))
    clear hta k1
    cases A
    · have HB := hide (lt_no (lt_all (unhide HA)))
      go_wp2
      exact bodyPost_ret (v := .tuple #[.slice none 0 0, .bool false]) (by simp [results, Try.results17, go_sem]) rfl ⟨.slice none 0 0, by rw [(unhide HB).1], by rw [(unhide HB).2]; exact Row.nil _ _ _ _ _, unhide K1⟩
    · have hj := l12list_spec w1 (by have := unhide HL; omega) (unhide R1) (unhide HA)
      have HB : Hid (ltB ds = true ∧ ltT ds = jT [32] (ltF ds) ds.length) := ⟨lt_yes (unhide HL) (unhide HA), by unfold ltT; rw [lt_yes (unhide HL) (unhide HA)]; rfl⟩
      obtain ⟨J, hJ⟩ : ∃ J, jT [32] (ltF ds) ds.length = J := ⟨_, rfl⟩
      rw [hJ] at HB hj
      clear hJ
      go_wp2_with fail
      refine hj.mono ?_
      rintro e w2 ⟨v2, rfl, o2, k2⟩
      have K2 := hide ((unhide K1).trans k2)
      have R2 := hide ((Row.own o2).wider (lo' := w.heap.size) (unhide K1).size (Nat.le_refl _))
      obtain ⟨a2, c2, hv2⟩ := own_slice o2
      subst hv2
      clear hj o2 k2
      go_wp2
      exact bodyPost_ret (v := .tuple #[.slice a2 J.length c2, .bool true]) (by simp [results, Try.results17, go_sem]) rfl ⟨_, by rw [(unhide HB).1], by rw [(unhide HB).2]; exact unhide R2, unhide K2⟩
  · have hl2 : (ds.length : Int) > 20 := by omega
    have HB := hide (lt_no (lt_big hl))
    clear r HY hl
    go_enter Try.func17, Try.ntmps17
    go_wp2
    exact bodyPost_ret (v := .tuple #[.slice none 0 0, .bool false]) (by simp [results, Try.results17, go_sem]) rfl ⟨.slice none 0 0, by rw [(unhide HB).1], by rw [(unhide HB).2]; exact Row.nil _ _ _ _ _, Kept.refl _ _ _⟩

end Go.Proofs.Ytfikfmkhmojpfaa
