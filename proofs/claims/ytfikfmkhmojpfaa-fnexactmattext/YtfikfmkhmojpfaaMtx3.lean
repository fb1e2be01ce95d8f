/-
  The model's MatText.
-/
import Derived.Test.YtfikfmkhmojpfaaMtx2
import Derived.Test.YtfikfmkhmojpfaaLst2
import Derived.Lib.AppendStr
namespace Go.Proofs.Ytfikfmkhmojpfaa
open Go.RowKit
set_option linter.unusedVariables false
set_option maxRecDepth 8000
set_option linter.unusedSimpArgs false

theorem Dys.part {lo hi c g off : Nat} {w : World} {ds : List DE} (r : Dys lo hi w (.slice (some ⟨g, off, none⟩) ds.length c) ds) (i k : Nat) (h : i + k ≤ ds.length) (hk : 0 < k) : Dys lo hi w (.slice (some ⟨g, off + i * 3, none⟩) k (c - i)) ((ds.drop i).take k) := by
  obtain ⟨a', c', e, q1, q2, q3⟩ := r
  injection e with e1 e2 e3
  subst e1 e3
  obtain ⟨g', off', e', hl, hh, hs, hc⟩ := q3 (fun e => by rw [e] at h; simp at h; omega)
  injection e' with e'
  injection e' with e1 e2
  subst e1 e2
  have hlen : ((ds.drop i).take k).length = k := by rw [List.length_take, List.length_drop]; omega
  refine ⟨_, c - i, by rw [hlen], by rw [hlen]; omega, by omega, fun _ => ⟨g, off + i * 3, rfl, hl, hh, hs, fun j hj => ?_⟩⟩
  rw [hlen] at hj
  have h1 := hc (i + j) (by omega)
  rw [show off + (i + j) * 3 = off + i * 3 + j * 3 by omega] at h1
  rw [show ((ds.drop i).take k).getD j de0 = ds.getD (i + j) de0 by simp only [List.getD_eq_getElem?_getD]; rw [List.getElem?_take, if_pos hj, List.getElem?_drop]]
  exact h1
theorem jT_congr {sep : List Int} {F G : Nat → List Int} : ∀ {n : Nat}, (∀ j, j < n → F j = G j) → jT sep F n = jT sep G n
  | 0, _ => rfl
  | n + 1, h => by
    unfold jT
    rw [jT_congr (fun j hj => h j (by omega)), h n (by omega)]
    split
    · rename_i h0; subst h0; rw [h 0 (by omega)]
    · rfl
theorem part_row {ds : List DE} {n x : Nat} (h : x * n + n ≤ ds.length) : jT [32] (ltF ((ds.drop (x * n)).take n)) ((ds.drop (x * n)).take n).length = rowF ds n x := by
  have hlen : ((ds.drop (x * n)).take n).length = n := by rw [List.length_take, List.length_drop]; omega
  rw [hlen]
  exact jT_congr (fun j hj => by
    show tT _ = tT _
    rw [show ((ds.drop (x * n)).take n).getD j de0 = ds.getD (x * n + j) de0 by simp only [List.getD_eq_getElem?_getD]; rw [List.getElem?_take, if_pos hj, List.getElem?_drop]])
theorem part_all {ds : List DE} {n x : Nat} (h : x * n + n ≤ ds.length) (ha : allB (fun i => tB (ds.getD i de0)) ds.length = true) : allB (fun i => tB (((ds.drop (x * n)).take n).getD i de0)) ((ds.drop (x * n)).take n).length = true := by
  have hlen : ((ds.drop (x * n)).take n).length = n := by rw [List.length_take, List.length_drop]; omega
  rw [hlen]
  exact allB_yes (fun j hj => by
    rw [show ((ds.drop (x * n)).take n).getD j de0 = ds.getD (x * n + j) de0 by simp only [List.getD_eq_getElem?_getD]; rw [List.getElem?_take, if_pos hj, List.getElem?_drop]]
    exact allB_at ha (by omega))
/-- An append of "; " . -/
theorem wpList_semi {ops : Array Oper} {rest : List Oper} {o : Oper} {a : Act} {Q : Exit → Act → World → Prop} {b : Nat} {wr : World} {v : Value} {zs : List Int} (hgd : o.guard = none) (s x : Operand) (u : TypeId) (hu : Try.prog.underlying u = some .string)
    (ho : o.op = .call { callee := .builtin .append, args := #[s, x], argTypes := #[30, u] }) (hs : a.eval s = v) (hx : a.eval x = .string { data := #[59, 32] })
    (hown : wr.ownsRow b 5 1 v zs.length (zs.map (Value.int .u8))) (hb : b ≤ wr.heap.size) (hn : zs.length ≤ 2000000)
    (h : ∀ v' w', w'.ownsRow b 5 1 v' (zs ++ [59, 32]).length ((zs ++ [59, 32]).map (Value.int .u8)) → wr.grownBy w' v.ownBlock → wpList Try.prog ops Q rest (a.put o.dst v') w') : wpList Try.prog ops Q (o :: rest) a wr := by
  obtain ⟨i0, hi0, hz0, hz1, hz2⟩ := info_parts Try.info5
  refine Go.Lib.wpList_append_own_string _ hgd s x 30 u ho b 5 i0 Try.underlying30 hu hi0 hz0 hz1 hz2 v _ _ hs hown { data := #[59, 32] } hx ?_ ?_ hb ?_
  · show zs.length + 2 ≤ _; unfold maxLen; omega
  · show zs.length + 2 ≤ _; omega
  · intro v' w' h1 h2 _
    refine h v' w' ?_ h2
    rw [List.length_append, List.map_append]
    exact h1

set_option maxHeartbeats 16000000 in
theorem l12text_spec {lo hi : Nat} {v : Value} {ds : List DE} (n : Nat) (w : World) (h1n : 1 ≤ n) (hn4 : n ≤ 4) (hlen : ds.length = n * n) (r : Dys lo hi w v ds) (HA : allB (fun i => tB (ds.getD i de0)) ds.length = true) :
    Calls Try.prog 55 #[.agg #[.int .i64 (n : Int), v]] w fun e w' => ∃ v', e = .returned v' ∧ Row .u8 true w.heap.size w'.heap.size w' v' (91 :: (jT [59, 32] (rowF ds n) n ++ [93])) ∧ Kept 0 0 w w' := by
  have hNpos : 0 < ds.length := by rw [hlen]; exact Nat.mul_pos h1n h1n
  obtain ⟨a, c, rfl, hc1, -⟩ := r.form
  obtain ⟨gA, off, ln, rfl, -, -, -, -⟩ := r.at (i := 0) hNpos
  have k0 : Kept 0 0 w (w.alloc (.cells #[.int .i64 (n : Int), .slice (some ⟨gA, off, none⟩) ds.length c] 67)) := (Kept.refl 0 0 w).alloc _
  have p0 : (w.alloc (.cells #[.int .i64 (n : Int), .slice (some ⟨gA, off, none⟩) ds.length c] 67)).cell? ⟨w.heap.size, 0, none⟩ = some (.int .i64 (n : Int)) := new_cell2 _ _ _ _ _ _ rfl rfl
  have p1 : (w.alloc (.cells #[.int .i64 (n : Int), .slice (some ⟨gA, off, none⟩) ds.length c] 67)).cell? ⟨w.heap.size, 1, none⟩ = some (.slice (some ⟨gA, off, none⟩) ds.length c) := new_cell2 _ _ _ _ _ _ rfl rfl
  have sB : (w.alloc (.cells #[.int .i64 (n : Int), .slice (some ⟨gA, off, none⟩) ds.length c] 67)).heap.size = w.heap.size + 1 := by simp
  obtain ⟨N, hN⟩ : ∃ N, N = ds.length := ⟨_, rfl⟩
  have KB := (Kept.refl 0 0 (w.alloc (.cells #[.int .i64 (n : Int), .slice (some ⟨gA, off, none⟩) ds.length c] 67))).alloc (.cells #[.int .u8 91] 5)
  have o1 := own_lit .u8 (w.alloc (.cells #[.int .i64 (n : Int), .slice (some ⟨gA, off, none⟩) ds.length c] 67)) 5 (w.heap.size + 1) (by rw [sB]; exact Nat.le_refl _) [91] (by simp [maxLen])
  rw [sB] at o1
  obtain ⟨WL, hWL⟩ : ∃ W, (w.alloc (.cells #[.int .i64 (n : Int), .slice (some ⟨gA, off, none⟩) ds.length c] 67)).alloc (.cells #[.int .u8 91] 5) = W := ⟨_, rfl⟩
  have hWL' : (w.alloc (.cells #[.int .i64 (n : Int), .slice (some ⟨gA, off, none⟩) ds.length c] 67)).alloc (.cells ([91].map (Value.int .u8)).toArray 5) = WL := hWL
  rw [hWL'] at o1
  rw [hWL] at KB
  have p0L := KB.cell0 p0
  have p1L := KB.cell0 p1
  have kL := k0.trans KB
  have HWL := hide hWL
  have O1 : Hid (WL.ownsRow (w.heap.size + 1) 5 1 (.slice (some ⟨w.heap.size + 1, 0, none⟩) 1 1) [(91 : Int)].length ([(91 : Int)].map (Value.int .u8))) := o1
  have R := hide r
  have HAA := hide HA
  have HL := hide hlen
  have KL := hide kL
  have HC : Hid (ds.length ≤ c) := hc1
  have HNN : Hid (N = ds.length) := hN
  obtain ⟨G, hG⟩ : ∃ G, rowF ds n = G := ⟨_, rfl⟩
  rw [hG]
  have HG := hide hG
  clear hWL hWL' o1 r HA hlen k0 KB kL sB hc1 hNpos hG
  rw [← hN] at p1 p1L ⊢
  clear hN
  go_enter Try.func55, Try.ntmps55
  go_wp2_with fail
  rw [show (w.alloc (.cells #[.int .i64 (n : Int), .slice (some ⟨gA, off, none⟩) N c] 67)).alloc (.cells #[.int .u8 91] 5) = WL by rw [unhide HNN]; exact unhide HWL]
  clear p0 p1
  go_loopw [4, 3] (fun s4 s3 wr => ∃ (j : Nat) (s : Value), s4 = .int .i64 j ∧ s = s3 ∧ j ≤ n ∧ Hid (wr.ownsRow (w.heap.size + 1) 5 1 s (91 :: jT [59, 32] G j).length ((91 :: jT [59, 32] G j).map (Value.int .u8))) ∧ Hid (Kept 0 0 w wr ∧ wr.cell? ⟨w.heap.size, 0, none⟩ = some (.int .i64 (n : Int)) ∧ wr.cell? ⟨w.heap.size, 1, none⟩ = some (.slice (some ⟨gA, off, none⟩) N c) ∧ w.heap.size + 1 ≤ wr.heap.size)) (fun s4 _ _ => n - (intOf s4).toNat)
  case atStart => exact ⟨0, _, rfl, rfl, Nat.zero_le _, O1, ⟨unhide KL, p0L, p1L, by have := World.block_lt_of_cell? _ _ p0L; exact this⟩⟩
  case round =>
    clear p0L p1L O1
    obtain ⟨j, s3, rfl, rfl, hj, hO, hK⟩ := hrel
    obtain ⟨kK, p0, p1, zz⟩ := unhide hK
    have KK := hide kK
    have ZZ := hide zz
    clear kK zz
    have hwj : IntKind.i64.wrap ((j : Int) + 1) = ((j + 1 : Nat) : Int) := by rw [IntKind.wrap_i64]; omega
    have hGl : ∀ i, i < n → (G i).length ≤ 13000 := fun i _ => by rw [← unhide HG]; exact rowF_len ds hn4 i
    by_cases hlt : j < n
    · obtain ⟨I, hI⟩ : ∃ I, j * n = I := ⟨_, rfl⟩
      have hIn : I + n ≤ ds.length := by rw [unhide HL, ← hI, ← Nat.succ_mul]; exact Nat.mul_le_mul_right n hlt
      have hnn : n * n ≤ 4 * 4 := Nat.mul_le_mul hn4 hn4
      have hI16 : I + n ≤ 16 := by have := unhide HL; omega
      have hwI : IntKind.i64.wrap ((j : Int) * (n : Int)) = (I : Int) := by rw [IntKind.wrap_i64, ← Int.natCast_mul, hI]; omega
      have hwI2 : IntKind.i64.wrap (((j : Int) + 1) * (n : Int)) = ((I + n : Nat) : Int) := by (rw [IntKind.wrap_i64, show (j : Int) + 1 = ((j + 1 : Nat) : Int) by omega, ← Int.natCast_mul, Nat.succ_mul, hI]; omega)
      have hTJ : Hid (91 :: jT [59, 32] G (j + 1) = ((91 :: jT [59, 32] G j) ++ (if j = 0 then [] else [59, 32])) ++ G j) := by
        show _ = _
        by_cases h0 : j = 0
        · subst h0; rfl
        · rw [jT_succ _ _ h0, if_neg h0]; simp
      obtain ⟨J, hJ⟩ : ∃ J, 91 :: jT [59, 32] G j = J := ⟨_, rfl⟩
      have hJl : Hid (J.length ≤ 400000) := by
        show _ ≤ _
        have h1 := jT_len (sep := [59, 32]) (F := G) (M := 13000) (by decide) j (fun i hi => hGl i (by omega))
        have h2 : (13000 + 10) * j ≤ (13000 + 10) * 4 := Nat.mul_le_mul_left _ (by omega)
        rw [← hJ, List.length_cons]
        omega
      rw [hJ] at hO hTJ
      have NE : Hid (G j ≠ []) := by
        show _ ≠ _
        rw [← unhide HG]
        exact rowF_ne h1n (fun q hq => tT_ne (allB_at (unhide HAA) (by rw [hI]; omega)))
      have NL : Hid ((G j).length ≤ 2000000) := by (show _ ≤ _; have := hGl j hlt; omega)
      have LS : Hid (∀ wx, Kept 0 0 w wx → Calls Try.prog 45 #[.slice (some ⟨gA, off + I * 3, none⟩) n (c - I)] wx fun e w' => ∃ v', e = .returned v' ∧ Row .u8 true wx.heap.size w'.heap.size w' v' (G j) ∧ Kept 0 0 wx w') := fun wx kx => by
        have hpr := part_row (ds := ds) (n := n) (x := j) (by rw [hI]; exact hIn)
        have hpa := part_all (ds := ds) (n := n) (x := j) (by rw [hI]; exact hIn) (unhide HAA)
        rw [hI] at hpr hpa
        have hl := l12list_spec wx (by rw [List.length_take]; omega) (((unhide R).kept kx (by omega)).part I n hIn h1n) hpa
        rw [hpr, unhide HG] at hl
        refine hl.mono ?_
        rintro e w' ⟨v', rfl, o, k⟩
        exact ⟨v', rfl, Row.own o, k⟩
      have hIc : I + n ≤ c := by have := unhide HC; omega
      have hIN : I + n ≤ N := by have := unhide HNN; omega
      clear hJ hGl hnn hIn hI
      obtain ⟨a1, c1', hv1⟩ := own_slice (unhide hO)
      subst hv1
      by_cases h0 : j = 0
      · have H0 := hide h0
        have hj0 : ¬ (j : Int) > 0 := by omega
        clear h0
        go_wp2_with fail
        refine (unhide LS _ (unhide KK)).mono ?_
        rintro e w3 ⟨v3, rfl, r3, k3⟩
        obtain ⟨a3, c3, hv3⟩ := Row.form' r3
        subst hv3
        have K3 := hide ((unhide KK).trans k3)
        have R3 := hide r3
        have O3 := hide (own_kept (unhide hO) k3)
        have NB : Hid (w.heap.size + 1 ≤ w3.heap.size) := Nat.le_trans (unhide ZZ) k3.size
        have P0 := k3.cell0 p0
        have P1 := k3.cell0 p1
        have hJ2 : Hid (J.length ≤ 2000000) := by (show _ ≤ _; have := unhide hJl; omega)
        clear r3 k3 p0 p1 hO
        go_wp2_with (at_builtin; refine wpList_cat rfl _ _ rfl rfl rfl (zs := J) (b := w.heap.size + 1) (unhide O3) (unhide R3) (unhide NE) (unhide NB) (unhide hJ2) (unhide NL) ?_)
        intro v4 w4 o4 g4
        have FF : Hid (Kept 0 0 w w4 ∧ w4.cell? ⟨w.heap.size, 0, none⟩ = some (.int .i64 (n : Int)) ∧ w4.cell? ⟨w.heap.size, 1, none⟩ = some (.slice (some ⟨gA, off, none⟩) N c) ∧ w.heap.size + 1 ≤ w4.heap.size) := by
          have kg : Kept (w.heap.size + 1) w3.heap.size w3 w4 := Kept.grown g4 (fun q hq => (unhide O3).lt q hq)
          exact ⟨(unhide K3).growNew g4 (fun q hq => by have := ((unhide O3).lt q hq).1; omega), kg.cellOut (a := ⟨w.heap.size, 0, none⟩) (.inl (Nat.lt_succ_self _)) P0, kg.cellOut (a := ⟨w.heap.size, 1, none⟩) (.inl (Nat.lt_succ_self _)) P1, by have := g4.size; have := unhide NB; omega⟩
        have O4 : Hid (w4.ownsRow (w.heap.size + 1) 5 1 v4 (91 :: jT [59, 32] G (j + 1)).length ((91 :: jT [59, 32] G (j + 1)).map (Value.int .u8))) := by
          show World.ownsRow _ _ _ _ _ _ _
          rw [unhide hTJ, if_pos (unhide H0), List.append_nil, List.length_append, List.map_append]
          simpa using o4
        clear o4 g4 P0 P1
        go_wp2
        go_roundw
        case rel => exact ⟨j + 1, _, by simp, rfl, hlt, O4, FF⟩
        case measure => simp [intOf]; omega
      · have hj0 : (j : Int) > 0 := by omega
        have hJ2 : Hid (J.length ≤ 2000000) := by (show _ ≤ _; have := unhide hJl; omega)
        go_wp2_with (at_builtin; refine wpList_semi rfl _ _ _ Try.underlying9 rfl rfl rfl (b := w.heap.size + 1) (zs := J) (unhide hO) (unhide ZZ) (unhide hJ2) ?_)
        intro v6 w6 o6 g6
        have kg : Kept (w.heap.size + 1) wr.heap.size wr w6 := Kept.grown g6 (fun q hq => (unhide hO).lt q hq)
        have K6 := hide ((unhide KK).growNew g6 (fun q hq => by have := ((unhide hO).lt q hq).1; omega))
        have P0 := kg.cellOut (a := ⟨w.heap.size, 0, none⟩) (.inl (Nat.lt_succ_self _)) p0
        have P1 := kg.cellOut (a := ⟨w.heap.size, 1, none⟩) (.inl (Nat.lt_succ_self _)) p1
        have Z6 : Hid (w.heap.size + 1 ≤ w6.heap.size) := Nat.le_trans (unhide ZZ) g6.size
        obtain ⟨J2, hJ2'⟩ : ∃ J2, J ++ [59, 32] = J2 := ⟨_, rfl⟩
        replace o6 : w6.ownsRow (w.heap.size + 1) 5 1 v6 J2.length (J2.map (Value.int .u8)) := by (rw [← hJ2']; simpa using o6)
        have hl2 : Hid (J2.length ≤ 2000000) := by (show _ ≤ _; rw [← hJ2', List.length_append]; have := unhide hJl; simp; omega)
        have HJ2 := hide hJ2'
        clear hJ2' p0 p1 kg g6 hO
        obtain ⟨a6, c6, hv6⟩ := own_slice o6
        subst hv6
        have O6 := hide o6
        clear o6
        go_wp2_with fail
        refine (unhide LS _ (unhide K6)).mono ?_
        rintro e w3 ⟨v3, rfl, r3, k3⟩
        obtain ⟨a3, c3, hv3⟩ := Row.form' r3
        subst hv3
        have K3 := hide ((unhide K6).trans k3)
        have R3 := hide r3
        have O3 := hide (own_kept (unhide O6) k3)
        have NB : Hid (w.heap.size + 1 ≤ w3.heap.size) := Nat.le_trans (unhide Z6) k3.size
        replace P0 := k3.cell0 P0
        replace P1 := k3.cell0 P1
        clear r3 k3
        go_wp2_with (at_builtin; refine wpList_cat rfl _ _ rfl rfl rfl (zs := J2) (b := w.heap.size + 1) (unhide O3) (unhide R3) (unhide NE) (unhide NB) (unhide hl2) (unhide NL) ?_)
        intro v4 w4 o4 g4
        have FF : Hid (Kept 0 0 w w4 ∧ w4.cell? ⟨w.heap.size, 0, none⟩ = some (.int .i64 (n : Int)) ∧ w4.cell? ⟨w.heap.size, 1, none⟩ = some (.slice (some ⟨gA, off, none⟩) N c) ∧ w.heap.size + 1 ≤ w4.heap.size) := by
          have kg : Kept (w.heap.size + 1) w3.heap.size w3 w4 := Kept.grown g4 (fun q hq => (unhide O3).lt q hq)
          exact ⟨(unhide K3).growNew g4 (fun q hq => by have := ((unhide O3).lt q hq).1; omega), kg.cellOut (a := ⟨w.heap.size, 0, none⟩) (.inl (Nat.lt_succ_self _)) P0, kg.cellOut (a := ⟨w.heap.size, 1, none⟩) (.inl (Nat.lt_succ_self _)) P1, by have := g4.size; have := unhide NB; omega⟩
        have O4 : Hid (w4.ownsRow (w.heap.size + 1) 5 1 v4 (91 :: jT [59, 32] G (j + 1)).length ((91 :: jT [59, 32] G (j + 1)).map (Value.int .u8))) := by
          show World.ownsRow _ _ _ _ _ _ _
          rw [unhide hTJ, if_neg h0, unhide HJ2, List.length_append, List.map_append]
          simpa using o4
        clear o4 g4 P0 P1
        go_wp2
        go_roundw
        case rel => exact ⟨j + 1, _, by simp, rfl, hlt, O4, FF⟩
        case measure => simp [intOf]; omega
    · have hjn : j = n := by omega
      subst hjn
      obtain ⟨J, hJ⟩ : ∃ J, 91 :: jT [59, 32] G j = J := ⟨_, rfl⟩
      have hJl : Hid (J.length ≤ 2000000) := by
        show _ ≤ _
        have h1 := jT_len (sep := [59, 32]) (F := G) (M := 13000) (by decide) j (fun i hi => hGl i hi)
        have h2 : (13000 + 10) * j ≤ (13000 + 10) * 4 := Nat.mul_le_mul_left _ hn4
        rw [← hJ, List.length_cons]
        omega
      have HE : Hid (91 :: (jT [59, 32] G j ++ [93]) = J ++ [93]) := by (show _ = _; rw [← hJ]; rfl)
      rw [hJ] at hO
      clear hJ hGl
      have C5 : Hid ((wr.alloc (.cells #[.int .u8 93] 5)).cell? ⟨wr.heap.size, 0, none⟩ = some (.int .u8 93)) := new_cell_at _ _ _ _ rfl
      have k5 := (Kept.refl 0 0 wr).alloc (.cells #[.int .u8 93] 5)
      have O5 := hide (own_kept (unhide hO) k5)
      have NB0 : Hid (w.heap.size + 1 ≤ (wr.alloc (.cells #[.int .u8 93] 5)).heap.size) := Nat.le_trans (unhide ZZ) k5.size
      have K5 := hide ((unhide KK).trans k5)
      obtain ⟨a1, c1', hv1⟩ := own_slice (unhide hO)
      subst hv1
      clear k5 hO
      go_wp2_with (at_builtin; refine wpList_byte rfl _ _ rfl rfl _ rfl 93 (unhide C5) (b := w.heap.size + 1) (zs := J) (unhide O5) (unhide NB0) (unhide hJl) ?_)
      generalize (wr.alloc (.cells #[.int .u8 93] 5)) = W5 at *
      intro v6 w6 o6 g6
      have K6 := hide ((unhide K5).growNew g6 (fun q hq => by have := ((unhide O5).lt q hq).1; omega))
      obtain ⟨J2, hJ2⟩ : ∃ J2, J ++ [93] = J2 := ⟨_, rfl⟩
      replace o6 : w6.ownsRow (w.heap.size + 1) 5 1 v6 J2.length (J2.map (Value.int .u8)) := by (rw [← hJ2]; simpa using o6)
      obtain ⟨a6, c6, hv6⟩ := own_slice o6
      subst hv6
      have R6 := hide ((Row.own o6).wider (lo' := w.heap.size) (Nat.le_succ _) (Nat.le_refl _))
      have HJ2 := hide hJ2
      clear o6 g6 hJ2
      go_wp2
      go_ret
      exact ⟨_, rfl, by rw [unhide HE, unhide HJ2]; exact unhide R6, unhide K6⟩

set_option maxHeartbeats 4000000 in
theorem matText_spec {lo hi : Nat} {v : Value} {ds : List DE} (y0 : Int) (w : World) (q0 : WfD ds) (r : Dys lo hi w v ds) :
    Calls Try.prog 29 #[.agg #[.int .i64 y0, v]] w fun e w' => ∃ v', e = .returned (.tuple #[v', .bool (mtB y0 ds)]) ∧ Row .u8 true w.heap.size w'.heap.size w' v' (mtT y0 ds) ∧ Kept 0 0 w w' := by
  obtain ⟨a, c, rfl, -, -⟩ := r.form
  have k0 : Kept 0 0 w (w.alloc (.cells #[.int .i64 y0, .slice a ds.length c] 67)) := (Kept.refl 0 0 w).alloc _
  have p0 : (w.alloc (.cells #[.int .i64 y0, .slice a ds.length c] 67)).cell? ⟨w.heap.size, 0, none⟩ = some (.int .i64 y0) := new_cell2 _ _ _ _ _ _ rfl rfl
  have p1 : (w.alloc (.cells #[.int .i64 y0, .slice a ds.length c] 67)).cell? ⟨w.heap.size, 1, none⟩ = some (.slice a ds.length c) := new_cell2 _ _ _ _ _ _ rfl rfl
  have hok := matOk_spec y0 _ q0 (r.kept k0 (by omega))
  replace r := r.kept k0 (by omega)
  go_enter Try.func29, Try.ntmps29
  go_wp2_with fail
  generalize (w.alloc (.cells #[.int .i64 y0, .slice a ds.length c] 67)) = W at *
  refine hok.mono ?_
  rintro e w1 ⟨rfl, k1⟩
  replace p0 := k1.cell0 p0
  replace p1 := k1.cell0 p1
  replace r := r.kept k1 (by omega)
  have K1 := hide (k0.trans k1)
  clear hok k0 k1
  cases hm : mokB y0 ds
  · have HB := hide (mt_no (show mtB y0 ds = false by unfold mtB; rw [hm]; rfl))
    clear hm r q0
    go_wp2
    exact bodyPost_ret (v := .tuple #[.slice none 0 0, .bool false]) (by simp [results, Try.results29, go_sem]) rfl ⟨.slice none 0 0, by rw [(unhide HB).1], by rw [(unhide HB).2]; exact Row.nil _ _ _ _ _, unhide K1⟩
  obtain ⟨u1, u2, u3, U⟩ := mok_partsA hm
  obtain ⟨n, rfl⟩ := Int.eq_ofNat_of_zero_le (show 0 ≤ y0 by omega)
  have hlen : ds.length = n * n := by rw [← Int.natCast_mul] at u3; omega
  have h16 : n * n ≤ 4 * 4 := Nat.mul_le_mul (by omega) (by omega)
  have hta := l12all_spec w1 (by omega) r q0
  obtain ⟨A, hA⟩ : ∃ A, allB (fun i => tB (ds.getD i de0)) ds.length = A := ⟨_, rfl⟩
  rw [hA] at hta
  have HA := hide hA
  have HM := hide hm
  have HN : Hid (1 ≤ n ∧ n ≤ 4 ∧ ds.length = n * n) := ⟨by omega, by omega, hlen⟩
  have R := hide r
  clear u1 u2 u3 U hm hA r q0 hlen h16
  go_wp2_with fail
  refine hta.mono ?_
  rintro e w2 ⟨rfl, k2⟩
  replace p0 := k2.cell0 p0
  replace p1 := k2.cell0 p1
  replace R := hide ((unhide R).kept k2 (by omega))
  have K2 := hide ((unhide K1).trans k2)
  clear hta k2
  cases A
  · have HB := hide (mt_no (show mtB (n : Int) ds = false by unfold mtB; rw [unhide HA, Bool.and_false]))
    go_wp2
    exact bodyPost_ret (v := .tuple #[.slice none 0 0, .bool false]) (by simp [results, Try.results29, go_sem]) rfl ⟨.slice none 0 0, by rw [(unhide HB).1], by rw [(unhide HB).2]; exact Row.nil _ _ _ _ _, unhide K2⟩
  have hb : mtB (n : Int) ds = true := by unfold mtB; rw [unhide HM, unhide HA]; rfl
  obtain ⟨J, hJ⟩ : ∃ J, 91 :: (jT [59, 32] (rowF ds n) n ++ [93]) = J := ⟨_, rfl⟩
  have HB : Hid (mtB (n : Int) ds = true ∧ mtT (n : Int) ds = J) := ⟨hb, by unfold mtT; rw [if_pos hb, Int.toNat_natCast]; exact hJ⟩
  have ht := l12text_spec n w2 (unhide HN).1 (unhide HN).2.1 (unhide HN).2.2 (unhide R) (unhide HA)
  rw [hJ] at ht
  clear hb hJ
  go_wp2_with fail
  refine ht.mono ?_
  rintro e w3 ⟨v3, rfl, r3, k3⟩
  have K3 := hide ((unhide K2).trans k3)
  have R3 := hide (r3.wider (lo' := w.heap.size) (unhide K2).size (Nat.le_refl _))
  obtain ⟨a3, c3, hv3⟩ := Row.form' r3
  subst hv3
  clear ht r3 k3 p0 p1
  go_wp2
  exact bodyPost_ret (v := .tuple #[.slice a3 J.length c3, .bool true]) (by simp [results, Try.results29, go_sem]) rfl ⟨_, by rw [(unhide HB).1], by rw [(unhide HB).2]; exact unhide R3, unhide K3⟩

end Go.Proofs.Ytfikfmkhmojpfaa
