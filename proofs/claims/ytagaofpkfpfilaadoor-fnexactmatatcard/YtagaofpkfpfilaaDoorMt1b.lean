/-
  MatAt of the program and of the model: one number of a matrix, by row and column.
-/
import Derived.Test.YtagaofpkfpfilaaDoorSqh
import Derived.Test.YtagaofpkfpfilaaDoorMt0
namespace Go.Proofs.YtagaofpkfpfilaaDoor
open Go.RowKit
set_option linter.unusedVariables false
set_option maxRecDepth 8000
set_option linter.unusedSimpArgs false

/-- Is there such a number? -/
def atOk (n : Int) (ds : List DE) (i j : Int) : Bool := mokB n ds && (decide (0 ≤ i) && (decide (i < n) && (decide (0 ≤ j) && decide (j < n))))
/-- The number that MatAt tells. -/
def atE (n : Int) (ds : List DE) (i j : Int) : DE := if atOk n ds i j = true then ds.getD (i * n + j).toNat de0 else de0
theorem at_no {n : Int} {ds : List DE} {i j : Int} (h : atOk n ds i j = false) : atE n ds i j = de0 := by unfold atE; rw [h]; rfl
theorem at_no1 {n : Int} {ds : List DE} {i j : Int} (h : mokB n ds = false) : atOk n ds i j = false := by unfold atOk; rw [h]; rfl
theorem at_no2 {n : Int} {ds : List DE} {i j : Int} (h : i < 0) : atOk n ds i j = false := by unfold atOk; rw [decide_eq_false (show ¬ 0 ≤ i by omega)]; simp
theorem at_no3 {n : Int} {ds : List DE} {i j : Int} (h : n ≤ i) : atOk n ds i j = false := by unfold atOk; rw [decide_eq_false (show ¬ i < n by omega)]; simp
theorem at_no4 {n : Int} {ds : List DE} {i j : Int} (h : j < 0) : atOk n ds i j = false := by unfold atOk; rw [decide_eq_false (show ¬ 0 ≤ j by omega)]; simp
theorem at_no5 {n : Int} {ds : List DE} {i j : Int} (h : n ≤ j) : atOk n ds i j = false := by unfold atOk; rw [decide_eq_false (show ¬ j < n by omega)]; simp
theorem at_yes {n : Int} {ds : List DE} {i j : Int} (h : mokB n ds = true) (h1 : ¬ i < 0) (h2 : ¬ n ≤ i) (h3 : ¬ j < 0) (h4 : ¬ n ≤ j) : atOk n ds i j = true := by
  unfold atOk; rw [h, decide_eq_true (show 0 ≤ i by omega), decide_eq_true (show i < n by omega), decide_eq_true (show 0 ≤ j by omega), decide_eq_true (show j < n by omega)]; rfl
theorem dok_len {s : Bool} {z : List Int} {y : Int} (h : dokB s z y = true) : z.length ≤ 100 ∧ Nrm z ∧ -3000 ≤ y ∧ y ≤ 3000 := by
  obtain ⟨h1, h2, h3, -, -⟩ := dok_parts h
  exact ⟨(wok_int h1).2.2.1, (wok_int h1).2.2.2, h2, h3⟩
theorem atE_len (n : Int) (ds : List DE) (i j : Int) : (atE n ds i j).2.1.length ≤ 100 := by
  unfold atE
  by_cases h : atOk n ds i j = true
  · rw [if_pos h]
    unfold atOk at h
    simp only [Bool.and_eq_true, decide_eq_true_eq] at h
    obtain ⟨h0, h1, h2, h3, h4⟩ := h
    obtain ⟨u1, u2, u3, U⟩ := mok_partsA h0
    have hb : (i * n + j).toNat < ds.length := by
      obtain ⟨a, rfl⟩ := Int.eq_ofNat_of_zero_le h1
      obtain ⟨b, rfl⟩ := Int.eq_ofNat_of_zero_le h3
      obtain ⟨m, rfl⟩ := Int.eq_ofNat_of_zero_le (show 0 ≤ n by omega)
      have := place_lt (i := a) (j := b) (n := m) (by omega) (by omega)
      have e : ((a : Int) * m + b).toNat = a * m + b := by rw [← Int.natCast_mul, ← Int.natCast_add]; rfl
      have e2 : ds.length = m * m := by rw [← Int.natCast_mul] at u3; omega
      omega
    exact (dok_len (U _ hb)).1
  · rw [if_neg h]; simp [de0]

theorem Nums.dyq {b k p : Nat} {S : Nat → Prop} {w : World} {G : Nat → Nat} {F : Nat → DE} (h : Nums b S w k G F) (hp : p < k) : DyP (fun x => x < b) w (G p) (F p) := by
  obtain ⟨L, H, h1, -⟩ := h
  obtain ⟨⟨u, n, s, e, q1, q2, q3⟩, r1, -⟩ := h1 p hp
  exact ⟨u, n, s, e, by omega, fun i hi => by have := q3 i hi; omega⟩

set_option maxHeartbeats 2000000 in
theorem isPlace_impl (n i : Int) (w : World) : Calls Tryd.prog 30 #[.int .i64 n, .int .i64 i] w fun e w' => e = .returned (.bool (decide (0 ≤ i) && decide (i < n))) ∧ w' = w := by
  by_cases h1 : 0 ≤ i
  · have h1' : i ≥ 0 := h1
    rw [decide_eq_true h1, Bool.true_and]
    go_enter Tryd.func30, Tryd.ntmps30
    go_wp2
    go_ret
    exact ⟨rfl, rfl⟩
  · have h1' : ¬ i ≥ 0 := h1
    rw [decide_eq_false h1, Bool.false_and]
    go_enter Tryd.func30, Tryd.ntmps30
    go_wp2
    go_ret
    exact ⟨rfl, rfl⟩

set_option maxHeartbeats 8000000 in
theorem matAt_impl {lo hi : Nat} {v : Value} {ds : List DE} (n i j : Int) (hi1 : i ≤ 9223372036854775807) (hi0 : -9223372036854775808 ≤ i) (hj1 : j ≤ 9223372036854775807) (hj0 : -9223372036854775808 ≤ j) (w : World) (hw : WfD ds) (r : Dys lo hi w v ds) (T : TabB w) :
    Calls Tryd.prog 10 #[.agg #[.int .i64 n, v], .int .i64 i, .int .i64 j] w fun e w' => ∃ v', e = .returned (.tuple #[.agg #[.bool (atE n ds i j).1, v', .int .i64 (atE n ds i j).2.2], .bool (atOk n ds i j)]) ∧ Row .i64 true w.heap.size w'.heap.size w' v' (atE n ds i j).2.1 ∧ Kept 0 0 w w' := by
  obtain ⟨W, hW⟩ : ∃ W, W = (w.alloc (.cells #[.int .i64 n, v] 37)).alloc (.cells #[.bool false, .slice none 0 0, .int .i64 0] 32) := ⟨_, rfl⟩
  have k0 : Kept 0 0 w W := by rw [hW]; exact ((Kept.refl 0 0 w).alloc _).alloc _
  have c0 : W.cell? ⟨w.heap.size, 0, none⟩ = some (.int .i64 n) := by rw [hW]; exact old_cell _ (new_cell2 _ _ _ _ _ _ (by simp) rfl)
  have c1 : W.cell? ⟨w.heap.size, 1, none⟩ = some v := by rw [hW]; exact old_cell _ (new_cell2 _ _ _ _ _ _ (by simp) rfl)
  have q0 : W.cell? ⟨w.heap.size + 1, 0, none⟩ = some (.bool false) := by rw [hW]; exact new_cell2 _ _ _ _ _ _ (by simp) rfl
  have f0 : W.frozen? ⟨w.heap.size + 1, 0, none⟩ = false := by rw [hW]; exact new_loose2 _ _ _ _ _ (by simp)
  have q1 : W.cell? ⟨w.heap.size + 1, 1, none⟩ = some (.slice none 0 0) := by rw [hW]; exact new_cell2 _ _ _ _ _ _ (by simp) rfl
  have f1 : W.frozen? ⟨w.heap.size + 1, 1, none⟩ = false := by rw [hW]; exact new_loose2 _ _ _ _ _ (by simp)
  have q2 : W.cell? ⟨w.heap.size + 1, 2, none⟩ = some (.int .i64 0) := by rw [hW]; exact new_cell2 _ _ _ _ _ _ (by simp) rfl
  have f2 : W.frozen? ⟨w.heap.size + 1, 2, none⟩ = false := by rw [hW]; exact new_loose2 _ _ _ _ _ (by simp)
  have sW : W.heap.size = w.heap.size + 2 := by rw [hW]; simp
  have r0 := r.kept k0 (by omega)
  have ho := matOk_impl n W hw r0
  obtain ⟨a, c, rfl, -, -⟩ := r.form
  rw [hW] at ho
  have SW := hide sW
  clear r sW
  go_enter Tryd.func10, Tryd.ntmps10
  go_wp2_with fail
  rw [← hW] at ho ⊢
  clear hW
  refine ho.mono ?_
  rintro e w1 ⟨rfl, k1⟩
  replace f0 := k1.loose0 (World.block_lt_of_cell? _ _ q0) f0
  replace f1 := k1.loose0 (World.block_lt_of_cell? _ _ q1) f1
  replace f2 := k1.loose0 (World.block_lt_of_cell? _ _ q2) f2
  replace c0 := k1.cell0 c0
  replace c1 := k1.cell0 c1
  replace q0 := k1.cell0 q0
  replace q1 := k1.cell0 q1
  replace q2 := k1.cell0 q2
  replace r0 := r0.kept k1 (by omega)
  have K1 := hide (k0.trans k1)
  have z1 := k1.size
  clear ho k0 k1
  cases hk : mokB n ds
  · have HB := hide (at_no1 (i := i) (j := j) hk)
    have K7 := hide ((((unhide K1).setNew (p := ⟨w.heap.size + 1, 0, none⟩) (by simp) (.bool false)).setNew (p := ⟨w.heap.size + 1, 1, none⟩) (by simp) (.slice none 0 0)).setNew (p := ⟨w.heap.size + 1, 2, none⟩) (by simp) (.int .i64 0))
    clear r0 K1
    go_wp2
    exact bodyPost_ret (v := .tuple #[.agg #[.bool false, .slice none 0 0, .int .i64 0], .bool false]) (by simp [results, Tryd.results10, go_sem, q0, q1, q2]) rfl ⟨.slice none 0 0, by rw [at_no (unhide HB), unhide HB]; rfl, by rw [at_no (unhide HB)]; exact Row.nil _ _ _ _ _, unhide K7⟩
  have hp_i := isPlace_impl n i w1
  have HKi := hide hk
  clear hk
  go_wp2_with fail
  refine hp_i.mono ?_
  rintro e wi ⟨rfl, he⟩
  have he' := he.symm
  clear he
  subst he'
  have hk := unhide HKi
  clear HKi
  cases hpi : (decide (0 ≤ i) && decide (i < n))
  · have HB : Hid (atOk n ds i j = false) := by
      by_cases hi : i < 0
      · exact at_no2 hi
      · refine at_no3 ?_
        rw [decide_eq_true (show 0 ≤ i by omega), Bool.true_and] at hpi
        have := of_decide_eq_false hpi
        omega
    clear hpi hk
    have K7 := hide ((((unhide K1).setNew (p := ⟨w.heap.size + 1, 0, none⟩) (by simp) (.bool false)).setNew (p := ⟨w.heap.size + 1, 1, none⟩) (by simp) (.slice none 0 0)).setNew (p := ⟨w.heap.size + 1, 2, none⟩) (by simp) (.int .i64 0))
    clear r0 K1
    go_wp2
    exact bodyPost_ret (v := .tuple #[.agg #[.bool false, .slice none 0 0, .int .i64 0], .bool false]) (by simp [results, Tryd.results10, go_sem, q0, q1, q2]) rfl ⟨.slice none 0 0, by rw [at_no (unhide HB), unhide HB]; rfl, by rw [at_no (unhide HB)]; exact Row.nil _ _ _ _ _, unhide K7⟩
  have hi1 : ¬ i < 0 ∧ ¬ n ≤ i := by
    simp only [Bool.and_eq_true, decide_eq_true_eq] at hpi
    omega
  clear hpi hp_i
  have hp_j := isPlace_impl n j w1
  have HKj := hide hk
  clear hk
  go_wp2_with fail
  refine hp_j.mono ?_
  rintro e wj ⟨rfl, he⟩
  have he' := he.symm
  clear he
  subst he'
  have hk := unhide HKj
  clear HKj
  cases hpj : (decide (0 ≤ j) && decide (j < n))
  · have HB : Hid (atOk n ds i j = false) := by
      by_cases hj : j < 0
      · exact at_no4 hj
      · refine at_no5 ?_
        rw [decide_eq_true (show 0 ≤ j by omega), Bool.true_and] at hpj
        have := of_decide_eq_false hpj
        omega
    clear hpj hk
    have K7 := hide ((((unhide K1).setNew (p := ⟨w.heap.size + 1, 0, none⟩) (by simp) (.bool false)).setNew (p := ⟨w.heap.size + 1, 1, none⟩) (by simp) (.slice none 0 0)).setNew (p := ⟨w.heap.size + 1, 2, none⟩) (by simp) (.int .i64 0))
    clear r0 K1
    go_wp2
    exact bodyPost_ret (v := .tuple #[.agg #[.bool false, .slice none 0 0, .int .i64 0], .bool false]) (by simp [results, Tryd.results10, go_sem, q0, q1, q2]) rfl ⟨.slice none 0 0, by rw [at_no (unhide HB), unhide HB]; rfl, by rw [at_no (unhide HB)]; exact Row.nil _ _ _ _ _, unhide K7⟩
  have hj1 : ¬ j < 0 ∧ ¬ n ≤ j := by
    simp only [Bool.and_eq_true, decide_eq_true_eq] at hpj
    omega
  clear hpj hp_j
  have hyes := at_yes (i := i) (j := j) hk (by omega) (by omega) (by omega) (by omega)
  obtain ⟨u1, u2, u3, U⟩ := mok_partsA hk
  obtain ⟨ni, rfl⟩ := Int.eq_ofNat_of_zero_le (show 0 ≤ i by omega)
  obtain ⟨nj, rfl⟩ := Int.eq_ofNat_of_zero_le (show 0 ≤ j by omega)
  obtain ⟨m, rfl⟩ := Int.eq_ofNat_of_zero_le (show 0 ≤ n by omega)
  have hpl := place_lt (i := ni) (j := nj) (n := m) (by omega) (by omega)
  have hlen : ds.length = m * m := by rw [← Int.natCast_mul] at u3; omega
  have hpe : (((ni : Int) * m + nj).toNat) = ni * m + nj := by rw [← Int.natCast_mul, ← Int.natCast_add]; rfl
  have hE : atE m ds ni nj = ds.getD (ni * m + nj) de0 := by unfold atE; rw [if_pos hyes, hpe]
  have hdk := U (ni * m + nj) (by omega)
  have hz : ∀ k, k < ds.length → (ds.getD k de0).2.1.length ≤ 1000000 := fun k hk' => by have := (dok_len (U k hk')).1; omega
  have hsq := squareOf_impl (n := m) w1 (by omega) hlen hz r0
  have hni : ni < m := by omega
  have hnj : nj < m := by omega
  have T1 := T.kept (unhide K1)
  obtain ⟨d, hd⟩ : ∃ d, d = ds.getD (ni * m + nj) de0 := ⟨_, rfl⟩
  rw [← hd] at hE hdk
  obtain ⟨s0, z0, y0⟩ := d
  have HD := hide hd
  have HDK := hide hdk
  have HE := hide hE
  have HY := hide hyes
  clear hk hyes u1 u2 u3 U hpl hlen hpe hz r0 hE hd hdk hw T
  go_wp2_with fail
  refine hsq.mono ?_
  rintro e w2 ⟨R, GG, SS, rfl, sq, nm, hSS, k2⟩
  obtain ⟨rr, cR, -, -, -, hrow⟩ := sq.2.2 ni hni
  have cr := hrow nj hnj
  have dp := nm.dyq (place_lt hni hnj)
  obtain ⟨g, hg⟩ : ∃ g, g = GG (ni * m + nj) := ⟨_, rfl⟩
  rw [← hg] at cr dp
  clear hg
  obtain ⟨u, nu, su, eu, hx1, hx2⟩ := dp
  rw [← unhide HD] at nu su eu
  dsimp only at nu su eu
  obtain ⟨a1, d1, hu⟩ := nu.form
  subst hu
  have hsW := unhide SW
  obtain ⟨dl1, dl2, dl3, dl4⟩ := dok_len (unhide HDK)
  obtain ⟨ab1, ab2, ab3, ab4⟩ := ans_back (unhide HDK)
  have ht := toldDyadic_impl (wval s0 z0) rfl w2 nu su eu dl2 (by omega) (by omega) (by omega) (T1.kept k2)
  rw [ab1, ab2, ab3, ab4] at ht
  have hfl : (Instr.field 67 (.agg #[.slice (some ⟨R, 0, none⟩) m m]) 0).run Tryd.prog w2 = .ok (.slice (some ⟨R, 0, none⟩) m m) w2 := by kernel_rfl
  have Q0 := k2.cell0 q0
  have Q1 := k2.cell0 q1
  have Q2 := k2.cell0 q2
  have F0 := k2.loose0 (World.block_lt_of_cell? _ _ q0) f0
  have F1 := k2.loose0 (World.block_lt_of_cell? _ _ q1) f1
  have F2 := k2.loose0 (World.block_lt_of_cell? _ _ q2) f2
  have hno : ∀ x, x < w1.heap.size → ¬ Own1 g (.slice a1 z0.length d1) x := fun x hx h => by
    rcases h with h | h
    · subst h; exact hx1 hx
    · exact hx2 x h hx
  have hbq : w.heap.size + 1 < w1.heap.size := by omega
  have hbQ : w.heap.size + 1 < w2.heap.size := by have := k2.size; omega
  have K2 := hide ((unhide K1).trans k2)
  clear hsq sq nm hSS hrow nu su eu hx1 hx2 q0 q1 q2 f0 f1 f2 c0 c1 K1 k2 dl1 dl2 dl3 dl4 ab1 ab2 ab3 ab4 T1
  go_wp2_with fail
  refine ht.mono ?_
  rintro e w3 ⟨v3, rfl, r3, m3⟩
  obtain ⟨a3, d3, hv3⟩ := Row.form' r3
  subst hv3
  replace F0 := m3.loose (hno _ hbq) hbQ F0
  replace F1 := m3.loose (hno _ hbq) hbQ F1
  replace F2 := m3.loose (hno _ hbq) hbQ F2
  replace Q0 := m3.cell (hno _ hbq) Q0
  replace Q1 := m3.cell (hno _ hbq) Q1
  replace Q2 := m3.cell (hno _ hbq) Q2
  have z2 := (unhide K2).size
  have K3 := hide ((unhide K2).mod m3 (fun x hx => by rcases Nat.lt_or_ge x w1.heap.size with h | h; exact absurd hx (hno x h); omega))
  have K7 := hide ((((unhide K3).setNew (p := ⟨w.heap.size + 1, 0, none⟩) (by simp) (.bool s0)).setNew (p := ⟨w.heap.size + 1, 1, none⟩) (by simp) (.slice a3 z0.length d3)).setNew (p := ⟨w.heap.size + 1, 2, none⟩) (by simp) (.int .i64 y0))
  have ks : Kept (w.heap.size + 1) (w.heap.size + 2) w3 (((w3.setCell ⟨w.heap.size + 1, 0, none⟩ (.bool s0)).setCell ⟨w.heap.size + 1, 1, none⟩ (.slice a3 z0.length d3)).setCell ⟨w.heap.size + 1, 2, none⟩ (.int .i64 y0)) :=
    (((Kept.refl _ _ _).setCell (p := ⟨w.heap.size + 1, 0, none⟩) (Nat.le_refl _) (Nat.lt_succ_self _) _).setCell (p := ⟨w.heap.size + 1, 1, none⟩) (Nat.le_refl _) (Nat.lt_succ_self _) _).setCell (p := ⟨w.heap.size + 1, 2, none⟩) (Nat.le_refl _) (Nat.lt_succ_self _) _
  have R7 := hide ((r3.kept ks (by omega)).tight.wider (lo' := w.heap.size) (by omega) (Nat.le_refl _))
  have hlx : z0.length = z0.length := rfl
  clear ht hfl r3 m3 K2 K3 ks z2 hbq hbQ hno cR cr
  go_wp2
  exact bodyPost_ret (v := .tuple #[.agg #[.bool s0, .slice a3 z0.length d3, .int .i64 y0], .bool true]) (by simp [results, Tryd.results10, go_sem, Q0, Q1, Q2]) rfl ⟨.slice a3 z0.length d3, by rw [unhide HE, unhide HY], by rw [unhide HE]; exact unhide R7, unhide K7⟩

set_option maxHeartbeats 8000000 in
theorem matAt_spec {lo hi : Nat} {v : Value} {ds : List DE} (n i j : Int) (hi1 : i ≤ 9223372036854775807) (hi0 : -9223372036854775808 ≤ i) (hj1 : j ≤ 9223372036854775807) (hj0 : -9223372036854775808 ≤ j) (w : World) (hw : WfD ds) (r : Dys lo hi w v ds) :
    Calls Tryd.prog 8 #[.agg #[.int .i64 n, v], .int .i64 i, .int .i64 j] w fun e w' => ∃ v', e = .returned (.tuple #[.agg #[.bool (atE n ds i j).1, v', .int .i64 (atE n ds i j).2.2], .bool (atOk n ds i j)]) ∧ Row .i64 true w.heap.size w'.heap.size w' v' (atE n ds i j).2.1 ∧ Kept 0 0 w w' := by
  obtain ⟨W, hW⟩ : ∃ W, W = (w.alloc (.cells #[.int .i64 n, v] 37)).alloc (.cells #[.bool false, .slice none 0 0, .int .i64 0] 32) := ⟨_, rfl⟩
  have k0 : Kept 0 0 w W := by rw [hW]; exact ((Kept.refl 0 0 w).alloc _).alloc _
  have c0 : W.cell? ⟨w.heap.size, 0, none⟩ = some (.int .i64 n) := by rw [hW]; exact old_cell _ (new_cell2 _ _ _ _ _ _ (by simp) rfl)
  have c1 : W.cell? ⟨w.heap.size, 1, none⟩ = some v := by rw [hW]; exact old_cell _ (new_cell2 _ _ _ _ _ _ (by simp) rfl)
  have q0 : W.cell? ⟨w.heap.size + 1, 0, none⟩ = some (.bool false) := by rw [hW]; exact new_cell2 _ _ _ _ _ _ (by simp) rfl
  have f0 : W.frozen? ⟨w.heap.size + 1, 0, none⟩ = false := by rw [hW]; exact new_loose2 _ _ _ _ _ (by simp)
  have q1 : W.cell? ⟨w.heap.size + 1, 1, none⟩ = some (.slice none 0 0) := by rw [hW]; exact new_cell2 _ _ _ _ _ _ (by simp) rfl
  have f1 : W.frozen? ⟨w.heap.size + 1, 1, none⟩ = false := by rw [hW]; exact new_loose2 _ _ _ _ _ (by simp)
  have q2 : W.cell? ⟨w.heap.size + 1, 2, none⟩ = some (.int .i64 0) := by rw [hW]; exact new_cell2 _ _ _ _ _ _ (by simp) rfl
  have f2 : W.frozen? ⟨w.heap.size + 1, 2, none⟩ = false := by rw [hW]; exact new_loose2 _ _ _ _ _ (by simp)
  have sW : W.heap.size = w.heap.size + 2 := by rw [hW]; simp
  have r0 := r.kept k0 (by omega)
  have ho := matOk_spec n W hw r0
  obtain ⟨a, c, rfl, -, -⟩ := r.form
  rw [hW] at ho
  have SW := hide sW
  clear r sW
  go_enter Tryd.func8, Tryd.ntmps8
  go_wp2_with fail
  rw [← hW] at ho ⊢
  clear hW
  refine ho.mono ?_
  rintro e w1 ⟨rfl, k1⟩
  replace f0 := k1.loose0 (World.block_lt_of_cell? _ _ q0) f0
  replace f1 := k1.loose0 (World.block_lt_of_cell? _ _ q1) f1
  replace f2 := k1.loose0 (World.block_lt_of_cell? _ _ q2) f2
  replace c0 := k1.cell0 c0
  replace c1 := k1.cell0 c1
  replace q0 := k1.cell0 q0
  replace q1 := k1.cell0 q1
  replace q2 := k1.cell0 q2
  replace r0 := r0.kept k1 (by omega)
  have K1 := hide (k0.trans k1)
  have z1 := k1.size
  clear ho k0 k1
  cases hk : mokB n ds
  · have HB := hide (at_no1 (i := i) (j := j) hk)
    have K7 := hide ((((unhide K1).setNew (p := ⟨w.heap.size + 1, 0, none⟩) (by simp) (.bool false)).setNew (p := ⟨w.heap.size + 1, 1, none⟩) (by simp) (.slice none 0 0)).setNew (p := ⟨w.heap.size + 1, 2, none⟩) (by simp) (.int .i64 0))
    clear r0 K1
    go_wp2
    exact bodyPost_ret (v := .tuple #[.agg #[.bool false, .slice none 0 0, .int .i64 0], .bool false]) (by simp [results, Tryd.results8, go_sem, q0, q1, q2]) rfl ⟨.slice none 0 0, by rw [at_no (unhide HB), unhide HB]; rfl, by rw [at_no (unhide HB)]; exact Row.nil _ _ _ _ _, unhide K7⟩
  by_cases h1 : i < 0
  · have HB := hide (at_no2 (n := n) (ds := ds) (j := j) h1)
    have K7 := hide ((((unhide K1).setNew (p := ⟨w.heap.size + 1, 0, none⟩) (by simp) (.bool false)).setNew (p := ⟨w.heap.size + 1, 1, none⟩) (by simp) (.slice none 0 0)).setNew (p := ⟨w.heap.size + 1, 2, none⟩) (by simp) (.int .i64 0))
    clear r0 K1
    go_wp2
    exact bodyPost_ret (v := .tuple #[.agg #[.bool false, .slice none 0 0, .int .i64 0], .bool false]) (by simp [results, Tryd.results8, go_sem, q0, q1, q2]) rfl ⟨.slice none 0 0, by rw [at_no (unhide HB), unhide HB]; rfl, by rw [at_no (unhide HB)]; exact Row.nil _ _ _ _ _, unhide K7⟩
  by_cases h2 : n ≤ i
  · have HB := hide (at_no3 (ds := ds) (j := j) h2)
    have K7 := hide ((((unhide K1).setNew (p := ⟨w.heap.size + 1, 0, none⟩) (by simp) (.bool false)).setNew (p := ⟨w.heap.size + 1, 1, none⟩) (by simp) (.slice none 0 0)).setNew (p := ⟨w.heap.size + 1, 2, none⟩) (by simp) (.int .i64 0))
    clear r0 K1
    go_wp2
    exact bodyPost_ret (v := .tuple #[.agg #[.bool false, .slice none 0 0, .int .i64 0], .bool false]) (by simp [results, Tryd.results8, go_sem, q0, q1, q2]) rfl ⟨.slice none 0 0, by rw [at_no (unhide HB), unhide HB]; rfl, by rw [at_no (unhide HB)]; exact Row.nil _ _ _ _ _, unhide K7⟩
  by_cases h3 : j < 0
  · have HB := hide (at_no4 (n := n) (ds := ds) (i := i) h3)
    have K7 := hide ((((unhide K1).setNew (p := ⟨w.heap.size + 1, 0, none⟩) (by simp) (.bool false)).setNew (p := ⟨w.heap.size + 1, 1, none⟩) (by simp) (.slice none 0 0)).setNew (p := ⟨w.heap.size + 1, 2, none⟩) (by simp) (.int .i64 0))
    clear r0 K1
    go_wp2
    exact bodyPost_ret (v := .tuple #[.agg #[.bool false, .slice none 0 0, .int .i64 0], .bool false]) (by simp [results, Tryd.results8, go_sem, q0, q1, q2]) rfl ⟨.slice none 0 0, by rw [at_no (unhide HB), unhide HB]; rfl, by rw [at_no (unhide HB)]; exact Row.nil _ _ _ _ _, unhide K7⟩
  by_cases h4 : n ≤ j
  · have HB := hide (at_no5 (ds := ds) (i := i) h4)
    have K7 := hide ((((unhide K1).setNew (p := ⟨w.heap.size + 1, 0, none⟩) (by simp) (.bool false)).setNew (p := ⟨w.heap.size + 1, 1, none⟩) (by simp) (.slice none 0 0)).setNew (p := ⟨w.heap.size + 1, 2, none⟩) (by simp) (.int .i64 0))
    clear r0 K1
    go_wp2
    exact bodyPost_ret (v := .tuple #[.agg #[.bool false, .slice none 0 0, .int .i64 0], .bool false]) (by simp [results, Tryd.results8, go_sem, q0, q1, q2]) rfl ⟨.slice none 0 0, by rw [at_no (unhide HB), unhide HB]; rfl, by rw [at_no (unhide HB)]; exact Row.nil _ _ _ _ _, unhide K7⟩
  have hyes := at_yes hk h1 h2 h3 h4
  obtain ⟨u1, u2, u3, U⟩ := mok_partsA hk
  obtain ⟨ni, rfl⟩ := Int.eq_ofNat_of_zero_le (show 0 ≤ i by omega)
  obtain ⟨nj, rfl⟩ := Int.eq_ofNat_of_zero_le (show 0 ≤ j by omega)
  obtain ⟨m, rfl⟩ := Int.eq_ofNat_of_zero_le (show 0 ≤ n by omega)
  have hpl := place_lt (i := ni) (j := nj) (n := m) (by omega) (by omega)
  have hlen : ds.length = m * m := by rw [← Int.natCast_mul] at u3; omega
  have hpe : (((ni : Int) * m + nj).toNat) = ni * m + nj := by rw [← Int.natCast_mul, ← Int.natCast_add]; rfl
  have hE : atE m ds ni nj = ds.getD (ni * m + nj) de0 := by unfold atE; rw [if_pos hyes, hpe]
  have hdk := U (ni * m + nj) (by omega)
  obtain ⟨g, off, ln, rfl, -, -, -, b, kk, e0, e1, e2, hln, rr⟩ := r0.at (i := ni * m + nj) (by omega)
  obtain ⟨d, hd⟩ : ∃ d, d = ds.getD (ni * m + nj) de0 := ⟨_, rfl⟩
  rw [← hd] at hE hdk e0 e2 hln rr
  obtain ⟨s0, z0, y0⟩ := d
  dsimp only at hdk e0 e2 hln rr
  have hown := own7_spec s0 y0 (wok_wn (dok_parts hdk).1) (by have := (dok_len hdk).1; omega) w1 rr
  have h16 : m * m ≤ 4 * 4 := Nat.mul_le_mul (by omega) (by omega)
  have hb16 : ni * m + nj < 16 := by omega
  have hw1 : IntKind.i64.wrap ((ni : Int) * (m : Int)) = (((ni * m : Nat)) : Int) := by rw [IntKind.wrap_i64, ← Int.natCast_mul]; omega
  obtain ⟨p, hpp⟩ : ∃ p, ni * m + nj = p := ⟨_, rfl⟩
  have hw2 : IntKind.i64.wrap ((((ni * m : Nat)) : Int) + (nj : Int)) = (p : Int) := by rw [IntKind.wrap_i64, ← hpp]; omega
  rw [hpp] at e0 e1 e2
  obtain ⟨im, him⟩ : ∃ im : Nat, ni * m = im := ⟨_, rfl⟩
  rw [him] at hw1 hw2
  obtain ⟨q, hq⟩ : ∃ q, q = ds.length := ⟨_, rfl⟩
  have hpq : p < q := by omega
  rw [← hq] at c1
  have HE := hide hE
  have HY := hide hyes
  have hsW := unhide SW
  have hnj : nj < m := by omega
  have hni : ni < m := by omega
  clear hk hyes u1 u2 u3 U hpl hlen hpe r0 hE hd hdk hw hln rr hpp him hq h16 hb16
  go_wp2_with fail
  refine hown.mono ?_
  rintro e w3 ⟨v3, rfl, r3, k3⟩
  obtain ⟨a3, d3, hv3⟩ := Row.form' r3
  subst hv3
  have F0 := k3.loose0 (World.block_lt_of_cell? _ _ q0) f0
  have F1 := k3.loose0 (World.block_lt_of_cell? _ _ q1) f1
  have F2 := k3.loose0 (World.block_lt_of_cell? _ _ q2) f2
  have Q0 := k3.cell0 q0
  have Q1 := k3.cell0 q1
  have Q2 := k3.cell0 q2
  have K3 := hide ((unhide K1).trans k3)
  have K7 := hide ((((unhide K3).setNew (p := ⟨w.heap.size + 1, 0, none⟩) (by simp) (.bool s0)).setNew (p := ⟨w.heap.size + 1, 1, none⟩) (by simp) (.slice a3 z0.length d3)).setNew (p := ⟨w.heap.size + 1, 2, none⟩) (by simp) (.int .i64 y0))
  have ks : Kept (w.heap.size + 1) (w.heap.size + 2) w3 (((w3.setCell ⟨w.heap.size + 1, 0, none⟩ (.bool s0)).setCell ⟨w.heap.size + 1, 1, none⟩ (.slice a3 z0.length d3)).setCell ⟨w.heap.size + 1, 2, none⟩ (.int .i64 y0)) :=
    (((Kept.refl _ _ _).setCell (p := ⟨w.heap.size + 1, 0, none⟩) (Nat.le_refl _) (Nat.lt_succ_self _) _).setCell (p := ⟨w.heap.size + 1, 1, none⟩) (Nat.le_refl _) (Nat.lt_succ_self _) _).setCell (p := ⟨w.heap.size + 1, 2, none⟩) (Nat.le_refl _) (Nat.lt_succ_self _) _
  have R7 := hide ((r3.kept ks (by omega)).tight.wider (lo' := w.heap.size) (by omega) (Nat.le_refl _))
  clear hown r3 k3 K3 ks q0 q1 q2 f0 f1 f2 hsW K1 c0 c1 e0 e1 e2
  go_wp2
  exact bodyPost_ret (v := .tuple #[.agg #[.bool s0, .slice a3 z0.length d3, .int .i64 y0], .bool true]) (by simp [results, Tryd.results8, go_sem, Q0, Q1, Q2]) rfl ⟨.slice a3 z0.length d3, by rw [unhide HE, unhide HY], by rw [unhide HE]; exact unhide R7, unhide K7⟩

end Go.Proofs.YtagaofpkfpfilaaDoor
