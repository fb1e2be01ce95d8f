/-
  Contracts that the proofs of this seat share: Mp1, Mp2.
-/
import Derived.Test.YtefnblaphkookaaGreatDoorBL
import Derived.Test.YtefnblaphkookaaGreatDoorMi2
import Derived.Test.YtefnblaphkookaaGreatDoorFit8
namespace Go.Proofs.YtefnblaphkookaaGreatDoor
open Go.RowKit
set_option linter.unusedVariables false
set_option maxRecDepth 8000
set_option linter.unusedSimpArgs false

/-- Powers, one after the other: may all of them be told; what the last one is. -/
def pwS (k : Nat) (ds : List DE) : Nat → Bool × List DE
  | 0 => (true, oneL k)
  | r + 1 => ((pwS k ds r).1 && twB true (mulV k (pwS k ds r).2 ds) (-6000) (k : Int), if ((pwS k ds r).1 && twB true (mulV k (pwS k ds r).2 ds) (-6000) (k : Int)) = true then twL true (mulV k (pwS k ds r).2 ds) (-6000) (k : Int) else [])
def pwB (k : Nat) (ds : List DE) (r : Nat) : Bool := (pwS k ds r).1
def pwL (k : Nat) (ds : List DE) (r : Nat) : List DE := (pwS k ds r).2
def pwN (k : Nat) (ds : List DE) (r : Nat) : Int := if pwB k ds r = true then (k : Int) else 0
theorem pw_next {k r : Nat} {ds : List DE} (h : pwB k ds r = true) : pwB k ds (r + 1) = twB true (mulV k (pwL k ds r) ds) (-6000) (k : Int) ∧ pwL k ds (r + 1) = twL true (mulV k (pwL k ds r) ds) (-6000) (k : Int) ∧ pwN k ds (r + 1) = twN true (mulV k (pwL k ds r) ds) (-6000) (k : Int) := by
  have e : pwB k ds (r + 1) = twB true (mulV k (pwL k ds r) ds) (-6000) (k : Int) := by
    show ((pwS k ds r).1 && _) = _
    unfold pwB at h
    rw [h, Bool.true_and]
    rfl
  refine ⟨e, ?_, ?_⟩
  · show (if ((pwS k ds r).1 && twB true (mulV k (pwS k ds r).2 ds) (-6000) (k : Int)) = true then _ else _) = _
    unfold pwB at h
    rw [h, Bool.true_and]
    by_cases hb : twB true (mulV k (pwS k ds r).2 ds) (-6000) (k : Int) = true
    · rw [if_pos hb]; rfl
    · rw [if_neg hb]
      unfold twL pwL
      rw [if_neg hb]
  · unfold pwN twN
    rw [e]
theorem pw_down {k r : Nat} {ds : List DE} (h : pwB k ds (r + 1) = true) : pwB k ds r = true := by
  have h1 : ((pwS k ds r).1 && twB true (mulV k (pwS k ds r).2 ds) (-6000) (k : Int)) = true := h
  simp only [Bool.and_eq_true] at h1
  exact h1.1
theorem pw_mono {k r : Nat} {ds : List DE} (h : pwB k ds r = false) : ∀ t, r ≤ t → pwB k ds t = false := by
  intro t ht
  induction t with
  | zero => rw [show r = 0 by omega] at h; exact h
  | succ t ih =>
    by_cases e : r = t + 1
    · rw [← e]; exact h
    · have := ih (by omega)
      cases hb : pwB k ds (t + 1)
      · rfl
      · rw [pw_down hb] at this; cases this
theorem pw_mok {k r : Nat} {ds : List DE} (h0 : 0 < k) (h4 : k ≤ 4) (h : pwB k ds r = true) : mokB (k : Int) (pwL k ds r) = true := by
  cases r with
  | zero => exact limT_one k h4 h0
  | succ r =>
    obtain ⟨e1, e2, -⟩ := pw_next (pw_down h)
    rw [e1] at h
    rw [e2]
    have e := (tw_fit (k := k) (V := mulV k (pwL k ds r) ds) (L := -6000) h0 h4).1
    have el : twL true (mulV k (pwL k ds r) ds) (-6000) (k : Int) = (List.range (k * k)).map (fun p => nE (mulV k (pwL k ds r) ds p) (-6000)) := by
      unfold twL
      rw [if_pos h, Int.toNat_natCast]
    rw [el]
    exact e.trans h
theorem mok_wf {n : Int} {ds : List DE} (h : mokB n ds = true) : WfD ds := fun i hi => by
  obtain ⟨-, -, -, U⟩ := mok_partsA h
  have := dok_len (U i hi)
  omega
theorem mok_both {k : Nat} {a b : List DE} (h1 : mokB (k : Int) a = true) (h2 : mokB (k : Int) b = true) : bothB (k : Int) a (k : Int) b = true := by unfold bothB; rw [h1, h2]; simp
/-- What MatPow answers. -/
def poC (n : Int) (ds : List DE) (e : Int) : Bool := mokB n ds && (decide (0 ≤ e) && decide (e ≤ 30))
def poB (n : Int) (ds : List DE) (e : Int) : Bool := poC n ds e && pwB n.toNat ds e.toNat
def poN (n : Int) (ds : List DE) (e : Int) : Int := if poB n ds e = true then n else 0
def poL (n : Int) (ds : List DE) (e : Int) : List DE := if poB n ds e = true then pwL n.toNat ds e.toNat else []
theorem po_no {n : Int} {ds : List DE} {e : Int} (h : poB n ds e = false) : poB n ds e = false ∧ poN n ds e = 0 ∧ poL n ds e = [] := by unfold poN poL; rw [h]; exact ⟨rfl, rfl, rfl⟩
theorem po_yes {k t : Nat} {ds : List DE} (h : mokB (k : Int) ds = true) (ht : t ≤ 30) : poB (k : Int) ds (t : Int) = pwB k ds t := by
  unfold poB poC
  rw [h, decide_eq_true (show (0 : Int) ≤ (t : Int) by omega), decide_eq_true (show (t : Int) ≤ 30 by omega)]
  rfl
theorem po_sz (n : Int) (ds : List DE) (e : Int) : szT (poL n ds e) ≤ 2000 := by
  cases h : poB n ds e
  · rw [(po_no h).2.2]; decide
  have h2 := h
  unfold poB poC at h2
  simp only [Bool.and_eq_true] at h2
  obtain ⟨u1, u2, -, -⟩ := mok_partsA h2.1.1
  obtain ⟨k, rfl⟩ := Int.eq_ofNat_of_zero_le (show 0 ≤ n by omega)
  unfold poL
  rw [if_pos h]
  exact mok_sz (pw_mok (by omega) (by omega) h2.2)

/-- The box X holds the power t. -/
def PwB (X b : Nat) (w : World) (k : Nat) (ds : List DE) (t : Nat) : Prop :=
  ∃ v lo hi, w.cell? ⟨X, 0, none⟩ = some (.int .i64 (pwN k ds t)) ∧ w.cell? ⟨X, 1, none⟩ = some v ∧ w.frozen? ⟨X, 0, none⟩ = false ∧ w.frozen? ⟨X, 1, none⟩ = false ∧ DysO lo hi w v (pwL k ds t) ∧ (hi ≤ X ∨ X < lo) ∧ b ≤ lo ∧ hi ≤ w.heap.size

set_option maxHeartbeats 16000000 in
theorem matPow_impl {lo hi : Nat} {v : Value} {ds : List DE} (n ex : Int) (w : World) (hw : WfD ds) (r : Dys lo hi w v ds) (T : TabB w) :
    Calls Tryz.prog 7 #[.agg #[.int .i64 n, v], .int .i64 ex] w fun e w' => ∃ v', e = .returned (.tuple #[.agg #[.int .i64 (poN n ds ex), v'], .bool (poB n ds ex)]) ∧ DysO w.heap.size w'.heap.size w' v' (poL n ds ex) ∧ Kept 0 0 w w' := by
  obtain ⟨W, hW⟩ : ∃ W, W = (w.alloc (.cells #[.int .i64 n, v] 28)).alloc (.cells #[.int .i64 0, .slice none 0 0] 28) := ⟨_, rfl⟩
  have k0 : Kept 0 0 w W := by rw [hW]; exact ((Kept.refl 0 0 w).alloc _).alloc _
  have c0 : W.cell? ⟨w.heap.size, 0, none⟩ = some (.int .i64 n) := by rw [hW]; exact old_cell _ (new_cell2 _ _ _ _ _ _ (by simp) rfl)
  have c1 : W.cell? ⟨w.heap.size, 1, none⟩ = some v := by rw [hW]; exact old_cell _ (new_cell2 _ _ _ _ _ _ (by simp) rfl)
  have q0 : W.cell? ⟨w.heap.size + 1, 0, none⟩ = some (.int .i64 0) := by rw [hW]; exact new_cell2 _ _ _ _ _ _ (by simp) rfl
  have q1 : W.cell? ⟨w.heap.size + 1, 1, none⟩ = some (.slice none 0 0) := by rw [hW]; exact new_cell2 _ _ _ _ _ _ (by simp) rfl
  have f0 : W.frozen? ⟨w.heap.size + 1, 0, none⟩ = false := by rw [hW]; exact new_loose2 _ _ _ _ _ (by simp)
  have f1 : W.frozen? ⟨w.heap.size + 1, 1, none⟩ = false := by rw [hW]; exact new_loose2 _ _ _ _ _ (by simp)
  have sW : W.heap.size = w.heap.size + 2 := by rw [hW]; simp
  have r0 := r.kept k0 (by omega)
  have ho := matOk_impl n W hw r0
  obtain ⟨a, c, rfl, -, -⟩ := r.form
  rw [hW] at ho
  have TT := hide T
  clear T
  have RW := hide r
  clear r
  go_enter Tryz.func7, Tryz.ntmps7
  go_wp2_with fail
  rw [← hW] at ho ⊢
  clear hW
  refine ho.mono ?_
  rintro e w1 ⟨rfl, k1⟩
  replace f0 := k1.loose0 (World.block_lt_of_cell? _ _ q0) f0
  replace f1 := k1.loose0 (World.block_lt_of_cell? _ _ q1) f1
  replace c0 := k1.cell0 c0
  replace c1 := k1.cell0 c1
  replace q0 := k1.cell0 q0
  replace q1 := k1.cell0 q1
  have K1 := hide (k0.trans k1)
  have z1 := k1.size
  clear ho k0 k1 r0
  cases hk : mokB n ds
  · have HB := hide (po_no (n := n) (ds := ds) (e := ex) (by unfold poB poC; rw [hk]; rfl))
    have K7 := hide (((unhide K1).setNew (p := ⟨w.heap.size + 1, 0, none⟩) (by simp) (.int .i64 0)).setNew (p := ⟨w.heap.size + 1, 1, none⟩) (by simp) (.slice none 0 0))
    clear K1 hk
    go_wp2
    exact bodyPost_ret (v := .tuple #[.agg #[.int .i64 0, .slice none 0 0], .bool false]) (by simp [results, Tryz.results7, go_sem, q0, q1]) rfl ⟨.slice none 0 0, by rw [(unhide HB).1, (unhide HB).2.1], by rw [(unhide HB).2.2]; exact DysO.void _ _ _, unhide K7⟩
  have HK := hide hk
  clear hk
  by_cases h1 : ex < 0
  · have HB := hide (po_no (n := n) (ds := ds) (e := ex) (by unfold poB poC; rw [decide_eq_false (show ¬ (0 : Int) ≤ ex by omega)]; simp))
    have K7 := hide (((unhide K1).setNew (p := ⟨w.heap.size + 1, 0, none⟩) (by simp) (.int .i64 0)).setNew (p := ⟨w.heap.size + 1, 1, none⟩) (by simp) (.slice none 0 0))
    clear K1
    go_wp2
    exact bodyPost_ret (v := .tuple #[.agg #[.int .i64 0, .slice none 0 0], .bool false]) (by simp [results, Tryz.results7, go_sem, q0, q1]) rfl ⟨.slice none 0 0, by rw [(unhide HB).1, (unhide HB).2.1], by rw [(unhide HB).2.2]; exact DysO.void _ _ _, unhide K7⟩
  by_cases h2 : ex > 30
  · have HB := hide (po_no (n := n) (ds := ds) (e := ex) (by unfold poB poC; rw [decide_eq_false (show ¬ ex ≤ (30 : Int) by omega)]; simp))
    have K7 := hide (((unhide K1).setNew (p := ⟨w.heap.size + 1, 0, none⟩) (by simp) (.int .i64 0)).setNew (p := ⟨w.heap.size + 1, 1, none⟩) (by simp) (.slice none 0 0))
    clear K1
    go_wp2
    exact bodyPost_ret (v := .tuple #[.agg #[.int .i64 0, .slice none 0 0], .bool false]) (by simp [results, Tryz.results7, go_sem, q0, q1]) rfl ⟨.slice none 0 0, by rw [(unhide HB).1, (unhide HB).2.1], by rw [(unhide HB).2.2]; exact DysO.void _ _ _, unhide K7⟩
  obtain ⟨u1, u2, u3, U⟩ := mok_partsA (unhide HK)
  obtain ⟨k, rfl⟩ := Int.eq_ofNat_of_zero_le (show 0 ≤ n by omega)
  obtain ⟨E, rfl⟩ := Int.eq_ofNat_of_zero_le (show 0 ≤ ex by omega)
  have hE : E ≤ 30 := by omega
  have hlen : ds.length = k * k := by rw [← Int.natCast_mul] at u3; omega
  have hk0 : 0 < k := by omega
  have hk4 : k ≤ 4 := by omega
  have HPO := hide (po_yes (unhide HK) hE)
  have HWD := hide hw
  have HLEN := hide hlen
  clear U hw hlen
  have hid := matId_impl (k : Int) (by omega) (by omega) w1 (fun q hq => (unhide K1).cell0 (unhide TT q hq))
  have hib : idB (k : Int) = true := by unfold idB; rw [decide_eq_true (show (1 : Int) ≤ (k : Int) by omega), decide_eq_true (show (k : Int) ≤ 4 by omega)]; rfl
  obtain ⟨i1, i2, i3⟩ := id_yes hib
  rw [i1, i2, i3] at hid
  clear i1 i2 i3 hib u1 u2 u3 h1 h2
  go_wp2_with fail
  refine hid.mono ?_
  rintro e w2 ⟨v2, rfl, r2, k2⟩
  obtain ⟨a2, d2, hv2⟩ := r2.form'
  subst hv2
  have hz2 := k2.size
  have kX := (Kept.refl 0 0 w2).alloc (.cells #[.int .i64 (k : Int), .slice a2 (oneL k).length d2] 28)
  obtain ⟨X, hX⟩ : ∃ X, X = w2.heap.size := ⟨_, rfl⟩
  have x0 : (w2.alloc (.cells #[.int .i64 (k : Int), .slice a2 (oneL k).length d2] 28)).cell? ⟨X, 0, none⟩ = some (.int .i64 (k : Int)) := new_cell2 _ _ _ _ _ _ hX rfl
  have x1 : (w2.alloc (.cells #[.int .i64 (k : Int), .slice a2 (oneL k).length d2] 28)).cell? ⟨X, 1, none⟩ = some (.slice a2 (oneL k).length d2) := new_cell2 _ _ _ _ _ _ hX rfl
  have xf0 : (w2.alloc (.cells #[.int .i64 (k : Int), .slice a2 (oneL k).length d2] 28)).frozen? ⟨X, 0, none⟩ = false := new_loose2 _ _ _ _ _ hX
  have xf1 : (w2.alloc (.cells #[.int .i64 (k : Int), .slice a2 (oneL k).length d2] 28)).frozen? ⟨X, 1, none⟩ = false := new_loose2 _ _ _ _ _ hX
  have kk := k2.trans kX
  replace f0 := kk.loose0 (World.block_lt_of_cell? _ _ q0) f0
  replace f1 := kk.loose0 (World.block_lt_of_cell? _ _ q1) f1
  replace c0 := kk.cell0 c0
  replace c1 := kk.cell0 c1
  replace q0 := kk.cell0 q0
  replace q1 := kk.cell0 q1
  have KX := hide ((unhide K1).trans kk)
  have hXw : w.heap.size + 2 ≤ X := by omega
  have B0 : Hid (PwB X (w.heap.size + 2) (w2.alloc (.cells #[.int .i64 (k : Int), .slice a2 (oneL k).length d2] 28)) k ds 0) := ⟨.slice a2 (oneL k).length d2, _, _, x0, x1, xf0, xf1, r2.kept kX (by omega), .inl (Nat.le_of_eq hX.symm), by omega, by simp⟩
  clear hid r2 k2 kX kk x0 x1 xf0 xf1 K1 hz2
  go_wp2_with fail
  rw [← hX]
  clear hX
  generalize (w2.alloc (.cells #[.int .i64 (k : Int), .slice a2 (oneL k).length d2] 28)) = wX at *
  go_loopw [7, 1] (fun s7 s1 wr => ∃ t : Nat, s7 = .bool (pwB k ds t) ∧ s1 = .int .i64 ((E - t : Nat) : Int) ∧ t ≤ E ∧ Hid (PwB X (w.heap.size + 2) wr k ds t) ∧ Hid (Kept X (X + 1) wX wr)) (fun _ s1 _ => (intOf s1).toNat)
  case atStart => exact ⟨0, rfl, by simp, Nat.zero_le _, B0, Kept.refl _ _ _⟩
  case round =>
    clear B0
    obtain ⟨t, rfl, rfl, ht, hB, hK⟩ := hrel
    have C0 := (unhide hK).cellOut (a := ⟨w.heap.size, 0, none⟩) (by dsimp only; omega) c0
    have C1 := (unhide hK).cellOut (a := ⟨w.heap.size, 1, none⟩) (by dsimp only; omega) c1
    have Q0 := (unhide hK).cellOut (a := ⟨w.heap.size + 1, 0, none⟩) (by dsimp only; omega) q0
    have Q1 := (unhide hK).cellOut (a := ⟨w.heap.size + 1, 1, none⟩) (by dsimp only; omega) q1
    have Qf0 := (unhide hK).looseOut (a := ⟨w.heap.size + 1, 0, none⟩) (by dsimp only; omega) (World.block_lt_of_cell? _ _ q0) f0
    have Qf1 := (unhide hK).looseOut (a := ⟨w.heap.size + 1, 1, none⟩) (by dsimp only; omega) (World.block_lt_of_cell? _ _ q1) f1
    have KW : Hid (Kept 0 0 w wr) := (unhide KX).wide (unhide hK) (by omega)
    obtain ⟨vp, plo, phi, x0, x1, xf0, xf1, rp, pw, plw, phw⟩ := unhide hB
    obtain ⟨ap, cp, hvp⟩ := rp.form'
    subst hvp
    cases hb : pwB k ds t
    · have HB := hide (po_no (n := (k : Int)) (ds := ds) (e := (E : Int)) (by rw [unhide HPO]; exact pw_mono hb E ht))
      have hN : pwN k ds t = 0 := by unfold pwN; rw [hb]; rfl
      have hLL : pwL k ds t = [] := by
        cases t with
        | zero => cases hb
        | succ t =>
          show (if _ then _ else _) = _
          have : ((pwS k ds t).1 && twB true (mulV k (pwS k ds t).2 ds) (-6000) (k : Int)) = false := hb
          rw [this]
          rfl
      rw [hN] at x0
      rw [hLL, List.length_nil] at x1 rp
      have ks : Kept (w.heap.size + 1) (w.heap.size + 2) wr ((wr.setCell ⟨w.heap.size + 1, 0, none⟩ (.int .i64 0)).setCell ⟨w.heap.size + 1, 1, none⟩ (.slice ap 0 cp)) := ((Kept.refl _ _ _).setCell (p := ⟨w.heap.size + 1, 0, none⟩) (Nat.le_refl _) (Nat.lt_succ_self _) _).setCell (p := ⟨w.heap.size + 1, 1, none⟩) (Nat.le_refl _) (Nat.lt_succ_self _) _
      have hsz : ((wr.setCell ⟨w.heap.size + 1, 0, none⟩ (.int .i64 0)).setCell ⟨w.heap.size + 1, 1, none⟩ (.slice ap 0 cp)).heap.size = wr.heap.size := by rw [size_set, size_set]
      have DD := hide ((rp.kept ks (by omega)).wider (lo' := w.heap.size) (hi' := ((wr.setCell ⟨w.heap.size + 1, 0, none⟩ (.int .i64 0)).setCell ⟨w.heap.size + 1, 1, none⟩ (.slice ap 0 cp)).heap.size) (by omega) (by omega))
      have K7 := hide ((unhide KW).wide ks (by omega))
      have G0 := cell_off _ _ _ 1 (.slice ap 0 cp) _ (cell_on _ _ _ (.int .i64 0) _ Q0) (show (0 : Nat) ≠ 1 by omega)
      have G1 := cell_on _ _ _ (.slice ap 0 cp) _ (cell_off _ _ _ 0 (.int .i64 0) _ Q1 (show (1 : Nat) ≠ 0 by omega))
      clear hB hK rp ks hsz KW hN hLL
      go_wp2
      exact bodyPost_ret (v := .tuple #[.agg #[.int .i64 0, (.slice ap 0 cp)], .bool false]) (by simp [results, Tryz.results7, go_sem, G0, G1]) rfl ⟨_, by rw [(unhide HB).1, (unhide HB).2.1], by rw [(unhide HB).2.2]; exact unhide DD, unhide K7⟩
    · by_cases hlt : t < E
      · have hmk := pw_mok hk0 hk4 hb
        have hbo := mok_both hmk (unhide HK)
        have hml := matmul_impl (k : Int) (k : Int) wr (mok_wf hmk) (unhide HWD) rp.read ((unhide RW).kept (unhide KW) (by omega)) (fun q hq => (unhide KW).cell0 (unhide TT q hq))
        obtain ⟨e1, e2, e3⟩ := pw_next hb
        rw [hbo, Int.toNat_natCast, ← e1, ← e2, ← e3] at hml
        have hN : pwN k ds t = (k : Int) := by unfold pwN; rw [if_pos hb]
        rw [hN] at x0
        have hpos : ((E - t : Nat) : Int) > 0 := by omega
        have hsub : IntKind.i64.wrap (((E - t : Nat) : Int) - 1) = ((E - (t + 1) : Nat) : Int) := by rw [IntKind.wrap_i64]; omega
        have hXr : X < wr.heap.size := World.block_lt_of_cell? _ _ x0
        have hpm : Hid (∀ (B : Bool), B = pwB k ds (t + 1) → B = pwB k ds (t + 1)) := fun _ h => h
        obtain ⟨NB, hNB⟩ : ∃ q, q = pwB k ds (t + 1) := ⟨_, rfl⟩
        obtain ⟨NN, hNN⟩ : ∃ q, q = pwN k ds (t + 1) := ⟨_, rfl⟩
        obtain ⟨NL, hNL⟩ : ∃ q, q = pwL k ds (t + 1) := ⟨_, rfl⟩
        rw [← hNB, ← hNN, ← hNL] at hml
        have HNB := hide hNB
        have HNN := hide hNN
        have HNL := hide hNL
        obtain ⟨M, hM⟩ : ∃ M, M = E - t := ⟨_, rfl⟩
        rw [← hM] at hpos hsub ⊢
        have HM := hide hM
        clear e1 e2 e3 hmk hbo hN hNB hNN hNL hM hB rp hpm
        go_wp2_with fail
        refine hml.mono ?_
        rintro e w4 ⟨v4, rfl, r4, k4⟩
        obtain ⟨a4, d4, hv4⟩ := r4.form'
        subst hv4
        replace xf0 := k4.loose0 (World.block_lt_of_cell? _ _ x0) xf0
        replace xf1 := k4.loose0 (World.block_lt_of_cell? _ _ x1) xf1
        replace x0 := k4.cell0 x0
        replace x1 := k4.cell0 x1
        have ks : Kept X (X + 1) w4 ((w4.setCell ⟨X, 0, none⟩ (.int .i64 NN)).setCell ⟨X, 1, none⟩ (.slice a4 NL.length d4)) := ((Kept.refl _ _ _).setCell (p := ⟨X, 0, none⟩) (Nat.le_refl _) (Nat.lt_succ_self _) _).setCell (p := ⟨X, 1, none⟩) (Nat.le_refl _) (Nat.lt_succ_self _) _
        have hsz : ((w4.setCell ⟨X, 0, none⟩ (.int .i64 NN)).setCell ⟨X, 1, none⟩ (.slice a4 NL.length d4)).heap.size = w4.heap.size := by rw [size_set, size_set]
        have G0 := cell_off _ _ _ 1 (.slice a4 NL.length d4) _ (cell_on _ _ _ (.int .i64 NN) _ x0) (show (0 : Nat) ≠ 1 by omega)
        have G1 := cell_on _ _ _ (.slice a4 NL.length d4) _ (cell_off _ _ _ 0 (.int .i64 NN) _ x1 (show (1 : Nat) ≠ 0 by omega))
        have PB : Hid (PwB X (w.heap.size + 2) ((w4.setCell ⟨X, 0, none⟩ (.int .i64 NN)).setCell ⟨X, 1, none⟩ (.slice a4 NL.length d4)) k ds (t + 1)) := by
          unfold Hid PwB
          rw [← unhide HNN, ← unhide HNL]
          exact ⟨.slice a4 NL.length d4, wr.heap.size, w4.heap.size, G0, G1, by rw [frozen_set, frozen_set]; exact xf0, by rw [frozen_set, frozen_set]; exact xf1, r4.kept ks (by omega), .inr hXr, by omega, by omega⟩
        have KK5 := hide (((unhide hK).trans k4.any).trans ks)
        clear hml r4 k4 ks hsz G0 G1 hK KW C0 C1 Q0 Q1 Qf0 Qf1
        go_wp2
        go_roundw
        case rel => exact ⟨t + 1, by rw [unhide HNB], by simp, hlt, PB, KK5⟩
        case measure => have hMM := unhide HM; simp [intOf]; omega
      · have htE : t = E := by omega
        subst htE
        have HB := hide (show poB (k : Int) ds (t : Int) = true ∧ poN (k : Int) ds (t : Int) = (k : Int) ∧ poL (k : Int) ds (t : Int) = pwL k ds t by
          have h5 := (unhide HPO).trans hb
          refine ⟨h5, ?_, ?_⟩
          · unfold poN; rw [if_pos h5]
          · unfold poL; rw [if_pos h5]; rfl)
        have hN : pwN k ds t = (k : Int) := by unfold pwN; rw [if_pos hb]
        rw [hN] at x0
        have hz : ((t - t : Nat) : Int) = 0 := by simp
        obtain ⟨M, hM⟩ : ∃ M, M = t - t := ⟨_, rfl⟩
        have hM0 : ¬ (M : Int) > 0 := by omega
        rw [← hM] at ⊢
        clear hM hz hN
        have ks : Kept (w.heap.size + 1) (w.heap.size + 2) wr ((wr.setCell ⟨w.heap.size + 1, 0, none⟩ (.int .i64 (k : Int))).setCell ⟨w.heap.size + 1, 1, none⟩ (.slice ap (pwL k ds t).length cp)) := ((Kept.refl _ _ _).setCell (p := ⟨w.heap.size + 1, 0, none⟩) (Nat.le_refl _) (Nat.lt_succ_self _) _).setCell (p := ⟨w.heap.size + 1, 1, none⟩) (Nat.le_refl _) (Nat.lt_succ_self _) _
        have hsz : ((wr.setCell ⟨w.heap.size + 1, 0, none⟩ (.int .i64 (k : Int))).setCell ⟨w.heap.size + 1, 1, none⟩ (.slice ap (pwL k ds t).length cp)).heap.size = wr.heap.size := by rw [size_set, size_set]
        have DD := hide ((rp.kept ks (by omega)).wider (lo' := w.heap.size) (hi' := ((wr.setCell ⟨w.heap.size + 1, 0, none⟩ (.int .i64 (k : Int))).setCell ⟨w.heap.size + 1, 1, none⟩ (.slice ap (pwL k ds t).length cp)).heap.size) (by omega) (by omega))
        have K7 := hide ((unhide KW).wide ks (by omega))
        have G0 := cell_off _ _ _ 1 (.slice ap (pwL k ds t).length cp) _ (cell_on _ _ _ (.int .i64 (k : Int)) _ Q0) (show (0 : Nat) ≠ 1 by omega)
        have G1 := cell_on _ _ _ (.slice ap (pwL k ds t).length cp) _ (cell_off _ _ _ 0 (.int .i64 (k : Int)) _ Q1 (show (1 : Nat) ≠ 0 by omega))
        clear hB hK rp ks hsz KW
        go_wp2
        exact bodyPost_ret (v := .tuple #[.agg #[.int .i64 (k : Int), (.slice ap (pwL k ds t).length cp)], .bool true]) (by simp [results, Tryz.results7, go_sem, G0, G1]) rfl ⟨_, by rw [(unhide HB).1, (unhide HB).2.1], by rw [(unhide HB).2.2]; exact unhide DD, unhide K7⟩

end Go.Proofs.YtefnblaphkookaaGreatDoor

namespace Go.Proofs.YtefnblaphkookaaGreatDoor
open Go.RowKit
set_option linter.unusedVariables false
set_option maxRecDepth 8000
set_option linter.unusedSimpArgs false

theorem mok_wn {n : Int} {ds : List DE} (h : mokB n ds = true) : AllWN ds := fun i hi => by
  obtain ⟨-, -, -, U⟩ := mok_partsA h
  obtain ⟨w1', -, -, -, -⟩ := dok_parts (U i hi)
  obtain ⟨-, -, lx, hx⟩ := wok_int w1'
  exact ⟨wok_wn w1', by omega⟩
theorem mok_len {k : Nat} {ds : List DE} (h4 : k ≤ 4) (h : mokB (k : Int) ds = true) : ds.length = k * k ∧ ds.length ≤ 100 := by
  obtain ⟨-, -, u3, -⟩ := mok_partsA h
  have hlen : ds.length = k * k := by rw [← Int.natCast_mul] at u3; omega
  have h16 : k * k ≤ 4 * 4 := Nat.mul_le_mul h4 h4
  exact ⟨hlen, by omega⟩

set_option maxHeartbeats 16000000 in
theorem matPow_spec {lo hi : Nat} {v : Value} {ds : List DE} (n ex : Int) (w : World) (hw : WfD ds) (r : Dys lo hi w v ds) :
    Calls Tryz.prog 5 #[.agg #[.int .i64 n, v], .int .i64 ex] w fun e w' => ∃ v', e = .returned (.tuple #[.agg #[.int .i64 (poN n ds ex), v'], .bool (poB n ds ex)]) ∧ DysO w.heap.size w'.heap.size w' v' (poL n ds ex) ∧ Kept 0 0 w w' := by
  obtain ⟨W, hW⟩ : ∃ W, W = (w.alloc (.cells #[.int .i64 n, v] 28)).alloc (.cells #[.int .i64 0, .slice none 0 0] 28) := ⟨_, rfl⟩
  have k0 : Kept 0 0 w W := by rw [hW]; exact ((Kept.refl 0 0 w).alloc _).alloc _
  have c0 : W.cell? ⟨w.heap.size, 0, none⟩ = some (.int .i64 n) := by rw [hW]; exact old_cell _ (new_cell2 _ _ _ _ _ _ (by simp) rfl)
  have c1 : W.cell? ⟨w.heap.size, 1, none⟩ = some v := by rw [hW]; exact old_cell _ (new_cell2 _ _ _ _ _ _ (by simp) rfl)
  have q0 : W.cell? ⟨w.heap.size + 1, 0, none⟩ = some (.int .i64 0) := by rw [hW]; exact new_cell2 _ _ _ _ _ _ (by simp) rfl
  have q1 : W.cell? ⟨w.heap.size + 1, 1, none⟩ = some (.slice none 0 0) := by rw [hW]; exact new_cell2 _ _ _ _ _ _ (by simp) rfl
  have f0 : W.frozen? ⟨w.heap.size + 1, 0, none⟩ = false := by rw [hW]; exact new_loose2 _ _ _ _ _ (by simp)
  have f1 : W.frozen? ⟨w.heap.size + 1, 1, none⟩ = false := by rw [hW]; exact new_loose2 _ _ _ _ _ (by simp)
  have sW : W.heap.size = w.heap.size + 2 := by rw [hW]; simp
  have r0 := r.kept k0 (by omega)
  have ho := matOk_spec n W hw r0
  obtain ⟨a, c, rfl, -, -⟩ := r.form
  rw [hW] at ho
  have hTT : True := trivial
  have RW := hide r
  clear r
  go_enter Tryz.func5, Tryz.ntmps5
  go_wp2_with fail
  rw [← hW] at ho ⊢
  clear hW
  refine ho.mono ?_
  rintro e w1 ⟨rfl, k1⟩
  replace f0 := k1.loose0 (World.block_lt_of_cell? _ _ q0) f0
  replace f1 := k1.loose0 (World.block_lt_of_cell? _ _ q1) f1
  replace c0 := k1.cell0 c0
  replace c1 := k1.cell0 c1
  replace q0 := k1.cell0 q0
  replace q1 := k1.cell0 q1
  have K1 := hide (k0.trans k1)
  have z1 := k1.size
  clear ho k0 k1 r0
  cases hk : mokB n ds
  · have HB := hide (po_no (n := n) (ds := ds) (e := ex) (by unfold poB poC; rw [hk]; rfl))
    have K7 := hide (((unhide K1).setNew (p := ⟨w.heap.size + 1, 0, none⟩) (by simp) (.int .i64 0)).setNew (p := ⟨w.heap.size + 1, 1, none⟩) (by simp) (.slice none 0 0))
    clear K1 hk
    go_wp2
    exact bodyPost_ret (v := .tuple #[.agg #[.int .i64 0, .slice none 0 0], .bool false]) (by simp [results, Tryz.results5, go_sem, q0, q1]) rfl ⟨.slice none 0 0, by rw [(unhide HB).1, (unhide HB).2.1], by rw [(unhide HB).2.2]; exact DysO.void _ _ _, unhide K7⟩
  have HK := hide hk
  clear hk
  by_cases h1 : ex < 0
  · have HB := hide (po_no (n := n) (ds := ds) (e := ex) (by unfold poB poC; rw [decide_eq_false (show ¬ (0 : Int) ≤ ex by omega)]; simp))
    have K7 := hide (((unhide K1).setNew (p := ⟨w.heap.size + 1, 0, none⟩) (by simp) (.int .i64 0)).setNew (p := ⟨w.heap.size + 1, 1, none⟩) (by simp) (.slice none 0 0))
    clear K1
    go_wp2
    exact bodyPost_ret (v := .tuple #[.agg #[.int .i64 0, .slice none 0 0], .bool false]) (by simp [results, Tryz.results5, go_sem, q0, q1]) rfl ⟨.slice none 0 0, by rw [(unhide HB).1, (unhide HB).2.1], by rw [(unhide HB).2.2]; exact DysO.void _ _ _, unhide K7⟩
  by_cases h2 : ex > 30
  · have HB := hide (po_no (n := n) (ds := ds) (e := ex) (by unfold poB poC; rw [decide_eq_false (show ¬ ex ≤ (30 : Int) by omega)]; simp))
    have K7 := hide (((unhide K1).setNew (p := ⟨w.heap.size + 1, 0, none⟩) (by simp) (.int .i64 0)).setNew (p := ⟨w.heap.size + 1, 1, none⟩) (by simp) (.slice none 0 0))
    clear K1
    go_wp2
    exact bodyPost_ret (v := .tuple #[.agg #[.int .i64 0, .slice none 0 0], .bool false]) (by simp [results, Tryz.results5, go_sem, q0, q1]) rfl ⟨.slice none 0 0, by rw [(unhide HB).1, (unhide HB).2.1], by rw [(unhide HB).2.2]; exact DysO.void _ _ _, unhide K7⟩
  obtain ⟨u1, u2, u3, U⟩ := mok_partsA (unhide HK)
  obtain ⟨k, rfl⟩ := Int.eq_ofNat_of_zero_le (show 0 ≤ n by omega)
  obtain ⟨E, rfl⟩ := Int.eq_ofNat_of_zero_le (show 0 ≤ ex by omega)
  have hE : E ≤ 30 := by omega
  have hlen : ds.length = k * k := by rw [← Int.natCast_mul] at u3; omega
  have hk0 : 0 < k := by omega
  have hk4 : k ≤ 4 := by omega
  have HPO := hide (po_yes (unhide HK) hE)
  have HWD := hide hw
  have HLEN := hide hlen
  clear U hw hlen
  have hid := id8_spec (k := k) hk4 w1
  have hn1 := h1
  have hn2 := h2
  clear u1 u2 u3 h1 h2
  go_wp2_with fail
  refine hid.mono ?_
  rintro e w2 ⟨v2, rfl, r2, k2⟩
  obtain ⟨a2, d2, hv2⟩ := r2.form'
  subst hv2
  have hz2 := k2.size
  have kX := (Kept.refl 0 0 w2).alloc (.cells #[.int .i64 (k : Int), .slice a2 (oneL k).length d2] 28)
  obtain ⟨X, hX⟩ : ∃ X, X = w2.heap.size := ⟨_, rfl⟩
  have x0 : (w2.alloc (.cells #[.int .i64 (k : Int), .slice a2 (oneL k).length d2] 28)).cell? ⟨X, 0, none⟩ = some (.int .i64 (k : Int)) := new_cell2 _ _ _ _ _ _ hX rfl
  have x1 : (w2.alloc (.cells #[.int .i64 (k : Int), .slice a2 (oneL k).length d2] 28)).cell? ⟨X, 1, none⟩ = some (.slice a2 (oneL k).length d2) := new_cell2 _ _ _ _ _ _ hX rfl
  have xf0 : (w2.alloc (.cells #[.int .i64 (k : Int), .slice a2 (oneL k).length d2] 28)).frozen? ⟨X, 0, none⟩ = false := new_loose2 _ _ _ _ _ hX
  have xf1 : (w2.alloc (.cells #[.int .i64 (k : Int), .slice a2 (oneL k).length d2] 28)).frozen? ⟨X, 1, none⟩ = false := new_loose2 _ _ _ _ _ hX
  have kk := k2.trans kX
  replace f0 := kk.loose0 (World.block_lt_of_cell? _ _ q0) f0
  replace f1 := kk.loose0 (World.block_lt_of_cell? _ _ q1) f1
  replace c0 := kk.cell0 c0
  replace c1 := kk.cell0 c1
  replace q0 := kk.cell0 q0
  replace q1 := kk.cell0 q1
  have KX := hide ((unhide K1).trans kk)
  have hXw : w.heap.size + 2 ≤ X := by omega
  have B0 : Hid (PwB X (w.heap.size + 2) (w2.alloc (.cells #[.int .i64 (k : Int), .slice a2 (oneL k).length d2] 28)) k ds 0) := ⟨.slice a2 (oneL k).length d2, _, _, x0, x1, xf0, xf1, r2.kept kX (by omega), .inl (Nat.le_of_eq hX.symm), by omega, by simp⟩
  clear hid r2 k2 kX kk x0 x1 xf0 xf1 K1 hz2
  go_wp2_with fail
  rw [← hX]
  clear hX
  generalize (w2.alloc (.cells #[.int .i64 (k : Int), .slice a2 (oneL k).length d2] 28)) = wX at *
  go_loopw [7] (fun s7 wr => ∃ t : Nat, s7 = .int .i64 (t : Int) ∧ t ≤ E ∧ pwB k ds t = true ∧ Hid (PwB X (w.heap.size + 2) wr k ds t) ∧ Hid (Kept X (X + 1) wX wr)) (fun s7 _ => E - (intOf s7).toNat)
  case atStart => exact ⟨0, rfl, Nat.zero_le _, rfl, B0, Kept.refl _ _ _⟩
  case round =>
    clear B0
    obtain ⟨t, rfl, ht, hb, hB, hK⟩ := hrel
    have hwt : IntKind.i64.wrap ((t : Int) + 1) = ((t + 1 : Nat) : Int) := by rw [IntKind.wrap_i64]; omega
    have C0 := (unhide hK).cellOut (a := ⟨w.heap.size, 0, none⟩) (by dsimp only; omega) c0
    have C1 := (unhide hK).cellOut (a := ⟨w.heap.size, 1, none⟩) (by dsimp only; omega) c1
    have Q0 := (unhide hK).cellOut (a := ⟨w.heap.size + 1, 0, none⟩) (by dsimp only; omega) q0
    have Q1 := (unhide hK).cellOut (a := ⟨w.heap.size + 1, 1, none⟩) (by dsimp only; omega) q1
    have Qf0 := (unhide hK).looseOut (a := ⟨w.heap.size + 1, 0, none⟩) (by dsimp only; omega) (World.block_lt_of_cell? _ _ q0) f0
    have Qf1 := (unhide hK).looseOut (a := ⟨w.heap.size + 1, 1, none⟩) (by dsimp only; omega) (World.block_lt_of_cell? _ _ q1) f1
    have KW : Hid (Kept 0 0 w wr) := (unhide KX).wide (unhide hK) (by omega)
    obtain ⟨vp, plo, phi, x0, x1, xf0, xf1, rp, pw, plw, phw⟩ := unhide hB
    obtain ⟨ap, cp, hvp⟩ := rp.form'
    subst hvp
    have hmk := pw_mok hk0 hk4 hb
    have hN : pwN k ds t = (k : Int) := by unfold pwN; rw [if_pos hb]
    rw [hN] at x0
    by_cases hlt : t < E
    · obtain ⟨-, -, -, UP⟩ := mok_partsA hmk
      obtain ⟨-, -, -, UD⟩ := mok_partsA (unhide HK)
      have hlp := (mok_len hk4 hmk).1
      have hml := mul8_spec (k : Int) wr hk0 hk4 hlp (unhide HLEN) UP UD rp.read ((unhide RW).kept (unhide KW) (by omega))
      obtain ⟨PL, hPL⟩ : ∃ PL, PL = (List.range (k * k)).map fun p => nE (mulV k (pwL k ds t) ds p) (-6000) := ⟨_, rfl⟩
      rw [← hPL] at hml
      obtain ⟨e1, e2, e3⟩ := pw_next hb
      have hVL : ∀ p, p < k * k → (mulV k (pwL k ds t) ds p).natAbs < 2 ^ AA := fun p hp => mulV_lt hk4 hp (fun q hq => UP q (by omega)) (fun q hq => UD q (by have := unhide HLEN; omega))
      have HWF : Hid (WfD PL) := fun i hi => by
        have hi2 : i < k * k := by rw [hPL] at hi; simpa using hi
        rw [hPL, map_at _ _ _ hi2]
        exact dex_range _ _ (by decide) (by decide) (hVL i hi2) (by unfold AA; decide)
      have HMP : Hid (mokB (k : Int) PL = pwB k ds (t + 1)) := by
        show _ = _
        rw [e1, hPL]
        exact (tw_fit hk0 hk4).1
      have HLP : Hid (pwB k ds (t + 1) = true → pwL k ds (t + 1) = PL ∧ pwN k ds (t + 1) = (k : Int)) := fun h => by
        rw [e1] at h
        rw [e2, e3, hPL]
        unfold twL twN
        rw [if_pos h, if_pos h, Int.toNat_natCast]
        exact ⟨rfl, rfl⟩
      have hXr : X < wr.heap.size := World.block_lt_of_cell? _ _ x0
      have HT1 := hide (show t + 1 ≤ E from hlt)
      have hlt2 : (t : Int) < (E : Int) := by omega
      clear hmk UP UD hlp hPL e1 e2 e3 hVL hB rp hN
      go_wp2_with fail
      refine hml.mono ?_
      rintro e w4 ⟨v4, rfl, r4, k4⟩
      obtain ⟨a4, d4, hv4⟩ := r4.form'
      subst hv4
      replace xf0 := k4.loose0 (World.block_lt_of_cell? _ _ x0) xf0
      replace xf1 := k4.loose0 (World.block_lt_of_cell? _ _ x1) xf1
      replace x0 := k4.cell0 x0
      replace x1 := k4.cell0 x1
      replace Qf0 := k4.loose0 (World.block_lt_of_cell? _ _ Q0) Qf0
      replace Qf1 := k4.loose0 (World.block_lt_of_cell? _ _ Q1) Qf1
      replace Q0 := k4.cell0 Q0
      replace Q1 := k4.cell0 Q1
      have ks : Kept X (X + 1) w4 ((w4.setCell ⟨X, 0, none⟩ (.int .i64 (k : Int))).setCell ⟨X, 1, none⟩ (.slice a4 PL.length d4)) := ((Kept.refl _ _ _).setCell (p := ⟨X, 0, none⟩) (Nat.le_refl _) (Nat.lt_succ_self _) _).setCell (p := ⟨X, 1, none⟩) (Nat.le_refl _) (Nat.lt_succ_self _) _
      have hsz : ((w4.setCell ⟨X, 0, none⟩ (.int .i64 (k : Int))).setCell ⟨X, 1, none⟩ (.slice a4 PL.length d4)).heap.size = w4.heap.size := by rw [size_set, size_set]
      have G0 := cell_off _ _ _ 1 (.slice a4 PL.length d4) _ (cell_on _ _ _ (.int .i64 (k : Int)) _ x0) (show (0 : Nat) ≠ 1 by omega)
      have G1 := cell_on _ _ _ (.slice a4 PL.length d4) _ (cell_off _ _ _ 0 (.int .i64 (k : Int)) _ x1 (show (1 : Nat) ≠ 0 by omega))
      have r5 := r4.kept ks (by omega)
      have hom := matOk_spec (k : Int) ((w4.setCell ⟨X, 0, none⟩ (.int .i64 (k : Int))).setCell ⟨X, 1, none⟩ (.slice a4 PL.length d4)) (unhide HWF) r5.read
      rw [unhide HMP] at hom
      have xg0 : ((w4.setCell ⟨X, 0, none⟩ (.int .i64 (k : Int))).setCell ⟨X, 1, none⟩ (.slice a4 PL.length d4)).frozen? ⟨X, 0, none⟩ = false := by rw [frozen_set, frozen_set]; exact xf0
      have xg1 : ((w4.setCell ⟨X, 0, none⟩ (.int .i64 (k : Int))).setCell ⟨X, 1, none⟩ (.slice a4 PL.length d4)).frozen? ⟨X, 1, none⟩ = false := by rw [frozen_set, frozen_set]; exact xf1
      replace Qf0 := ks.looseOut (a := ⟨w.heap.size + 1, 0, none⟩) (by dsimp only; omega) (World.block_lt_of_cell? _ _ Q0) Qf0
      replace Qf1 := ks.looseOut (a := ⟨w.heap.size + 1, 1, none⟩) (by dsimp only; omega) (World.block_lt_of_cell? _ _ Q1) Qf1
      replace Q0 := ks.cellOut (a := ⟨w.heap.size + 1, 0, none⟩) (by dsimp only; omega) Q0
      replace Q1 := ks.cellOut (a := ⟨w.heap.size + 1, 1, none⟩) (by dsimp only; omega) Q1
      have KF := hide (((unhide hK).trans k4.any).trans ks)
      have KWF := hide (((unhide KW).trans k4).wide ks (by omega))
      have R5 := hide r5
      have hzw : wr.heap.size ≤ ((w4.setCell ⟨X, 0, none⟩ (.int .i64 (k : Int))).setCell ⟨X, 1, none⟩ (.slice a4 PL.length d4)).heap.size := by rw [hsz]; exact k4.size
      have HZW := hide hzw
      have HS4 := hide (show w4.heap.size ≤ ((w4.setCell ⟨X, 0, none⟩ (.int .i64 (k : Int))).setCell ⟨X, 1, none⟩ (.slice a4 PL.length d4)).heap.size by rw [hsz]; exact Nat.le_refl _)
      have HWW := hide (unhide KW).size
      clear hml r4 k4 ks hsz hK KW C0 C1 r5 hzw
      go_wp2_with fail
      clear x0 x1 xf0 xf1
      generalize ((w4.setCell ⟨X, 0, none⟩ (.int .i64 (k : Int))).setCell ⟨X, 1, none⟩ (.slice a4 PL.length d4)) = w5 at *
      refine hom.mono ?_
      rintro e w6 ⟨rfl, k6⟩
      have hXw5 := World.block_lt_of_cell? _ _ G0
      replace xg0 := k6.loose0 (a := ⟨X, 0, none⟩) hXw5 xg0
      replace xg1 := k6.loose0 (a := ⟨X, 1, none⟩) hXw5 xg1
      replace G0 := k6.cell0 G0
      replace G1 := k6.cell0 G1
      replace Qf0 := k6.loose0 (World.block_lt_of_cell? _ _ Q0) Qf0
      replace Qf1 := k6.loose0 (World.block_lt_of_cell? _ _ Q1) Qf1
      replace Q0 := k6.cell0 Q0
      replace Q1 := k6.cell0 Q1
      have K1 := hide ((unhide KWF).trans k6)
      have KF6 := hide ((unhide KF).trans k6.any)
      have R6 := hide ((unhide R5).kept k6 (by omega))
      have hz6 := k6.size
      clear hom k6 KF KWF R5
      cases hb2 : pwB k ds (t + 1)
      · have HB := hide (po_no (n := (k : Int)) (ds := ds) (e := (E : Int)) (by rw [unhide HPO]; exact pw_mono hb2 E (unhide HT1)))
        have q0 := Q0
        have q1 := Q1
        have K7 := hide (((unhide K1).setNew (p := ⟨w.heap.size + 1, 0, none⟩) (by simp) (.int .i64 0)).setNew (p := ⟨w.heap.size + 1, 1, none⟩) (by simp) (.slice none 0 0))
        clear K1 hb2 KF6 R6
        go_wp2
        exact bodyPost_ret (v := .tuple #[.agg #[.int .i64 0, .slice none 0 0], .bool false]) (by simp [results, Tryz.results5, go_sem, q0, q1]) rfl ⟨.slice none 0 0, by rw [(unhide HB).1, (unhide HB).2.1], by rw [(unhide HB).2.2]; exact DysO.void _ _ _, unhide K7⟩
      · obtain ⟨l1, l2⟩ := unhide HLP hb2
        have PB : Hid (PwB X (w.heap.size + 2) w6 k ds (t + 1)) := by
          unfold Hid PwB
          rw [l1, l2]
          exact ⟨.slice a4 PL.length d4, wr.heap.size, w4.heap.size, G0, G1, xg0, xg1, unhide R6, .inr hXr, by omega, Nat.le_trans (unhide HS4) hz6⟩
        clear l1 l2 R6 K1 G0 G1 xg0 xg1 Q0 Q1 Qf0 Qf1
        go_wp2
        go_roundw
        case rel => exact ⟨t + 1, by simp, hlt, hb2, PB, KF6⟩
        case measure => simp [intOf]; omega
    · have htE : t = E := by omega
      subst htE
      have HB := hide (show poB (k : Int) ds (t : Int) = true ∧ poN (k : Int) ds (t : Int) = (k : Int) ∧ poL (k : Int) ds (t : Int) = pwL k ds t by
        have h5 := (unhide HPO).trans hb
        refine ⟨h5, ?_, ?_⟩
        · unfold poN; rw [if_pos h5]
        · unfold poL; rw [if_pos h5]; rfl)
      have how := own8_spec (k : Int) wr (mok_len hk4 hmk).2 (mok_wn hmk) rp.read
      obtain ⟨TL, hTL⟩ : ∃ q, q = pwL k ds t := ⟨_, rfl⟩
      rw [← hTL] at how HB x1
      have hzz := (unhide KW).size
      have hbg := World.block_lt_of_cell? _ _ Q0
      clear hB rp hmk hN hTL
      go_wp2_with fail
      refine how.mono ?_
      rintro e w5 ⟨v5, rfl, r5, k5⟩
      obtain ⟨a5, d5, hv5⟩ := r5.form'
      subst hv5
      replace Qf0 := k5.loose0 (World.block_lt_of_cell? _ _ Q0) Qf0
      replace Qf1 := k5.loose0 (World.block_lt_of_cell? _ _ Q1) Qf1
      replace Q0 := k5.cell0 Q0
      replace Q1 := k5.cell0 Q1
      have z5 := k5.size
      have K7 := hide ((((unhide KW).trans k5).setNew (p := ⟨w.heap.size + 1, 0, none⟩) (by simp) (.int .i64 (k : Int))).setNew (p := ⟨w.heap.size + 1, 1, none⟩) (by simp) (.slice a5 TL.length d5))
      have ks : Kept (w.heap.size + 1) (w.heap.size + 2) w5 ((w5.setCell ⟨w.heap.size + 1, 0, none⟩ (.int .i64 (k : Int))).setCell ⟨w.heap.size + 1, 1, none⟩ (.slice a5 TL.length d5)) := ((Kept.refl _ _ _).setCell (p := ⟨w.heap.size + 1, 0, none⟩) (Nat.le_refl _) (Nat.lt_succ_self _) _).setCell (p := ⟨w.heap.size + 1, 1, none⟩) (Nat.le_refl _) (Nat.lt_succ_self _) _
      have hsz : ((w5.setCell ⟨w.heap.size + 1, 0, none⟩ (.int .i64 (k : Int))).setCell ⟨w.heap.size + 1, 1, none⟩ (.slice a5 TL.length d5)).heap.size = w5.heap.size := by rw [size_set, size_set]
      have R7 := hide ((r5.kept ks (by omega)).wider (lo' := w.heap.size) (hi' := ((w5.setCell ⟨w.heap.size + 1, 0, none⟩ (.int .i64 (k : Int))).setCell ⟨w.heap.size + 1, 1, none⟩ (.slice a5 TL.length d5)).heap.size) (by omega) (by omega))
      have G0 := cell_off _ _ _ 1 (.slice a5 TL.length d5) _ (cell_on _ _ _ (.int .i64 (k : Int)) _ Q0) (show (0 : Nat) ≠ 1 by omega)
      have G1 := cell_on _ _ _ (.slice a5 TL.length d5) _ (cell_off _ _ _ 0 (.int .i64 (k : Int)) _ Q1 (show (1 : Nat) ≠ 0 by omega))
      clear how r5 k5 ks hsz KW hK
      go_wp2
      exact bodyPost_ret (v := .tuple #[.agg #[.int .i64 (k : Int), .slice a5 TL.length d5], .bool true]) (by simp [results, Tryz.results5, go_sem, G0, G1]) rfl ⟨_, by rw [(unhide HB).1, (unhide HB).2.1], by rw [(unhide HB).2.2]; exact unhide R7, unhide K7⟩

end Go.Proofs.YtefnblaphkookaaGreatDoor
