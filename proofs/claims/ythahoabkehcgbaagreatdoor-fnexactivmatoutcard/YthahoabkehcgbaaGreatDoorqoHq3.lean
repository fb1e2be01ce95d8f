/-
  slices.Concat over rows of entries of two pointers: one list of them all.
-/
import Derived.Test.YthahoabkehcgbaaGreatDoorqoBQ
import Derived.Lib.AppendZeros
namespace Go.Proofs.YthahoabkehcgbaaGreatDoor
open Go.RowKit
set_option linter.unusedVariables false
set_option maxRecDepth 8000
set_option linter.unusedSimpArgs false

/-- The block R has rows of entries of two pointers, to the blocks that G names; R and the rows are of S. -/
def SqH (S : Nat → Prop) (w : World) (R n m : Nat) (G : Nat → Nat) : Prop :=
  R < w.heap.size ∧ S R ∧ ∀ i, i < m → ∃ r, w.cell? ⟨R, i, none⟩ = some (.slice (some ⟨r, 0, none⟩) n n) ∧ S r ∧ R < r ∧ r < w.heap.size ∧ ∀ j, j < n → w.cell? ⟨r, j * 2, none⟩ = some (.pointer (some ⟨G (2 * (i * n + j)), 0, none⟩)) ∧ w.cell? ⟨r, j * 2 + 1, none⟩ = some (.pointer (some ⟨G (2 * (i * n + j) + 1), 0, none⟩))
theorem SqH.kept {S : Nat → Prop} {w w' : World} {R n m : Nat} {G : Nat → Nat} (h : SqH S w R n m G) (k : Kept 0 0 w w') : SqH S w' R n m G := by
  obtain ⟨h1, h2, h3⟩ := h
  refine ⟨Nat.lt_of_lt_of_le h1 k.size, h2, fun i hi => ?_⟩
  obtain ⟨r, c, q1, q2, q3, q4⟩ := h3 i hi
  exact ⟨r, k.cell0 c, q1, q2, Nat.lt_of_lt_of_le q3 k.size, fun j hj => ⟨k.cell0 (q4 j hj).1, k.cell0 (q4 j hj).2⟩⟩
theorem SqH.keptY {S : Nat → Prop} {lo hi : Nat} {w w' : World} {R n m : Nat} {G : Nat → Nat} (h : SqH S w R n m G) (k : Kept lo hi w w') (hx : hi ≤ R) : SqH S w' R n m G := by
  obtain ⟨h1, h2, h3⟩ := h
  refine ⟨Nat.lt_of_lt_of_le h1 k.size, h2, fun i hi => ?_⟩
  obtain ⟨r, c, q1, q2, q3, q4⟩ := h3 i hi
  exact ⟨r, k.cellOut (a := ⟨R, i, none⟩) (.inr hx) c, q1, q2, Nat.lt_of_lt_of_le q3 k.size, fun j hj => ⟨k.cellOut (a := ⟨r, j * 2, none⟩) (.inr (by dsimp only; omega)) (q4 j hj).1, k.cellOut (a := ⟨r, j * 2 + 1, none⟩) (.inr (by dsimp only; omega)) (q4 j hj).2⟩⟩
/-- G with two other pointers at k. -/
def updH (G : Nat → Nat) (k g1 g2 : Nat) : Nat → Nat := updG (updG G (2 * k) g1) (2 * k + 1) g2
theorem updH_lo (G : Nat → Nat) (k g1 g2 : Nat) : updH G k g1 g2 (2 * k) = g1 := by unfold updH; rw [updG_off _ (by omega), updG_on]
theorem updH_hi (G : Nat → Nat) (k g1 g2 : Nat) : updH G k g1 g2 (2 * k + 1) = g2 := by unfold updH; rw [updG_on]
theorem updH_off (G : Nat → Nat) {k g1 g2 p : Nat} (h1 : p ≠ 2 * k) (h2 : p ≠ 2 * k + 1) : updH G k g1 g2 p = G p := by unfold updH; rw [updG_off _ h2, updG_off _ h1]
theorem Nums.step2 {b k g1 g2 mid : Nat} {S : Nat → Prop} {w w' : World} {G : Nat → Nat} {F : Nat → DE} (h : Nums b S w (2 * k) G F) (m : Kept 0 0 w w') (hb : b ≤ w.heap.size) (hS : ∀ x, S x → x < w.heap.size) (d1 : Dw w.heap.size mid w' g1 (F (2 * k))) (d2 : Dw mid w'.heap.size w' g2 (F (2 * k + 1))) (hm : w.heap.size ≤ mid) (hm' : mid ≤ w'.heap.size) : Nums b S w' (2 * (k + 1)) (updH G k g1 g2) F := by
  obtain ⟨L0, H0, h10, h20⟩ := h
  have hs := m.size
  obtain ⟨L, H, h1, h2, h3⟩ : ∃ L H : Nat → Nat, (∀ p, p < 2 * k → Dw (L p) (H p) w' (G p) (F p) ∧ b ≤ L p ∧ H p ≤ w'.heap.size ∧ ∀ x, L p ≤ x → x < H p → ¬ S x) ∧ (∀ p q, p < 2 * k → q < 2 * k → p ≠ q → H p ≤ L q ∨ H q ≤ L p) ∧ ∀ p, p < 2 * k → H p ≤ w.heap.size := by
    refine ⟨L0, H0, fun p hp => ?_, h20, fun p hp => (h10 p hp).2.2.1⟩
    obtain ⟨d, q1, q2, q3⟩ := h10 p hp
    exact ⟨d.mod (m.toMod (S := S)) q3, q1, Nat.le_trans q2 hs, q3⟩
  refine ⟨fun p => if p = 2 * k then w.heap.size else if p = 2 * k + 1 then mid else L p, fun p => if p = 2 * k then mid else if p = 2 * k + 1 then w'.heap.size else H p, fun p hp => ?_, fun p q hp hq hne => ?_⟩
  · by_cases e : p = 2 * k
    · subst e
      simp only [if_pos, updH_lo]
      exact ⟨d1, hb, hm', fun x hx _ hsx => by have := hS x hsx; omega⟩
    · by_cases e2 : p = 2 * k + 1
      · subst e2
        simp only [if_neg e, if_pos, updH_hi]
        exact ⟨d2, by omega, Nat.le_refl _, fun x hx _ hsx => by have := hS x hsx; omega⟩
      · simp only [if_neg e, if_neg e2, updH_off G e e2]
        exact h1 p (by omega)
  · by_cases e : p = 2 * k
    · have a2 : q ≠ 2 * k := by omega
      simp only [if_pos e, if_neg a2]
      by_cases b2 : q = 2 * k + 1
      · simp only [if_pos b2]; exact .inl (Nat.le_refl _)
      · simp only [if_neg b2]; exact .inr (h3 q (by omega))
    · by_cases e2 : p = 2 * k + 1
      · simp only [if_neg e, if_pos e2]
        by_cases a2 : q = 2 * k
        · simp only [if_pos a2]; exact .inr (Nat.le_refl _)
        · have b2 : q ≠ 2 * k + 1 := by omega
          simp only [if_neg a2, if_neg b2]
          exact .inr (Nat.le_trans (h3 q (by omega)) hm)
      · simp only [if_neg e, if_neg e2]
        by_cases a2 : q = 2 * k
        · simp only [if_pos a2]; exact .inl (h3 p (by omega))
        · by_cases b2 : q = 2 * k + 1
          · simp only [if_neg a2, if_pos b2]; exact .inl (Nat.le_trans (h3 p (by omega)) hm)
          · simp only [if_neg a2, if_neg b2]; exact h2 p q (by omega) (by omega) hne

theorem Tryz.infoHD : (Tryz.prog.info? 79).map (fun i => (i.zero, i.size, i.bytes)) = some (some (.agg #[.pointer none, .pointer none]), 2, 16) := by kernel_rfl

theorem Tryz.infoRwH : (Tryz.prog.info? 126).map (fun i => (i.zero, i.size, i.bytes)) = some (some (.slice none 0 0), 1, 24) := by kernel_rfl

theorem own2_cls {w : World} {base n g c : Nat} {e : TypeId} {z : Value} (hz : z.cells.size = 2) (h : w.ownsRow base e 2 (.slice (some ⟨g, 0, none⟩) n c) n (madeCells z.cells (n * 2)).toList) : Cls w g (n * 2) := by
  rcases h.2 with ⟨e1, h0⟩ | ⟨g', cap, cur, e1, hb, hg, hle, hm, hs, htake⟩
  · cases e1
  · cases e1
    refine ⟨(Array.getElem?_eq_some_iff.1 hg).1, fun k hk => ?_, fun k hk => by simp [World.frozen?, hg]⟩
    have hl : (madeCells z.cells (n * 2)).toList.length = n * 2 := by simp [madeCells]
    have h1 : ∃ u, (madeCells z.cells (n * 2)).toList[k]? = some u := ⟨_, List.getElem?_eq_getElem (by omega)⟩
    obtain ⟨u, hu⟩ := h1
    refine ⟨u, ?_⟩
    rw [← htake, List.getElem?_take, if_pos (by omega)] at hu
    simpa [World.cell?, hg] using hu

set_option maxHeartbeats 16000000 in
theorem makeSquareH_any {n : Nat} (hn : n ≤ 1000) (FN : FuncId) (hcf : ∀ (w : World) (args : Array Value), (callFunc FN args).run Tryz.prog w = .ok (.enter FN args) w) (caps : Array Value) (w : World) (J : Nat → (Nat → Nat) → (Nat → Prop) → World → Prop)
    (hJ0 : ∀ S : Nat → Prop, (∀ x, S x → w.heap.size ≤ x) → J 0 (fun _ => 0) S w) (hJm : ∀ k G S w1 w2, J k G S w1 → Mod S w1 w2 → J k G S w2) (hJs : ∀ k G S w1 x, J k G S w1 → w1.heap.size ≤ x → J k G (fun y => S y ∨ y = x) w1)
    (H : ∀ i j w' G S, i < n → j < n → (∀ x, S x → w.heap.size ≤ x ∧ x < w'.heap.size) → Kept 0 0 w w' → J (i * n + j) G S w' → Calls Tryz.prog FN (#[.int .i64 (i : Int), .int .i64 (j : Int)] ++ caps) w' fun e w'' => ∃ g1 g2, e = .returned (.agg #[.pointer (some ⟨g1, 0, none⟩), .pointer (some ⟨g2, 0, none⟩)]) ∧ J (i * n + j + 1) (updH G (i * n + j) g1 g2) S w'' ∧ Kept 0 0 w' w'') :
    Calls Tryz.prog 91 #[.int .i64 (n : Int), .func (.func FN) #[] caps] w fun e w' => ∃ R G S, e = .returned (.agg #[.slice (some ⟨R, 0, none⟩) n n]) ∧ SqH S w' R n n G ∧ J (n * n) G S w' ∧ (∀ x, S x → w.heap.size ≤ x ∧ x < w'.heap.size) ∧ w.heap.size < R ∧ Kept 0 0 w w' := by
  obtain ⟨W, hW⟩ : ∃ W, W = w.alloc (.cells #[.slice none 0 0] 76) := ⟨_, rfl⟩
  have k0 : Kept 0 0 w W := by rw [hW]; exact (Kept.refl 0 0 w).alloc _
  have c4 : W.cell? ⟨w.heap.size, 0, none⟩ = some (.slice none 0 0) := by rw [hW]; exact new_cell2 _ _ _ _ _ _ rfl rfl
  have f4 : W.frozen? ⟨w.heap.size, 0, none⟩ = false := by rw [hW]; exact new_loose2 _ _ _ _ _ rfl
  have sW : W.heap.size = w.heap.size + 1 := by rw [hW]; simp
  obtain ⟨i0, hi0, hz0, hz1, hz2⟩ := info_parts Tryz.infoRwH
  obtain ⟨i1, hi1, hy0, hy1, hy2⟩ := info_parts Tryz.infoHD
  have hb0 : i0.bytes * n ≤ 281474976710656 := by rw [hz2]; omega
  have hb1 : i1.bytes * n ≤ 281474976710656 := by rw [hy2]; omega
  have hm0 : n ≤ maxLen := by unfold maxLen; omega
  have HH := hide H
  have HJM := hide hJm
  have HJS := hide hJs
  have HJ0 := hide hJ0
  clear H hJm hJs hJ0
  go_enter Tryz.func91, Tryz.ntmps91
  go_wp2_with (at_make; rw [← hW]; refine wpList_make_full _ rfl _ _ 74 rfl W.heap.size 126 i0 (.slice none 0 0) 1 Tryz.underlying74 hi0 hz0 hz1 .i64 .i64 _ _ n rfl rfl rfl rfl hb0 hm0 (Nat.le_refl _) ?_; intro w1 hown hgrow)
  have C1 := hide (own1_cls rfl hown)
  have k1 : Kept 0 0 W w1 := ⟨hgrow.os, hgrow.tape, hgrow.output, hgrow.size, fun i hi _ => hgrow.block i hi (by simp)⟩
  clear hown hgrow hi0 hz0 hz1 hz2 hb0 hW
  obtain ⟨R, hR⟩ : ∃ R, R = w.heap.size + 1 := ⟨_, rfl⟩
  rw [sW, ← hR] at C1
  rw [← hR]
  have SW := hide sW
  clear sW
  have HR := hide hR
  clear hR
  go_loopw [12] (fun s12 wr => ∃ (ci : Nat) (G : Nat → Nat) (S : Nat → Prop), s12 = .int .i64 ci ∧ ci ≤ n ∧ Hid (SqH S wr R n ci G) ∧ Hid (J (ci * n) G S wr ∧ (∀ x, S x → w.heap.size ≤ x ∧ x < wr.heap.size) ∧ S w.heap.size) ∧ Hid (Cls wr R n) ∧ Kept 0 0 W wr) (fun s12 _ => n - (intOf s12).toNat)
  case atStart => exact ⟨0, fun _ => 0, fun x => x = w.heap.size ∨ x = R, rfl, Nat.zero_le _, ⟨(unhide C1).1, .inr rfl, fun i hi => by omega⟩, ⟨by rw [Nat.zero_mul]; exact unhide HJM _ _ _ _ _ (unhide HJ0 _ (fun x hx => by have := unhide HR; omega)) (k0.trans k1).toMod, fun x hx => by (have := unhide HR; have := (unhide C1).1; omega), .inl rfl⟩, C1, k1⟩
  case round =>
    clear C1 k1
    obtain ⟨ci, G, S, rfl, hci, hS, hJ, hC, kb⟩ := hrel
    obtain ⟨wo, hwo⟩ : ∃ wo, wo = wr := ⟨_, rfl⟩
    subst hwo
    have hwi : IntKind.i64.wrap ((ci : Int) + 1) = ((ci + 1 : Nat) : Int) := by rw [IntKind.wrap_i64]; omega
    by_cases hlt : ci < n
    · obtain ⟨u0, e0⟩ := (unhide hC).2.1 ci hlt
      have g0 := (unhide hC).2.2 ci hlt
      have hRs := hide (unhide hC).1
      go_wp2_with (at_make; refine wpList_make_full _ rfl _ _ 126 rfl wo.heap.size 79 i1 (.agg #[.pointer none, .pointer none]) 2 Tryz.underlying126 hi1 hy0 hy1 .i64 .i64 _ _ n rfl rfl rfl rfl hb1 hm0 (Nat.le_refl _) ?_; intro w2 hown hgrow; have C2 := hide (own2_cls rfl hown); have k2 : Kept 0 0 wo w2 := ⟨hgrow.os, hgrow.tape, hgrow.output, hgrow.size, fun i hi _ => hgrow.block i hi (by simp)⟩; have e1 := k2.cell0 e0; have g1 := k2.loose0 (a := ⟨R, ci, none⟩) (unhide hRs) g0; have e2 := cell_on w2 R ci (.slice (some ⟨wo.heap.size, 0, none⟩) n n) _ e1; clear hown hgrow e0 g0)
      obtain ⟨r, hr⟩ : ∃ r, r = wo.heap.size := ⟨_, rfl⟩
      have HRr := hide hr
      rw [← hr] at C2 e2 ⊢
      obtain ⟨wi, hwi'⟩ : ∃ wi, wi = w2.setCell ⟨R, ci, none⟩ (.slice (some ⟨r, 0, none⟩) n n) := ⟨_, rfl⟩
      have hrR : r ≠ R := by have := unhide hRs; omega
      have k3 : Kept R (R + 1) w2 wi := by rw [hwi']; exact (Kept.refl _ _ _).setCell (p := ⟨R, ci, none⟩) (Nat.le_refl _) (Nat.lt_succ_self _) _
      have kwi : Kept R (R + 1) wo wi := (k2.any).trans k3
      have Ci := hide ((unhide C2).kept k3 (by omega))
      have CR : Hid (Cls wi R n) := by
        show Cls _ _ _
        rw [hwi']
        exact ((unhide hC).kept k2 (by omega)).set
      have hlr : r < w2.heap.size := (unhide C2).1
      have hsz2 : w2.heap.size = wi.heap.size := by rw [hwi', size_set]
      have kW : Kept 0 0 W wi := ((kb.trans k2).wide k3 (by have := unhide HR; have := unhide SW; omega))
      rw [← hwi'] at e2 ⊢
      -- the rows before this one stand
      have hold : ∀ i, i < ci → ∃ r', wi.cell? ⟨R, i, none⟩ = some (.slice (some ⟨r', 0, none⟩) n n) ∧ S r' ∧ R < r' ∧ r' < r ∧ ∀ j, j < n → wi.cell? ⟨r', j * 2, none⟩ = some (.pointer (some ⟨G (2 * (i * n + j)), 0, none⟩)) ∧ wi.cell? ⟨r', j * 2 + 1, none⟩ = some (.pointer (some ⟨G (2 * (i * n + j) + 1), 0, none⟩)) := fun i hi => by
        obtain ⟨r', c', s1, s2, s3, s4⟩ := (unhide hS).2.2 i hi
        exact ⟨r', by rw [hwi']; exact cell_off _ _ _ _ _ _ (k2.cell0 c') (by omega), s1, s2, by omega, fun j hj => ⟨kwi.cellOut (a := ⟨r', j * 2, none⟩) (.inr (by dsimp only; omega)) (s4 j hj).1, kwi.cellOut (a := ⟨r', j * 2 + 1, none⟩) (.inr (by dsimp only; omega)) (s4 j hj).2⟩⟩
      have J1 : Hid (J (ci * n) G (fun y => S y ∨ y = r) wi) := by
        have := unhide HJS _ _ _ _ r (unhide hJ).1 (by omega)
        exact unhide HJM _ _ _ _ _ this ⟨kwi.os, kwi.tape, kwi.output, kwi.size, fun i hi ho => kwi.block i hi (by rcases Nat.lt_trichotomy i R with q | q | q; exact .inl q; exact absurd (.inl (by rw [q]; exact (unhide hS).2.1)) ho; exact .inr q)⟩
      have S1 : Hid (∀ x, (S x ∨ x = r) → w.heap.size ≤ x ∧ x < wi.heap.size) := fun x hx => by
        rcases hx with hx | hx
        · have := (unhide hJ).2.1 x hx; have := kwi.size; omega
        · subst hx; have := unhide HR; have := unhide hRs; omega
      have SR : Hid (S R ∧ S w.heap.size) := ⟨(unhide hS).2.1, (unhide hJ).2.2⟩
      have HOLD := hide hold
      have KWI := hide kW
      have KOI := hide kwi
      have HRO : Hid (r = wo.heap.size) := hr
      have E2 := hide e2
      have hrw : r < wi.heap.size := by omega
      have hnr : Hid (∀ x, x < wo.heap.size → x ≠ r) := fun x hx => by omega
      have hRr2 : Hid (R < r) := by show _ < _; have := unhide hRs; omega
      have hWR : Hid (w.heap.size + 1 = R) := (unhide HR).symm
      have hsW := hide (unhide SW)
      clear hr hwi' k3 kwi C2 hlr hsz2 kW hold e1 g1 k2 hS hJ hC kb HR hRs HRr SW
      go_loopw [25] (fun s25 wx => ∃ (cj : Nat) (G' : Nat → Nat), s25 = .int .i64 cj ∧ cj ≤ n ∧ Hid (∀ j, j < cj → wx.cell? ⟨r, j * 2, none⟩ = some (.pointer (some ⟨G' (2 * (ci * n + j)), 0, none⟩)) ∧ wx.cell? ⟨r, j * 2 + 1, none⟩ = some (.pointer (some ⟨G' (2 * (ci * n + j) + 1), 0, none⟩))) ∧ Hid ((∀ p, p < 2 * (ci * n) → G' p = G p) ∧ J (ci * n + cj) G' (fun y => S y ∨ y = r) wx) ∧ Hid (Cls wx r (n * 2)) ∧ Kept r (r + 1) wi wx) (fun s25 _ => n - (intOf s25).toNat)
      case atStart => exact ⟨0, G, rfl, Nat.zero_le _, fun j hj => by omega, ⟨fun _ _ => rfl, unhide J1⟩, Ci, Kept.refl _ _ _⟩
      case round =>
        clear Ci J1
        obtain ⟨cj, G', rfl, hcj, hD, hJ', hCr, kx⟩ := hrel
        have hwj : IntKind.i64.wrap ((cj : Int) + 1) = ((cj + 1 : Nat) : Int) := by rw [IntKind.wrap_i64]; omega
        by_cases hltj : cj < n
        · have hq1 := unhide hRr2
          have hq2 := unhide hWR
          have hq3 := unhide hsW
          have E3 := hide ((kx.drew).cellOut (a := ⟨R, ci, none⟩) (by dsimp only; omega) (unhide E2))
          obtain ⟨u1, e3⟩ := (unhide hCr).2.1 (cj * 2) (by omega)
          obtain ⟨u2, e3'⟩ := (unhide hCr).2.1 (cj * 2 + 1) (by omega)
          have g3 := (unhide hCr).2.2 (cj * 2) (by omega)
          have g3' := (unhide hCr).2.2 (cj * 2 + 1) (by omega)
          have hrs := (unhide hCr).1
          have KWx : Kept 0 0 W wr.drew := ((unhide KWI).wide kx (by omega)).drew
          have hcall := unhide HH ci cj wr.drew G' (fun y => S y ∨ y = r) hlt hltj (fun x hx => by have := unhide S1 x hx; have := kx.size; exact ⟨by omega, by show x < wr.heap.size; omega⟩) (k0.trans KWx) (unhide HJM _ _ _ _ _ (unhide hJ').2 ((Kept.refl 0 0 wr).drew).toMod)
          have e4 := E3
          replace e4 := unhide e4
          have KX := hide kx.drew
          have HQ1 := hide hq1
          have HQ2 := hide hq2
          have HQ3 := hide hq3
          have HRS := hide hrs
          clear hq1 hq2 hq3 E3 kx KWx hrs
          go_wp2_with fail
          refine wp_region_held_drew (S := (fun w' => w'.cell? ⟨R, ci, none⟩ = some (.slice (some ⟨r, 0, none⟩) n n))) (by kernel_rfl) ?_ (fun hHeld => ?_)
          · exact e4
          refine wpAnyH_take (i := 0) (oi := _) (v := .slice (some ⟨R, 0, none⟩) n n) rfl (by kernel_rfl) (by kernel_rfl) (by kernel_rfl) (fun _ _ _ h => h) (Or.inl ⟨by rfl, ?_⟩) hHeld ?_
          · intro wq hSw
            try dsimp only at hSw
            go_simp
          try simp only [Act.put, List.getElem_toArray, List.getElem_cons_succ, List.getElem_cons_zero, List.setIfInBounds_toArray, List.set_cons_zero, List.set_cons_succ]
          refine wpAnyH_take (i := 1) (oi := _) (v := .int .i64 (ci : Int)) rfl (by kernel_rfl) (by kernel_rfl) (by kernel_rfl) (fun _ _ _ h => h) (Or.inl ⟨by rfl, ?_⟩) hHeld ?_
          · intro wq hSw
            try dsimp only at hSw
            go_simp
          try simp only [Act.put, List.getElem_toArray, List.getElem_cons_succ, List.getElem_cons_zero, List.setIfInBounds_toArray, List.set_cons_zero, List.set_cons_succ]
          refine wpAnyH_take (i := 2) (oi := _) (v := .pointer (some ⟨R, ci, none⟩)) rfl (by kernel_rfl) (by kernel_rfl) (by kernel_rfl) (fun _ _ _ h => h) (Or.inl ⟨by rfl, ?_⟩) hHeld ?_
          · intro wq hSw
            try dsimp only at hSw
            go_simp
          try simp only [Act.put, List.getElem_toArray, List.getElem_cons_succ, List.getElem_cons_zero, List.setIfInBounds_toArray, List.set_cons_zero, List.set_cons_succ]
          refine wpAnyH_take (i := 3) (oi := _) (v := .slice (some ⟨r, 0, none⟩) n n) rfl (by kernel_rfl) (by kernel_rfl) (by kernel_rfl) (fun _ _ _ h => h) (Or.inl ⟨by rfl, ?_⟩) hHeld ?_
          · intro wq hSw
            try dsimp only at hSw
            go_simp
          try simp only [Act.put, List.getElem_toArray, List.getElem_cons_succ, List.getElem_cons_zero, List.setIfInBounds_toArray, List.set_cons_zero, List.set_cons_succ]
          refine wpAnyH_take (i := 4) (oi := _) (v := .int .i64 (cj : Int)) rfl (by kernel_rfl) (by kernel_rfl) (by kernel_rfl) (fun _ _ _ h => h) (Or.inl ⟨by rfl, ?_⟩) hHeld ?_
          · intro wq hSw
            try dsimp only at hSw
            go_simp
          try simp only [Act.put, List.getElem_toArray, List.getElem_cons_succ, List.getElem_cons_zero, List.setIfInBounds_toArray, List.set_cons_zero, List.set_cons_succ]
          refine wpAnyH_take (i := 5) (oi := _) (v := .func (.func FN) #[] caps) rfl (by kernel_rfl) (by kernel_rfl) (by kernel_rfl) (fun _ _ _ h => h) (Or.inl ⟨by rfl, ?_⟩) hHeld ?_
          · intro wq hSw
            try dsimp only at hSw
            go_simp
          try simp only [Act.put, List.getElem_toArray, List.getElem_cons_succ, List.getElem_cons_zero, List.setIfInBounds_toArray, List.set_cons_zero, List.set_cons_succ]
          refine wpAnyH_take (i := 6) (oi := _) (v := .int .i64 (ci : Int)) rfl (by kernel_rfl) (by kernel_rfl) (by kernel_rfl) (fun _ _ _ h => h) (Or.inl ⟨by rfl, ?_⟩) hHeld ?_
          · intro wq hSw
            try dsimp only at hSw
            go_simp
          try simp only [Act.put, List.getElem_toArray, List.getElem_cons_succ, List.getElem_cons_zero, List.setIfInBounds_toArray, List.set_cons_zero, List.set_cons_succ]
          refine wpAnyH_take (i := 7) (oi := _) (v := .int .i64 (cj : Int)) rfl (by kernel_rfl) (by kernel_rfl) (by kernel_rfl) (fun _ _ _ h => h) (Or.inl ⟨by rfl, ?_⟩) hHeld ?_
          · intro wq hSw
            try dsimp only at hSw
            go_simp
          try simp only [Act.put, List.getElem_toArray, List.getElem_cons_succ, List.getElem_cons_zero, List.setIfInBounds_toArray, List.set_cons_zero, List.set_cons_succ]
          refine wpAnyH_ready (rs := [8]) (by kernel_rfl) (by simp) ?_
          refine AllReadyH.cons rfl (fun KK hK => ?_) AllReadyH.nil
          simp only [List.getElem_toArray, List.getElem_cons_succ, List.getElem_cons_zero]
          rw [if_pos (by rfl)]
          refine wpv2c FN (.tmp 33) (.tmp 34) (.tmp 35) _ caps rfl rfl hcf (.int .i64 (ci : Int)) (.int .i64 (cj : Int)) rfl rfl hcall ?_
          rintro e w3 ⟨ga, gb, rfl, jp, k3⟩
          have JP := hide jp
          clear jp
          refine ⟨_, rfl, ?_⟩
          replace e4 := k3.cell0 e4
          have e5 := k3.cell0 (show wr.drew.cell? ⟨r, cj * 2, none⟩ = some u1 from e3)
          have e5' := k3.cell0 (show wr.drew.cell? ⟨r, cj * 2 + 1, none⟩ = some u2 from e3')
          have g5 := k3.loose0 (a := ⟨r, cj * 2, none⟩) (W := wr.drew) (unhide HRS) g3
          have g5' := k3.loose0 (a := ⟨r, cj * 2 + 1, none⟩) (W := wr.drew) (unhide HRS) g3'
          clear hcall e3 g3 e3' g3'
          clear hHeld
          refine hK.out _ _ ?_ (fun hHeld => ?_)
          · exact e4
          clear hK KK
          try simp only [Act.put, List.getElem_toArray, List.getElem_cons_succ, List.getElem_cons_zero, List.setIfInBounds_toArray, List.set_cons_zero, List.set_cons_succ]
          refine wpAnyH_take (i := 9) (oi := _) (v := .pointer (some ⟨r, cj * 2, none⟩)) rfl (by kernel_rfl) (by kernel_rfl) (by kernel_rfl) (fun _ _ _ h => h) (Or.inl ⟨by rfl, ?_⟩) hHeld ?_
          · intro wq hSw
            try dsimp only at hSw
            go_simp
          try simp only [Act.put, List.getElem_toArray, List.getElem_cons_succ, List.getElem_cons_zero, List.setIfInBounds_toArray, List.set_cons_zero, List.set_cons_succ]
          refine wpAnyH_ready (rs := [10]) (by kernel_rfl) (by simp) ?_
          refine AllReadyH.cons rfl (fun KK hK => ?_) AllReadyH.nil
          simp only [List.getElem_toArray, List.getElem_cons_succ, List.getElem_cons_zero]
          rw [if_pos (by rfl)]
          go_simp
          have e6 := cell_aside (r := ⟨r, cj * 2 + 1, none⟩) (.pointer (some ⟨gb, 0, none⟩)) (by dsimp only; exact hrR) (cell_aside (r := ⟨r, cj * 2, none⟩) (.pointer (some ⟨ga, 0, none⟩)) (by dsimp only; exact hrR) e4)
          clear hHeld
          refine hK.out _ _ ?_ (fun hHeld => ?_)
          · exact e6
          clear hK KK
          try simp only [Act.put, List.getElem_toArray, List.getElem_cons_succ, List.getElem_cons_zero, List.setIfInBounds_toArray, List.set_cons_zero, List.set_cons_succ]
          refine wpAnyH_done (by kernel_rfl) ?_ _
          have hq1 := unhide HQ1
          have hq2 := unhide HQ2
          have hq3 := unhide HQ3
          have hrs := unhide HRS
          have ks : Kept r (r + 1) w3 ((w3.setCell ⟨r, cj * 2, none⟩ (.pointer (some ⟨ga, 0, none⟩))).setCell ⟨r, cj * 2 + 1, none⟩ (.pointer (some ⟨gb, 0, none⟩))) := ((Kept.refl _ _ _).setCell (p := ⟨r, cj * 2, none⟩) (Nat.le_refl _) (Nat.lt_succ_self _) _).setCell (p := ⟨r, cj * 2 + 1, none⟩) (Nat.le_refl _) (Nat.lt_succ_self _) _
          have s3 := k3.size
          have sd : wr.drew.heap.size = wr.heap.size := rfl
          have D2 : Hid (∀ j, j < cj + 1 → ((w3.setCell ⟨r, cj * 2, none⟩ (.pointer (some ⟨ga, 0, none⟩))).setCell ⟨r, cj * 2 + 1, none⟩ (.pointer (some ⟨gb, 0, none⟩))).cell? ⟨r, j * 2, none⟩ = some (.pointer (some ⟨updH G' (ci * n + cj) ga gb (2 * (ci * n + j)), 0, none⟩)) ∧ ((w3.setCell ⟨r, cj * 2, none⟩ (.pointer (some ⟨ga, 0, none⟩))).setCell ⟨r, cj * 2 + 1, none⟩ (.pointer (some ⟨gb, 0, none⟩))).cell? ⟨r, j * 2 + 1, none⟩ = some (.pointer (some ⟨updH G' (ci * n + cj) ga gb (2 * (ci * n + j) + 1), 0, none⟩))) := by
            intro j hj
            by_cases e : j = cj
            · subst e
              rw [updH_lo, updH_hi]
              exact ⟨cell_off _ _ _ _ _ _ (cell_on _ _ _ _ _ e5) (by omega), cell_on _ _ _ _ _ (cell_off _ _ _ _ _ _ e5' (by omega))⟩
            · rw [updH_off G' (by omega) (by omega), updH_off G' (by omega) (by omega)]
              exact ⟨cell_off _ _ _ _ _ _ (cell_off _ _ _ _ _ _ (k3.cell0 (show wr.drew.cell? ⟨r, j * 2, none⟩ = some _ from (unhide hD j (by omega)).1)) (by omega)) (by omega), cell_off _ _ _ _ _ _ (cell_off _ _ _ _ _ _ (k3.cell0 (show wr.drew.cell? ⟨r, j * 2 + 1, none⟩ = some _ from (unhide hD j (by omega)).2)) (by omega)) (by omega)⟩
          have J6 : Hid ((∀ p, p < 2 * (ci * n) → updH G' (ci * n + cj) ga gb p = G p) ∧ J (ci * n + (cj + 1)) (updH G' (ci * n + cj) ga gb) (fun y => S y ∨ y = r) ((w3.setCell ⟨r, cj * 2, none⟩ (.pointer (some ⟨ga, 0, none⟩))).setCell ⟨r, cj * 2 + 1, none⟩ (.pointer (some ⟨gb, 0, none⟩)))) :=
            ⟨fun p hp => by rw [updH_off G' (by omega) (by omega)]; exact (unhide hJ').1 p hp, unhide HJM _ _ _ _ _ (unhide JP) ⟨ks.os, ks.tape, ks.output, ks.size, fun i hi ho => ks.block i hi (by rcases Nat.lt_trichotomy i r with q | q | q; exact .inl q; exact absurd (.inr q) ho; exact .inr q)⟩⟩
          have C6 : Hid (Cls ((w3.setCell ⟨r, cj * 2, none⟩ (.pointer (some ⟨ga, 0, none⟩))).setCell ⟨r, cj * 2 + 1, none⟩ (.pointer (some ⟨gb, 0, none⟩))) r (n * 2)) := (((unhide hCr).kept ((Kept.refl 0 0 wr).drew) (by omega)).kept k3 (by omega)).set.set
          have K6 := hide (((unhide KX).trans k3.any).trans ks)
          clear hHeld JP ks s3 sd hq1 hq2 hq3 hrs hD hJ' hCr e4 e5 e6 g5 e5' g5' k3
          go_wp2
          go_roundw
          case rel => exact ⟨cj + 1, _, by simp, hltj, D2, J6, C6, unhide K6⟩
          case measure => simp [intOf]; omega
        · have hcn : cj = n := by omega
          subst hcn
          have hq1 := unhide hRr2
          have hq2 := unhide hWR
          have hq3 := unhide hsW
          have hsq : Hid (SqH (fun y => S y ∨ y = r) wr R cj (ci + 1) G') := by
            refine ⟨Nat.lt_of_lt_of_le (unhide CR).1 kx.size, .inl (unhide SR).1, fun i hi => ?_⟩
            by_cases e : i = ci
            · subst e
              exact ⟨r, kx.cellOut (a := ⟨R, i, none⟩) (by dsimp only; omega) (unhide E2), .inr rfl, hq1, (unhide hCr).1, fun j hj => unhide hD j hj⟩
            · obtain ⟨r', c', s1, s2, s3, s4⟩ := unhide HOLD i (by omega)
              refine ⟨r', kx.cellOut (a := ⟨R, i, none⟩) (by dsimp only; omega) c', .inl s1, s2, by have := (unhide hCr).1; omega, fun j hj => ?_⟩
              have h5 : (i + 1) * cj ≤ ci * cj := Nat.mul_le_mul_right cj (by omega)
              have h6 : (i + 1) * cj = i * cj + cj := Nat.succ_mul i cj
              rw [(unhide hJ').1 _ (by omega), (unhide hJ').1 _ (by omega)]
              exact ⟨kx.cellOut (a := ⟨r', j * 2, none⟩) (.inl s3) (s4 j hj).1, kx.cellOut (a := ⟨r', j * 2 + 1, none⟩) (.inl s3) (s4 j hj).2⟩
          have J7 : Hid (J ((ci + 1) * cj) G' (fun y => S y ∨ y = r) wr ∧ (∀ x, (S x ∨ x = r) → w.heap.size ≤ x ∧ x < wr.heap.size) ∧ (S w.heap.size ∨ w.heap.size = r)) :=
            ⟨by rw [Nat.succ_mul]; exact (unhide hJ').2, fun x hx => by (have := unhide S1 x hx; have := kx.size; omega), .inl (unhide SR).2⟩
          have hcl : Hid (Cls wr R cj) := (unhide CR).kept kx (by omega)
          have KWx := hide ((unhide KWI).wide kx (by omega))
          clear hD hJ' hCr kx hq1 hq2 hq3
          go_wp2
          go_roundw
          case rel => exact ⟨ci + 1, G', _, by simp, hlt, hsq, J7, hcl, unhide KWx⟩
          case measure => simp [intOf]; omega
    · have hcn : ci = n := by omega
      subst hcn
      have hq2 := unhide HR
      have hq3 := unhide SW
      have C4 := kb.cell0 c4
      have F4 := kb.loose0 (World.block_lt_of_cell? _ _ c4) f4
      have ks : Kept w.heap.size (w.heap.size + 1) wo (wo.setCell ⟨w.heap.size, 0, none⟩ (.slice (some ⟨R, 0, none⟩) ci ci)) := (Kept.refl _ _ _).setCell (p := ⟨w.heap.size, 0, none⟩) (Nat.le_refl _) (Nat.lt_succ_self _) _
      have E5 := cell_on wo w.heap.size 0 (.slice (some ⟨R, 0, none⟩) ci ci) _ C4
      have K5 := hide ((k0.trans kb).wide ks (Nat.le_refl _))
      have S5 : Hid (SqH S (wo.setCell ⟨w.heap.size, 0, none⟩ (.slice (some ⟨R, 0, none⟩) ci ci)) R ci ci G) := (unhide hS).keptY ks (by omega)
      have J5 : Hid (J (ci * ci) G S (wo.setCell ⟨w.heap.size, 0, none⟩ (.slice (some ⟨R, 0, none⟩) ci ci)) ∧ ∀ x, S x → w.heap.size ≤ x ∧ x < (wo.setCell ⟨w.heap.size, 0, none⟩ (.slice (some ⟨R, 0, none⟩) ci ci)).heap.size) :=
        ⟨unhide HJM _ _ _ _ _ (unhide hJ).1 ⟨ks.os, ks.tape, ks.output, ks.size, fun i hi ho => ks.block i hi (by rcases Nat.lt_trichotomy i w.heap.size with q | q | q; exact .inl q; exact absurd (by rw [q]; exact (unhide hJ).2.2) ho; exact .inr q)⟩, fun x hx => by rw [size_set]; exact (unhide hJ).2.1 x hx⟩
      have HL : Hid (w.heap.size < R) := by show _ < _; omega
      clear hS hJ hC kb ks hq2 hq3 c4 f4
      go_wp2
      exact bodyPost_ret (v := .agg #[.slice (some ⟨R, 0, none⟩) ci ci]) (by simp [results, Tryz.results91, go_sem, E5]) rfl ⟨R, G, S, rfl, unhide S5, (unhide J5).1, (unhide J5).2, unhide HL, unhide K5⟩

/-- Each call makes two new numbers. -/
theorem makeSquareH_new {n : Nat} (hn : n ≤ 1000) (FN : FuncId) (hcf : ∀ (w : World) (args : Array Value), (callFunc FN args).run Tryz.prog w = .ok (.enter FN args) w) (caps : Array Value) (F : Nat → DE) (w : World)
    (H : ∀ i j w', i < n → j < n → Kept 0 0 w w' → Calls Tryz.prog FN (#[.int .i64 (i : Int), .int .i64 (j : Int)] ++ caps) w' fun e w'' => ∃ g1 g2 mid, e = .returned (.agg #[.pointer (some ⟨g1, 0, none⟩), .pointer (some ⟨g2, 0, none⟩)]) ∧ Dw w'.heap.size mid w'' g1 (F (2 * (i * n + j))) ∧ Dw mid w''.heap.size w'' g2 (F (2 * (i * n + j) + 1)) ∧ w'.heap.size ≤ mid ∧ mid ≤ w''.heap.size ∧ Kept 0 0 w' w'') :
    Calls Tryz.prog 91 #[.int .i64 (n : Int), .func (.func FN) #[] caps] w fun e w' => ∃ R G S, e = .returned (.agg #[.slice (some ⟨R, 0, none⟩) n n]) ∧ SqH S w' R n n G ∧ Nums w.heap.size S w' (2 * (n * n)) G F ∧ (∀ x, S x → w.heap.size ≤ x ∧ x < w'.heap.size) ∧ w.heap.size < R ∧ Kept 0 0 w w' := by
  refine makeSquareH_any hn FN hcf caps w (fun k G S w' => Nums w.heap.size S w' (2 * k) G F) ?_ (fun k G S w1 w2 h m => h.mod m) (fun k G S w1 x h hx => h.more hx) ?_
  · intro S hS
    exact ⟨fun _ => 0, fun _ => 0, fun p hp => absurd hp (Nat.not_lt_zero _), fun p q hp => absurd hp (Nat.not_lt_zero _)⟩
  · intro i j w' G S hi hj hS k hJ
    refine (H i j w' hi hj k).mono ?_
    rintro e w'' ⟨g1, g2, mid, rfl, d1, d2, m1, m2, k'⟩
    exact ⟨g1, g2, rfl, hJ.step2 k' k.size (fun x hx => (hS x hx).2) d1 d2 m1 m2, k'⟩

end Go.Proofs.YthahoabkehcgbaaGreatDoor


namespace Go.Proofs.YthahoabkehcgbaaGreatDoor
open Go.RowKit
set_option linter.unusedVariables false
set_option maxRecDepth 8000
set_option linter.unusedSimpArgs false

theorem own_slice2 {w : World} {base : Nat} {e : TypeId} {v : Value} {n : Nat} {xs : List Value} (h : w.ownsRow base e 2 v n xs) : ∃ a cap, v = .slice a n cap := by
  rcases h.2 with ⟨rfl, rfl⟩ | ⟨g, cap, cur, hv, _⟩
  · exact ⟨none, 0, rfl⟩
  · exact ⟨_, cap, hv⟩

set_option maxHeartbeats 4000000 in
theorem growH_impl {n : Nat} (h0 : 0 < n) (hn : n ≤ 1000000) (w : World) :
    Calls Tryz.prog 168 #[.slice none 0 0, .int .i64 (n : Int)] w fun e w' => ∃ v, e = .returned v ∧ w'.ownsRow w.heap.size 79 2 v 0 [] ∧ Kept 0 0 w w' := by
  obtain ⟨i1, hi1, hy0, hy1, hy2⟩ := info_parts Tryz.infoHD
  have hrun := fun ty => Lib.run_append_nil_zeros (P := Tryz.prog) w 126 3 ty 79 i1 (.agg #[.pointer none, .pointer none]) .i64 .i64 Tryz.underlying126 Tryz.underlying3 hi1 hy0 n h0 (by rw [hy1]; decide) (by omega) (by rw [hy2]; omega)
  have hge := grownCap_ge w n 0 79
  have hle := grownCap_le_maxLen w n 0 79 (by unfold maxLen; omega)
  obtain ⟨C, hC⟩ : ∃ C, C = grownCap w n 0 79 := ⟨_, rfl⟩
  rw [← hC] at hge hle hrun
  have HRUN := hide hrun
  have hown : (w.drew.alloc (.cells (Builtin.zeroCells (Value.agg #[.pointer none, .pointer none]).cells n ++ Builtin.zeroCells (Value.agg #[.pointer none, .pointer none]).cells (C - n)) 79)).ownsRow w.heap.size 79 2 (.slice (some ⟨w.heap.size, 0, none⟩) 0 C) 0 [] :=
    ⟨rfl, .inr ⟨w.heap.size, C, _, rfl, Nat.le_refl _, heap_alloc_new w.drew _, Nat.zero_le _, hle, by simp [size_zeroCells, Value.cells]; omega, by simp⟩⟩
  have OWN := hide hown
  have hC63 : C ≤ 9223372036854775807 := by unfold maxLen at hle; omega
  have hw1 : wrap64 ((n : Int) - 0) = (n : Int) := by unfold wrap64; omega
  have hw2 : IntKind.i64.wrap ((n : Int) - 0) = (n : Int) := by rw [IntKind.wrap_i64]; omega
  have hw3 : IntKind.i64.wrap (n : Int) = (n : Int) := by rw [IntKind.wrap_i64]; omega
  have hp1 : ¬ ((n : Int) < 0) := by omega
  have hp2 : (n : Int) > 0 := by omega
  clear hrun hown hC hi1 hy0 hy1 hy2 hle
  go_enter Tryz.func168, Tryz.ntmps168
  go_wp2_with (at_builtin; refine Lib.wpList_append_run _ rfl _ _ _ _ rfl _ _ rfl rfl _ _ (unhide HRUN _) ?_)
  go_ret
  exact ⟨_, rfl, unhide OWN, ((Kept.refl 0 0 w).drew).alloc _⟩

set_option maxHeartbeats 16000000 in
theorem concatH_impl {S : Nat → Prop} {R n : Nat} {G : Nat → Nat} (h0 : 0 < n) (hn : n ≤ 1000) (w : World) (s : SqH S w R n n G) :
    Calls Tryz.prog 109 #[.slice (some ⟨R, 0, none⟩) n n] w fun e w' => ∃ v, e = .returned v ∧ w'.ownsRow w.heap.size 79 2 v (n * n) (ptrs G (2 * (n * n))) ∧ Kept 0 0 w w' := by
  have SQ := hide s
  have hnn : n * n ≤ 1000000 := Nat.mul_le_mul hn hn
  have hn0 : 0 < n * n := Nat.mul_pos h0 h0
  obtain ⟨i1, hi1, hy0, hy1, hy2⟩ := info_parts Tryz.infoHD
  clear s
  go_enter Tryz.func109, Tryz.ntmps109
  go_wp2_with fail
  go_loopw [11, 3] (fun s11 s3 wr => ∃ i : Nat, s11 = .int .i64 i ∧ s3 = .int .i64 ((i * n : Nat) : Int) ∧ i ≤ n ∧ w = wr) (fun s11 _ _ => n - (intOf s11).toNat)
  case atStart => exact ⟨0, rfl, by simp, Nat.zero_le _, rfl⟩
  case round =>
    obtain ⟨i, rfl, rfl, hi, rfl⟩ := hrel
    have hwi : IntKind.i64.wrap ((i : Int) + 1) = ((i + 1 : Nat) : Int) := by rw [IntKind.wrap_i64]; omega
    by_cases hlt : i < n
    · obtain ⟨r, c, -, -, -, -⟩ := (unhide SQ).2.2 i hlt
      have hmul : (i + 1) * n = i * n + n := Nat.succ_mul i n
      have hle : (i + 1) * n ≤ n * n := Nat.mul_le_mul_right n hlt
      obtain ⟨q, hq⟩ : ∃ q, q = i * n := ⟨_, rfl⟩
      obtain ⟨q', hq'⟩ : ∃ q', q' = (i + 1) * n := ⟨_, rfl⟩
      rw [← hq] at hmul ⊢
      rw [← hq'] at hmul hle
      have hws : IntKind.i64.wrap ((q : Int) + (n : Int)) = (q' : Int) := by rw [IntKind.wrap_i64]; omega
      have hp : ¬ ((q' : Int) < 0) := by omega
      have HQ := hide hq'
      clear hq hmul hle hq'
      go_wp2
      go_roundw
      case rel => exact ⟨i + 1, by simp, by rw [← unhide HQ], hlt, trivial⟩
      case measure => simp [intOf]; omega
    · have hin : i = n := by omega
      subst hin
      have hg := growH_impl hn0 hnn w
      have HNN := hide hnn
      have HN0 := hide hn0
      clear hnn hn0
      go_wp2_with fail
      refine hg.mono ?_
      rintro e w1 ⟨v1, rfl, o1, k1⟩
      obtain ⟨a1, c1, hv1⟩ := own_slice2 o1
      subst hv1
      have O1 := hide o1
      clear o1 hg hwi
      go_wp2_with fail
      go_loopw [27, 6] (fun s27 s6 wr => ∃ (j : Nat) (v : Value), s27 = .int .i64 j ∧ s6 = v ∧ j ≤ i ∧ Hid (wr.ownsRow w.heap.size 79 2 v (j * i) (ptrs G (2 * (j * i)))) ∧ Kept 0 0 w wr) (fun s27 _ _ => i - (intOf s27).toNat)
      case atStart => exact ⟨0, _, rfl, rfl, Nat.zero_le _, by show World.ownsRow _ _ _ _ _ _ _; rw [Nat.zero_mul]; exact unhide O1, k1⟩
      case round =>
        clear O1 k1
        obtain ⟨j, v, rfl, rfl, hj, hO, k⟩ := hrel
        obtain ⟨av, cv, hv⟩ := own_slice2 (unhide hO)
        subst hv
        have hwj : IntKind.i64.wrap ((j : Int) + 1) = ((j + 1 : Nat) : Int) := by rw [IntKind.wrap_i64]; omega
        by_cases hltj : j < i
        · obtain ⟨r, c, -, -, -, q4⟩ := (unhide SQ).2.2 j hltj
          replace c := k.cell0 c
          have hmul : (j + 1) * i = j * i + i := Nat.succ_mul j i
          have hle : (j + 1) * i ≤ i * i := Nat.mul_le_mul_right i hltj
          have hnn2 := unhide HNN
          have hlk : (ptrs (fun q => G (2 * (j * i) + q)) (2 * i)).length = i * 2 := by rw [ptrs_length]; omega
          have HN : Hid (∀ q u, (ptrs (fun q => G (2 * (j * i) + q)) (2 * i))[q]? = some u → wr.cell? ((⟨r, 0, none⟩ : Addr).add q) = some u) := fun q u hq => by
            have hql : q < 2 * i := by
              have := (List.getElem?_eq_some_iff.1 hq).1
              rwa [ptrs_length] at this
            rw [ptrs_at _ hql] at hq
            cases hq
            rw [Addr.add_lit, Nat.zero_add]
            have h4 := q4 (q / 2) (by omega)
            by_cases ev : q % 2 = 0
            · have := k.cell0 h4.1
              rw [show q / 2 * 2 = q by omega, show 2 * (j * i + q / 2) = 2 * (j * i) + q by omega] at this
              exact this
            · have := k.cell0 h4.2
              rw [show q / 2 * 2 + 1 = q by omega, show 2 * (j * i + q / 2) + 1 = 2 * (j * i) + q by omega] at this
              exact this
          have H1 : Hid (∀ u ∈ ptrs (fun q => G (2 * (j * i) + q)) (2 * i), u.oneCell' = true) := fun u hu => by
            unfold ptrs at hu
            obtain ⟨q, -, rfl⟩ := List.mem_map.1 hu
            rfl
          have C3 : Hid (j * i + i ≤ maxLen) := by show _ ≤ _; unfold maxLen; omega
          have C4 : Hid ((j * i + i) * 16 ≤ 140737488355328) := by show _ ≤ _; omega
          have HB := hide k.size
          have O2 := hide (unhide hO)
          have HLT := hide (unhide hO).lt
          have K := hide k
          have HM := hide hmul
          clear hmul hle hnn2 q4 hO k
          obtain ⟨q, hq⟩ : ∃ q, q = j * i := ⟨_, rfl⟩
          rw [← hq] at O2 HM C3 C4 HLT ⊢
          have HQ := hide hq
          clear hq
          go_wp2_with (at_builtin; refine wpList_append_own _ rfl _ _ 126 rfl w.heap.size 79 i1 (.agg #[.pointer none, .pointer none]) 2 16 Tryz.underlying126 hi1 hy0 hy1 hy2 rfl (by decide) _ _ _ rfl (unhide O2) ⟨r, 0, none⟩ i i (ptrs (fun q => G (2 * (j * i) + q)) (2 * i)) rfl hlk (unhide HN) (unhide H1) (unhide C3) (unhide C4) (unhide HB) ?_)
          intro v4 w4 hown4 hgrow _
          have O4 : Hid (w4.ownsRow w.heap.size 79 2 v4 ((j + 1) * i) (ptrs G (2 * ((j + 1) * i)))) := by
            show World.ownsRow _ _ _ _ _ _ _
            have h5 := hown4
            rw [unhide HQ] at h5
            rw [Nat.succ_mul, Nat.mul_add, ptrs_add]
            exact h5
          have K4 := hide ((unhide K).growNew hgrow (fun q hq => (unhide HLT q hq).1))
          clear hown4 hgrow O2 hlk HN H1 C3 C4 HB c K HLT
          go_wp2
          go_roundw
          case rel => exact ⟨j + 1, v4, by simp, rfl, hltj, O4, unhide K4⟩
          case measure => simp [intOf]; omega
        · have hjn : j = i := by omega
          subst hjn
          go_wp2
          go_ret
          exact ⟨_, rfl, unhide hO, k⟩

end Go.Proofs.YthahoabkehcgbaaGreatDoor

