/-
  The program's makeSquare: a list of rows of pointers, each made by a function of two places.
-/
import Derived.Test.YtjhbjhnficeieaaDoorDy2
import Derived.Test.YtjhbjhnficeieaaDoorBM
namespace Go.Proofs.YtjhbjhnficeieaaDoor
open Go.RowKit
set_option linter.unusedVariables false
set_option maxRecDepth 8000
set_option linter.unusedSimpArgs false

/-- A call of a function value with what it has captured, of two arguments, as one step of an open statement. -/
theorem wpv2c {P : Program} {o : Oper} {a : Act} {w : World} {K : Act → World → Prop} {Q : Exit → Act → World → Prop} {R : Ending → World → Prop}
    (n : FuncId) (f x y : Operand) (ts : Array TypeId) (caps : Array Value) (hop : o.op = Op.call { callee := Callee.value f, args := #[x, y], argTypes := ts }) (hf : a.eval f = .func (.func n) #[] caps)
    (hcf : ∀ (w : World) (args : Array Value), (callFunc n args).run P w = .ok (.enter n args) w) (vx vy : Value) (hx : a.eval x = vx) (hy : a.eval y = vy) (hc : Calls P n (#[vx, vy] ++ caps) w R) (hK : ∀ e w', R e w' → ∃ v, e = .returned v ∧ K (a.put o.dst v) w') :
    Oper.wp P o a w K Q := by
  unfold Oper.wp
  have hrun : (execOp a.eval o).run P w = .ok (.enter n (#[vx, vy] ++ caps)) w := by
    simp [execOp, hop, resolve, invoke, hx, hy, hf, Deferred.ofValue, Result.andThen, hcf]
  rw [hrun, Oper.upon_enter]
  refine hc.mono ?_
  intro e w' h
  obtain ⟨v, rfl, h2⟩ := hK e w' h
  exact h2

/-- The block g holds a dyadic number of the call's own; none of its blocks is one of X. -/
def DyP (X : Nat → Prop) (w : World) (g : Nat) (d : DE) : Prop :=
  ∃ u, Num 0 w g u d.2.1 ∧ Sd w g d.1 ∧ Ex w g d.2.2 ∧ ¬ X g ∧ ∀ i, u.ownBlock = some i → ¬ X i
theorem DyP.lt {X : Nat → Prop} {w : World} {g : Nat} {d : DE} (h : DyP X w g d) : g < w.heap.size := by obtain ⟨u, n, _⟩ := h; exact n.lt
theorem DyP.mod {X : Nat → Prop} {w w' : World} {g : Nat} {d : DE} (h : DyP X w g d) (k : Mod X w w') : DyP X w' g d := by
  obtain ⟨u, n, s, e, x1, x2⟩ := h
  exact ⟨u, n.mod k x1 x2, ⟨k.cell (a := ⟨g, 1, none⟩) x1 s.1, k.loose (a := ⟨g, 1, none⟩) x1 n.lt s.2⟩, ⟨k.cell (a := ⟨g, 2, none⟩) x1 e.1, k.loose (a := ⟨g, 2, none⟩) x1 n.lt e.2⟩, x1, x2⟩
theorem DyP.kept {X : Nat → Prop} {w w' : World} {g : Nat} {d : DE} (h : DyP X w g d) (k : Kept 0 0 w w') : DyP X w' g d := h.mod k.toMod
theorem DyP.less {X Y : Nat → Prop} {w : World} {g : Nat} {d : DE} (h : DyP X w g d) (hY : ∀ x, Y x → x < w.heap.size → X x) : DyP Y w g d := by
  obtain ⟨u, n, s, e, x1, x2⟩ := h
  exact ⟨u, n, s, e, fun h => x1 (hY _ h n.lt), fun i hi h => x2 i hi (hY _ h (n.own.lt i hi).2)⟩
theorem DyP.win {X : Nat → Prop} {lo hi : Nat} {w w' : World} {g : Nat} {d : DE} (h : DyP X w g d) (k : Kept lo hi w w') (hX : ∀ x, lo ≤ x → x < hi → X x) : DyP X w' g d :=
  h.mod ⟨k.os, k.tape, k.output, k.size, fun i hi' ho => k.block i hi' (by rcases Nat.lt_or_ge i lo with h1 | h1; exact .inl h1; rcases Nat.lt_or_ge i hi with h2 | h2; exact absurd (hX i h1 h2) ho; exact .inr h2)⟩

/-- The block r has pointers to the numbers F 0, F 1 .. F (n - 1); nothing of it is the block R. -/
def RwF (Y : Nat → Prop) (R : Nat) (w : World) (r n : Nat) (F : Nat → DE) : Prop :=
  ¬ Y r ∧ r ≠ R ∧ r + 1 ≠ R ∧ r < w.heap.size ∧ ∀ j, j < n → ∃ g, w.cell? ⟨r, j, none⟩ = some (.pointer (some ⟨g, 0, none⟩)) ∧ DyP (fun x => Y x ∨ x = R ∨ x + 1 = R) w g (F j)
/-- The block R has the rows. -/
def SqF (Y : Nat → Prop) (w : World) (R n m : Nat) (F : Nat → Nat → DE) : Prop :=
  R < w.heap.size ∧ ∀ i, i < m → ∃ r, w.cell? ⟨R, i, none⟩ = some (.slice (some ⟨r, 0, none⟩) n n) ∧ RwF Y R w r n (F i)
theorem RwF.keptW {Y : Nat → Prop} {R lo hi : Nat} {w w' : World} {r n : Nat} {F : Nat → DE} (h : RwF Y R w r n F) (k : Kept lo hi w w') (hx : ∀ x, lo ≤ x → x < hi → Y x ∨ x = R ∨ x + 1 = R) : RwF Y R w' r n F := by
  obtain ⟨h0, h1, h1', h2, h3⟩ := h
  have hr : r < lo ∨ hi ≤ r := by
    rcases Nat.lt_or_ge r lo with q | q
    · exact .inl q
    · rcases Nat.lt_or_ge r hi with q2 | q2
      · rcases hx r q q2 with h | h
        · exact absurd h h0
        · omega
      · exact .inr q2
  refine ⟨h0, h1, h1', Nat.lt_of_lt_of_le h2 k.size, fun j hj => ?_⟩
  obtain ⟨g, c, d⟩ := h3 j hj
  exact ⟨g, (World.cell?_of_block (w := w) (a := ⟨r, j, none⟩) (k.block r h2 hr)).trans c, d.win k hx⟩
theorem RwF.kept {Y : Nat → Prop} {R : Nat} {w w' : World} {r n : Nat} {F : Nat → DE} (h : RwF Y R w r n F) (k : Kept R (R + 1) w w') : RwF Y R w' r n F := h.keptW k (fun x h1 h2 => .inr (.inl (by omega)))
theorem SqF.kept {Y : Nat → Prop} {w w' : World} {R n m : Nat} {F : Nat → Nat → DE} (h : SqF Y w R n m F) (k : Kept 0 0 w w') : SqF Y w' R n m F := by
  obtain ⟨h1, h2⟩ := h
  refine ⟨Nat.lt_of_lt_of_le h1 k.size, fun i hi => ?_⟩
  obtain ⟨r, c, rw⟩ := h2 i hi
  exact ⟨r, k.cell0 c, rw.kept (k.any)⟩
theorem SqF.keptY {Y : Nat → Prop} {lo hi : Nat} {w w' : World} {R n m : Nat} {F : Nat → Nat → DE} (h : SqF Y w R n m F) (k : Kept lo hi w w') (hx : ∀ x, lo ≤ x → x < hi → Y x) (hR : R < lo ∨ hi ≤ R) : SqF Y w' R n m F := by
  obtain ⟨h1, h2⟩ := h
  refine ⟨Nat.lt_of_lt_of_le h1 k.size, fun i hi => ?_⟩
  obtain ⟨r, c, rw⟩ := h2 i hi
  exact ⟨r, (World.cell?_of_block (w := w) (a := ⟨R, i, none⟩) (k.block R h1 hR)).trans c, rw.keptW k (fun x q1 q2 => .inl (hx x q1 q2))⟩

theorem Tryd.infoPD : (Tryd.prog.info? 55).map (fun i => (i.zero, i.size, i.bytes)) = some (some (.pointer none), 1, 8) := by kernel_rfl

theorem Tryd.infoRw : (Tryd.prog.info? 71).map (fun i => (i.zero, i.size, i.bytes)) = some (some (.slice none 0 0), 1, 24) := by kernel_rfl

/-- A list of n cells of the call's own: they are there and may be written. -/
def Cls (w : World) (g n : Nat) : Prop := g < w.heap.size ∧ (∀ k, k < n → ∃ u, w.cell? ⟨g, k, none⟩ = some u) ∧ ∀ k, k < n → w.frozen? ⟨g, k, none⟩ = false
theorem Cls.kept {w w' : World} {g n l h : Nat} (c : Cls w g n) (k : Kept l h w w') (hg : g < l ∨ h ≤ g) : Cls w' g n := by
  have hb := k.block g c.1 hg
  exact ⟨Nat.lt_of_lt_of_le c.1 k.size, fun i hi => by obtain ⟨u, hu⟩ := c.2.1 i hi; exact ⟨u, (World.cell?_of_block (w := w) (a := ⟨g, i, none⟩) hb).trans hu⟩, fun i hi => (World.frozen?_of_block (w := w) (a := ⟨g, i, none⟩) hb).trans (c.2.2 i hi)⟩
theorem Cls.set {w : World} {g n p : Nat} {x : Value} (c : Cls w g n) : Cls (w.setCell ⟨g, p, none⟩ x) g n :=
  ⟨by rw [size_set]; exact c.1, fun i hi => by obtain ⟨u, hu⟩ := c.2.1 i hi; exact cells_of_setCell hu, fun i hi => by rw [frozen_set]; exact c.2.2 i hi⟩
theorem own1_cls {w : World} {base n g c : Nat} {e : TypeId} {z : Value} (hz : z.cells.size = 1) (h : w.ownsRow base e 1 (.slice (some ⟨g, 0, none⟩) n c) n (madeCells z.cells (n * 1)).toList) : Cls w g n := by
  rcases h.2 with ⟨e1, h0⟩ | ⟨g', cap, cur, e1, hb, hg, hle, hm, hs, htake⟩
  · cases e1
  · cases e1
    refine ⟨(Array.getElem?_eq_some_iff.1 hg).1, fun k hk => ?_, fun k hk => by simp [World.frozen?, hg]⟩
    have hl : (madeCells z.cells (n * 1)).toList.length = n * 1 := by simp [madeCells]
    have h1 : ∃ u, (madeCells z.cells (n * 1)).toList[k]? = some u := ⟨_, List.getElem?_eq_getElem (by omega)⟩
    obtain ⟨u, hu⟩ := h1
    refine ⟨u, ?_⟩
    rw [← htake, List.getElem?_take, if_pos (by omega)] at hu
    simpa [World.cell?, hg] using hu

theorem Kept.fresh {a b r : Nat} {w1 w2 w3 : World} (h : Kept a b w1 w2) (k : Kept r (r + 1) w2 w3) (hr : w1.heap.size ≤ r) : Kept a b w1 w3 :=
  ⟨k.os.trans h.os, k.tape.trans h.tape, k.output.trans h.output, Nat.le_trans h.size k.size, fun i hi ho => (k.block i (Nat.lt_of_lt_of_le hi h.size) (.inl (by omega))).trans (h.block i hi ho)⟩

set_option maxHeartbeats 16000000 in
theorem makeSquare_impl {n : Nat} (hn : n ≤ 1000) (FN : FuncId) (hcf : ∀ (w : World) (args : Array Value), (callFunc FN args).run Tryd.prog w = .ok (.enter FN args) w) (caps : Array Value) (Y : Nat → Prop) (F : Nat → Nat → DE) (w : World) (hY : ∀ x, Y x → x < w.heap.size)
    (H : ∀ i j w', i < n → j < n → Kept 0 0 w w' → Calls Tryd.prog FN (#[.int .i64 (i : Int), .int .i64 (j : Int)] ++ caps) w' fun e w'' => ∃ g, e = .returned (.pointer (some ⟨g, 0, none⟩)) ∧ DyP (fun x => Y x ∨ (w.heap.size ≤ x ∧ x < w'.heap.size)) w'' g (F i j) ∧ Kept 0 0 w' w'') :
    Calls Tryd.prog 25 #[.int .i64 (n : Int), .func (.func FN) #[] caps] w fun e w' => ∃ R, e = .returned (.agg #[.slice (some ⟨R, 0, none⟩) n n]) ∧ SqF Y w' R n n F ∧ w.heap.size ≤ R ∧ Kept 0 0 w w' := by
  obtain ⟨W, hW⟩ : ∃ W, W = w.alloc (.cells #[.slice none 0 0] 53) := ⟨_, rfl⟩
  have k0 : Kept 0 0 w W := by rw [hW]; exact (Kept.refl 0 0 w).alloc _
  have c4 : W.cell? ⟨w.heap.size, 0, none⟩ = some (.slice none 0 0) := by rw [hW]; exact new_cell2 _ _ _ _ _ _ rfl rfl
  have f4 : W.frozen? ⟨w.heap.size, 0, none⟩ = false := by rw [hW]; exact new_loose2 _ _ _ _ _ rfl
  have sW : W.heap.size = w.heap.size + 1 := by rw [hW]; simp
  obtain ⟨i0, hi0, hz0, hz1, hz2⟩ := info_parts Tryd.infoRw
  obtain ⟨i1, hi1, hy0, hy1, hy2⟩ := info_parts Tryd.infoPD
  have hb0 : i0.bytes * n ≤ 281474976710656 := by rw [hz2]; omega
  have hb1 : i1.bytes * n ≤ 281474976710656 := by rw [hy2]; omega
  have hm0 : n ≤ maxLen := by unfold maxLen; omega
  have HH := hide H
  have HYY := hide hY
  clear H hY
  go_enter Tryd.func25, Tryd.ntmps25
  go_wp2_with (at_make; rw [← hW]; refine wpList_make_full _ rfl _ _ 51 rfl W.heap.size 71 i0 (.slice none 0 0) 1 Tryd.underlying51 hi0 hz0 hz1 .i64 .i64 _ _ n rfl rfl rfl rfl hb0 hm0 (Nat.le_refl _) ?_; intro w1 hown hgrow)
  have C1 := hide (own1_cls rfl hown)
  have k1 : Kept 0 0 W w1 := ⟨hgrow.os, hgrow.tape, hgrow.output, hgrow.size, fun i hi _ => hgrow.block i hi (by simp)⟩
  clear hown hgrow hi0 hz0 hz1 hz2 hb0 hW
  obtain ⟨R, hR⟩ : ∃ R, R = w.heap.size + 1 := ⟨_, rfl⟩
  rw [sW, ← hR] at C1
  rw [← hR]
  have SW := hide sW
  clear sW
  have HR := hide hR
  clear hR
  go_loopw [12] (fun s12 wr => ∃ ci : Nat, s12 = .int .i64 ci ∧ ci ≤ n ∧ Hid (SqF Y wr R n ci F) ∧ Hid (Cls wr R n) ∧ Kept 0 0 W wr) (fun s12 _ => n - (intOf s12).toNat)
  case atStart => exact ⟨0, rfl, Nat.zero_le _, ⟨(unhide C1).1, fun i hi => by omega⟩, C1, k1⟩
  case round =>
    clear C1 k1
    obtain ⟨ci, rfl, hci, hS, hC, kb⟩ := hrel
    obtain ⟨wo, hwo⟩ : ∃ wo, wo = wr := ⟨_, rfl⟩
    subst hwo
    have hwi : IntKind.i64.wrap ((ci : Int) + 1) = ((ci + 1 : Nat) : Int) := by rw [IntKind.wrap_i64]; omega
    by_cases hlt : ci < n
    · obtain ⟨u0, e0⟩ := (unhide hC).2.1 ci hlt
      have g0 := (unhide hC).2.2 ci hlt
      have hRs := hide (unhide hC).1
      go_wp2_with (at_make; refine wpList_make_full _ rfl _ _ 71 rfl wo.heap.size 55 i1 (.pointer none) 1 Tryd.underlying71 hi1 hy0 hy1 .i64 .i64 _ _ n rfl rfl rfl rfl hb1 hm0 (Nat.le_refl _) ?_; intro w2 hown hgrow; have C2 := hide (own1_cls rfl hown); have k2 : Kept 0 0 wo w2 := ⟨hgrow.os, hgrow.tape, hgrow.output, hgrow.size, fun i hi _ => hgrow.block i hi (by simp)⟩; have e1 := k2.cell0 e0; have g1 := k2.loose0 (a := ⟨R, ci, none⟩) (unhide hRs) g0; have e2 := cell_on w2 R ci (.slice (some ⟨wo.heap.size, 0, none⟩) n n) _ e1; clear hown hgrow e0 g0)
      obtain ⟨r, hr⟩ : ∃ r, r = wo.heap.size := ⟨_, rfl⟩
      have HRr := hide hr
      rw [← hr] at C2 e2 ⊢
      obtain ⟨wi, hwi'⟩ : ∃ wi, wi = w2.setCell ⟨R, ci, none⟩ (.slice (some ⟨r, 0, none⟩) n n) := ⟨_, rfl⟩
      have hrR : r ≠ R := by have := unhide hRs; omega
      have k3 : Kept R (R + 1) w2 wi := by rw [hwi']; exact (Kept.refl _ _ _).setCell (p := ⟨R, ci, none⟩) (Nat.le_refl _) (Nat.lt_succ_self _) _
      have kwi : Kept R (R + 1) wo wi := (k2.any).trans k3
      have Ci := hide ((unhide C2).kept k3 (by omega))
      have CR : Hid (Cls wi R n) := by
        show Cls _ _ _
        rw [hwi']
        exact ((unhide hC).kept k2 (by omega)).set
      have hlr : r < w2.heap.size := (unhide C2).1
      have hsz2 : w2.heap.size = wi.heap.size := by rw [hwi', size_set]
      have kW : Kept 0 0 W wi := ((kb.trans k2).wide k3 (by have := unhide HR; have := unhide SW; omega))
      rw [← hwi'] at e2 ⊢
      -- the rows before this one stand
      have hold : ∀ i, i < ci → ∃ r', wi.cell? ⟨R, i, none⟩ = some (.slice (some ⟨r', 0, none⟩) n n) ∧ RwF Y R wo r' n (F i) := fun i hi => by
        obtain ⟨r', c', rw'⟩ := (unhide hS).2 i hi
        exact ⟨r', by rw [hwi']; exact cell_off _ _ _ _ _ _ (k2.cell0 c') (by omega), rw'⟩
      have HOLD := hide hold
      have KWI := hide kW
      have KOI := hide kwi
      have HRO : Hid (r = wo.heap.size) := hr
      have E2 := hide e2
      have hrw : r < wi.heap.size := by omega
      have hnr : Hid (∀ x, x < wo.heap.size → x ≠ r) := fun x hx => by omega
      have hRr2 : Hid (R < r) := by show _ < _; have := unhide hRs; omega
      have hWR : Hid (w.heap.size + 1 = R) := (unhide HR).symm
      have hsW := hide (unhide SW)
      clear hr hwi' k3 kwi C2 hlr hsz2 kW hold e1 g1 k2 hS hC kb HR hRs HRr SW
      go_loopw [25] (fun s25 wx => ∃ cj : Nat, s25 = .int .i64 cj ∧ cj ≤ n ∧ Hid (∀ j, j < cj → ∃ g, wx.cell? ⟨r, j, none⟩ = some (.pointer (some ⟨g, 0, none⟩)) ∧ DyP (fun x => Y x ∨ x = R ∨ x + 1 = R ∨ x = r) wx g (F ci j)) ∧ Hid (Cls wx r n) ∧ Kept r (r + 1) wi wx) (fun s25 _ => n - (intOf s25).toNat)
      case atStart => exact ⟨0, rfl, Nat.zero_le _, fun j hj => by omega, Ci, Kept.refl _ _ _⟩
      case round =>
        clear Ci
        obtain ⟨cj, rfl, hcj, hD, hCr, kx⟩ := hrel
        have hwj : IntKind.i64.wrap ((cj : Int) + 1) = ((cj + 1 : Nat) : Int) := by rw [IntKind.wrap_i64]; omega
        by_cases hltj : cj < n
        · have hq1 := unhide hRr2
          have hq2 := unhide hWR
          have hq3 := unhide hsW
          have E3 := hide ((kx.drew).cellOut (a := ⟨R, ci, none⟩) (by dsimp only; omega) (unhide E2))
          obtain ⟨u1, e3⟩ := (unhide hCr).2.1 cj hltj
          have g3 := (unhide hCr).2.2 cj hltj
          have hrs := (unhide hCr).1
          have KWx : Kept 0 0 W wr.drew := ((unhide KWI).wide kx (by omega)).drew
          have hcall := unhide HH ci cj wr.drew hlt hltj (k0.trans KWx)
          have e4 := E3
          replace e4 := unhide e4
          have KX := hide kx.drew
          have HQ1 := hide hq1
          have HQ2 := hide hq2
          have HQ3 := hide hq3
          have HRS := hide hrs
          clear hq1 hq2 hq3 E3 kx KWx hrs
          go_wp2_with fail
          refine wp_region_held_drew (S := (fun w' => w'.cell? ⟨R, ci, none⟩ = some (.slice (some ⟨r, 0, none⟩) n n))) (by kernel_rfl) ?_ (fun hHeld => ?_)
          · exact e4
          refine wpAnyH_take (i := 0) (oi := _) (v := .slice (some ⟨R, 0, none⟩) n n) rfl (by kernel_rfl) (by kernel_rfl) (by kernel_rfl) (fun _ _ _ h => h) (Or.inl ⟨by rfl, ?_⟩) hHeld ?_
          · intro wq hSw
            try dsimp only at hSw
            go_simp
          try simp only [Act.put, List.getElem_toArray, List.getElem_cons_succ, List.getElem_cons_zero, List.setIfInBounds_toArray, List.set_cons_zero, List.set_cons_succ]
          refine wpAnyH_take (i := 1) (oi := _) (v := .int .i64 (ci : Int)) rfl (by kernel_rfl) (by kernel_rfl) (by kernel_rfl) (fun _ _ _ h => h) (Or.inl ⟨by rfl, ?_⟩) hHeld ?_
          · intro wq hSw
            try dsimp only at hSw
            go_simp
          try simp only [Act.put, List.getElem_toArray, List.getElem_cons_succ, List.getElem_cons_zero, List.setIfInBounds_toArray, List.set_cons_zero, List.set_cons_succ]
          refine wpAnyH_take (i := 2) (oi := _) (v := .pointer (some ⟨R, ci, none⟩)) rfl (by kernel_rfl) (by kernel_rfl) (by kernel_rfl) (fun _ _ _ h => h) (Or.inl ⟨by rfl, ?_⟩) hHeld ?_
          · intro wq hSw
            try dsimp only at hSw
            go_simp
          try simp only [Act.put, List.getElem_toArray, List.getElem_cons_succ, List.getElem_cons_zero, List.setIfInBounds_toArray, List.set_cons_zero, List.set_cons_succ]
          refine wpAnyH_take (i := 3) (oi := _) (v := .slice (some ⟨r, 0, none⟩) n n) rfl (by kernel_rfl) (by kernel_rfl) (by kernel_rfl) (fun _ _ _ h => h) (Or.inl ⟨by rfl, ?_⟩) hHeld ?_
          · intro wq hSw
            try dsimp only at hSw
            go_simp
          try simp only [Act.put, List.getElem_toArray, List.getElem_cons_succ, List.getElem_cons_zero, List.setIfInBounds_toArray, List.set_cons_zero, List.set_cons_succ]
          refine wpAnyH_take (i := 4) (oi := _) (v := .int .i64 (cj : Int)) rfl (by kernel_rfl) (by kernel_rfl) (by kernel_rfl) (fun _ _ _ h => h) (Or.inl ⟨by rfl, ?_⟩) hHeld ?_
          · intro wq hSw
            try dsimp only at hSw
            go_simp
          try simp only [Act.put, List.getElem_toArray, List.getElem_cons_succ, List.getElem_cons_zero, List.setIfInBounds_toArray, List.set_cons_zero, List.set_cons_succ]
          refine wpAnyH_take (i := 5) (oi := _) (v := .func (.func FN) #[] caps) rfl (by kernel_rfl) (by kernel_rfl) (by kernel_rfl) (fun _ _ _ h => h) (Or.inl ⟨by rfl, ?_⟩) hHeld ?_
          · intro wq hSw
            try dsimp only at hSw
            go_simp
          try simp only [Act.put, List.getElem_toArray, List.getElem_cons_succ, List.getElem_cons_zero, List.setIfInBounds_toArray, List.set_cons_zero, List.set_cons_succ]
          refine wpAnyH_take (i := 6) (oi := _) (v := .int .i64 (ci : Int)) rfl (by kernel_rfl) (by kernel_rfl) (by kernel_rfl) (fun _ _ _ h => h) (Or.inl ⟨by rfl, ?_⟩) hHeld ?_
          · intro wq hSw
            try dsimp only at hSw
            go_simp
          try simp only [Act.put, List.getElem_toArray, List.getElem_cons_succ, List.getElem_cons_zero, List.setIfInBounds_toArray, List.set_cons_zero, List.set_cons_succ]
          refine wpAnyH_take (i := 7) (oi := _) (v := .int .i64 (cj : Int)) rfl (by kernel_rfl) (by kernel_rfl) (by kernel_rfl) (fun _ _ _ h => h) (Or.inl ⟨by rfl, ?_⟩) hHeld ?_
          · intro wq hSw
            try dsimp only at hSw
            go_simp
          try simp only [Act.put, List.getElem_toArray, List.getElem_cons_succ, List.getElem_cons_zero, List.setIfInBounds_toArray, List.set_cons_zero, List.set_cons_succ]
          refine wpAnyH_ready (rs := [8]) (by kernel_rfl) (by simp) ?_
          refine AllReadyH.cons rfl (fun KK hK => ?_) AllReadyH.nil
          simp only [List.getElem_toArray, List.getElem_cons_succ, List.getElem_cons_zero]
          rw [if_pos (by rfl)]
          refine wpv2c FN (.tmp 33) (.tmp 34) (.tmp 35) _ caps rfl rfl hcf (.int .i64 (ci : Int)) (.int .i64 (cj : Int)) rfl rfl hcall ?_
          rintro e w3 ⟨g, rfl, dp, k3⟩
          refine ⟨_, rfl, ?_⟩
          replace e4 := k3.cell0 e4
          have e5 := k3.cell0 (show wr.drew.cell? ⟨r, cj, none⟩ = some u1 from e3)
          have g5 := k3.loose0 (a := ⟨r, cj, none⟩) (W := wr.drew) (unhide HRS) g3
          clear hcall e3 g3
          clear hHeld
          refine hK.out _ _ ?_ (fun hHeld => ?_)
          · exact e4
          clear hK KK
          try simp only [Act.put, List.getElem_toArray, List.getElem_cons_succ, List.getElem_cons_zero, List.setIfInBounds_toArray, List.set_cons_zero, List.set_cons_succ]
          refine wpAnyH_take (i := 9) (oi := _) (v := .pointer (some ⟨r, cj, none⟩)) rfl (by kernel_rfl) (by kernel_rfl) (by kernel_rfl) (fun _ _ _ h => h) (Or.inl ⟨by rfl, ?_⟩) hHeld ?_
          · intro wq hSw
            try dsimp only at hSw
            go_simp
          try simp only [Act.put, List.getElem_toArray, List.getElem_cons_succ, List.getElem_cons_zero, List.setIfInBounds_toArray, List.set_cons_zero, List.set_cons_succ]
          refine wpAnyH_ready (rs := [10]) (by kernel_rfl) (by simp) ?_
          refine AllReadyH.cons rfl (fun KK hK => ?_) AllReadyH.nil
          simp only [List.getElem_toArray, List.getElem_cons_succ, List.getElem_cons_zero]
          rw [if_pos (by rfl)]
          go_simp
          have e6 := cell_aside (r := ⟨r, cj, none⟩) (.pointer (some ⟨g, 0, none⟩)) (by dsimp only; exact hrR) e4
          clear hHeld
          refine hK.out _ _ ?_ (fun hHeld => ?_)
          · exact e6
          clear hK KK
          try simp only [Act.put, List.getElem_toArray, List.getElem_cons_succ, List.getElem_cons_zero, List.setIfInBounds_toArray, List.set_cons_zero, List.set_cons_succ]
          refine wpAnyH_done (by kernel_rfl) ?_ _
          have hq1 := unhide HQ1
          have hq2 := unhide HQ2
          have hq3 := unhide HQ3
          have hrs := unhide HRS
          have ks : Kept r (r + 1) w3 (w3.setCell ⟨r, cj, none⟩ (.pointer (some ⟨g, 0, none⟩))) := (Kept.refl _ _ _).setCell (p := ⟨r, cj, none⟩) (Nat.le_refl _) (Nat.lt_succ_self _) _
          have s3 := k3.size
          have sd : wr.drew.heap.size = wr.heap.size := rfl
          have D2 : Hid (∀ j, j < cj + 1 → ∃ g', (w3.setCell ⟨r, cj, none⟩ (.pointer (some ⟨g, 0, none⟩))).cell? ⟨r, j, none⟩ = some (.pointer (some ⟨g', 0, none⟩)) ∧ DyP (fun x => Y x ∨ x = R ∨ x + 1 = R ∨ x = r) (w3.setCell ⟨r, cj, none⟩ (.pointer (some ⟨g, 0, none⟩))) g' (F ci j)) := by
            intro j hj
            by_cases e : j = cj
            · subst e
              exact ⟨g, cell_on _ _ _ _ _ e5, (dp.less (Y := fun x => Y x ∨ x = R ∨ x + 1 = R ∨ x = r) (fun x hx _ => hx.elim .inl (fun h => .inr (by omega)))).win ks (fun x h1 h2 => .inr (by omega))⟩
            · obtain ⟨g', c', d'⟩ := unhide hD j (by omega)
              exact ⟨g', cell_off _ _ _ _ _ _ (k3.cell0 (show wr.drew.cell? ⟨r, j, none⟩ = some _ from c')) (by omega), ((d'.kept ((Kept.refl 0 0 wr).drew)).kept k3).win ks (fun x h1 h2 => .inr (by omega))⟩
          have C6 : Hid (Cls (w3.setCell ⟨r, cj, none⟩ (.pointer (some ⟨g, 0, none⟩))) r n) := (((unhide hCr).kept ((Kept.refl 0 0 wr).drew) (by omega)).kept k3 (by omega)).set
          have K6 := hide (((unhide KX).trans k3.any).trans ks)
          clear hHeld dp ks s3 sd hq1 hq2 hq3 hrs hD hCr e4 e5 e6 g5 k3
          go_wp2
          go_roundw
          case rel => exact ⟨cj + 1, by simp, hltj, D2, C6, unhide K6⟩
          case measure => simp [intOf]; omega
        · have hcn : cj = n := by omega
          subst hcn
          have hq1 := unhide hRr2
          have hq2 := unhide hWR
          have hq3 := unhide hsW
          have hsq : Hid (SqF Y wr R cj (ci + 1) F) := by
            refine ⟨Nat.lt_of_lt_of_le (unhide CR).1 kx.size, fun i hi => ?_⟩
            by_cases e : i = ci
            · subst e
              refine ⟨r, kx.cellOut (a := ⟨R, i, none⟩) (by dsimp only; omega) (unhide E2), fun h => by (have := unhide HYY _ h; omega), hrR, by omega, (unhide hCr).1, fun j hj => ?_⟩
              obtain ⟨g, c', d'⟩ := unhide hD j hj
              exact ⟨g, c', d'.less (fun x hx _ => hx.elim .inl (fun h => .inr (by omega)))⟩
            · obtain ⟨r', c', rw'⟩ := unhide HOLD i (by omega)
              refine ⟨r', kx.cellOut (a := ⟨R, i, none⟩) (by dsimp only; omega) c', ?_⟩
              exact rw'.kept ((unhide KOI).fresh kx (by have := unhide HRO; omega))
          have hcl : Hid (Cls wr R cj) := (unhide CR).kept kx (by omega)
          have KWx := hide ((unhide KWI).wide kx (by omega))
          clear hD hCr kx hq1 hq2 hq3
          go_wp2
          go_roundw
          case rel => exact ⟨ci + 1, by simp, hlt, hsq, hcl, unhide KWx⟩
          case measure => simp [intOf]; omega
    · have hcn : ci = n := by omega
      subst hcn
      have hq2 := unhide HR
      have hq3 := unhide SW
      have C4 := kb.cell0 c4
      have F4 := kb.loose0 (World.block_lt_of_cell? _ _ c4) f4
      have ks : Kept w.heap.size (w.heap.size + 1) wo (wo.setCell ⟨w.heap.size, 0, none⟩ (.slice (some ⟨R, 0, none⟩) ci ci)) := (Kept.refl _ _ _).setCell (p := ⟨w.heap.size, 0, none⟩) (Nat.le_refl _) (Nat.lt_succ_self _) _
      have E5 := cell_on wo w.heap.size 0 (.slice (some ⟨R, 0, none⟩) ci ci) _ C4
      have K5 := hide ((k0.trans kb).wide ks (Nat.le_refl _))
      have S5 : Hid (SqF Y (wo.setCell ⟨w.heap.size, 0, none⟩ (.slice (some ⟨R, 0, none⟩) ci ci)) R ci ci F) := by
        refine ⟨by rw [size_set]; exact (unhide hS).1, fun i hi => ?_⟩
        obtain ⟨r', c', rw'⟩ := (unhide hS).2 i hi
        exact ⟨r', cell_aside _ (by dsimp only; omega) c', rw'.keptW ks (fun x h1 h2 => .inr (.inr (by omega)))⟩
      have HL : Hid (w.heap.size ≤ R) := by show _ ≤ _; omega
      clear hS hC kb ks hq2 hq3 c4 f4
      go_wp2
      exact bodyPost_ret (v := .agg #[.slice (some ⟨R, 0, none⟩) ci ci]) (by simp [results, Tryd.results25, go_sem, E5]) rfl ⟨R, rfl, unhide S5, unhide HL, unhide K5⟩

end Go.Proofs.YtjhbjhnficeieaaDoor
