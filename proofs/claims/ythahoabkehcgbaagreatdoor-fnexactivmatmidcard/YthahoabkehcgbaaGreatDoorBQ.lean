/-
  Contracts that the proofs of this seat share: Sqg, Sqq, Ag, Cat.
-/
import Derived.Test.YthahoabkehcgbaaGreatDoorDy2
import Derived.Test.YthahoabkehcgbaaGreatDoorBM
import Derived.Test.YthahoabkehcgbaaGreatDoorBI
import Derived.Test.YthahoabkehcgbaaGreatDoorBC
import Derived.Deep.DeepCutAuto
import Derived.Deep.RegionHeld3
import Derived.Lib.AppendZeros
namespace Go.Proofs.YthahoabkehcgbaaGreatDoor
open Go.RowKit
set_option linter.unusedVariables false
set_option maxRecDepth 8000
set_option linter.unusedSimpArgs false

/-- A call of a function value with what it has captured, of two arguments, as one step of an open statement. -/
theorem wpv2c {P : Program} {o : Oper} {a : Act} {w : World} {K : Act → World → Prop} {Q : Exit → Act → World → Prop} {R : Ending → World → Prop}
    (n : FuncId) (f x y : Operand) (ts : Array TypeId) (caps : Array Value) (hop : o.op = Op.call { callee := Callee.value f, args := #[x, y], argTypes := ts }) (hf : a.eval f = .func (.func n) #[] caps)
    (hcf : ∀ (w : World) (args : Array Value), (callFunc n args).run P w = .ok (.enter n args) w) (vx vy : Value) (hx : a.eval x = vx) (hy : a.eval y = vy) (hc : Calls P n (#[vx, vy] ++ caps) w R) (hK : ∀ e w', R e w' → ∃ v, e = .returned v ∧ K (a.put o.dst v) w') :
    Oper.wp P o a w K Q := by
  unfold Oper.wp
  have hrun : (execOp a.eval o).run P w = .ok (.enter n (#[vx, vy] ++ caps)) w := by
    simp [execOp, hop, resolve, invoke, hx, hy, hf, Deferred.ofValue, Result.andThen, hcf]
  rw [hrun, Oper.upon_enter]
  refine hc.mono ?_
  intro e w' h
  obtain ⟨v, rfl, h2⟩ := hK e w' h
  exact h2

/-- The block g holds a dyadic number of the call's own; none of its blocks is one of X. -/
def DyP (X : Nat → Prop) (w : World) (g : Nat) (d : DE) : Prop :=
  ∃ u, Num 0 w g u d.2.1 ∧ Sd w g d.1 ∧ Ex w g d.2.2 ∧ ¬ X g ∧ ∀ i, u.ownBlock = some i → ¬ X i
theorem DyP.lt {X : Nat → Prop} {w : World} {g : Nat} {d : DE} (h : DyP X w g d) : g < w.heap.size := by obtain ⟨u, n, _⟩ := h; exact n.lt
theorem DyP.mod {X : Nat → Prop} {w w' : World} {g : Nat} {d : DE} (h : DyP X w g d) (k : Mod X w w') : DyP X w' g d := by
  obtain ⟨u, n, s, e, x1, x2⟩ := h
  exact ⟨u, n.mod k x1 x2, ⟨k.cell (a := ⟨g, 1, none⟩) x1 s.1, k.loose (a := ⟨g, 1, none⟩) x1 n.lt s.2⟩, ⟨k.cell (a := ⟨g, 2, none⟩) x1 e.1, k.loose (a := ⟨g, 2, none⟩) x1 n.lt e.2⟩, x1, x2⟩
theorem DyP.kept {X : Nat → Prop} {w w' : World} {g : Nat} {d : DE} (h : DyP X w g d) (k : Kept 0 0 w w') : DyP X w' g d := h.mod k.toMod
theorem DyP.less {X Y : Nat → Prop} {w : World} {g : Nat} {d : DE} (h : DyP X w g d) (hY : ∀ x, Y x → x < w.heap.size → X x) : DyP Y w g d := by
  obtain ⟨u, n, s, e, x1, x2⟩ := h
  exact ⟨u, n, s, e, fun h => x1 (hY _ h n.lt), fun i hi h => x2 i hi (hY _ h (n.own.lt i hi).2)⟩
theorem DyP.win {X : Nat → Prop} {lo hi : Nat} {w w' : World} {g : Nat} {d : DE} (h : DyP X w g d) (k : Kept lo hi w w') (hX : ∀ x, lo ≤ x → x < hi → X x) : DyP X w' g d :=
  h.mod ⟨k.os, k.tape, k.output, k.size, fun i hi' ho => k.block i hi' (by rcases Nat.lt_or_ge i lo with h1 | h1; exact .inl h1; rcases Nat.lt_or_ge i hi with h2 | h2; exact absurd (hX i h1 h2) ho; exact .inr h2)⟩

/-- The block R has rows of pointers, row by row to the blocks that G names; R and the rows are of S. -/
def SqG (S : Nat → Prop) (w : World) (R n m : Nat) (G : Nat → Nat) : Prop :=
  R < w.heap.size ∧ S R ∧ ∀ i, i < m → ∃ r, w.cell? ⟨R, i, none⟩ = some (.slice (some ⟨r, 0, none⟩) n n) ∧ S r ∧ R < r ∧ r < w.heap.size ∧ ∀ j, j < n → w.cell? ⟨r, j, none⟩ = some (.pointer (some ⟨G (i * n + j), 0, none⟩))
theorem SqG.kept {S : Nat → Prop} {w w' : World} {R n m : Nat} {G : Nat → Nat} (h : SqG S w R n m G) (k : Kept 0 0 w w') : SqG S w' R n m G := by
  obtain ⟨h1, h2, h3⟩ := h
  refine ⟨Nat.lt_of_lt_of_le h1 k.size, h2, fun i hi => ?_⟩
  obtain ⟨r, c, q1, q2, q3, q4⟩ := h3 i hi
  exact ⟨r, k.cell0 c, q1, q2, Nat.lt_of_lt_of_le q3 k.size, fun j hj => k.cell0 (q4 j hj)⟩
theorem SqG.keptY {S : Nat → Prop} {lo hi : Nat} {w w' : World} {R n m : Nat} {G : Nat → Nat} (h : SqG S w R n m G) (k : Kept lo hi w w') (hx : hi ≤ R) : SqG S w' R n m G := by
  obtain ⟨h1, h2, h3⟩ := h
  refine ⟨Nat.lt_of_lt_of_le h1 k.size, h2, fun i hi => ?_⟩
  obtain ⟨r, c, q1, q2, q3, q4⟩ := h3 i hi
  exact ⟨r, k.cellOut (a := ⟨R, i, none⟩) (.inr hx) c, q1, q2, Nat.lt_of_lt_of_le q3 k.size, fun j hj => k.cellOut (a := ⟨r, j, none⟩) (.inr (by dsimp only; omega)) (q4 j hj)⟩
/-- G with another pointer at k. -/
def updG (G : Nat → Nat) (k g : Nat) (p : Nat) : Nat := if p = k then g else G p
theorem updG_on (G : Nat → Nat) (k g : Nat) : updG G k g k = g := by simp [updG]
theorem updG_off (G : Nat → Nat) {k g p : Nat} (h : p ≠ k) : updG G k g p = G p := by simp [updG, h]

/-- A number whose blocks lie in lo .. hi. -/
def Dw (lo hi : Nat) (w : World) (g : Nat) (d : DE) : Prop :=
  ∃ u, Num 0 w g u d.2.1 ∧ Sd w g d.1 ∧ Ex w g d.2.2 ∧ lo ≤ g ∧ g < hi ∧ ∀ i, u.ownBlock = some i → lo ≤ i ∧ i < hi
theorem Dw.mod {lo hi : Nat} {X : Nat → Prop} {w w' : World} {g : Nat} {d : DE} (h : Dw lo hi w g d) (k : Mod X w w') (hX : ∀ x, lo ≤ x → x < hi → ¬ X x) : Dw lo hi w' g d := by
  obtain ⟨u, n, s, e, x1, x2, x3⟩ := h
  have hg := hX g x1 x2
  exact ⟨u, n.mod k hg (fun i hi => hX i (x3 i hi).1 (x3 i hi).2), ⟨k.cell (a := ⟨g, 1, none⟩) hg s.1, k.loose (a := ⟨g, 1, none⟩) hg n.lt s.2⟩, ⟨k.cell (a := ⟨g, 2, none⟩) hg e.1, k.loose (a := ⟨g, 2, none⟩) hg n.lt e.2⟩, x1, x2, x3⟩
theorem DyP.dw {B : Nat} {w : World} {g : Nat} {d : DE} (h : DyP (fun x => x < B) w g d) : Dw B w.heap.size w g d := by
  obtain ⟨u, n, s, e, x1, x2⟩ := h
  exact ⟨u, n, s, e, by omega, n.lt, fun i hi => ⟨by have := x2 i hi; omega, (n.own.lt i hi).2⟩⟩
/-- The first k pointers of G are to the numbers F, whose blocks lie apart, behind b, and in no block of S. -/
def Nums (b : Nat) (S : Nat → Prop) (w : World) (k : Nat) (G : Nat → Nat) (F : Nat → DE) : Prop :=
  ∃ L H : Nat → Nat, (∀ p, p < k → Dw (L p) (H p) w (G p) (F p) ∧ b ≤ L p ∧ H p ≤ w.heap.size ∧ ∀ x, L p ≤ x → x < H p → ¬ S x) ∧ ∀ p q, p < k → q < k → p ≠ q → H p ≤ L q ∨ H q ≤ L p
theorem Nums.mod {b k : Nat} {S : Nat → Prop} {w w' : World} {G : Nat → Nat} {F : Nat → DE} (h : Nums b S w k G F) (m : Mod S w w') : Nums b S w' k G F := by
  obtain ⟨L, H, h1, h2⟩ := h
  refine ⟨L, H, fun p hp => ?_, h2⟩
  obtain ⟨d, q1, q2, q3⟩ := h1 p hp
  exact ⟨d.mod m q3, q1, Nat.le_trans q2 m.size, q3⟩
theorem Nums.more {b k x : Nat} {S : Nat → Prop} {w : World} {G : Nat → Nat} {F : Nat → DE} (h : Nums b S w k G F) (hx : w.heap.size ≤ x) : Nums b (fun y => S y ∨ y = x) w k G F := by
  obtain ⟨L, H, h1, h2⟩ := h
  refine ⟨L, H, fun p hp => ?_, h2⟩
  obtain ⟨d, q1, q2, q3⟩ := h1 p hp
  exact ⟨d, q1, q2, fun y hy1 hy2 hs => hs.elim (q3 y hy1 hy2) (fun e => by omega)⟩
/-- Another list of the call's own: what is made since. -/
theorem Nums.fresh {b k : Nat} {S S' : Nat → Prop} {w w' : World} {G : Nat → Nat} {F : Nat → DE} (h : Nums b S w k G F) (m : Kept 0 0 w w') (hS : ∀ x, S' x → w.heap.size ≤ x) : Nums b S' w' k G F := by
  obtain ⟨L, H, h1, h2⟩ := h
  refine ⟨L, H, fun p hp => ?_, h2⟩
  obtain ⟨d, q1, q2, q3⟩ := h1 p hp
  exact ⟨d.mod (m.toMod (S := fun _ => False)) (fun _ _ _ h => h), q1, Nat.le_trans q2 m.size, fun y hy1 hy2 hs => by have := hS y hs; omega⟩
theorem Nums.perm {b k m : Nat} {S : Nat → Prop} {w : World} {G : Nat → Nat} {F : Nat → DE} (h : Nums b S w k G F) (f : Nat → Nat) (hf : ∀ p, p < m → f p < k) (hi : ∀ p q, p < m → q < m → f p = f q → p = q) : Nums b S w m (fun p => G (f p)) (fun p => F (f p)) := by
  obtain ⟨L, H, h1, h2⟩ := h
  exact ⟨fun p => L (f p), fun p => H (f p), fun p hp => h1 _ (hf p hp), fun p q hp hq hne => h2 _ _ (hf p hp) (hf q hq) (fun e => hne (hi p q hp hq e))⟩
theorem Nums.congr {b k : Nat} {S : Nat → Prop} {w : World} {G G' : Nat → Nat} {F F' : Nat → DE} (h : Nums b S w k G F) (hG : ∀ p, p < k → G' p = G p) (hF : ∀ p, p < k → F' p = F p) : Nums b S w k G' F' := by
  obtain ⟨L, H, h1, h2⟩ := h
  exact ⟨L, H, fun p hp => by rw [hG p hp, hF p hp]; exact h1 p hp, h2⟩
theorem Nums.step {b k g : Nat} {S : Nat → Prop} {w w' : World} {G : Nat → Nat} {F : Nat → DE} (h : Nums b S w k G F) (m : Kept 0 0 w w') (hb : b ≤ w.heap.size) (hS : ∀ x, S x → x < w.heap.size) (d : DyP (fun x => x < w.heap.size) w' g (F k)) : Nums b S w' (k + 1) (updG G k g) F := by
  obtain ⟨L, H, h1, h2⟩ := h.mod (m.toMod (S := S))
  obtain ⟨L0, H0, h10, h20⟩ := h
  have hs := m.size
  obtain ⟨L, H, h1, h2, h3⟩ : ∃ L H : Nat → Nat, (∀ p, p < k → Dw (L p) (H p) w' (G p) (F p) ∧ b ≤ L p ∧ H p ≤ w'.heap.size ∧ ∀ x, L p ≤ x → x < H p → ¬ S x) ∧ (∀ p q, p < k → q < k → p ≠ q → H p ≤ L q ∨ H q ≤ L p) ∧ ∀ p, p < k → H p ≤ w.heap.size := by
    refine ⟨L0, H0, fun p hp => ?_, h20, fun p hp => (h10 p hp).2.2.1⟩
    obtain ⟨d, q1, q2, q3⟩ := h10 p hp
    exact ⟨d.mod (m.toMod (S := S)) q3, q1, Nat.le_trans q2 hs, q3⟩
  refine ⟨fun p => if p = k then w.heap.size else L p, fun p => if p = k then w'.heap.size else H p, fun p hp => ?_, fun p q hp hq hne => ?_⟩
  · by_cases e : p = k
    · subst e
      simp only [if_pos, updG_on]
      exact ⟨d.dw, hb, Nat.le_refl _, fun x hx _ hsx => by have := hS x hsx; omega⟩
    · simp only [if_neg e, updG_off G e]
      exact h1 p (by omega)
  · by_cases e : p = k
    · subst e
      have e2 : q ≠ p := fun h => hne h.symm
      simp only [if_pos, if_neg e2]
      exact .inr (h3 q (by omega))
    · by_cases e2 : q = k
      · subst e2
        simp only [if_pos, if_neg e]
        exact .inl (h3 p (by omega))
      · simp only [if_neg e, if_neg e2]
        exact h2 p q (by omega) (by omega) hne

theorem Tryz.infoPD : (Tryz.prog.info? 77).map (fun i => (i.zero, i.size, i.bytes)) = some (some (.pointer none), 1, 8) := by kernel_rfl

theorem Tryz.infoRw : (Tryz.prog.info? 176).map (fun i => (i.zero, i.size, i.bytes)) = some (some (.slice none 0 0), 1, 24) := by kernel_rfl

/-- A list of n cells of the call's own: they are there and may be written. -/
def Cls (w : World) (g n : Nat) : Prop := g < w.heap.size ∧ (∀ k, k < n → ∃ u, w.cell? ⟨g, k, none⟩ = some u) ∧ ∀ k, k < n → w.frozen? ⟨g, k, none⟩ = false
theorem Cls.kept {w w' : World} {g n l h : Nat} (c : Cls w g n) (k : Kept l h w w') (hg : g < l ∨ h ≤ g) : Cls w' g n := by
  have hb := k.block g c.1 hg
  exact ⟨Nat.lt_of_lt_of_le c.1 k.size, fun i hi => by obtain ⟨u, hu⟩ := c.2.1 i hi; exact ⟨u, (World.cell?_of_block (w := w) (a := ⟨g, i, none⟩) hb).trans hu⟩, fun i hi => (World.frozen?_of_block (w := w) (a := ⟨g, i, none⟩) hb).trans (c.2.2 i hi)⟩
theorem Cls.set {w : World} {g n p : Nat} {x : Value} (c : Cls w g n) : Cls (w.setCell ⟨g, p, none⟩ x) g n :=
  ⟨by rw [size_set]; exact c.1, fun i hi => by obtain ⟨u, hu⟩ := c.2.1 i hi; exact cells_of_setCell hu, fun i hi => by rw [frozen_set]; exact c.2.2 i hi⟩
theorem own1_cls {w : World} {base n g c : Nat} {e : TypeId} {z : Value} (hz : z.cells.size = 1) (h : w.ownsRow base e 1 (.slice (some ⟨g, 0, none⟩) n c) n (madeCells z.cells (n * 1)).toList) : Cls w g n := by
  rcases h.2 with ⟨e1, h0⟩ | ⟨g', cap, cur, e1, hb, hg, hle, hm, hs, htake⟩
  · cases e1
  · cases e1
    refine ⟨(Array.getElem?_eq_some_iff.1 hg).1, fun k hk => ?_, fun k hk => by simp [World.frozen?, hg]⟩
    have hl : (madeCells z.cells (n * 1)).toList.length = n * 1 := by simp [madeCells]
    have h1 : ∃ u, (madeCells z.cells (n * 1)).toList[k]? = some u := ⟨_, List.getElem?_eq_getElem (by omega)⟩
    obtain ⟨u, hu⟩ := h1
    refine ⟨u, ?_⟩
    rw [← htake, List.getElem?_take, if_pos (by omega)] at hu
    simpa [World.cell?, hg] using hu

theorem Kept.fresh {a b r : Nat} {w1 w2 w3 : World} (h : Kept a b w1 w2) (k : Kept r (r + 1) w2 w3) (hr : w1.heap.size ≤ r) : Kept a b w1 w3 :=
  ⟨k.os.trans h.os, k.tape.trans h.tape, k.output.trans h.output, Nat.le_trans h.size k.size, fun i hi ho => (k.block i (Nat.lt_of_lt_of_le hi h.size) (.inl (by omega))).trans (h.block i hi ho)⟩

set_option maxHeartbeats 16000000 in
theorem makeSquare_any {n : Nat} (hn : n ≤ 1000) (FN : FuncId) (hcf : ∀ (w : World) (args : Array Value), (callFunc FN args).run Tryz.prog w = .ok (.enter FN args) w) (caps : Array Value) (w : World) (J : Nat → (Nat → Nat) → (Nat → Prop) → World → Prop)
    (hJ0 : ∀ S : Nat → Prop, (∀ x, S x → w.heap.size ≤ x) → J 0 (fun _ => 0) S w) (hJm : ∀ k G S w1 w2, J k G S w1 → Mod S w1 w2 → J k G S w2) (hJs : ∀ k G S w1 x, J k G S w1 → w1.heap.size ≤ x → J k G (fun y => S y ∨ y = x) w1)
    (H : ∀ i j w' G S, i < n → j < n → (∀ x, S x → w.heap.size ≤ x ∧ x < w'.heap.size) → Kept 0 0 w w' → J (i * n + j) G S w' → Calls Tryz.prog FN (#[.int .i64 (i : Int), .int .i64 (j : Int)] ++ caps) w' fun e w'' => ∃ g, e = .returned (.pointer (some ⟨g, 0, none⟩)) ∧ J (i * n + j + 1) (updG G (i * n + j) g) S w'' ∧ Kept 0 0 w' w'') :
    Calls Tryz.prog 140 #[.int .i64 (n : Int), .func (.func FN) #[] caps] w fun e w' => ∃ R G S, e = .returned (.agg #[.slice (some ⟨R, 0, none⟩) n n]) ∧ SqG S w' R n n G ∧ J (n * n) G S w' ∧ (∀ x, S x → w.heap.size ≤ x ∧ x < w'.heap.size) ∧ w.heap.size < R ∧ Kept 0 0 w w' := by
  obtain ⟨W, hW⟩ : ∃ W, W = w.alloc (.cells #[.slice none 0 0] 113) := ⟨_, rfl⟩
  have k0 : Kept 0 0 w W := by rw [hW]; exact (Kept.refl 0 0 w).alloc _
  have c4 : W.cell? ⟨w.heap.size, 0, none⟩ = some (.slice none 0 0) := by rw [hW]; exact new_cell2 _ _ _ _ _ _ rfl rfl
  have f4 : W.frozen? ⟨w.heap.size, 0, none⟩ = false := by rw [hW]; exact new_loose2 _ _ _ _ _ rfl
  have sW : W.heap.size = w.heap.size + 1 := by rw [hW]; simp
  obtain ⟨i0, hi0, hz0, hz1, hz2⟩ := info_parts Tryz.infoRw
  obtain ⟨i1, hi1, hy0, hy1, hy2⟩ := info_parts Tryz.infoPD
  have hb0 : i0.bytes * n ≤ 281474976710656 := by rw [hz2]; omega
  have hb1 : i1.bytes * n ≤ 281474976710656 := by rw [hy2]; omega
  have hm0 : n ≤ maxLen := by unfold maxLen; omega
  have HH := hide H
  have HJM := hide hJm
  have HJS := hide hJs
  have HJ0 := hide hJ0
  clear H hJm hJs hJ0
  go_enter Tryz.func140, Tryz.ntmps140
  go_wp2_with (at_make; rw [← hW]; refine wpList_make_full _ rfl _ _ 111 rfl W.heap.size 176 i0 (.slice none 0 0) 1 Tryz.underlying111 hi0 hz0 hz1 .i64 .i64 _ _ n rfl rfl rfl rfl hb0 hm0 (Nat.le_refl _) ?_; intro w1 hown hgrow)
  have C1 := hide (own1_cls rfl hown)
  have k1 : Kept 0 0 W w1 := ⟨hgrow.os, hgrow.tape, hgrow.output, hgrow.size, fun i hi _ => hgrow.block i hi (by simp)⟩
  clear hown hgrow hi0 hz0 hz1 hz2 hb0 hW
  obtain ⟨R, hR⟩ : ∃ R, R = w.heap.size + 1 := ⟨_, rfl⟩
  rw [sW, ← hR] at C1
  rw [← hR]
  have SW := hide sW
  clear sW
  have HR := hide hR
  clear hR
  go_loopw [12] (fun s12 wr => ∃ (ci : Nat) (G : Nat → Nat) (S : Nat → Prop), s12 = .int .i64 ci ∧ ci ≤ n ∧ Hid (SqG S wr R n ci G) ∧ Hid (J (ci * n) G S wr ∧ (∀ x, S x → w.heap.size ≤ x ∧ x < wr.heap.size) ∧ S w.heap.size) ∧ Hid (Cls wr R n) ∧ Kept 0 0 W wr) (fun s12 _ => n - (intOf s12).toNat)
  case atStart => exact ⟨0, fun _ => 0, fun x => x = w.heap.size ∨ x = R, rfl, Nat.zero_le _, ⟨(unhide C1).1, .inr rfl, fun i hi => by omega⟩, ⟨by rw [Nat.zero_mul]; exact unhide HJM _ _ _ _ _ (unhide HJ0 _ (fun x hx => by have := unhide HR; omega)) (k0.trans k1).toMod, fun x hx => by (have := unhide HR; have := (unhide C1).1; omega), .inl rfl⟩, C1, k1⟩
  case round =>
    clear C1 k1
    obtain ⟨ci, G, S, rfl, hci, hS, hJ, hC, kb⟩ := hrel
    obtain ⟨wo, hwo⟩ : ∃ wo, wo = wr := ⟨_, rfl⟩
    subst hwo
    have hwi : IntKind.i64.wrap ((ci : Int) + 1) = ((ci + 1 : Nat) : Int) := by rw [IntKind.wrap_i64]; omega
    by_cases hlt : ci < n
    · obtain ⟨u0, e0⟩ := (unhide hC).2.1 ci hlt
      have g0 := (unhide hC).2.2 ci hlt
      have hRs := hide (unhide hC).1
      go_wp2_with (at_make; refine wpList_make_full _ rfl _ _ 176 rfl wo.heap.size 77 i1 (.pointer none) 1 Tryz.underlying176 hi1 hy0 hy1 .i64 .i64 _ _ n rfl rfl rfl rfl hb1 hm0 (Nat.le_refl _) ?_; intro w2 hown hgrow; have C2 := hide (own1_cls rfl hown); have k2 : Kept 0 0 wo w2 := ⟨hgrow.os, hgrow.tape, hgrow.output, hgrow.size, fun i hi _ => hgrow.block i hi (by simp)⟩; have e1 := k2.cell0 e0; have g1 := k2.loose0 (a := ⟨R, ci, none⟩) (unhide hRs) g0; have e2 := cell_on w2 R ci (.slice (some ⟨wo.heap.size, 0, none⟩) n n) _ e1; clear hown hgrow e0 g0)
      obtain ⟨r, hr⟩ : ∃ r, r = wo.heap.size := ⟨_, rfl⟩
      have HRr := hide hr
      rw [← hr] at C2 e2 ⊢
      obtain ⟨wi, hwi'⟩ : ∃ wi, wi = w2.setCell ⟨R, ci, none⟩ (.slice (some ⟨r, 0, none⟩) n n) := ⟨_, rfl⟩
      have hrR : r ≠ R := by have := unhide hRs; omega
      have k3 : Kept R (R + 1) w2 wi := by rw [hwi']; exact (Kept.refl _ _ _).setCell (p := ⟨R, ci, none⟩) (Nat.le_refl _) (Nat.lt_succ_self _) _
      have kwi : Kept R (R + 1) wo wi := (k2.any).trans k3
      have Ci := hide ((unhide C2).kept k3 (by omega))
      have CR : Hid (Cls wi R n) := by
        show Cls _ _ _
        rw [hwi']
        exact ((unhide hC).kept k2 (by omega)).set
      have hlr : r < w2.heap.size := (unhide C2).1
      have hsz2 : w2.heap.size = wi.heap.size := by rw [hwi', size_set]
      have kW : Kept 0 0 W wi := ((kb.trans k2).wide k3 (by have := unhide HR; have := unhide SW; omega))
      rw [← hwi'] at e2 ⊢
      -- the rows before this one stand
      have hold : ∀ i, i < ci → ∃ r', wi.cell? ⟨R, i, none⟩ = some (.slice (some ⟨r', 0, none⟩) n n) ∧ S r' ∧ R < r' ∧ r' < r ∧ ∀ j, j < n → wi.cell? ⟨r', j, none⟩ = some (.pointer (some ⟨G (i * n + j), 0, none⟩)) := fun i hi => by
        obtain ⟨r', c', s1, s2, s3, s4⟩ := (unhide hS).2.2 i hi
        exact ⟨r', by rw [hwi']; exact cell_off _ _ _ _ _ _ (k2.cell0 c') (by omega), s1, s2, by omega, fun j hj => kwi.cellOut (a := ⟨r', j, none⟩) (.inr (by dsimp only; omega)) (s4 j hj)⟩
      have J1 : Hid (J (ci * n) G (fun y => S y ∨ y = r) wi) := by
        have := unhide HJS _ _ _ _ r (unhide hJ).1 (by omega)
        exact unhide HJM _ _ _ _ _ this ⟨kwi.os, kwi.tape, kwi.output, kwi.size, fun i hi ho => kwi.block i hi (by rcases Nat.lt_trichotomy i R with q | q | q; exact .inl q; exact absurd (.inl (by rw [q]; exact (unhide hS).2.1)) ho; exact .inr q)⟩
      have S1 : Hid (∀ x, (S x ∨ x = r) → w.heap.size ≤ x ∧ x < wi.heap.size) := fun x hx => by
        rcases hx with hx | hx
        · have := (unhide hJ).2.1 x hx; have := kwi.size; omega
        · subst hx; have := unhide HR; have := unhide hRs; omega
      have SR : Hid (S R ∧ S w.heap.size) := ⟨(unhide hS).2.1, (unhide hJ).2.2⟩
      have HOLD := hide hold
      have KWI := hide kW
      have KOI := hide kwi
      have HRO : Hid (r = wo.heap.size) := hr
      have E2 := hide e2
      have hrw : r < wi.heap.size := by omega
      have hnr : Hid (∀ x, x < wo.heap.size → x ≠ r) := fun x hx => by omega
      have hRr2 : Hid (R < r) := by show _ < _; have := unhide hRs; omega
      have hWR : Hid (w.heap.size + 1 = R) := (unhide HR).symm
      have hsW := hide (unhide SW)
      clear hr hwi' k3 kwi C2 hlr hsz2 kW hold e1 g1 k2 hS hJ hC kb HR hRs HRr SW
      go_loopw [25] (fun s25 wx => ∃ (cj : Nat) (G' : Nat → Nat), s25 = .int .i64 cj ∧ cj ≤ n ∧ Hid (∀ j, j < cj → wx.cell? ⟨r, j, none⟩ = some (.pointer (some ⟨G' (ci * n + j), 0, none⟩))) ∧ Hid ((∀ p, p < ci * n → G' p = G p) ∧ J (ci * n + cj) G' (fun y => S y ∨ y = r) wx) ∧ Hid (Cls wx r n) ∧ Kept r (r + 1) wi wx) (fun s25 _ => n - (intOf s25).toNat)
      case atStart => exact ⟨0, G, rfl, Nat.zero_le _, fun j hj => by omega, ⟨fun _ _ => rfl, unhide J1⟩, Ci, Kept.refl _ _ _⟩
      case round =>
        clear Ci J1
        obtain ⟨cj, G', rfl, hcj, hD, hJ', hCr, kx⟩ := hrel
        have hwj : IntKind.i64.wrap ((cj : Int) + 1) = ((cj + 1 : Nat) : Int) := by rw [IntKind.wrap_i64]; omega
        by_cases hltj : cj < n
        · have hq1 := unhide hRr2
          have hq2 := unhide hWR
          have hq3 := unhide hsW
          have E3 := hide ((kx.drew).cellOut (a := ⟨R, ci, none⟩) (by dsimp only; omega) (unhide E2))
          obtain ⟨u1, e3⟩ := (unhide hCr).2.1 cj hltj
          have g3 := (unhide hCr).2.2 cj hltj
          have hrs := (unhide hCr).1
          have KWx : Kept 0 0 W wr.drew := ((unhide KWI).wide kx (by omega)).drew
          have hcall := unhide HH ci cj wr.drew G' (fun y => S y ∨ y = r) hlt hltj (fun x hx => by have := unhide S1 x hx; have := kx.size; exact ⟨by omega, by show x < wr.heap.size; omega⟩) (k0.trans KWx) (unhide HJM _ _ _ _ _ (unhide hJ').2 ((Kept.refl 0 0 wr).drew).toMod)
          have e4 := E3
          replace e4 := unhide e4
          have KX := hide kx.drew
          have HQ1 := hide hq1
          have HQ2 := hide hq2
          have HQ3 := hide hq3
          have HRS := hide hrs
          clear hq1 hq2 hq3 E3 kx KWx hrs
          go_wp2_with fail
          refine wp_region_held_drew (S := (fun w' => w'.cell? ⟨R, ci, none⟩ = some (.slice (some ⟨r, 0, none⟩) n n))) (by kernel_rfl) ?_ (fun hHeld => ?_)
          · exact e4
          refine wpAnyH_take (i := 0) (oi := _) (v := .slice (some ⟨R, 0, none⟩) n n) rfl (by kernel_rfl) (by kernel_rfl) (by kernel_rfl) (fun _ _ _ h => h) (Or.inl ⟨by rfl, ?_⟩) hHeld ?_
          · intro wq hSw
            try dsimp only at hSw
            go_simp
          try simp only [Act.put, List.getElem_toArray, List.getElem_cons_succ, List.getElem_cons_zero, List.setIfInBounds_toArray, List.set_cons_zero, List.set_cons_succ]
          refine wpAnyH_take (i := 1) (oi := _) (v := .int .i64 (ci : Int)) rfl (by kernel_rfl) (by kernel_rfl) (by kernel_rfl) (fun _ _ _ h => h) (Or.inl ⟨by rfl, ?_⟩) hHeld ?_
          · intro wq hSw
            try dsimp only at hSw
            go_simp
          try simp only [Act.put, List.getElem_toArray, List.getElem_cons_succ, List.getElem_cons_zero, List.setIfInBounds_toArray, List.set_cons_zero, List.set_cons_succ]
          refine wpAnyH_take (i := 2) (oi := _) (v := .pointer (some ⟨R, ci, none⟩)) rfl (by kernel_rfl) (by kernel_rfl) (by kernel_rfl) (fun _ _ _ h => h) (Or.inl ⟨by rfl, ?_⟩) hHeld ?_
          · intro wq hSw
            try dsimp only at hSw
            go_simp
          try simp only [Act.put, List.getElem_toArray, List.getElem_cons_succ, List.getElem_cons_zero, List.setIfInBounds_toArray, List.set_cons_zero, List.set_cons_succ]
          refine wpAnyH_take (i := 3) (oi := _) (v := .slice (some ⟨r, 0, none⟩) n n) rfl (by kernel_rfl) (by kernel_rfl) (by kernel_rfl) (fun _ _ _ h => h) (Or.inl ⟨by rfl, ?_⟩) hHeld ?_
          · intro wq hSw
            try dsimp only at hSw
            go_simp
          try simp only [Act.put, List.getElem_toArray, List.getElem_cons_succ, List.getElem_cons_zero, List.setIfInBounds_toArray, List.set_cons_zero, List.set_cons_succ]
          refine wpAnyH_take (i := 4) (oi := _) (v := .int .i64 (cj : Int)) rfl (by kernel_rfl) (by kernel_rfl) (by kernel_rfl) (fun _ _ _ h => h) (Or.inl ⟨by rfl, ?_⟩) hHeld ?_
          · intro wq hSw
            try dsimp only at hSw
            go_simp
          try simp only [Act.put, List.getElem_toArray, List.getElem_cons_succ, List.getElem_cons_zero, List.setIfInBounds_toArray, List.set_cons_zero, List.set_cons_succ]
          refine wpAnyH_take (i := 5) (oi := _) (v := .func (.func FN) #[] caps) rfl (by kernel_rfl) (by kernel_rfl) (by kernel_rfl) (fun _ _ _ h => h) (Or.inl ⟨by rfl, ?_⟩) hHeld ?_
          · intro wq hSw
            try dsimp only at hSw
            go_simp
          try simp only [Act.put, List.getElem_toArray, List.getElem_cons_succ, List.getElem_cons_zero, List.setIfInBounds_toArray, List.set_cons_zero, List.set_cons_succ]
          refine wpAnyH_take (i := 6) (oi := _) (v := .int .i64 (ci : Int)) rfl (by kernel_rfl) (by kernel_rfl) (by kernel_rfl) (fun _ _ _ h => h) (Or.inl ⟨by rfl, ?_⟩) hHeld ?_
          · intro wq hSw
            try dsimp only at hSw
            go_simp
          try simp only [Act.put, List.getElem_toArray, List.getElem_cons_succ, List.getElem_cons_zero, List.setIfInBounds_toArray, List.set_cons_zero, List.set_cons_succ]
          refine wpAnyH_take (i := 7) (oi := _) (v := .int .i64 (cj : Int)) rfl (by kernel_rfl) (by kernel_rfl) (by kernel_rfl) (fun _ _ _ h => h) (Or.inl ⟨by rfl, ?_⟩) hHeld ?_
          · intro wq hSw
            try dsimp only at hSw
            go_simp
          try simp only [Act.put, List.getElem_toArray, List.getElem_cons_succ, List.getElem_cons_zero, List.setIfInBounds_toArray, List.set_cons_zero, List.set_cons_succ]
          refine wpAnyH_ready (rs := [8]) (by kernel_rfl) (by simp) ?_
          refine AllReadyH.cons rfl (fun KK hK => ?_) AllReadyH.nil
          simp only [List.getElem_toArray, List.getElem_cons_succ, List.getElem_cons_zero]
          rw [if_pos (by rfl)]
          refine wpv2c FN (.tmp 33) (.tmp 34) (.tmp 35) _ caps rfl rfl hcf (.int .i64 (ci : Int)) (.int .i64 (cj : Int)) rfl rfl hcall ?_
          rintro e w3 ⟨g, rfl, jp, k3⟩
          have JP := hide jp
          clear jp
          refine ⟨_, rfl, ?_⟩
          replace e4 := k3.cell0 e4
          have e5 := k3.cell0 (show wr.drew.cell? ⟨r, cj, none⟩ = some u1 from e3)
          have g5 := k3.loose0 (a := ⟨r, cj, none⟩) (W := wr.drew) (unhide HRS) g3
          clear hcall e3 g3
          clear hHeld
          refine hK.out _ _ ?_ (fun hHeld => ?_)
          · exact e4
          clear hK KK
          try simp only [Act.put, List.getElem_toArray, List.getElem_cons_succ, List.getElem_cons_zero, List.setIfInBounds_toArray, List.set_cons_zero, List.set_cons_succ]
          refine wpAnyH_take (i := 9) (oi := _) (v := .pointer (some ⟨r, cj, none⟩)) rfl (by kernel_rfl) (by kernel_rfl) (by kernel_rfl) (fun _ _ _ h => h) (Or.inl ⟨by rfl, ?_⟩) hHeld ?_
          · intro wq hSw
            try dsimp only at hSw
            go_simp
          try simp only [Act.put, List.getElem_toArray, List.getElem_cons_succ, List.getElem_cons_zero, List.setIfInBounds_toArray, List.set_cons_zero, List.set_cons_succ]
          refine wpAnyH_ready (rs := [10]) (by kernel_rfl) (by simp) ?_
          refine AllReadyH.cons rfl (fun KK hK => ?_) AllReadyH.nil
          simp only [List.getElem_toArray, List.getElem_cons_succ, List.getElem_cons_zero]
          rw [if_pos (by rfl)]
          go_simp
          have e6 := cell_aside (r := ⟨r, cj, none⟩) (.pointer (some ⟨g, 0, none⟩)) (by dsimp only; exact hrR) e4
          clear hHeld
          refine hK.out _ _ ?_ (fun hHeld => ?_)
          · exact e6
          clear hK KK
          try simp only [Act.put, List.getElem_toArray, List.getElem_cons_succ, List.getElem_cons_zero, List.setIfInBounds_toArray, List.set_cons_zero, List.set_cons_succ]
          refine wpAnyH_done (by kernel_rfl) ?_ _
          have hq1 := unhide HQ1
          have hq2 := unhide HQ2
          have hq3 := unhide HQ3
          have hrs := unhide HRS
          have ks : Kept r (r + 1) w3 (w3.setCell ⟨r, cj, none⟩ (.pointer (some ⟨g, 0, none⟩))) := (Kept.refl _ _ _).setCell (p := ⟨r, cj, none⟩) (Nat.le_refl _) (Nat.lt_succ_self _) _
          have s3 := k3.size
          have sd : wr.drew.heap.size = wr.heap.size := rfl
          have D2 : Hid (∀ j, j < cj + 1 → (w3.setCell ⟨r, cj, none⟩ (.pointer (some ⟨g, 0, none⟩))).cell? ⟨r, j, none⟩ = some (.pointer (some ⟨updG G' (ci * n + cj) g (ci * n + j), 0, none⟩))) := by
            intro j hj
            by_cases e : j = cj
            · subst e
              rw [updG_on]
              exact cell_on _ _ _ _ _ e5
            · rw [updG_off G' (by omega)]
              exact cell_off _ _ _ _ _ _ (k3.cell0 (show wr.drew.cell? ⟨r, j, none⟩ = some _ from unhide hD j (by omega))) (by omega)
          have J6 : Hid ((∀ p, p < ci * n → updG G' (ci * n + cj) g p = G p) ∧ J (ci * n + (cj + 1)) (updG G' (ci * n + cj) g) (fun y => S y ∨ y = r) (w3.setCell ⟨r, cj, none⟩ (.pointer (some ⟨g, 0, none⟩)))) :=
            ⟨fun p hp => by rw [updG_off G' (by omega)]; exact (unhide hJ').1 p hp, unhide HJM _ _ _ _ _ (unhide JP) ⟨ks.os, ks.tape, ks.output, ks.size, fun i hi ho => ks.block i hi (by rcases Nat.lt_trichotomy i r with q | q | q; exact .inl q; exact absurd (.inr q) ho; exact .inr q)⟩⟩
          have C6 : Hid (Cls (w3.setCell ⟨r, cj, none⟩ (.pointer (some ⟨g, 0, none⟩))) r n) := (((unhide hCr).kept ((Kept.refl 0 0 wr).drew) (by omega)).kept k3 (by omega)).set
          have K6 := hide (((unhide KX).trans k3.any).trans ks)
          clear hHeld JP ks s3 sd hq1 hq2 hq3 hrs hD hJ' hCr e4 e5 e6 g5 k3
          go_wp2
          go_roundw
          case rel => exact ⟨cj + 1, _, by simp, hltj, D2, J6, C6, unhide K6⟩
          case measure => simp [intOf]; omega
        · have hcn : cj = n := by omega
          subst hcn
          have hq1 := unhide hRr2
          have hq2 := unhide hWR
          have hq3 := unhide hsW
          have hsq : Hid (SqG (fun y => S y ∨ y = r) wr R cj (ci + 1) G') := by
            refine ⟨Nat.lt_of_lt_of_le (unhide CR).1 kx.size, .inl (unhide SR).1, fun i hi => ?_⟩
            by_cases e : i = ci
            · subst e
              exact ⟨r, kx.cellOut (a := ⟨R, i, none⟩) (by dsimp only; omega) (unhide E2), .inr rfl, hq1, (unhide hCr).1, fun j hj => unhide hD j hj⟩
            · obtain ⟨r', c', s1, s2, s3, s4⟩ := unhide HOLD i (by omega)
              refine ⟨r', kx.cellOut (a := ⟨R, i, none⟩) (by dsimp only; omega) c', .inl s1, s2, by have := (unhide hCr).1; omega, fun j hj => ?_⟩
              rw [(unhide hJ').1 _ (by have h5 : (i + 1) * cj ≤ ci * cj := Nat.mul_le_mul_right cj (by omega)
                                       have h6 : (i + 1) * cj = i * cj + cj := Nat.succ_mul i cj
                                       omega)]
              exact kx.cellOut (a := ⟨r', j, none⟩) (.inl s3) (s4 j hj)
          have J7 : Hid (J ((ci + 1) * cj) G' (fun y => S y ∨ y = r) wr ∧ (∀ x, (S x ∨ x = r) → w.heap.size ≤ x ∧ x < wr.heap.size) ∧ (S w.heap.size ∨ w.heap.size = r)) :=
            ⟨by rw [Nat.succ_mul]; exact (unhide hJ').2, fun x hx => by (have := unhide S1 x hx; have := kx.size; omega), .inl (unhide SR).2⟩
          have hcl : Hid (Cls wr R cj) := (unhide CR).kept kx (by omega)
          have KWx := hide ((unhide KWI).wide kx (by omega))
          clear hD hJ' hCr kx hq1 hq2 hq3
          go_wp2
          go_roundw
          case rel => exact ⟨ci + 1, G', _, by simp, hlt, hsq, J7, hcl, unhide KWx⟩
          case measure => simp [intOf]; omega
    · have hcn : ci = n := by omega
      subst hcn
      have hq2 := unhide HR
      have hq3 := unhide SW
      have C4 := kb.cell0 c4
      have F4 := kb.loose0 (World.block_lt_of_cell? _ _ c4) f4
      have ks : Kept w.heap.size (w.heap.size + 1) wo (wo.setCell ⟨w.heap.size, 0, none⟩ (.slice (some ⟨R, 0, none⟩) ci ci)) := (Kept.refl _ _ _).setCell (p := ⟨w.heap.size, 0, none⟩) (Nat.le_refl _) (Nat.lt_succ_self _) _
      have E5 := cell_on wo w.heap.size 0 (.slice (some ⟨R, 0, none⟩) ci ci) _ C4
      have K5 := hide ((k0.trans kb).wide ks (Nat.le_refl _))
      have S5 : Hid (SqG S (wo.setCell ⟨w.heap.size, 0, none⟩ (.slice (some ⟨R, 0, none⟩) ci ci)) R ci ci G) := (unhide hS).keptY ks (by omega)
      have J5 : Hid (J (ci * ci) G S (wo.setCell ⟨w.heap.size, 0, none⟩ (.slice (some ⟨R, 0, none⟩) ci ci)) ∧ ∀ x, S x → w.heap.size ≤ x ∧ x < (wo.setCell ⟨w.heap.size, 0, none⟩ (.slice (some ⟨R, 0, none⟩) ci ci)).heap.size) :=
        ⟨unhide HJM _ _ _ _ _ (unhide hJ).1 ⟨ks.os, ks.tape, ks.output, ks.size, fun i hi ho => ks.block i hi (by rcases Nat.lt_trichotomy i w.heap.size with q | q | q; exact .inl q; exact absurd (by rw [q]; exact (unhide hJ).2.2) ho; exact .inr q)⟩, fun x hx => by rw [size_set]; exact (unhide hJ).2.1 x hx⟩
      have HL : Hid (w.heap.size < R) := by show _ < _; omega
      clear hS hJ hC kb ks hq2 hq3 c4 f4
      go_wp2
      exact bodyPost_ret (v := .agg #[.slice (some ⟨R, 0, none⟩) ci ci]) (by simp [results, Tryz.results140, go_sem, E5]) rfl ⟨R, G, S, rfl, unhide S5, (unhide J5).1, (unhide J5).2, unhide HL, unhide K5⟩

/-- Each call makes a new number. -/
theorem makeSquare_new {n : Nat} (hn : n ≤ 1000) (FN : FuncId) (hcf : ∀ (w : World) (args : Array Value), (callFunc FN args).run Tryz.prog w = .ok (.enter FN args) w) (caps : Array Value) (F : Nat → DE) (w : World)
    (H : ∀ i j w', i < n → j < n → Kept 0 0 w w' → Calls Tryz.prog FN (#[.int .i64 (i : Int), .int .i64 (j : Int)] ++ caps) w' fun e w'' => ∃ g, e = .returned (.pointer (some ⟨g, 0, none⟩)) ∧ DyP (fun x => x < w'.heap.size) w'' g (F (i * n + j)) ∧ Kept 0 0 w' w'') :
    Calls Tryz.prog 140 #[.int .i64 (n : Int), .func (.func FN) #[] caps] w fun e w' => ∃ R G S, e = .returned (.agg #[.slice (some ⟨R, 0, none⟩) n n]) ∧ SqG S w' R n n G ∧ Nums w.heap.size S w' (n * n) G F ∧ (∀ x, S x → w.heap.size ≤ x ∧ x < w'.heap.size) ∧ w.heap.size < R ∧ Kept 0 0 w w' := by
  refine makeSquare_any hn FN hcf caps w (fun k G S w' => Nums w.heap.size S w' k G F) ?_ (fun k G S w1 w2 h m => h.mod m) (fun k G S w1 x h hx => h.more hx) ?_
  · intro S hS
    exact ⟨fun _ => 0, fun _ => 0, fun p hp => absurd hp (Nat.not_lt_zero _), fun p q hp => absurd hp (Nat.not_lt_zero _)⟩
  · intro i j w' G S hi hj hS k hJ
    refine (H i j w' hi hj k).mono ?_
    rintro e w'' ⟨g, rfl, d, k'⟩
    exact ⟨g, rfl, hJ.step k' k.size (fun x hx => (hS x hx).2) d, k'⟩

/-- Each call tells a pointer that is known. -/
theorem makeSquare_old {n : Nat} (hn : n ≤ 1000) (FN : FuncId) (hcf : ∀ (w : World) (args : Array Value), (callFunc FN args).run Tryz.prog w = .ok (.enter FN args) w) (caps : Array Value) (G0 : Nat → Nat) (w : World)
    (H : ∀ i j w', i < n → j < n → Kept 0 0 w w' → Calls Tryz.prog FN (#[.int .i64 (i : Int), .int .i64 (j : Int)] ++ caps) w' fun e w'' => e = .returned (.pointer (some ⟨G0 (i * n + j), 0, none⟩)) ∧ Kept 0 0 w' w'') :
    Calls Tryz.prog 140 #[.int .i64 (n : Int), .func (.func FN) #[] caps] w fun e w' => ∃ R G S, e = .returned (.agg #[.slice (some ⟨R, 0, none⟩) n n]) ∧ SqG S w' R n n G ∧ (∀ p, p < n * n → G p = G0 p) ∧ (∀ x, S x → w.heap.size ≤ x ∧ x < w'.heap.size) ∧ w.heap.size < R ∧ Kept 0 0 w w' := by
  refine makeSquare_any hn FN hcf caps w (fun k G S w' => ∀ p, p < k → G p = G0 p) (fun S hS p hp => absurd hp (Nat.not_lt_zero _)) (fun k G S w1 w2 h m => h) (fun k G S w1 x h hx => h) ?_
  intro i j w' G S hi hj hS k hJ
  refine (H i j w' hi hj k).mono ?_
  rintro e w'' ⟨rfl, k'⟩
  refine ⟨_, rfl, fun p hp => ?_, k'⟩
  by_cases e : p = i * n + j
  · subst e; rw [updG_on]
  · rw [updG_off G e]; exact hJ p (by omega)

end Go.Proofs.YthahoabkehcgbaaGreatDoor

namespace Go.Proofs.YthahoabkehcgbaaGreatDoor
open Go.RowKit
set_option linter.unusedVariables false
set_option maxRecDepth 8000

theorem makeSquare_newQ {n : Nat} (hn : n ≤ 1000) (FN : FuncId) (hcf : ∀ (w : World) (args : Array Value), (callFunc FN args).run Tryz.prog w = .ok (.enter FN args) w) (caps : Array Value) (Q : Nat → DE → Prop) (w : World)
    (H : ∀ i j w', i < n → j < n → Kept 0 0 w w' → Calls Tryz.prog FN (#[.int .i64 (i : Int), .int .i64 (j : Int)] ++ caps) w' fun e w'' => ∃ g d, e = .returned (.pointer (some ⟨g, 0, none⟩)) ∧ DyP (fun x => x < w'.heap.size) w'' g d ∧ Q (i * n + j) d ∧ Kept 0 0 w' w'') :
    Calls Tryz.prog 140 #[.int .i64 (n : Int), .func (.func FN) #[] caps] w fun e w' => ∃ R G S F, e = .returned (.agg #[.slice (some ⟨R, 0, none⟩) n n]) ∧ SqG S w' R n n G ∧ Nums w.heap.size S w' (n * n) G F ∧ (∀ p, p < n * n → Q p (F p)) ∧ (∀ x, S x → w.heap.size ≤ x ∧ x < w'.heap.size) ∧ w.heap.size < R ∧ Kept 0 0 w w' := by
  refine (makeSquare_any hn FN hcf caps w (fun k G S w' => ∃ F, Nums w.heap.size S w' k G F ∧ ∀ p, p < k → Q p (F p)) ?_ (fun k G S w1 w2 h m => ?_) (fun k G S w1 x h hx => ?_) ?_).mono ?_
  · intro S hS
    exact ⟨fun _ => de0, ⟨fun _ => 0, fun _ => 0, fun p hp => absurd hp (Nat.not_lt_zero _), fun p q hp => absurd hp (Nat.not_lt_zero _)⟩, fun p hp => absurd hp (Nat.not_lt_zero _)⟩
  · obtain ⟨F, h1, h2⟩ := h
    exact ⟨F, h1.mod m, h2⟩
  · obtain ⟨F, h1, h2⟩ := h
    exact ⟨F, h1.more hx, h2⟩
  · intro i j w' G S hi hj hS k hJ
    obtain ⟨F, h1, h2⟩ := hJ
    refine (H i j w' hi hj k).mono ?_
    rintro e w'' ⟨g, d, rfl, dp, q, k'⟩
    refine ⟨g, rfl, ⟨fun p => if p = i * n + j then d else F p, ?_, fun p hp => ?_⟩, k'⟩
    · refine (h1.congr (F' := fun p => if p = i * n + j then d else F p) (fun _ _ => rfl) (fun p hp => if_neg (by omega))).step k' k.size (fun x hx => (hS x hx).2) ?_
      rw [if_pos rfl]
      exact dp
    · by_cases e : p = i * n + j
      · subst e; dsimp only; rw [if_pos rfl]; exact q
      · dsimp only; rw [if_neg e]; exact h2 p (by omega)
  · rintro e w' ⟨R, G, S, rfl, sq, ⟨F, h1, h2⟩, hS, hR, k⟩
    exact ⟨R, G, S, F, rfl, sq, h1, h2, hS, hR, k⟩

/-- The number at a place of a square. -/
theorem Nums.at {b k p : Nat} {S : Nat → Prop} {w : World} {G : Nat → Nat} {F : Nat → DE} (h : Nums b S w k G F) (hp : p < k) : ∃ u, Num 0 w (G p) u (F p).2.1 ∧ Sd w (G p) (F p).1 ∧ Ex w (G p) (F p).2.2 := by
  obtain ⟨L, H, h1, -⟩ := h
  obtain ⟨⟨u, n, s, e, -⟩, -⟩ := h1 p hp
  exact ⟨u, n, s, e⟩

end Go.Proofs.YthahoabkehcgbaaGreatDoor

namespace Go.Proofs.YthahoabkehcgbaaGreatDoor
open Go.RowKit
set_option linter.unusedVariables false
set_option maxRecDepth 8000
set_option linter.unusedSimpArgs false

set_option maxHeartbeats 4000000 in
theorem again_impl {g : Nat} {u : Value} {zs : List Int} {s : Bool} {x : Int} (w : World) (n : Num 0 w g u zs) (sd : Sd w g s) (ex : Ex w g x) (hl : zs.length ≤ 1000000) :
    Calls Tryz.prog 142 #[.pointer (some ⟨g, 0, none⟩)] w fun e w' => ∃ v', e = .returned (.agg #[v', .bool s, .int .i64 x]) ∧ w'.ownsRow w.heap.size 3 1 v' zs.length (zs.map (Value.int .i64)) ∧ Kept 0 0 w w' := by
  obtain ⟨W, hW⟩ : ∃ W, W = w.alloc (.cells #[.slice none 0 0, .bool false, .int .i64 0] 150) := ⟨_, rfl⟩
  have k0 : Kept 0 0 w W := by rw [hW]; exact (Kept.refl 0 0 w).alloc _
  have q0 : W.cell? ⟨w.heap.size, 0, none⟩ = some (.slice none 0 0) := by rw [hW]; exact new_cell2 _ _ _ _ _ _ (by simp) rfl
  have f0 : W.frozen? ⟨w.heap.size, 0, none⟩ = false := by rw [hW]; exact new_loose2 _ _ _ _ _ (by simp)
  have q1 : W.cell? ⟨w.heap.size, 1, none⟩ = some (.bool false) := by rw [hW]; exact new_cell2 _ _ _ _ _ _ (by simp) rfl
  have f1 : W.frozen? ⟨w.heap.size, 1, none⟩ = false := by rw [hW]; exact new_loose2 _ _ _ _ _ (by simp)
  have q2 : W.cell? ⟨w.heap.size, 2, none⟩ = some (.int .i64 0) := by rw [hW]; exact new_cell2 _ _ _ _ _ _ (by simp) rfl
  have f2 : W.frozen? ⟨w.heap.size, 2, none⟩ = false := by rw [hW]; exact new_loose2 _ _ _ _ _ (by simp)
  have sW : W.heap.size = w.heap.size + 1 := by rw [hW]; simp
  have hgl := n.lt
  have kd : Kept 0 0 w W.drew := k0.drew
  have p1 := kd.cell0 sd.1
  have p2 := kd.cell0 ex.1
  have hc := copied_impl W.drew (n.kept kd) hl
  have KD := hide kd
  have S0 := hide sW
  have HG := hide hgl
  clear n sd ex k0 kd sW hgl
  go_enter Tryz.func142, Tryz.ntmps142
  go_wp2_with fail
  rw [← hW]
  clear hW
  refine wp_region_held_drew (S := (fun w' => w'.cell? ⟨g, 1, none⟩ = some (.bool s) ∧ w'.cell? ⟨g, 2, none⟩ = some (.int .i64 x))) (by kernel_rfl) ?_ (fun hHeld => ?_)
  · exact ⟨p1, p2⟩
  refine wpAnyH_take (i := 0) (oi := _) (v := .pointer (some ⟨g, 0, none⟩)) rfl (by kernel_rfl) (by kernel_rfl) (by kernel_rfl) (fun _ _ _ h => h) (Or.inl ⟨by rfl, ?_⟩) hHeld ?_
  · intro wq hSw
    try dsimp only at hSw
    go_simp
  try simp only [Act.put, List.getElem_toArray, List.getElem_cons_succ, List.getElem_cons_zero, List.setIfInBounds_toArray, List.set_cons_zero, List.set_cons_succ]
  refine wpAnyH_take (i := 1) (oi := _) (v := .pointer (some ⟨g, 0, none⟩)) rfl (by kernel_rfl) (by kernel_rfl) (by kernel_rfl) (fun _ _ _ h => h) (Or.inl ⟨by rfl, ?_⟩) hHeld ?_
  · intro wq hSw
    try dsimp only at hSw
    go_simp
  try simp only [Act.put, List.getElem_toArray, List.getElem_cons_succ, List.getElem_cons_zero, List.setIfInBounds_toArray, List.set_cons_zero, List.set_cons_succ]
  refine wpAnyH_take (i := 2) (oi := _) (v := .pointer (some ⟨g, 0, none⟩)) rfl (by kernel_rfl) (by kernel_rfl) (by kernel_rfl) (fun _ _ _ h => h) (Or.inl ⟨by rfl, ?_⟩) hHeld ?_
  · intro wq hSw
    try dsimp only at hSw
    go_simp
  try simp only [Act.put, List.getElem_toArray, List.getElem_cons_succ, List.getElem_cons_zero, List.setIfInBounds_toArray, List.set_cons_zero, List.set_cons_succ]
  refine wpAnyH_take (i := 3) (oi := _) (v := .pointer (some ⟨g, 0, none⟩)) rfl (by kernel_rfl) (by kernel_rfl) (by kernel_rfl) (fun _ _ _ h => h) (Or.inl ⟨by rfl, ?_⟩) hHeld ?_
  · intro wq hSw
    try dsimp only at hSw
    go_simp
  try simp only [Act.put, List.getElem_toArray, List.getElem_cons_succ, List.getElem_cons_zero, List.setIfInBounds_toArray, List.set_cons_zero, List.set_cons_succ]
  refine wpAnyH_take (i := 5) (oi := _) (v := .pointer (some ⟨g, 0, none⟩)) rfl (by kernel_rfl) (by kernel_rfl) (by kernel_rfl) (fun _ _ _ h => h) (Or.inl ⟨by rfl, ?_⟩) hHeld ?_
  · intro wq hSw
    try dsimp only at hSw
    go_simp
  try simp only [Act.put, List.getElem_toArray, List.getElem_cons_succ, List.getElem_cons_zero, List.setIfInBounds_toArray, List.set_cons_zero, List.set_cons_succ]
  refine wpAnyH_take (i := 6) (oi := _) (v := .pointer (some ⟨g, 0, none⟩)) rfl (by kernel_rfl) (by kernel_rfl) (by kernel_rfl) (fun _ _ _ h => h) (Or.inl ⟨by rfl, ?_⟩) hHeld ?_
  · intro wq hSw
    try dsimp only at hSw
    go_simp
  try simp only [Act.put, List.getElem_toArray, List.getElem_cons_succ, List.getElem_cons_zero, List.setIfInBounds_toArray, List.set_cons_zero, List.set_cons_succ]
  refine wpAnyH_take (i := 7) (oi := _) (v := .pointer (some ⟨g, 0, none⟩)) rfl (by kernel_rfl) (by kernel_rfl) (by kernel_rfl) (fun _ _ _ h => h) (Or.inl ⟨by rfl, ?_⟩) hHeld ?_
  · intro wq hSw
    try dsimp only at hSw
    go_simp
  try simp only [Act.put, List.getElem_toArray, List.getElem_cons_succ, List.getElem_cons_zero, List.setIfInBounds_toArray, List.set_cons_zero, List.set_cons_succ]
  refine wpAnyH_take (i := 8) (oi := _) (v := .pointer (some ⟨g, 1, none⟩)) rfl (by kernel_rfl) (by kernel_rfl) (by kernel_rfl) (fun _ _ _ h => h) (Or.inl ⟨by rfl, ?_⟩) hHeld ?_
  · intro wq hSw
    try dsimp only at hSw
    go_simp
  try simp only [Act.put, List.getElem_toArray, List.getElem_cons_succ, List.getElem_cons_zero, List.setIfInBounds_toArray, List.set_cons_zero, List.set_cons_succ]
  refine wpAnyH_take (i := 9) (oi := _) (v := .bool s) rfl (by kernel_rfl) (by kernel_rfl) (by kernel_rfl) (fun _ _ _ h => h) (Or.inl ⟨by rfl, ?_⟩) hHeld ?_
  · intro wq hSw
    try dsimp only at hSw
    go_simp
  try simp only [Act.put, List.getElem_toArray, List.getElem_cons_succ, List.getElem_cons_zero, List.setIfInBounds_toArray, List.set_cons_zero, List.set_cons_succ]
  refine wpAnyH_take (i := 11) (oi := _) (v := .pointer (some ⟨g, 0, none⟩)) rfl (by kernel_rfl) (by kernel_rfl) (by kernel_rfl) (fun _ _ _ h => h) (Or.inl ⟨by rfl, ?_⟩) hHeld ?_
  · intro wq hSw
    try dsimp only at hSw
    go_simp
  try simp only [Act.put, List.getElem_toArray, List.getElem_cons_succ, List.getElem_cons_zero, List.setIfInBounds_toArray, List.set_cons_zero, List.set_cons_succ]
  refine wpAnyH_take (i := 12) (oi := _) (v := .pointer (some ⟨g, 0, none⟩)) rfl (by kernel_rfl) (by kernel_rfl) (by kernel_rfl) (fun _ _ _ h => h) (Or.inl ⟨by rfl, ?_⟩) hHeld ?_
  · intro wq hSw
    try dsimp only at hSw
    go_simp
  try simp only [Act.put, List.getElem_toArray, List.getElem_cons_succ, List.getElem_cons_zero, List.setIfInBounds_toArray, List.set_cons_zero, List.set_cons_succ]
  refine wpAnyH_take (i := 13) (oi := _) (v := .pointer (some ⟨g, 2, none⟩)) rfl (by kernel_rfl) (by kernel_rfl) (by kernel_rfl) (fun _ _ _ h => h) (Or.inl ⟨by rfl, ?_⟩) hHeld ?_
  · intro wq hSw
    try dsimp only at hSw
    go_simp
  try simp only [Act.put, List.getElem_toArray, List.getElem_cons_succ, List.getElem_cons_zero, List.setIfInBounds_toArray, List.set_cons_zero, List.set_cons_succ]
  refine wpAnyH_take (i := 14) (oi := _) (v := .int .i64 x) rfl (by kernel_rfl) (by kernel_rfl) (by kernel_rfl) (fun _ _ _ h => h) (Or.inl ⟨by rfl, ?_⟩) hHeld ?_
  · intro wq hSw
    try dsimp only at hSw
    go_simp
  try simp only [Act.put, List.getElem_toArray, List.getElem_cons_succ, List.getElem_cons_zero, List.setIfInBounds_toArray, List.set_cons_zero, List.set_cons_succ]
  refine wpAnyH_ready (rs := [4]) (by kernel_rfl) (by simp) ?_
  refine AllReadyH.cons rfl (fun KK hK => ?_) AllReadyH.nil
  simp only [List.getElem_toArray, List.getElem_cons_succ, List.getElem_cons_zero]
  rw [if_pos (by rfl)]
  refine wps1 191 (.tmp 6) _ rfl in_copied (.pointer (some ⟨g, 0, none⟩)) rfl hc ?_
  rintro e w1 ⟨v1, rfl, o1, k1⟩
  refine ⟨_, rfl, ?_⟩
  obtain ⟨a1, c1, hv1⟩ := own_slice o1
  subst hv1
  replace f0 := k1.loose0 (W := W.drew) (World.block_lt_of_cell? W ⟨w.heap.size, 0, none⟩ q0) f0
  replace f1 := k1.loose0 (W := W.drew) (World.block_lt_of_cell? W ⟨w.heap.size, 1, none⟩ q1) f1
  replace f2 := k1.loose0 (W := W.drew) (World.block_lt_of_cell? W ⟨w.heap.size, 2, none⟩ q2) f2
  replace q0 := k1.cell0 (W := W.drew) q0
  replace q1 := k1.cell0 (W := W.drew) q1
  replace q2 := k1.cell0 (W := W.drew) q2
  replace p1 := k1.cell0 p1
  replace p2 := k1.cell0 p2
  have ss := unhide S0
  have hgl := unhide HG
  have o2 : w1.ownsRow (w.heap.size + 1) 3 1 (.slice a1 zs.length c1) zs.length (zs.map (Value.int .i64)) := by
    have h5 := o1
    rw [show W.drew.heap.size = W.heap.size from rfl, ss] at h5
    exact h5
  have K1 := hide ((unhide KD).trans k1)
  clear hc o1 k1
  clear hHeld
  refine hK.out _ _ ?_ (fun hHeld => ?_)
  · exact ⟨p1, p2⟩
  clear hK KK
  try simp only [Act.put, List.getElem_toArray, List.getElem_cons_succ, List.getElem_cons_zero, List.setIfInBounds_toArray, List.set_cons_zero, List.set_cons_succ]
  refine wpAnyH_take (i := 10) (oi := _) (v := .agg #[.slice a1 zs.length c1, .bool s]) rfl (by kernel_rfl) (by kernel_rfl) (by kernel_rfl) (fun _ _ _ h => h) (Or.inl ⟨by rfl, ?_⟩) hHeld ?_
  · intro wq hSw
    try dsimp only at hSw
    go_simp
  try simp only [Act.put, List.getElem_toArray, List.getElem_cons_succ, List.getElem_cons_zero, List.setIfInBounds_toArray, List.set_cons_zero, List.set_cons_succ]
  refine wpAnyH_take (i := 15) (oi := _) (v := .agg #[.slice a1 zs.length c1, .bool s, .int .i64 x]) rfl (by kernel_rfl) (by kernel_rfl) (by kernel_rfl) (fun _ _ _ h => h) (Or.inl ⟨by rfl, ?_⟩) hHeld ?_
  · intro wq hSw
    try dsimp only at hSw
    go_simp
  try simp only [Act.put, List.getElem_toArray, List.getElem_cons_succ, List.getElem_cons_zero, List.setIfInBounds_toArray, List.set_cons_zero, List.set_cons_succ]
  refine wpAnyH_ready (rs := [16]) (by kernel_rfl) (by simp) ?_
  refine AllReadyH.cons rfl (fun KK hK => ?_) AllReadyH.nil
  simp only [List.getElem_toArray, List.getElem_cons_succ, List.getElem_cons_zero]
  rw [if_pos (by rfl)]
  go_simp
  clear hHeld
  refine hK.out _ _ ?_ (fun hHeld => ?_)
  · exact ⟨(cell_aside _ (by dsimp only; omega) (cell_aside _ (by dsimp only; omega) (cell_aside _ (by dsimp only; omega) p1))), (cell_aside _ (by dsimp only; omega) (cell_aside _ (by dsimp only; omega) (cell_aside _ (by dsimp only; omega) p2)))⟩
  clear hK KK
  try simp only [Act.put, List.getElem_toArray, List.getElem_cons_succ, List.getElem_cons_zero, List.setIfInBounds_toArray, List.set_cons_zero, List.set_cons_succ]
  refine wpAnyH_done (by kernel_rfl) ?_ _
  clear hHeld
  have ks : Kept w.heap.size (w.heap.size + 1) w1 (((w1.setCell ⟨w.heap.size, 0, none⟩ (.slice a1 zs.length c1)).setCell ⟨w.heap.size, 1, none⟩ (.bool s)).setCell ⟨w.heap.size, 2, none⟩ (.int .i64 x)) := (((Kept.refl _ _ _).setCell (p := ⟨w.heap.size, 0, none⟩) (Nat.le_refl _) (Nat.lt_succ_self _) _).setCell (p := ⟨w.heap.size, 1, none⟩) (Nat.le_refl _) (Nat.lt_succ_self _) _).setCell (p := ⟨w.heap.size, 2, none⟩) (Nat.le_refl _) (Nat.lt_succ_self _) _
  have O7 := hide (own_less (base' := w.heap.size) (Mod.own (S := fun i => i = w.heap.size) ⟨ks.os, ks.tape, ks.output, ks.size, fun i hi ho => ks.block i hi (by omega)⟩ o2 (fun i hi => by have := (o2.lt i hi).1; omega)) (by omega))
  have K7 := hide ((unhide K1).wide ks (Nat.le_refl _))
  have G0 := cell_off _ _ _ 2 (.int .i64 x) _ (cell_off _ _ _ 1 (.bool s) _ (cell_on _ _ _ (.slice a1 zs.length c1) _ q0) (show (0 : Nat) ≠ 1 by omega)) (show (0 : Nat) ≠ 2 by omega)
  have G1 := cell_off _ _ _ 2 (.int .i64 x) _ (cell_on _ _ _ (.bool s) _ (cell_off _ _ _ 0 (.slice a1 zs.length c1) _ q1 (show (1 : Nat) ≠ 0 by omega))) (show (1 : Nat) ≠ 2 by omega)
  have G2 := cell_on _ _ _ (.int .i64 x) _ (cell_off _ _ _ 1 (.bool s) _ (cell_off _ _ _ 0 (.slice a1 zs.length c1) _ q2 (show (2 : Nat) ≠ 0 by omega)) (show (2 : Nat) ≠ 1 by omega))
  clear ks K1 o2
  go_wp2_with fail
  exact bodyPost_ret (v := .agg #[.slice a1 zs.length c1, .bool s, .int .i64 x]) (by simp [results, Tryz.results142, go_sem, G0, G1, G2]) rfl ⟨_, rfl, unhide O7, unhide K7⟩

end Go.Proofs.YthahoabkehcgbaaGreatDoor

namespace Go.Proofs.YthahoabkehcgbaaGreatDoor
open Go.RowKit
set_option linter.unusedVariables false
set_option maxRecDepth 8000
set_option linter.unusedSimpArgs false

/-- The first m pointers that G names. -/
def ptrs (G : Nat → Nat) (m : Nat) : List Value := (List.range m).map (fun p => Value.pointer (some ⟨G p, 0, none⟩))
theorem ptrs_length (G : Nat → Nat) (m : Nat) : (ptrs G m).length = m := by simp [ptrs]
theorem ptrs_at (G : Nat → Nat) {m p : Nat} (h : p < m) : (ptrs G m)[p]? = some (Value.pointer (some ⟨G p, 0, none⟩)) := by simp [ptrs, h]
theorem ptrs_add (G : Nat → Nat) (m n : Nat) : ptrs G (m + n) = ptrs G m ++ ptrs (fun j => G (m + j)) n := by
  unfold ptrs
  rw [List.range_add, List.map_append, List.map_map]
  rfl

end Go.Proofs.YthahoabkehcgbaaGreatDoor
