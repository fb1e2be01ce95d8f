/-
  Contracts that the proofs of this seat share: Sqg, Sqq, Ag, Cat.
-/
import Derived.Test.YthahoabkehcgbaaDoorDy2
import Derived.Test.YthahoabkehcgbaaDoorBM
import Derived.Test.YthahoabkehcgbaaDoorBI
import Derived.Test.YthahoabkehcgbaaDoorBC
import Derived.Deep.DeepCutAuto
import Derived.Deep.RegionHeld3
import Derived.Lib.AppendZeros
namespace Go.Proofs.YthahoabkehcgbaaDoor
open Go.RowKit
set_option linter.unusedVariables false
set_option maxRecDepth 8000
set_option linter.unusedSimpArgs false

/-- A call of a function value with what it has captured, of two arguments, as one step of an open statement. -/
theorem wpv2c {P : Program} {o : Oper} {a : Act} {w : World} {K : Act → World → Prop} {Q : Exit → Act → World → Prop} {R : Ending → World → Prop}
    (n : FuncId) (f x y : Operand) (ts : Array TypeId) (caps : Array Value) (hop : o.op = Op.call { callee := Callee.value f, args := #[x, y], argTypes := ts }) (hf : a.eval f = .func (.func n) #[] caps)
    (hcf : ∀ (w : World) (args : Array Value), (callFunc n args).run P w = .ok (.enter n args) w) (vx vy : Value) (hx : a.eval x = vx) (hy : a.eval y = vy) (hc : Calls P n (#[vx, vy] ++ caps) w R) (hK : ∀ e w', R e w' → ∃ v, e = .returned v ∧ K (a.put o.dst v) w') :
    Oper.wp P o a w K Q := by
  unfold Oper.wp
  have hrun : (execOp a.eval o).run P w = .ok (.enter n (#[vx, vy] ++ caps)) w := by
    simp [execOp, hop, resolve, invoke, hx, hy, hf, Deferred.ofValue, Result.andThen, hcf]
  rw [hrun, Oper.upon_enter]
  refine hc.mono ?_
  intro e w' h
  obtain ⟨v, rfl, h2⟩ := hK e w' h
  exact h2

/-- The block g holds a dyadic number of the call's own; none of its blocks is one of X. -/
def DyP (X : Nat → Prop) (w : World) (g : Nat) (d : DE) : Prop :=
  ∃ u, Num 0 w g u d.2.1 ∧ Sd w g d.1 ∧ Ex w g d.2.2 ∧ ¬ X g ∧ ∀ i, u.ownBlock = some i → ¬ X i
theorem DyP.lt {X : Nat → Prop} {w : World} {g : Nat} {d : DE} (h : DyP X w g d) : g < w.heap.size := by obtain ⟨u, n, _⟩ := h; exact n.lt
theorem DyP.mod {X : Nat → Prop} {w w' : World} {g : Nat} {d : DE} (h : DyP X w g d) (k : Mod X w w') : DyP X w' g d := by
  obtain ⟨u, n, s, e, x1, x2⟩ := h
  exact ⟨u, n.mod k x1 x2, ⟨k.cell (a := ⟨g, 1, none⟩) x1 s.1, k.loose (a := ⟨g, 1, none⟩) x1 n.lt s.2⟩, ⟨k.cell (a := ⟨g, 2, none⟩) x1 e.1, k.loose (a := ⟨g, 2, none⟩) x1 n.lt e.2⟩, x1, x2⟩
theorem DyP.kept {X : Nat → Prop} {w w' : World} {g : Nat} {d : DE} (h : DyP X w g d) (k : Kept 0 0 w w') : DyP X w' g d := h.mod k.toMod
theorem DyP.less {X Y : Nat → Prop} {w : World} {g : Nat} {d : DE} (h : DyP X w g d) (hY : ∀ x, Y x → x < w.heap.size → X x) : DyP Y w g d := by
  obtain ⟨u, n, s, e, x1, x2⟩ := h
  exact ⟨u, n, s, e, fun h => x1 (hY _ h n.lt), fun i hi h => x2 i hi (hY _ h (n.own.lt i hi).2)⟩
theorem DyP.win {X : Nat → Prop} {lo hi : Nat} {w w' : World} {g : Nat} {d : DE} (h : DyP X w g d) (k : Kept lo hi w w') (hX : ∀ x, lo ≤ x → x < hi → X x) : DyP X w' g d :=
  h.mod ⟨k.os, k.tape, k.output, k.size, fun i hi' ho => k.block i hi' (by rcases Nat.lt_or_ge i lo with h1 | h1; exact .inl h1; rcases Nat.lt_or_ge i hi with h2 | h2; exact absurd (hX i h1 h2) ho; exact .inr h2)⟩

/-- The block R has rows of pointers, row by row to the blocks that G names; R and the rows are of S. -/
def SqG (S : Nat → Prop) (w : World) (R n m : Nat) (G : Nat → Nat) : Prop :=
  R < w.heap.size ∧ S R ∧ ∀ i, i < m → ∃ r, w.cell? ⟨R, i, none⟩ = some (.slice (some ⟨r, 0, none⟩) n n) ∧ S r ∧ R < r ∧ r < w.heap.size ∧ ∀ j, j < n → w.cell? ⟨r, j, none⟩ = some (.pointer (some ⟨G (i * n + j), 0, none⟩))
theorem SqG.kept {S : Nat → Prop} {w w' : World} {R n m : Nat} {G : Nat → Nat} (h : SqG S w R n m G) (k : Kept 0 0 w w') : SqG S w' R n m G := by
  obtain ⟨h1, h2, h3⟩ := h
  refine ⟨Nat.lt_of_lt_of_le h1 k.size, h2, fun i hi => ?_⟩
  obtain ⟨r, c, q1, q2, q3, q4⟩ := h3 i hi
  exact ⟨r, k.cell0 c, q1, q2, Nat.lt_of_lt_of_le q3 k.size, fun j hj => k.cell0 (q4 j hj)⟩
theorem SqG.keptY {S : Nat → Prop} {lo hi : Nat} {w w' : World} {R n m : Nat} {G : Nat → Nat} (h : SqG S w R n m G) (k : Kept lo hi w w') (hx : hi ≤ R) : SqG S w' R n m G := by
  obtain ⟨h1, h2, h3⟩ := h
  refine ⟨Nat.lt_of_lt_of_le h1 k.size, h2, fun i hi => ?_⟩
  obtain ⟨r, c, q1, q2, q3, q4⟩ := h3 i hi
  exact ⟨r, k.cellOut (a := ⟨R, i, none⟩) (.inr hx) c, q1, q2, Nat.lt_of_lt_of_le q3 k.size, fun j hj => k.cellOut (a := ⟨r, j, none⟩) (.inr (by dsimp only; omega)) (q4 j hj)⟩
/-- G with another pointer at k. -/
def updG (G : Nat → Nat) (k g : Nat) (p : Nat) : Nat := if p = k then g else G p
theorem updG_on (G : Nat → Nat) (k g : Nat) : updG G k g k = g := by simp [updG]
theorem updG_off (G : Nat → Nat) {k g p : Nat} (h : p ≠ k) : updG G k g p = G p := by simp [updG, h]

/-- A number whose blocks lie in lo .. hi. -/
def Dw (lo hi : Nat) (w : World) (g : Nat) (d : DE) : Prop :=
  ∃ u, Num 0 w g u d.2.1 ∧ Sd w g d.1 ∧ Ex w g d.2.2 ∧ lo ≤ g ∧ g < hi ∧ ∀ i, u.ownBlock = some i → lo ≤ i ∧ i < hi
theorem Dw.mod {lo hi : Nat} {X : Nat → Prop} {w w' : World} {g : Nat} {d : DE} (h : Dw lo hi w g d) (k : Mod X w w') (hX : ∀ x, lo ≤ x → x < hi → ¬ X x) : Dw lo hi w' g d := by
  obtain ⟨u, n, s, e, x1, x2, x3⟩ := h
  have hg := hX g x1 x2
  exact ⟨u, n.mod k hg (fun i hi => hX i (x3 i hi).1 (x3 i hi).2), ⟨k.cell (a := ⟨g, 1, none⟩) hg s.1, k.loose (a := ⟨g, 1, none⟩) hg n.lt s.2⟩, ⟨k.cell (a := ⟨g, 2, none⟩) hg e.1, k.loose (a := ⟨g, 2, none⟩) hg n.lt e.2⟩, x1, x2, x3⟩
theorem DyP.dw {B : Nat} {w : World} {g : Nat} {d : DE} (h : DyP (fun x => x < B) w g d) : Dw B w.heap.size w g d := by
  obtain ⟨u, n, s, e, x1, x2⟩ := h
  exact ⟨u, n, s, e, by omega, n.lt, fun i hi => ⟨by have := x2 i hi; omega, (n.own.lt i hi).2⟩⟩
/-- The first k pointers of G are to the numbers F, whose blocks lie apart, behind b, and in no block of S. -/
def Nums (b : Nat) (S : Nat → Prop) (w : World) (k : Nat) (G : Nat → Nat) (F : Nat → DE) : Prop :=
  ∃ L H : Nat → Nat, (∀ p, p < k → Dw (L p) (H p) w (G p) (F p) ∧ b ≤ L p ∧ H p ≤ w.heap.size ∧ ∀ x, L p ≤ x → x < H p → ¬ S x) ∧ ∀ p q, p < k → q < k → p ≠ q → H p ≤ L q ∨ H q ≤ L p
theorem Nums.mod {b k : Nat} {S : Nat → Prop} {w w' : World} {G : Nat → Nat} {F : Nat → DE} (h : Nums b S w k G F) (m : Mod S w w') : Nums b S w' k G F := by
  obtain ⟨L, H, h1, h2⟩ := h
  refine ⟨L, H, fun p hp => ?_, h2⟩
  obtain ⟨d, q1, q2, q3⟩ := h1 p hp
  exact ⟨d.mod m q3, q1, Nat.le_trans q2 m.size, q3⟩
theorem Nums.more {b k x : Nat} {S : Nat → Prop} {w : World} {G : Nat → Nat} {F : Nat → DE} (h : Nums b S w k G F) (hx : w.heap.size ≤ x) : Nums b (fun y => S y ∨ y = x) w k G F := by
  obtain ⟨L, H, h1, h2⟩ := h
  refine ⟨L, H, fun p hp => ?_, h2⟩
  obtain ⟨d, q1, q2, q3⟩ := h1 p hp
  exact ⟨d, q1, q2, fun y hy1 hy2 hs => hs.elim (q3 y hy1 hy2) (fun e => by omega)⟩
/-- Another list of the call's own: what is made since. -/
theorem Nums.fresh {b k : Nat} {S S' : Nat → Prop} {w w' : World} {G : Nat → Nat} {F : Nat → DE} (h : Nums b S w k G F) (m : Kept 0 0 w w') (hS : ∀ x, S' x → w.heap.size ≤ x) : Nums b S' w' k G F := by
  obtain ⟨L, H, h1, h2⟩ := h
  refine ⟨L, H, fun p hp => ?_, h2⟩
  obtain ⟨d, q1, q2, q3⟩ := h1 p hp
  exact ⟨d.mod (m.toMod (S := fun _ => False)) (fun _ _ _ h => h), q1, Nat.le_trans q2 m.size, fun y hy1 hy2 hs => by have := hS y hs; omega⟩
theorem Nums.perm {b k m : Nat} {S : Nat → Prop} {w : World} {G : Nat → Nat} {F : Nat → DE} (h : Nums b S w k G F) (f : Nat → Nat) (hf : ∀ p, p < m → f p < k) (hi : ∀ p q, p < m → q < m → f p = f q → p = q) : Nums b S w m (fun p => G (f p)) (fun p => F (f p)) := by
  obtain ⟨L, H, h1, h2⟩ := h
  exact ⟨fun p => L (f p), fun p => H (f p), fun p hp => h1 _ (hf p hp), fun p q hp hq hne => h2 _ _ (hf p hp) (hf q hq) (fun e => hne (hi p q hp hq e))⟩
theorem Nums.congr {b k : Nat} {S : Nat → Prop} {w : World} {G G' : Nat → Nat} {F F' : Nat → DE} (h : Nums b S w k G F) (hG : ∀ p, p < k → G' p = G p) (hF : ∀ p, p < k → F' p = F p) : Nums b S w k G' F' := by
  obtain ⟨L, H, h1, h2⟩ := h
  exact ⟨L, H, fun p hp => by rw [hG p hp, hF p hp]; exact h1 p hp, h2⟩
theorem Nums.step {b k g : Nat} {S : Nat → Prop} {w w' : World} {G : Nat → Nat} {F : Nat → DE} (h : Nums b S w k G F) (m : Kept 0 0 w w') (hb : b ≤ w.heap.size) (hS : ∀ x, S x → x < w.heap.size) (d : DyP (fun x => x < w.heap.size) w' g (F k)) : Nums b S w' (k + 1) (updG G k g) F := by
  obtain ⟨L, H, h1, h2⟩ := h.mod (m.toMod (S := S))
  obtain ⟨L0, H0, h10, h20⟩ := h
  have hs := m.size
  obtain ⟨L, H, h1, h2, h3⟩ : ∃ L H : Nat → Nat, (∀ p, p < k → Dw (L p) (H p) w' (G p) (F p) ∧ b ≤ L p ∧ H p ≤ w'.heap.size ∧ ∀ x, L p ≤ x → x < H p → ¬ S x) ∧ (∀ p q, p < k → q < k → p ≠ q → H p ≤ L q ∨ H q ≤ L p) ∧ ∀ p, p < k → H p ≤ w.heap.size := by
    refine ⟨L0, H0, fun p hp => ?_, h20, fun p hp => (h10 p hp).2.2.1⟩
    obtain ⟨d, q1, q2, q3⟩ := h10 p hp
    exact ⟨d.mod (m.toMod (S := S)) q3, q1, Nat.le_trans q2 hs, q3⟩
  refine ⟨fun p => if p = k then w.heap.size else L p, fun p => if p = k then w'.heap.size else H p, fun p hp => ?_, fun p q hp hq hne => ?_⟩
  · by_cases e : p = k
    · subst e
      simp only [if_pos, updG_on]
      exact ⟨d.dw, hb, Nat.le_refl _, fun x hx _ hsx => by have := hS x hsx; omega⟩
    · simp only [if_neg e, updG_off G e]
      exact h1 p (by omega)
  · by_cases e : p = k
    · subst e
      have e2 : q ≠ p := fun h => hne h.symm
      simp only [if_pos, if_neg e2]
      exact .inr (h3 q (by omega))
    · by_cases e2 : q = k
      · subst e2
        simp only [if_pos, if_neg e]
        exact .inl (h3 p (by omega))
      · simp only [if_neg e, if_neg e2]
        exact h2 p q (by omega) (by omega) hne

theorem Tryd.infoPD : (Tryd.prog.info? 100).map (fun i => (i.zero, i.size, i.bytes)) = some (some (.pointer none), 1, 8) := by kernel_rfl

/-- A list of n cells of the call's own: they are there and may be written. -/
def Cls (w : World) (g n : Nat) : Prop := g < w.heap.size ∧ (∀ k, k < n → ∃ u, w.cell? ⟨g, k, none⟩ = some u) ∧ ∀ k, k < n → w.frozen? ⟨g, k, none⟩ = false
theorem Cls.kept {w w' : World} {g n l h : Nat} (c : Cls w g n) (k : Kept l h w w') (hg : g < l ∨ h ≤ g) : Cls w' g n := by
  have hb := k.block g c.1 hg
  exact ⟨Nat.lt_of_lt_of_le c.1 k.size, fun i hi => by obtain ⟨u, hu⟩ := c.2.1 i hi; exact ⟨u, (World.cell?_of_block (w := w) (a := ⟨g, i, none⟩) hb).trans hu⟩, fun i hi => (World.frozen?_of_block (w := w) (a := ⟨g, i, none⟩) hb).trans (c.2.2 i hi)⟩
theorem Cls.set {w : World} {g n p : Nat} {x : Value} (c : Cls w g n) : Cls (w.setCell ⟨g, p, none⟩ x) g n :=
  ⟨by rw [size_set]; exact c.1, fun i hi => by obtain ⟨u, hu⟩ := c.2.1 i hi; exact cells_of_setCell hu, fun i hi => by rw [frozen_set]; exact c.2.2 i hi⟩
theorem own1_cls {w : World} {base n g c : Nat} {e : TypeId} {z : Value} (hz : z.cells.size = 1) (h : w.ownsRow base e 1 (.slice (some ⟨g, 0, none⟩) n c) n (madeCells z.cells (n * 1)).toList) : Cls w g n := by
  rcases h.2 with ⟨e1, h0⟩ | ⟨g', cap, cur, e1, hb, hg, hle, hm, hs, htake⟩
  · cases e1
  · cases e1
    refine ⟨(Array.getElem?_eq_some_iff.1 hg).1, fun k hk => ?_, fun k hk => by simp [World.frozen?, hg]⟩
    have hl : (madeCells z.cells (n * 1)).toList.length = n * 1 := by simp [madeCells]
    have h1 : ∃ u, (madeCells z.cells (n * 1)).toList[k]? = some u := ⟨_, List.getElem?_eq_getElem (by omega)⟩
    obtain ⟨u, hu⟩ := h1
    refine ⟨u, ?_⟩
    rw [← htake, List.getElem?_take, if_pos (by omega)] at hu
    simpa [World.cell?, hg] using hu

theorem Kept.fresh {a b r : Nat} {w1 w2 w3 : World} (h : Kept a b w1 w2) (k : Kept r (r + 1) w2 w3) (hr : w1.heap.size ≤ r) : Kept a b w1 w3 :=
  ⟨k.os.trans h.os, k.tape.trans h.tape, k.output.trans h.output, Nat.le_trans h.size k.size, fun i hi ho => (k.block i (Nat.lt_of_lt_of_le hi h.size) (.inl (by omega))).trans (h.block i hi ho)⟩

end Go.Proofs.YthahoabkehcgbaaDoor

namespace Go.Proofs.YthahoabkehcgbaaDoor
open Go.RowKit
set_option linter.unusedVariables false
set_option maxRecDepth 8000

/-- The number at a place of a square. -/
theorem Nums.at {b k p : Nat} {S : Nat → Prop} {w : World} {G : Nat → Nat} {F : Nat → DE} (h : Nums b S w k G F) (hp : p < k) : ∃ u, Num 0 w (G p) u (F p).2.1 ∧ Sd w (G p) (F p).1 ∧ Ex w (G p) (F p).2.2 := by
  obtain ⟨L, H, h1, -⟩ := h
  obtain ⟨⟨u, n, s, e, -⟩, -⟩ := h1 p hp
  exact ⟨u, n, s, e⟩

end Go.Proofs.YthahoabkehcgbaaDoor

namespace Go.Proofs.YthahoabkehcgbaaDoor
open Go.RowKit
set_option linter.unusedVariables false
set_option maxRecDepth 8000
set_option linter.unusedSimpArgs false

end Go.Proofs.YthahoabkehcgbaaDoor

namespace Go.Proofs.YthahoabkehcgbaaDoor
open Go.RowKit
set_option linter.unusedVariables false
set_option maxRecDepth 8000
set_option linter.unusedSimpArgs false

/-- The first m pointers that G names. -/
def ptrs (G : Nat → Nat) (m : Nat) : List Value := (List.range m).map (fun p => Value.pointer (some ⟨G p, 0, none⟩))
theorem ptrs_length (G : Nat → Nat) (m : Nat) : (ptrs G m).length = m := by simp [ptrs]
theorem ptrs_at (G : Nat → Nat) {m p : Nat} (h : p < m) : (ptrs G m)[p]? = some (Value.pointer (some ⟨G p, 0, none⟩)) := by simp [ptrs, h]
theorem ptrs_add (G : Nat → Nat) (m n : Nat) : ptrs G (m + n) = ptrs G m ++ ptrs (fun j => G (m + j)) n := by
  unfold ptrs
  rw [List.range_add, List.map_append, List.map_map]
  rfl

end Go.Proofs.YthahoabkehcgbaaDoor
