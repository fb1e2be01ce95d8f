/-
  Contracts that the proofs of this seat share: Sqg, Sqq, Ag, Cat.
-/
import Derived.Test.YthahoabkehcgbaaGreatDoorqoDy2
import Derived.Test.YthahoabkehcgbaaGreatDoorqoBM
import Derived.Test.YthahoabkehcgbaaGreatDoorqoBI
import Derived.Test.YthahoabkehcgbaaGreatDoorqoBC
import Derived.Deep.DeepCutAuto
import Derived.Deep.RegionHeld3
import Derived.Lib.AppendZeros
namespace Go.Proofs.YthahoabkehcgbaaGreatDoor
open Go.RowKit
set_option linter.unusedVariables false
set_option maxRecDepth 8000
set_option linter.unusedSimpArgs false

/-- A call of a function value with what it has captured, of two arguments, as one step of an open statement. -/
theorem wpv2c {P : Program} {o : Oper} {a : Act} {w : World} {K : Act → World → Prop} {Q : Exit → Act → World → Prop} {R : Ending → World → Prop}
    (n : FuncId) (f x y : Operand) (ts : Array TypeId) (caps : Array Value) (hop : o.op = Op.call { callee := Callee.value f, args := #[x, y], argTypes := ts }) (hf : a.eval f = .func (.func n) #[] caps)
    (hcf : ∀ (w : World) (args : Array Value), (callFunc n args).run P w = .ok (.enter n args) w) (vx vy : Value) (hx : a.eval x = vx) (hy : a.eval y = vy) (hc : Calls P n (#[vx, vy] ++ caps) w R) (hK : ∀ e w', R e w' → ∃ v, e = .returned v ∧ K (a.put o.dst v) w') :
    Oper.wp P o a w K Q := by
  unfold Oper.wp
  have hrun : (execOp a.eval o).run P w = .ok (.enter n (#[vx, vy] ++ caps)) w := by
    simp [execOp, hop, resolve, invoke, hx, hy, hf, Deferred.ofValue, Result.andThen, hcf]
  rw [hrun, Oper.upon_enter]
  refine hc.mono ?_
  intro e w' h
  obtain ⟨v, rfl, h2⟩ := hK e w' h
  exact h2

/-- The block g holds a dyadic number of the call's own; none of its blocks is one of X. -/
def DyP (X : Nat → Prop) (w : World) (g : Nat) (d : DE) : Prop :=
  ∃ u, Num 0 w g u d.2.1 ∧ Sd w g d.1 ∧ Ex w g d.2.2 ∧ ¬ X g ∧ ∀ i, u.ownBlock = some i → ¬ X i
theorem DyP.lt {X : Nat → Prop} {w : World} {g : Nat} {d : DE} (h : DyP X w g d) : g < w.heap.size := by obtain ⟨u, n, _⟩ := h; exact n.lt
theorem DyP.mod {X : Nat → Prop} {w w' : World} {g : Nat} {d : DE} (h : DyP X w g d) (k : Mod X w w') : DyP X w' g d := by
  obtain ⟨u, n, s, e, x1, x2⟩ := h
  exact ⟨u, n.mod k x1 x2, ⟨k.cell (a := ⟨g, 1, none⟩) x1 s.1, k.loose (a := ⟨g, 1, none⟩) x1 n.lt s.2⟩, ⟨k.cell (a := ⟨g, 2, none⟩) x1 e.1, k.loose (a := ⟨g, 2, none⟩) x1 n.lt e.2⟩, x1, x2⟩
theorem DyP.kept {X : Nat → Prop} {w w' : World} {g : Nat} {d : DE} (h : DyP X w g d) (k : Kept 0 0 w w') : DyP X w' g d := h.mod k.toMod
theorem DyP.less {X Y : Nat → Prop} {w : World} {g : Nat} {d : DE} (h : DyP X w g d) (hY : ∀ x, Y x → x < w.heap.size → X x) : DyP Y w g d := by
  obtain ⟨u, n, s, e, x1, x2⟩ := h
  exact ⟨u, n, s, e, fun h => x1 (hY _ h n.lt), fun i hi h => x2 i hi (hY _ h (n.own.lt i hi).2)⟩
theorem DyP.win {X : Nat → Prop} {lo hi : Nat} {w w' : World} {g : Nat} {d : DE} (h : DyP X w g d) (k : Kept lo hi w w') (hX : ∀ x, lo ≤ x → x < hi → X x) : DyP X w' g d :=
  h.mod ⟨k.os, k.tape, k.output, k.size, fun i hi' ho => k.block i hi' (by rcases Nat.lt_or_ge i lo with h1 | h1; exact .inl h1; rcases Nat.lt_or_ge i hi with h2 | h2; exact absurd (hX i h1 h2) ho; exact .inr h2)⟩

/-- The block R has rows of pointers, row by row to the blocks that G names; R and the rows are of S. -/
def SqG (S : Nat → Prop) (w : World) (R n m : Nat) (G : Nat → Nat) : Prop :=
  R < w.heap.size ∧ S R ∧ ∀ i, i < m → ∃ r, w.cell? ⟨R, i, none⟩ = some (.slice (some ⟨r, 0, none⟩) n n) ∧ S r ∧ R < r ∧ r < w.heap.size ∧ ∀ j, j < n → w.cell? ⟨r, j, none⟩ = some (.pointer (some ⟨G (i * n + j), 0, none⟩))
theorem SqG.kept {S : Nat → Prop} {w w' : World} {R n m : Nat} {G : Nat → Nat} (h : SqG S w R n m G) (k : Kept 0 0 w w') : SqG S w' R n m G := by
  obtain ⟨h1, h2, h3⟩ := h
  refine ⟨Nat.lt_of_lt_of_le h1 k.size, h2, fun i hi => ?_⟩
  obtain ⟨r, c, q1, q2, q3, q4⟩ := h3 i hi
  exact ⟨r, k.cell0 c, q1, q2, Nat.lt_of_lt_of_le q3 k.size, fun j hj => k.cell0 (q4 j hj)⟩
theorem SqG.keptY {S : Nat → Prop} {lo hi : Nat} {w w' : World} {R n m : Nat} {G : Nat → Nat} (h : SqG S w R n m G) (k : Kept lo hi w w') (hx : hi ≤ R) : SqG S w' R n m G := by
  obtain ⟨h1, h2, h3⟩ := h
  refine ⟨Nat.lt_of_lt_of_le h1 k.size, h2, fun i hi => ?_⟩
  obtain ⟨r, c, q1, q2, q3, q4⟩ := h3 i hi
  exact ⟨r, k.cellOut (a := ⟨R, i, none⟩) (.inr hx) c, q1, q2, Nat.lt_of_lt_of_le q3 k.size, fun j hj => k.cellOut (a := ⟨r, j, none⟩) (.inr (by dsimp only; omega)) (q4 j hj)⟩
/-- G with another pointer at k. -/
def updG (G : Nat → Nat) (k g : Nat) (p : Nat) : Nat := if p = k then g else G p
theorem updG_on (G : Nat → Nat) (k g : Nat) : updG G k g k = g := by simp [updG]
theorem updG_off (G : Nat → Nat) {k g p : Nat} (h : p ≠ k) : updG G k g p = G p := by simp [updG, h]

/-- A number whose blocks lie in lo .. hi. -/
def Dw (lo hi : Nat) (w : World) (g : Nat) (d : DE) : Prop :=
  ∃ u, Num 0 w g u d.2.1 ∧ Sd w g d.1 ∧ Ex w g d.2.2 ∧ lo ≤ g ∧ g < hi ∧ ∀ i, u.ownBlock = some i → lo ≤ i ∧ i < hi
theorem Dw.mod {lo hi : Nat} {X : Nat → Prop} {w w' : World} {g : Nat} {d : DE} (h : Dw lo hi w g d) (k : Mod X w w') (hX : ∀ x, lo ≤ x → x < hi → ¬ X x) : Dw lo hi w' g d := by
  obtain ⟨u, n, s, e, x1, x2, x3⟩ := h
  have hg := hX g x1 x2
  exact ⟨u, n.mod k hg (fun i hi => hX i (x3 i hi).1 (x3 i hi).2), ⟨k.cell (a := ⟨g, 1, none⟩) hg s.1, k.loose (a := ⟨g, 1, none⟩) hg n.lt s.2⟩, ⟨k.cell (a := ⟨g, 2, none⟩) hg e.1, k.loose (a := ⟨g, 2, none⟩) hg n.lt e.2⟩, x1, x2, x3⟩
theorem DyP.dw {B : Nat} {w : World} {g : Nat} {d : DE} (h : DyP (fun x => x < B) w g d) : Dw B w.heap.size w g d := by
  obtain ⟨u, n, s, e, x1, x2⟩ := h
  exact ⟨u, n, s, e, by omega, n.lt, fun i hi => ⟨by have := x2 i hi; omega, (n.own.lt i hi).2⟩⟩
/-- The first k pointers of G are to the numbers F, whose blocks lie apart, behind b, and in no block of S. -/
def Nums (b : Nat) (S : Nat → Prop) (w : World) (k : Nat) (G : Nat → Nat) (F : Nat → DE) : Prop :=
  ∃ L H : Nat → Nat, (∀ p, p < k → Dw (L p) (H p) w (G p) (F p) ∧ b ≤ L p ∧ H p ≤ w.heap.size ∧ ∀ x, L p ≤ x → x < H p → ¬ S x) ∧ ∀ p q, p < k → q < k → p ≠ q → H p ≤ L q ∨ H q ≤ L p
theorem Nums.mod {b k : Nat} {S : Nat → Prop} {w w' : World} {G : Nat → Nat} {F : Nat → DE} (h : Nums b S w k G F) (m : Mod S w w') : Nums b S w' k G F := by
  obtain ⟨L, H, h1, h2⟩ := h
  refine ⟨L, H, fun p hp => ?_, h2⟩
  obtain ⟨d, q1, q2, q3⟩ := h1 p hp
  exact ⟨d.mod m q3, q1, Nat.le_trans q2 m.size, q3⟩
theorem Nums.more {b k x : Nat} {S : Nat → Prop} {w : World} {G : Nat → Nat} {F : Nat → DE} (h : Nums b S w k G F) (hx : w.heap.size ≤ x) : Nums b (fun y => S y ∨ y = x) w k G F := by
  obtain ⟨L, H, h1, h2⟩ := h
  refine ⟨L, H, fun p hp => ?_, h2⟩
  obtain ⟨d, q1, q2, q3⟩ := h1 p hp
  exact ⟨d, q1, q2, fun y hy1 hy2 hs => hs.elim (q3 y hy1 hy2) (fun e => by omega)⟩
theorem Nums.congr {b k : Nat} {S : Nat → Prop} {w : World} {G G' : Nat → Nat} {F F' : Nat → DE} (h : Nums b S w k G F) (hG : ∀ p, p < k → G' p = G p) (hF : ∀ p, p < k → F' p = F p) : Nums b S w k G' F' := by
  obtain ⟨L, H, h1, h2⟩ := h
  exact ⟨L, H, fun p hp => by rw [hG p hp, hF p hp]; exact h1 p hp, h2⟩
theorem Nums.step {b k g : Nat} {S : Nat → Prop} {w w' : World} {G : Nat → Nat} {F : Nat → DE} (h : Nums b S w k G F) (m : Kept 0 0 w w') (hb : b ≤ w.heap.size) (hS : ∀ x, S x → x < w.heap.size) (d : DyP (fun x => x < w.heap.size) w' g (F k)) : Nums b S w' (k + 1) (updG G k g) F := by
  obtain ⟨L, H, h1, h2⟩ := h.mod (m.toMod (S := S))
  obtain ⟨L0, H0, h10, h20⟩ := h
  have hs := m.size
  obtain ⟨L, H, h1, h2, h3⟩ : ∃ L H : Nat → Nat, (∀ p, p < k → Dw (L p) (H p) w' (G p) (F p) ∧ b ≤ L p ∧ H p ≤ w'.heap.size ∧ ∀ x, L p ≤ x → x < H p → ¬ S x) ∧ (∀ p q, p < k → q < k → p ≠ q → H p ≤ L q ∨ H q ≤ L p) ∧ ∀ p, p < k → H p ≤ w.heap.size := by
    refine ⟨L0, H0, fun p hp => ?_, h20, fun p hp => (h10 p hp).2.2.1⟩
    obtain ⟨d, q1, q2, q3⟩ := h10 p hp
    exact ⟨d.mod (m.toMod (S := S)) q3, q1, Nat.le_trans q2 hs, q3⟩
  refine ⟨fun p => if p = k then w.heap.size else L p, fun p => if p = k then w'.heap.size else H p, fun p hp => ?_, fun p q hp hq hne => ?_⟩
  · by_cases e : p = k
    · subst e
      simp only [if_pos, updG_on]
      exact ⟨d.dw, hb, Nat.le_refl _, fun x hx _ hsx => by have := hS x hsx; omega⟩
    · simp only [if_neg e, updG_off G e]
      exact h1 p (by omega)
  · by_cases e : p = k
    · subst e
      have e2 : q ≠ p := fun h => hne h.symm
      simp only [if_pos, if_neg e2]
      exact .inr (h3 q (by omega))
    · by_cases e2 : q = k
      · subst e2
        simp only [if_pos, if_neg e]
        exact .inl (h3 p (by omega))
      · simp only [if_neg e, if_neg e2]
        exact h2 p q (by omega) (by omega) hne

/-- A list of n cells of the call's own: they are there and may be written. -/
def Cls (w : World) (g n : Nat) : Prop := g < w.heap.size ∧ (∀ k, k < n → ∃ u, w.cell? ⟨g, k, none⟩ = some u) ∧ ∀ k, k < n → w.frozen? ⟨g, k, none⟩ = false
theorem Cls.kept {w w' : World} {g n l h : Nat} (c : Cls w g n) (k : Kept l h w w') (hg : g < l ∨ h ≤ g) : Cls w' g n := by
  have hb := k.block g c.1 hg
  exact ⟨Nat.lt_of_lt_of_le c.1 k.size, fun i hi => by obtain ⟨u, hu⟩ := c.2.1 i hi; exact ⟨u, (World.cell?_of_block (w := w) (a := ⟨g, i, none⟩) hb).trans hu⟩, fun i hi => (World.frozen?_of_block (w := w) (a := ⟨g, i, none⟩) hb).trans (c.2.2 i hi)⟩
theorem Cls.set {w : World} {g n p : Nat} {x : Value} (c : Cls w g n) : Cls (w.setCell ⟨g, p, none⟩ x) g n :=
  ⟨by rw [size_set]; exact c.1, fun i hi => by obtain ⟨u, hu⟩ := c.2.1 i hi; exact cells_of_setCell hu, fun i hi => by rw [frozen_set]; exact c.2.2 i hi⟩
theorem own1_cls {w : World} {base n g c : Nat} {e : TypeId} {z : Value} (hz : z.cells.size = 1) (h : w.ownsRow base e 1 (.slice (some ⟨g, 0, none⟩) n c) n (madeCells z.cells (n * 1)).toList) : Cls w g n := by
  rcases h.2 with ⟨e1, h0⟩ | ⟨g', cap, cur, e1, hb, hg, hle, hm, hs, htake⟩
  · cases e1
  · cases e1
    refine ⟨(Array.getElem?_eq_some_iff.1 hg).1, fun k hk => ?_, fun k hk => by simp [World.frozen?, hg]⟩
    have hl : (madeCells z.cells (n * 1)).toList.length = n * 1 := by simp [madeCells]
    have h1 : ∃ u, (madeCells z.cells (n * 1)).toList[k]? = some u := ⟨_, List.getElem?_eq_getElem (by omega)⟩
    obtain ⟨u, hu⟩ := h1
    refine ⟨u, ?_⟩
    rw [← htake, List.getElem?_take, if_pos (by omega)] at hu
    simpa [World.cell?, hg] using hu

end Go.Proofs.YthahoabkehcgbaaGreatDoor

namespace Go.Proofs.YthahoabkehcgbaaGreatDoor
open Go.RowKit
set_option linter.unusedVariables false
set_option maxRecDepth 8000

/-- The number at a place of a square. -/
theorem Nums.at {b k p : Nat} {S : Nat → Prop} {w : World} {G : Nat → Nat} {F : Nat → DE} (h : Nums b S w k G F) (hp : p < k) : ∃ u, Num 0 w (G p) u (F p).2.1 ∧ Sd w (G p) (F p).1 ∧ Ex w (G p) (F p).2.2 := by
  obtain ⟨L, H, h1, -⟩ := h
  obtain ⟨⟨u, n, s, e, -⟩, -⟩ := h1 p hp
  exact ⟨u, n, s, e⟩

end Go.Proofs.YthahoabkehcgbaaGreatDoor

namespace Go.Proofs.YthahoabkehcgbaaGreatDoor
open Go.RowKit
set_option linter.unusedVariables false
set_option maxRecDepth 8000
set_option linter.unusedSimpArgs false

set_option maxHeartbeats 4000000 in
theorem again_impl {g : Nat} {u : Value} {zs : List Int} {s : Bool} {x : Int} (w : World) (n : Num 0 w g u zs) (sd : Sd w g s) (ex : Ex w g x) (hl : zs.length ≤ 1000000) :
    Calls Tryz.prog 142 #[.pointer (some ⟨g, 0, none⟩)] w fun e w' => ∃ v', e = .returned (.agg #[v', .bool s, .int .i64 x]) ∧ w'.ownsRow w.heap.size 3 1 v' zs.length (zs.map (Value.int .i64)) ∧ Kept 0 0 w w' := by
  obtain ⟨W, hW⟩ : ∃ W, W = w.alloc (.cells #[.slice none 0 0, .bool false, .int .i64 0] 150) := ⟨_, rfl⟩
  have k0 : Kept 0 0 w W := by rw [hW]; exact (Kept.refl 0 0 w).alloc _
  have q0 : W.cell? ⟨w.heap.size, 0, none⟩ = some (.slice none 0 0) := by rw [hW]; exact new_cell2 _ _ _ _ _ _ (by simp) rfl
  have f0 : W.frozen? ⟨w.heap.size, 0, none⟩ = false := by rw [hW]; exact new_loose2 _ _ _ _ _ (by simp)
  have q1 : W.cell? ⟨w.heap.size, 1, none⟩ = some (.bool false) := by rw [hW]; exact new_cell2 _ _ _ _ _ _ (by simp) rfl
  have f1 : W.frozen? ⟨w.heap.size, 1, none⟩ = false := by rw [hW]; exact new_loose2 _ _ _ _ _ (by simp)
  have q2 : W.cell? ⟨w.heap.size, 2, none⟩ = some (.int .i64 0) := by rw [hW]; exact new_cell2 _ _ _ _ _ _ (by simp) rfl
  have f2 : W.frozen? ⟨w.heap.size, 2, none⟩ = false := by rw [hW]; exact new_loose2 _ _ _ _ _ (by simp)
  have sW : W.heap.size = w.heap.size + 1 := by rw [hW]; simp
  have hgl := n.lt
  have kd : Kept 0 0 w W.drew := k0.drew
  have p1 := kd.cell0 sd.1
  have p2 := kd.cell0 ex.1
  have hc := copied_impl W.drew (n.kept kd) hl
  have KD := hide kd
  have S0 := hide sW
  have HG := hide hgl
  clear n sd ex k0 kd sW hgl
  go_enter Tryz.func142, Tryz.ntmps142
  go_wp2_with fail
  rw [← hW]
  clear hW
  refine wp_region_held_drew (S := (fun w' => w'.cell? ⟨g, 1, none⟩ = some (.bool s) ∧ w'.cell? ⟨g, 2, none⟩ = some (.int .i64 x))) (by kernel_rfl) ?_ (fun hHeld => ?_)
  · exact ⟨p1, p2⟩
  refine wpAnyH_take (i := 0) (oi := _) (v := .pointer (some ⟨g, 0, none⟩)) rfl (by kernel_rfl) (by kernel_rfl) (by kernel_rfl) (fun _ _ _ h => h) (Or.inl ⟨by rfl, ?_⟩) hHeld ?_
  · intro wq hSw
    try dsimp only at hSw
    go_simp
  try simp only [Act.put, List.getElem_toArray, List.getElem_cons_succ, List.getElem_cons_zero, List.setIfInBounds_toArray, List.set_cons_zero, List.set_cons_succ]
  refine wpAnyH_take (i := 1) (oi := _) (v := .pointer (some ⟨g, 0, none⟩)) rfl (by kernel_rfl) (by kernel_rfl) (by kernel_rfl) (fun _ _ _ h => h) (Or.inl ⟨by rfl, ?_⟩) hHeld ?_
  · intro wq hSw
    try dsimp only at hSw
    go_simp
  try simp only [Act.put, List.getElem_toArray, List.getElem_cons_succ, List.getElem_cons_zero, List.setIfInBounds_toArray, List.set_cons_zero, List.set_cons_succ]
  refine wpAnyH_take (i := 2) (oi := _) (v := .pointer (some ⟨g, 0, none⟩)) rfl (by kernel_rfl) (by kernel_rfl) (by kernel_rfl) (fun _ _ _ h => h) (Or.inl ⟨by rfl, ?_⟩) hHeld ?_
  · intro wq hSw
    try dsimp only at hSw
    go_simp
  try simp only [Act.put, List.getElem_toArray, List.getElem_cons_succ, List.getElem_cons_zero, List.setIfInBounds_toArray, List.set_cons_zero, List.set_cons_succ]
  refine wpAnyH_take (i := 3) (oi := _) (v := .pointer (some ⟨g, 0, none⟩)) rfl (by kernel_rfl) (by kernel_rfl) (by kernel_rfl) (fun _ _ _ h => h) (Or.inl ⟨by rfl, ?_⟩) hHeld ?_
  · intro wq hSw
    try dsimp only at hSw
    go_simp
  try simp only [Act.put, List.getElem_toArray, List.getElem_cons_succ, List.getElem_cons_zero, List.setIfInBounds_toArray, List.set_cons_zero, List.set_cons_succ]
  refine wpAnyH_take (i := 5) (oi := _) (v := .pointer (some ⟨g, 0, none⟩)) rfl (by kernel_rfl) (by kernel_rfl) (by kernel_rfl) (fun _ _ _ h => h) (Or.inl ⟨by rfl, ?_⟩) hHeld ?_
  · intro wq hSw
    try dsimp only at hSw
    go_simp
  try simp only [Act.put, List.getElem_toArray, List.getElem_cons_succ, List.getElem_cons_zero, List.setIfInBounds_toArray, List.set_cons_zero, List.set_cons_succ]
  refine wpAnyH_take (i := 6) (oi := _) (v := .pointer (some ⟨g, 0, none⟩)) rfl (by kernel_rfl) (by kernel_rfl) (by kernel_rfl) (fun _ _ _ h => h) (Or.inl ⟨by rfl, ?_⟩) hHeld ?_
  · intro wq hSw
    try dsimp only at hSw
    go_simp
  try simp only [Act.put, List.getElem_toArray, List.getElem_cons_succ, List.getElem_cons_zero, List.setIfInBounds_toArray, List.set_cons_zero, List.set_cons_succ]
  refine wpAnyH_take (i := 7) (oi := _) (v := .pointer (some ⟨g, 0, none⟩)) rfl (by kernel_rfl) (by kernel_rfl) (by kernel_rfl) (fun _ _ _ h => h) (Or.inl ⟨by rfl, ?_⟩) hHeld ?_
  · intro wq hSw
    try dsimp only at hSw
    go_simp
  try simp only [Act.put, List.getElem_toArray, List.getElem_cons_succ, List.getElem_cons_zero, List.setIfInBounds_toArray, List.set_cons_zero, List.set_cons_succ]
  refine wpAnyH_take (i := 8) (oi := _) (v := .pointer (some ⟨g, 1, none⟩)) rfl (by kernel_rfl) (by kernel_rfl) (by kernel_rfl) (fun _ _ _ h => h) (Or.inl ⟨by rfl, ?_⟩) hHeld ?_
  · intro wq hSw
    try dsimp only at hSw
    go_simp
  try simp only [Act.put, List.getElem_toArray, List.getElem_cons_succ, List.getElem_cons_zero, List.setIfInBounds_toArray, List.set_cons_zero, List.set_cons_succ]
  refine wpAnyH_take (i := 9) (oi := _) (v := .bool s) rfl (by kernel_rfl) (by kernel_rfl) (by kernel_rfl) (fun _ _ _ h => h) (Or.inl ⟨by rfl, ?_⟩) hHeld ?_
  · intro wq hSw
    try dsimp only at hSw
    go_simp
  try simp only [Act.put, List.getElem_toArray, List.getElem_cons_succ, List.getElem_cons_zero, List.setIfInBounds_toArray, List.set_cons_zero, List.set_cons_succ]
  refine wpAnyH_take (i := 11) (oi := _) (v := .pointer (some ⟨g, 0, none⟩)) rfl (by kernel_rfl) (by kernel_rfl) (by kernel_rfl) (fun _ _ _ h => h) (Or.inl ⟨by rfl, ?_⟩) hHeld ?_
  · intro wq hSw
    try dsimp only at hSw
    go_simp
  try simp only [Act.put, List.getElem_toArray, List.getElem_cons_succ, List.getElem_cons_zero, List.setIfInBounds_toArray, List.set_cons_zero, List.set_cons_succ]
  refine wpAnyH_take (i := 12) (oi := _) (v := .pointer (some ⟨g, 0, none⟩)) rfl (by kernel_rfl) (by kernel_rfl) (by kernel_rfl) (fun _ _ _ h => h) (Or.inl ⟨by rfl, ?_⟩) hHeld ?_
  · intro wq hSw
    try dsimp only at hSw
    go_simp
  try simp only [Act.put, List.getElem_toArray, List.getElem_cons_succ, List.getElem_cons_zero, List.setIfInBounds_toArray, List.set_cons_zero, List.set_cons_succ]
  refine wpAnyH_take (i := 13) (oi := _) (v := .pointer (some ⟨g, 2, none⟩)) rfl (by kernel_rfl) (by kernel_rfl) (by kernel_rfl) (fun _ _ _ h => h) (Or.inl ⟨by rfl, ?_⟩) hHeld ?_
  · intro wq hSw
    try dsimp only at hSw
    go_simp
  try simp only [Act.put, List.getElem_toArray, List.getElem_cons_succ, List.getElem_cons_zero, List.setIfInBounds_toArray, List.set_cons_zero, List.set_cons_succ]
  refine wpAnyH_take (i := 14) (oi := _) (v := .int .i64 x) rfl (by kernel_rfl) (by kernel_rfl) (by kernel_rfl) (fun _ _ _ h => h) (Or.inl ⟨by rfl, ?_⟩) hHeld ?_
  · intro wq hSw
    try dsimp only at hSw
    go_simp
  try simp only [Act.put, List.getElem_toArray, List.getElem_cons_succ, List.getElem_cons_zero, List.setIfInBounds_toArray, List.set_cons_zero, List.set_cons_succ]
  refine wpAnyH_ready (rs := [4]) (by kernel_rfl) (by simp) ?_
  refine AllReadyH.cons rfl (fun KK hK => ?_) AllReadyH.nil
  simp only [List.getElem_toArray, List.getElem_cons_succ, List.getElem_cons_zero]
  rw [if_pos (by rfl)]
  refine wps1 191 (.tmp 6) _ rfl in_copied (.pointer (some ⟨g, 0, none⟩)) rfl hc ?_
  rintro e w1 ⟨v1, rfl, o1, k1⟩
  refine ⟨_, rfl, ?_⟩
  obtain ⟨a1, c1, hv1⟩ := own_slice o1
  subst hv1
  replace f0 := k1.loose0 (W := W.drew) (World.block_lt_of_cell? W ⟨w.heap.size, 0, none⟩ q0) f0
  replace f1 := k1.loose0 (W := W.drew) (World.block_lt_of_cell? W ⟨w.heap.size, 1, none⟩ q1) f1
  replace f2 := k1.loose0 (W := W.drew) (World.block_lt_of_cell? W ⟨w.heap.size, 2, none⟩ q2) f2
  replace q0 := k1.cell0 (W := W.drew) q0
  replace q1 := k1.cell0 (W := W.drew) q1
  replace q2 := k1.cell0 (W := W.drew) q2
  replace p1 := k1.cell0 p1
  replace p2 := k1.cell0 p2
  have ss := unhide S0
  have hgl := unhide HG
  have o2 : w1.ownsRow (w.heap.size + 1) 3 1 (.slice a1 zs.length c1) zs.length (zs.map (Value.int .i64)) := by
    have h5 := o1
    rw [show W.drew.heap.size = W.heap.size from rfl, ss] at h5
    exact h5
  have K1 := hide ((unhide KD).trans k1)
  clear hc o1 k1
  clear hHeld
  refine hK.out _ _ ?_ (fun hHeld => ?_)
  · exact ⟨p1, p2⟩
  clear hK KK
  try simp only [Act.put, List.getElem_toArray, List.getElem_cons_succ, List.getElem_cons_zero, List.setIfInBounds_toArray, List.set_cons_zero, List.set_cons_succ]
  refine wpAnyH_take (i := 10) (oi := _) (v := .agg #[.slice a1 zs.length c1, .bool s]) rfl (by kernel_rfl) (by kernel_rfl) (by kernel_rfl) (fun _ _ _ h => h) (Or.inl ⟨by rfl, ?_⟩) hHeld ?_
  · intro wq hSw
    try dsimp only at hSw
    go_simp
  try simp only [Act.put, List.getElem_toArray, List.getElem_cons_succ, List.getElem_cons_zero, List.setIfInBounds_toArray, List.set_cons_zero, List.set_cons_succ]
  refine wpAnyH_take (i := 15) (oi := _) (v := .agg #[.slice a1 zs.length c1, .bool s, .int .i64 x]) rfl (by kernel_rfl) (by kernel_rfl) (by kernel_rfl) (fun _ _ _ h => h) (Or.inl ⟨by rfl, ?_⟩) hHeld ?_
  · intro wq hSw
    try dsimp only at hSw
    go_simp
  try simp only [Act.put, List.getElem_toArray, List.getElem_cons_succ, List.getElem_cons_zero, List.setIfInBounds_toArray, List.set_cons_zero, List.set_cons_succ]
  refine wpAnyH_ready (rs := [16]) (by kernel_rfl) (by simp) ?_
  refine AllReadyH.cons rfl (fun KK hK => ?_) AllReadyH.nil
  simp only [List.getElem_toArray, List.getElem_cons_succ, List.getElem_cons_zero]
  rw [if_pos (by rfl)]
  go_simp
  clear hHeld
  refine hK.out _ _ ?_ (fun hHeld => ?_)
  · exact ⟨(cell_aside _ (by dsimp only; omega) (cell_aside _ (by dsimp only; omega) (cell_aside _ (by dsimp only; omega) p1))), (cell_aside _ (by dsimp only; omega) (cell_aside _ (by dsimp only; omega) (cell_aside _ (by dsimp only; omega) p2)))⟩
  clear hK KK
  try simp only [Act.put, List.getElem_toArray, List.getElem_cons_succ, List.getElem_cons_zero, List.setIfInBounds_toArray, List.set_cons_zero, List.set_cons_succ]
  refine wpAnyH_done (by kernel_rfl) ?_ _
  clear hHeld
  have ks : Kept w.heap.size (w.heap.size + 1) w1 (((w1.setCell ⟨w.heap.size, 0, none⟩ (.slice a1 zs.length c1)).setCell ⟨w.heap.size, 1, none⟩ (.bool s)).setCell ⟨w.heap.size, 2, none⟩ (.int .i64 x)) := (((Kept.refl _ _ _).setCell (p := ⟨w.heap.size, 0, none⟩) (Nat.le_refl _) (Nat.lt_succ_self _) _).setCell (p := ⟨w.heap.size, 1, none⟩) (Nat.le_refl _) (Nat.lt_succ_self _) _).setCell (p := ⟨w.heap.size, 2, none⟩) (Nat.le_refl _) (Nat.lt_succ_self _) _
  have O7 := hide (own_less (base' := w.heap.size) (Mod.own (S := fun i => i = w.heap.size) ⟨ks.os, ks.tape, ks.output, ks.size, fun i hi ho => ks.block i hi (by omega)⟩ o2 (fun i hi => by have := (o2.lt i hi).1; omega)) (by omega))
  have K7 := hide ((unhide K1).wide ks (Nat.le_refl _))
  have G0 := cell_off _ _ _ 2 (.int .i64 x) _ (cell_off _ _ _ 1 (.bool s) _ (cell_on _ _ _ (.slice a1 zs.length c1) _ q0) (show (0 : Nat) ≠ 1 by omega)) (show (0 : Nat) ≠ 2 by omega)
  have G1 := cell_off _ _ _ 2 (.int .i64 x) _ (cell_on _ _ _ (.bool s) _ (cell_off _ _ _ 0 (.slice a1 zs.length c1) _ q1 (show (1 : Nat) ≠ 0 by omega))) (show (1 : Nat) ≠ 2 by omega)
  have G2 := cell_on _ _ _ (.int .i64 x) _ (cell_off _ _ _ 1 (.bool s) _ (cell_off _ _ _ 0 (.slice a1 zs.length c1) _ q2 (show (2 : Nat) ≠ 0 by omega)) (show (2 : Nat) ≠ 1 by omega))
  clear ks K1 o2
  go_wp2_with fail
  exact bodyPost_ret (v := .agg #[.slice a1 zs.length c1, .bool s, .int .i64 x]) (by simp [results, Tryz.results142, go_sem, G0, G1, G2]) rfl ⟨_, rfl, unhide O7, unhide K7⟩

end Go.Proofs.YthahoabkehcgbaaGreatDoor

namespace Go.Proofs.YthahoabkehcgbaaGreatDoor
open Go.RowKit
set_option linter.unusedVariables false
set_option maxRecDepth 8000
set_option linter.unusedSimpArgs false

/-- The first m pointers that G names. -/
def ptrs (G : Nat → Nat) (m : Nat) : List Value := (List.range m).map (fun p => Value.pointer (some ⟨G p, 0, none⟩))
theorem ptrs_length (G : Nat → Nat) (m : Nat) : (ptrs G m).length = m := by simp [ptrs]
theorem ptrs_at (G : Nat → Nat) {m p : Nat} (h : p < m) : (ptrs G m)[p]? = some (Value.pointer (some ⟨G p, 0, none⟩)) := by simp [ptrs, h]
theorem ptrs_add (G : Nat → Nat) (m n : Nat) : ptrs G (m + n) = ptrs G m ++ ptrs (fun j => G (m + j)) n := by
  unfold ptrs
  rw [List.range_add, List.map_append, List.map_map]
  rfl

end Go.Proofs.YthahoabkehcgbaaGreatDoor

