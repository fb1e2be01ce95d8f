/-
  The program's dot of a row and a column, times of squares.
-/
import Derived.Test.YtgoncjcnakkaoaaGreatDoorTm1
import Derived.Test.YtgoncjcnakkaoaaGreatDoorSqh
import Derived.Deep.DeepCutAuto
import Derived.Deep.RegionHeld3
namespace Go.Proofs.YtgoncjcnakkaoaaGreatDoor
open Go.RowKit
set_option linter.unusedVariables false
set_option maxRecDepth 8000
set_option linter.unusedSimpArgs false

/-- An append to a list of the call's own, told where the new list lies. -/
theorem wpList_append_at {P : Program} {w : World} {ops : Array Oper} {rest : List Oper} {o : Oper} {a : Act} {Q : Exit → Act → World → Prop} (hgd : o.guard = none) (s x : Operand) (t : TypeId)
    (ho : o.op = .call { callee := .builtin .append, args := #[s, x], argTypes := #[t, t] })
    (base : Nat) (e : TypeId) (i : TypeInfo) (z : Value) (size bytes : Nat) (ht : P.underlying t = some (.slice e)) (hi : P.info? e = some i) (hz : i.zero = some z)
    (hsize : i.size = size) (hby : i.bytes = bytes) (hzs : z.cells.size = size) (hsz : 0 < size)
    (v : Value) (n : Nat) (xs : List Value) (hs : a.eval s = v) (hown : w.ownsRow base e size v n xs)
    (ad : Addr) (m c : Nat) (news : List Value) (hx : a.eval x = .slice (some ad) m c) (hl : news.length = m * size) (hnews : ∀ j u, news[j]? = some u → w.cell? (ad.add j) = some u) (h1 : ∀ u ∈ news, u.oneCell' = true)
    (h63 : n + m ≤ maxLen) (hbytes : (n + m) * bytes ≤ 140737488355328) (hbase : base ≤ w.heap.size)
    (h : ∀ v' w', w'.ownsRow base e size v' (n + m) (xs ++ news) → w.grownBy w' v.ownBlock → (v'.ownBlock = v.ownBlock ∨ v'.ownBlock = some w.heap.size) → wpList P ops Q rest (a.put o.dst v') w') : wpList P ops Q (o :: rest) a w :=
  wpList_plain hgd fun _ hK => wp_append_at s x t ho base e i z size bytes ht hi hz hsize hby hzs hsz v n xs hs hown ad m c news hx hl hnews h1 h63 hbytes hbase fun v' w' h2 h3 h5 => hK _ _ (h v' w' h2 h3 h5)

/-- So many products in a list of the call's own. -/
def Prods (b : Nat) (L : Int) (V : Nat → Int) (w : World) (v : Value) (i : Nat) (P : Nat → Nat) : Prop :=
  w.ownsRow b 49 1 v i (ptrs P i) ∧ ∃ F : Nat → DE, ∀ q, q < i → DyP (fun x => x < b ∨ v.ownBlock = some x) w (P q) (F q) ∧ NV L (V q) (F q)
theorem Prods.kept {b i : Nat} {L : Int} {V : Nat → Int} {w w' : World} {v : Value} {P : Nat → Nat} (h : Prods b L V w v i P) (k : Kept 0 0 w w') : Prods b L V w' v i P := by
  obtain ⟨h1, F, h2⟩ := h
  exact ⟨own_kept h1 k, F, fun q hq => ⟨(h2 q hq).1.kept k, (h2 q hq).2⟩⟩
theorem ptrs_congr {G G' : Nat → Nat} {m : Nat} (h : ∀ p, p < m → G p = G' p) : ptrs G m = ptrs G' m := by
  unfold ptrs
  exact List.map_congr_left (fun p hp => by rw [h p (List.mem_range.1 hp)])
theorem DyP.app {b g : Nat} {v v' : Value} {w3 w' : World} {d : DE} (h : DyP (fun x => x < b ∨ v.ownBlock = some x) w3 g d) (m : Mod (fun x => v.ownBlock = some x) w3 w') (h5 : v'.ownBlock = v.ownBlock ∨ v'.ownBlock = some w3.heap.size) : DyP (fun x => x < b ∨ v'.ownBlock = some x) w' g d := by
  obtain ⟨u, n, s, e, x1, x2⟩ := h
  have m' : Mod (fun x => x < b ∨ v.ownBlock = some x) w3 w' := ⟨m.os, m.tape, m.output, m.size, fun i hi ho => m.block i hi (fun h => ho (.inr h))⟩
  have key : ∀ y, y < w3.heap.size → ¬ (y < b ∨ v.ownBlock = some y) → ¬ (y < b ∨ v'.ownBlock = some y) := fun y hy hn h => by
    rcases h with h | h
    · exact hn (.inl h)
    · rcases h5 with h6 | h6
      · exact hn (.inr (by rw [← h6]; exact h))
      · rw [h6] at h
        cases h
        exact Nat.lt_irrefl _ hy
  exact ⟨u, n.mod m' x1 x2, ⟨m'.cell (a := ⟨g, 1, none⟩) x1 s.1, m'.loose (a := ⟨g, 1, none⟩) x1 n.lt s.2⟩, ⟨m'.cell (a := ⟨g, 2, none⟩) x1 e.1, m'.loose (a := ⟨g, 2, none⟩) x1 n.lt e.2⟩, key g n.lt x1, fun i hi => key i (n.own.lt i hi).2 (x2 i hi)⟩
/-- One more product. -/
theorem Prods.step {b i g : Nat} {L : Int} {V : Nat → Int} {w w' w3 : World} {v v' : Value} {P : Nat → Nat} {d : DE} (h : Prods b L V w3 v i P) (hb : b ≤ w3.heap.size) (hs : w.heap.size ≤ w3.heap.size) (hv : ∀ k, v.ownBlock = some k → k < w.heap.size) (hb2 : b ≤ w.heap.size) (dp : DyP (fun y => y < w.heap.size) w3 g d) (nv : NV L (V i) d)
    (h2 : w'.ownsRow b 49 1 v' (i + 1) (ptrs P i ++ [Value.pointer (some ⟨g, 0, none⟩)])) (h3 : w3.grownBy w' v.ownBlock) (h5 : v'.ownBlock = v.ownBlock ∨ v'.ownBlock = some w3.heap.size) : Prods b L V w' v' (i + 1) (updG P i g) := by
  obtain ⟨h1, F, hF⟩ := h
  have m : Mod (fun x => v.ownBlock = some x) w3 w' := ⟨h3.os, h3.tape, h3.output, h3.size, fun k hk ho => h3.block k hk (fun e => ho e.symm)⟩
  refine ⟨?_, fun q => if q = i then d else F q, fun q hq => ?_⟩
  · have e : ptrs (updG P i g) (i + 1) = ptrs P i ++ [Value.pointer (some ⟨g, 0, none⟩)] := by
      rw [ptrs_add, ptrs_congr (G := updG P i g) (G' := P) (fun p hp => updG_off P (by omega))]
      simp [ptrs, updG_on]
    rw [e]
    exact h2
  · by_cases e : q = i
    · subst e
      dsimp only
      rw [if_pos rfl, updG_on]
      refine ⟨?_, nv⟩
      exact DyP.app (dp.less (fun x hx _ => by rcases hx with hx | hx; omega; exact hv x hx)) m h5
    · dsimp only
      rw [if_neg e, updG_off P e]
      obtain ⟨a1, a2⟩ := hF q (by omega)
      exact ⟨a1.app m h5, a2⟩

/-- What a product's number is worth. -/
def mulW (n : Nat) (V1 V2 : Nat → Int) (p : Nat) : Int := psum (fun q => V1 (p / n * n + q) * V2 (q * n + p % n)) n

end Go.Proofs.YtgoncjcnakkaoaaGreatDoor
