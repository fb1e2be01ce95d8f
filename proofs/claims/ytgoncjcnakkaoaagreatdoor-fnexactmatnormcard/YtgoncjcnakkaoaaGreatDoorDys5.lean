/-
  A list of dyadic numbers that grows by appends; the model's copy of a matrix.
-/
import Derived.Test.YtgoncjcnakkaoaaGreatDoorDys4
import Derived.Test.YtgoncjcnakkaoaaGreatDoorMt0
import Derived.Maps.AppendAt
namespace Go.Proofs.YtgoncjcnakkaoaaGreatDoor
open Go.RowKit
set_option linter.unusedVariables false
set_option maxRecDepth 8000
set_option linter.unusedSimpArgs false

/-- An append to a list of the call's own as one step, told where the new list lies. -/
theorem wp_append_at {P : Program} {w : World} {o : Oper} {a : Act} {K : Act → World → Prop} {Q : Exit → Act → World → Prop} (s x : Operand) (t : TypeId)
    (ho : o.op = .call { callee := .builtin .append, args := #[s, x], argTypes := #[t, t] })
    (base : Nat) (e : TypeId) (i : TypeInfo) (z : Value) (size bytes : Nat) (ht : P.underlying t = some (.slice e)) (hi : P.info? e = some i) (hz : i.zero = some z)
    (hsize : i.size = size) (hby : i.bytes = bytes) (hzs : z.cells.size = size) (hsz : 0 < size)
    (v : Value) (n : Nat) (xs : List Value) (hs : a.eval s = v) (hown : w.ownsRow base e size v n xs)
    (ad : Addr) (m c : Nat) (news : List Value) (hx : a.eval x = .slice (some ad) m c) (hl : news.length = m * size) (hnews : ∀ j u, news[j]? = some u → w.cell? (ad.add j) = some u) (h1 : ∀ u ∈ news, u.oneCell' = true)
    (h63 : n + m ≤ maxLen) (hbytes : (n + m) * bytes ≤ 140737488355328) (hbase : base ≤ w.heap.size)
    (h : ∀ v' w', w'.ownsRow base e size v' (n + m) (xs ++ news) → w.grownBy w' v.ownBlock → (v'.ownBlock = v.ownBlock ∨ v'.ownBlock = some w.heap.size) → K (a.put o.dst v') w') : o.wp P a w K Q := by
  obtain ⟨v', w', hr, h2, h3, _, h5⟩ := run_append_own_at (P := P) w base t o.type e i z size bytes ht hi hz hsize hby hzs hsz v n xs hown ad m c news hl hnews h1 h63 hbytes hbase
  unfold Oper.wp execOp
  simp only [ho, resolve, invoke, builtin, Sem.run_bind, Sem.run_pure, Result.andThen_ok, List.map_toArray, List.map_cons, List.map_nil, hs, hx, hr]
  exact h v' w' h2 h3 h5

/-- The list v has got the numbers f 0 .. f (k - 1). -/
def AccD (lo : Nat) (w : World) (v : Value) (k : Nat) (f : Nat → DE) : Prop :=
  ∃ (us : Nat → Value) (b : Nat → Nat) (xs : List Value), w.ownsRow lo 32 3 v k xs ∧
    (∀ i, i < k → xs[i * 3]? = some (.bool (f i).1) ∧ xs[i * 3 + 1]? = some (us i) ∧ xs[i * 3 + 2]? = some (.int .i64 (f i).2.2)) ∧
    (∀ i, i < k → ((f i).2.1 ≠ [] → lo ≤ b i ∧ b i < w.heap.size ∧ v.ownBlock ≠ some (b i)) ∧ Row .i64 true (b i) (b i + 1) w (us i) (f i).2.1) ∧
    ∀ i j, i < j → j < k → (f i).2.1 ≠ [] → (f j).2.1 ≠ [] → b i < b j

theorem AccD.nil (lo : Nat) (w : World) (f : Nat → DE) : AccD lo w (.slice none 0 0) 0 f :=
  ⟨fun _ => undef, fun _ => 0, [], ⟨rfl, .inl ⟨rfl, rfl⟩⟩, fun i hi => by omega, fun i hi => by omega, fun i j h1 h2 => by omega⟩
theorem AccD.kept {lo : Nat} {w w' : World} {v : Value} {k : Nat} {f : Nat → DE} (h : AccD lo w v k f) (q : Kept 0 0 w w') : AccD lo w' v k f := by
  obtain ⟨us, b, xs, ho, hx, hr, hm⟩ := h
  have hs := q.size
  refine ⟨us, b, xs, ho.kept q.toGrown (by cases v.ownBlock <;> simp), hx, fun i hi => ?_, hm⟩
  obtain ⟨q1, q2⟩ := hr i hi
  exact ⟨fun e => by have := q1 e; exact ⟨this.1, by omega, this.2.2⟩, q2.kept q (by omega)⟩
theorem AccD.form {lo : Nat} {w : World} {v : Value} {k : Nat} {f : Nat → DE} (h : AccD lo w v k f) : ∃ a c, v = .slice a k c := by
  obtain ⟨us, b, xs, ho, -⟩ := h
  rcases ho.2 with ⟨rfl, rfl⟩ | ⟨g, cap, cur, hv, _⟩
  · exact ⟨none, 0, rfl⟩
  · exact ⟨_, cap, hv⟩
theorem AccD.snoc {lo : Nat} {w0 w w2 : World} {v v2 : Value} {k : Nat} {f : Nat → DE} {s : Bool} {u : Value} {y : Int} {z : List Int} {us : Nat → Value} {b : Nat → Nat} {xs : List Value}
    (hx : ∀ i, i < k → xs[i * 3]? = some (.bool (f i).1) ∧ xs[i * 3 + 1]? = some (us i) ∧ xs[i * 3 + 2]? = some (.int .i64 (f i).2.2)) (hl : xs.length = k * 3)
    (hr : ∀ i, i < k → ((f i).2.1 ≠ [] → lo ≤ b i ∧ b i < w0.heap.size ∧ v.ownBlock ≠ some (b i)) ∧ Row .i64 true (b i) (b i + 1) w (us i) (f i).2.1)
    (hm : ∀ i j, i < j → j < k → (f i).2.1 ≠ [] → (f j).2.1 ≠ [] → b i < b j) (hv0 : ∀ i, v.ownBlock = some i → i < w0.heap.size) (hlo : lo ≤ w0.heap.size) (hs : w0.heap.size ≤ w.heap.size)
    (hu : Row .i64 true w0.heap.size w.heap.size w u z) (ho : w2.ownsRow lo 32 3 v2 (k + 1) (xs ++ [.bool s, u, .int .i64 y])) (hg : w.grownBy w2 v.ownBlock) (hb : v2.ownBlock = v.ownBlock ∨ v2.ownBlock = some w.heap.size) :
    AccD lo w2 v2 (k + 1) (upE f k (s, z, y)) := by
  obtain ⟨q, hq1, hq⟩ := hu.block1
  have hsz := hg.size
  have kk : ∀ r, v.ownBlock ≠ some r → r < w.heap.size → w2.heap[r]? = w.heap[r]? := fun r h1 h2 => hg.block r h2 (fun e => h1 e.symm)
  have rowK : ∀ {r : Nat} {u' : Value} {z' : List Int}, Row .i64 true r (r + 1) w u' z' → (z' ≠ [] → v.ownBlock ≠ some r) → Row .i64 true r (r + 1) w2 u' z' := fun {r u' z'} h1 h2 => by
    by_cases e : z' = []
    · exact h1.none e
    · have hne := h2 e
      cases hv : v.ownBlock with
      | none => exact h1.kept (l := 0) (h := 0) ⟨hg.os, hg.tape, hg.output, hg.size, fun i hi _ => hg.block i hi (by rw [hv]; simp)⟩ (by omega)
      | some t =>
        rw [hv] at hne
        have hne' : t ≠ r := fun e => hne (by rw [e])
        exact h1.kept (l := t) (h := t + 1) ⟨hg.os, hg.tape, hg.output, hg.size, fun i hi ho => hg.block i hi (by rw [hv]; intro e; cases e; omega)⟩ (by omega)
  refine ⟨fun i => if i = k then u else us i, fun i => if i = k then q else b i, _, ho, fun i hi => ?_, fun i hi => ?_, fun i j h1 h2 e1 e2 => ?_⟩
  · dsimp only
    by_cases e : i = k
    · subst e
      rw [upE_same, if_pos rfl]
      refine ⟨?_, ?_, ?_⟩
      · rw [List.getElem?_append_right (by omega), show i * 3 - xs.length = 0 by omega]; rfl
      · rw [List.getElem?_append_right (by omega), show i * 3 + 1 - xs.length = 1 by omega]; rfl
      · rw [List.getElem?_append_right (by omega), show i * 3 + 2 - xs.length = 2 by omega]; rfl
    · rw [upE_other _ _ e, if_neg e]
      obtain ⟨a1, a2, a3⟩ := hx i (by omega)
      exact ⟨by rw [List.getElem?_append_left (by omega)]; exact a1, by rw [List.getElem?_append_left (by omega)]; exact a2, by rw [List.getElem?_append_left (by omega)]; exact a3⟩
  · dsimp only
    by_cases e : i = k
    · subst e
      rw [upE_same, if_pos rfl, if_pos rfl]
      refine ⟨fun e => ?_, rowK hq (fun e h => by have := hq1 e; have := hv0 _ h; omega)⟩
      have h3 := hq1 e
      refine ⟨by omega, by omega, ?_⟩
      rcases hb with h | h
      · rw [h]; intro e4; have := hv0 _ e4; omega
      · rw [h]; intro e4; have := Option.some.inj e4; omega
    · rw [upE_other _ _ e, if_neg e, if_neg e]
      obtain ⟨q1, q2⟩ := hr i (by omega)
      refine ⟨fun e => ?_, rowK q2 (fun e => (q1 e).2.2)⟩
      have h3 := q1 e
      refine ⟨h3.1, by omega, ?_⟩
      rcases hb with h | h
      · rw [h]; exact h3.2.2
      · rw [h]; intro e4; have := Option.some.inj e4; omega
  · dsimp only
    have hik : i ≠ k := by omega
    rw [if_neg hik]
    rw [upE_other _ _ hik] at e1
    by_cases e : j = k
    · subst e
      rw [if_pos rfl]
      rw [upE_same] at e2
      have := ((hr i (by omega)).1 e1).2.1
      have := hq1 e2
      omega
    · rw [if_neg e]
      rw [upE_other _ _ e] at e2
      exact hm i j h1 (by omega) e1 e2
theorem AccD.done {lo : Nat} {w : World} {v : Value} {ds : List DE} {f : Nat → DE} (h : AccD lo w v ds.length f) (hf : ∀ i, i < ds.length → f i = ds.getD i de0) : DysO lo w.heap.size w v ds := by
  obtain ⟨us, b, xs, ho, hx, hr, hm⟩ := h
  rcases ho.2 with ⟨rfl, h0⟩ | ⟨g, cap, cur, rfl, hb, hg, hle, hmm, hs, htake⟩
  · exact ⟨none, 0, by rw [h0], by omega, Nat.zero_le _, fun hne => absurd (List.length_eq_zero_iff.1 h0) hne⟩
  · have hcell : ∀ i u, xs[i]? = some u → w.cell? ⟨g, i, none⟩ = some u := fun i u hi => by
      have hlt : i < xs.length := (List.getElem?_eq_some_iff.1 hi).1
      rw [ho.1] at hlt
      rw [← htake, List.getElem?_take, if_pos hlt] at hi
      simpa [World.cell?, hg] using hi
    refine ⟨_, cap, rfl, hle, hmm, fun _ => ⟨g, 0, b, rfl, hb, (Array.getElem?_eq_some_iff.1 hg).1, (Array.getElem?_eq_some_iff.1 hg).1, fun i hi => ?_, fun k hk => by simp [World.frozen?, hg], fun i j h1 h2 e1 e2 => by
      have := hm i j h1 h2 (by rw [hf i (by omega)]; exact e1) (by rw [hf j h2]; exact e2); omega⟩⟩
    obtain ⟨a1, a2, a3⟩ := hx i hi
    obtain ⟨q1, q2⟩ := hr i hi
    rw [hf i hi] at a1 a3 q1 q2
    refine ⟨fun e => ?_, us i, by rw [Nat.zero_add]; exact hcell _ _ a1, by rw [Nat.zero_add]; exact hcell _ _ a2, by rw [Nat.zero_add]; exact hcell _ _ a3, q2⟩
    obtain ⟨p1, p2, p3⟩ := q1 e
    exact ⟨p1, p2, fun e => p3 (by rw [e]; rfl)⟩

theorem Kept.looseOut {lo hi : Nat} {W w' : World} (k : Kept lo hi W w') {a : Addr} (ho : a.block < lo ∨ hi ≤ a.block) (hb : a.block < W.heap.size) (h : W.frozen? a = false) : w'.frozen? a = false :=
  (World.frozen?_of_block (k.block _ hb ho)).trans h
theorem own3_kept {base : Nat} {e : TypeId} {w w' : World} {v : Value} {n : Nat} {xs : List Value} (h : w.ownsRow base e 3 v n xs) (q : Kept 0 0 w w') : w'.ownsRow base e 3 v n xs :=
  h.kept q.toGrown (by cases v.ownBlock <;> simp)
theorem AccD.stored {lo x p : Nat} {w : World} {u v : Value} {k : Nat} {f : Nat → DE} (h : AccD lo w v k f) (hx : x < lo) : AccD lo (w.setCell ⟨x, p, none⟩ u) v k f := by
  obtain ⟨us, b, xs, ho, hxx, hr, hm⟩ := h
  have kx : Kept x (x + 1) w (w.setCell ⟨x, p, none⟩ u) := (Kept.refl _ _ _).setCell (p := ⟨x, p, none⟩) (Nat.le_refl _) (Nat.lt_succ_self _) _
  refine ⟨us, b, xs, ⟨ho.1, ?_⟩, hxx, fun i hi => ?_, hm⟩
  · rcases ho.2 with hn | ⟨g, cap, cur, rfl, hb, hg, rest⟩
    · exact .inl hn
    · exact .inr ⟨g, cap, cur, rfl, hb, (kx.block g (Array.getElem?_eq_some_iff.1 hg).1 (by omega)).trans hg, rest⟩
  · obtain ⟨q1, q2⟩ := hr i hi
    refine ⟨fun e => by have := q1 e; rw [size_set]; exact this, ?_⟩
    by_cases e : (f i).2.1 = []
    · exact q2.none e
    · have := (q1 e).1
      exact q2.kept kx (by omega)

/-- Each number is in its one form, of whatever length. -/
def AllWN (ds : List DE) : Prop := ∀ i, i < ds.length → WN (ds.getD i de0).1 (ds.getD i de0).2.1 ∧ (ds.getD i de0).2.1.length ≤ 1000000

end Go.Proofs.YtgoncjcnakkaoaaGreatDoor
