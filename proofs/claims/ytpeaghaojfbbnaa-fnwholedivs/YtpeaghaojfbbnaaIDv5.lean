/-
  The contract of the program's divide.
-/
import Derived.Test.YtpeaghaojfbbnaaIDv4
import Derived.Test.YtpeaghaojfbbnaaDy5a
import Derived.Test.YtpeaghaojfbbnaaBC
import Derived.Test.YtpeaghaojfbbnaaPowNum
namespace Go.Proofs.Ytpeaghaojfbbnaa
open Go.RowKit
set_option linter.unusedVariables false
set_option maxRecDepth 8000
set_option linter.unusedSimpArgs false

theorem wps3 {P : Program} {o : Oper} {a : Act} {w : World} {K : Act → World → Prop} {Q : Exit → Act → World → Prop} {R : Ending → World → Prop}
    (n : FuncId) (x y z : Operand) (ts : Array TypeId) (hop : o.op = Op.call { callee := Callee.value (Operand.func n), args := #[x, y, z], argTypes := ts })
    (hcf : ∀ (w : World) (args : Array Value), (callFunc n args).run P w = .ok (.enter n args) w) (vx vy vz : Value) (hx : a.eval x = vx) (hy : a.eval y = vy) (hz : a.eval z = vz) (hc : Calls P n #[vx, vy, vz] w R) (hK : ∀ e w', R e w' → ∃ v, e = .returned v ∧ K (a.put o.dst v) w') :
    Oper.wp P o a w K Q := by
  unfold Oper.wp
  have hrun : (execOp a.eval o).run P w = .ok (.enter n #[vx, vy, vz]) w := by
    have hfn : a.eval (.func n) = .func (.func n) #[] #[] := rfl
    simp [execOp, hop, resolve, invoke, hx, hy, hz, hfn, Deferred.ofValue, Result.andThen, hcf]
  rw [hrun, Oper.upon_enter]
  refine hc.mono ?_
  intro e w' h
  obtain ⟨v, rfl, h2⟩ := hK e w' h
  exact h2
/-- What stands behind n rounds fewer of a division: qs is left of S, ql is told of the quotient so far. -/
structure Dvd (qs ql ys : List Int) (L P n : Nat) (S : Int) : Prop where
  len : qs.length = L
  lim : Lim qs
  qlen : ql.length = P
  qlim : Lim ql
  low : ∀ j, j < n → ql.getD j 0 = 0
  sum : val qs + val ys * val ql = S
  lt : val qs < val ys * 65536 ^ n
theorem Dvd.window {qs ql ys : List Int} {L P i : Nat} {S : Int} (h : Dvd qs ql ys L P (i + 1) S) (hi : i ≤ L) : val (qs.drop i) < 65536 * val ys := by
  have h1 := val_take_drop qs i (by rw [h.len]; exact hi)
  have h2 := val_nonneg (h.lim.take i)
  have h3 := h.lt
  have hP : (0 : Int) < 65536 ^ i := Int.pow_pos (by decide)
  rcases Int.lt_or_le (val (qs.drop i)) (65536 * val ys) with h4 | h4
  · exact h4
  · exfalso
    have h5 := Int.mul_le_mul_of_nonneg_left h4 (Int.le_of_lt hP)
    have h6 : (65536 : Int) ^ i * (65536 * val ys) = val ys * 65536 ^ (i + 1) := by rw [Int.pow_succ, ← Int.mul_assoc, Int.mul_comm]
    omega
theorem Dvd.step {qs qs' ql ys : List Int} {L P i : Nat} {S : Int} (h : Dvd qs ql ys L P (i + 1) S) (hi : i ≤ L) (hP : i < P) (hY : 0 < val ys) (hl : qs'.length = qs.length) (hq : Lim qs') (hs : val qs' = val qs - val (qs.drop i) / val ys * (65536 ^ i * val ys)) :
    Dvd qs' (ql.set i (val (qs.drop i) / val ys)) ys L P i S := by
  have hw := h.window hi
  have h0 := val_nonneg (h.lim.drop i)
  have hd0 := Int.ediv_nonneg h0 (Int.le_of_lt hY)
  have hd1 : val (qs.drop i) / val ys < 65536 := Int.ediv_lt_of_lt_mul hY (by omega)
  have hv := val_set ql i (val (qs.drop i) / val ys) (by rw [h.qlen]; exact hP)
  rw [h.low i (by omega), Int.sub_zero] at hv
  have ht := val_take_drop qs i (by rw [h.len]; exact hi)
  have htl := val_lt (h.lim.take i)
  rw [List.length_take, Nat.min_eq_left (by rw [h.len]; exact hi)] at htl
  have hm := Int.mul_ediv_add_emod (val (qs.drop i)) (val ys)
  have hmy := Int.emod_lt_of_pos (val (qs.drop i)) hY
  have hsum := h.sum
  generalize val (qs.drop i) / val ys = D at *
  generalize val (qs.drop i) % val ys = R at *
  have hp : (0 : Int) < 65536 ^ i := Int.pow_pos (by decide)
  generalize hQ : (65536 : Int) ^ i = Q at *
  have e1 : val ys * (val ql + Q * D) = val ys * val ql + D * (Q * val ys) := by
    rw [Int.mul_add]
    congr 1
    rw [← Int.mul_assoc, Int.mul_comm, Int.mul_comm (val ys) Q]
  refine ⟨by rw [hl, h.len], hq, by rw [List.length_set, h.qlen], h.qlim.set i hd0 (by omega), fun j hj => ?_, by rw [hv, hs, e1]; omega, ?_⟩
  · rw [List.getD_eq_getElem?_getD, List.getElem?_set_ne (by omega), ← List.getD_eq_getElem?_getD]
    exact h.low j (by omega)
  · rw [hs, ht, ← hm]
    have e2 : Q * (val ys * D + R) = D * (Q * val ys) + Q * R := by
      rw [Int.mul_add]
      congr 1
      rw [← Int.mul_assoc, Int.mul_comm]
    have e3 : Q * (R + 1) ≤ Q * val ys := Int.mul_le_mul_of_nonneg_left (by omega) (Int.le_of_lt hp)
    rw [Int.mul_add, Int.mul_one] at e3
    rw [e2, show val ys * (65536 : Int) ^ i = (65536 : Int) ^ i * val ys from Int.mul_comm _ _, hQ]
    omega
theorem Dvd.start {xs ys : List Int} {L : Nat} (hx : Lim xs) (hy : Nrm ys) (hne : ys ≠ []) (hL : xs.length + 1 = L) : Dvd (xs ++ [0]) (List.replicate (L - ys.length) 0) ys L (L - ys.length) (L - ys.length) (val xs) := by
  have h1 := val_lt hx
  have h2 := nrm_pow hy hne
  have h3 : 0 < ys.length := List.length_pos_iff.2 hne
  refine ⟨by simp; omega, hx.snoc (by decide) (by decide), by simp, Lim.zeros _, fun j _ => by have := Bnd.zeros (L - ys.length) j; omega, by rw [val_snoc, val_zeros]; simp, ?_⟩
  rw [val_snoc, Int.mul_zero, Int.add_zero]
  have h4 : (65536 : Int) ^ xs.length ≤ 65536 ^ (ys.length - 1) * 65536 ^ (L - ys.length) := by
    rw [← Int.pow_add]
    have := Nat.pow_le_pow_right (n := 65536) (by decide) (show xs.length ≤ ys.length - 1 + (L - ys.length) by omega)
    have h5 : ∀ n : Nat, (65536 : Int) ^ n = ((65536 ^ n : Nat) : Int) := fun n => by simp
    rw [h5, h5]
    omega
  have hp : (0 : Int) < 65536 ^ (L - ys.length) := Int.pow_pos (by decide)
  have h6 := Int.mul_le_mul_of_nonneg_right h2 (Int.le_of_lt hp)
  omega
theorem Dvd.done {qs ql ys : List Int} {L P s : Nat} {X Y : Int} (h : Dvd qs ql ys L P 0 (X * 2 ^ s)) (hX : 0 ≤ X) (hY : 0 < Y) (hys : val ys = Y * 2 ^ s) : val ql = X / Y ∧ (val qs).toNat / 2 ^ s = (X % Y).toNat := by
  have h1 := h.lt
  have h2 := h.sum
  have h3 := val_nonneg h.lim
  have hp : (0 : Int) < 2 ^ s := Int.pow_pos (by decide)
  have hn : ((2 ^ s : Nat) : Int) = (2 : Int) ^ s := by simp
  rw [Int.pow_zero, Int.mul_one, hys] at h1
  rw [hys] at h2
  generalize val ql = Q at *
  generalize val qs = R at *
  have e1 : R = (X - Y * Q) * 2 ^ s := by rw [Int.sub_mul]; rw [Int.mul_right_comm] at h2; omega
  have e2 : 0 ≤ X - Y * Q := by
    rcases Int.lt_or_le (X - Y * Q) 0 with h | h
    · have := Int.mul_neg_of_neg_of_pos h hp; omega
    · exact h
  have e3 : X - Y * Q < Y := by
    rw [e1] at h1
    exact Int.lt_of_mul_lt_mul_right h1 (Int.le_of_lt hp)
  have e4 : Q = X / Y := by
    have := Int.ediv_emod_unique (a := X) (b := Y) (r := X - Y * Q) (q := Q) hY
    exact ((this.2 ⟨by omega, e2, e3⟩).1).symm
  have e5 : X % Y = X - Y * Q := by have := Int.mul_ediv_add_emod X Y; rw [← e4] at this; omega
  refine ⟨e4, ?_⟩
  rw [e5, e1]
  obtain ⟨N, hN⟩ : ∃ N : Nat, X - Y * Q = (N : Int) := ⟨(X - Y * Q).toNat, by omega⟩
  rw [hN, ← hn, ← Int.natCast_mul, Int.toNat_natCast, Int.toNat_natCast]
  exact Nat.mul_div_cancel _ (Nat.pow_pos (by decide))
theorem room_ok {ys : List Int} (hy : Nrm ys) (hne : ys ≠ []) : ∃ s : Nat, s < 16 ∧ (16 : Int) * (ys.length : Int) - (bitsN (val ys).toNat : Int) = (s : Int) := by
  have h3 : 0 < ys.length := List.length_pos_iff.2 hne
  have h0 := val_nonneg hy.1
  have e1 : bitsN (val ys).toNat ≤ 16 * ys.length := (bitsN_le _ _).2 ((limbs_len_two _ _).1 (by rw [← nrm_limbs hy]; omega))
  have e2 : 16 * ys.length - 16 < bitsN (val ys).toNat := by
    rcases Nat.lt_or_ge (16 * ys.length - 16) (bitsN (val ys).toNat) with h | h
    · exact h
    · have := (limbs_len_two (val ys).toNat (ys.length - 1)).2 (by have := (bitsN_le (val ys).toNat (16 * (ys.length - 1))).1 (by omega); exact this)
      rw [← nrm_limbs hy] at this
      omega
  exact ⟨16 * ys.length - bitsN (val ys).toNat, by omega, by omega⟩
/-- What a division leaves: the quotient in a new list, the remainder in the number's place. -/
structure Divd (b : Nat) (w w' : World) (g : Nat) (v vq : Value) (qs rs : List Int) : Prop where
  q : w'.ownsRow w.heap.size 3 1 vq qs.length (qs.map (Value.int .i64))
  r : ∃ u, Num b w' g u rs ∧ (∀ k, vq.ownBlock = some k → u.ownBlock ≠ some k) ∧ (∀ k, u.ownBlock = some k → v.ownBlock = some k ∨ w.heap.size ≤ k)
  md : Mod (Own1 g v) w w'
  sd : SameSide g w w'

/-- The blocks of a division: the result, the divisor, the quotient, the lists. -/
structure DvC (R g1 gb s4 Y Q : Nat) (v1 u4 uq : Value) : Prop where
  g : g1 < R
  y0 : R < Y
  y1 : Y < s4
  y2 : ∀ k, u4.ownBlock = some k → Y < k ∧ k < s4
  b1 : (v1.ownBlock = some gb ∧ gb < R) ∨ s4 ≤ gb
  b2 : gb ≠ g1
  b3 : gb < Q
  b4 : s4 ≤ Q
  q1 : ∀ k, uq.ownBlock = some k → Q < k
/-- What a division works on. -/
structure DvW (b : Nat) (w wr : World) (g1 gb cap L : Nat) (v1 : Value) (Y : Nat) (u4 : Value) (ys : List Int) (Q : Nat) (uq : Value) (qs ql : List Int) : Prop where
  n : Num b wr g1 (.slice (some ⟨gb, 0, none⟩) L cap) qs
  y : Num w.heap.size wr Y u4 ys
  q : Num w.heap.size wr Q uq ql
  cR : wr.cell? ⟨w.heap.size, 0, none⟩ = some (.slice none 0 0)
  fR : wr.frozen? ⟨w.heap.size, 0, none⟩ = false
  md : Mod (Own1 g1 v1) w wr
  sd : SameSide g1 w wr
theorem DvW.drewN {b : Nat} {w wr : World} {g1 gb cap L : Nat} {v1 : Value} {Y : Nat} {u4 : Value} {ys : List Int} {Q : Nat} {uq : Value} {qs ql : List Int} (h : DvW b w wr g1 gb cap L v1 Y u4 ys Q uq qs ql) (m : Nat) : DvW b w (wr.drewN m) g1 gb cap L v1 Y u4 ys Q uq qs ql := by
  have k := (Kept.refl 0 0 wr).drewN m
  exact ⟨h.n.kept k, h.y.kept k, h.q.kept k, k.cell0 h.cR, k.loose0 (World.block_lt_of_cell? _ _ h.cR) h.fR, h.md.drewN m, h.sd.drewN m⟩
theorem DvW.dived {b : Nat} {w wr w' : World} {g1 gb cap L : Nat} {v1 : Value} {Y : Nat} {u4 : Value} {ys : List Int} {Q s4 : Nat} {uq : Value} {qs qs' ql : List Int} {p : Nat} (h : DvW b w wr g1 gb cap L v1 Y u4 ys Q uq qs ql) (c : DvC w.heap.size g1 gb s4 Y Q v1 u4 uq)
    (d : DivAt b wr w' g1 gb (.slice (some ⟨gb, 0, none⟩) L cap) qs qs' ys p) : DvW b w w' g1 gb cap L v1 Y u4 ys Q uq qs' ql := by
  obtain ⟨c1, c2, c3, c4, c5, c6, c7, c8, c9⟩ := c
  have m := d.md
  have hb : gb < w.heap.size ∨ s4 ≤ gb := c5.elim (fun e => .inl e.2) .inr
  exact ⟨d.num, h.y.mod m (fun e => by omega) (fun i e e' => by have := c4 i e; omega), h.q.mod m (fun e => by omega) (fun i e e' => by have := c9 i e; omega), m.cellAt (fun e => by omega) h.cR, m.looseAt (fun e => by omega) (World.block_lt_of_cell? _ _ h.cR) h.fR,
    h.md.then m (fun i e => c5.elim (fun h => .inl (.inr (by rw [e]; exact h.1))) (fun h => .inr (by omega))), h.sd.trans (m.side (World.block_lt_of_cell? _ _ h.n.cell) (fun e => by omega))⟩
theorem DvW.put {b : Nat} {w wr : World} {g1 gb cap L gz P cz : Nat} {v1 : Value} {Y : Nat} {u4 : Value} {ys : List Int} {Q s4 : Nat} {qs ql : List Int} (h : DvW b w wr g1 gb cap L v1 Y u4 ys Q (.slice (some ⟨gz, 0, none⟩) P cz) qs ql) (c : DvC w.heap.size g1 gb s4 Y Q v1 u4 (.slice (some ⟨gz, 0, none⟩) P cz))
    (hP : P = ql.length) (j : Nat) (z : Int) : DvW b w (wr.setCell ⟨gz, j, none⟩ (.int .i64 z)) g1 gb cap L v1 Y u4 ys Q (.slice (some ⟨gz, 0, none⟩) P cz) qs (ql.set j z) := by
  obtain ⟨c1, c2, c3, c4, c5, c6, c7, c8, c9⟩ := c
  have hz := c9 gz rfl
  have m : Mod (fun i => i = gz) wr (wr.setCell ⟨gz, j, none⟩ (.int .i64 z)) := (Mod.refl (fun i => i = gz) wr).set (p := ⟨gz, j, none⟩) (.inl rfl) _
  exact ⟨h.n.mod m (fun e => by omega) (fun i e e' => by simp [Value.ownBlock] at e; omega), h.y.mod m (fun e => by omega) (fun i e e' => by have := c4 i e; omega), h.q.put hP z, m.cellAt (fun e => by omega) h.cR, m.looseAt (fun e => by omega) (World.block_lt_of_cell? _ _ h.cR) h.fR, h.md.then m (fun i e => .inr (by omega)), h.sd.trans (m.side (World.block_lt_of_cell? _ _ h.n.cell) (fun e => by omega))⟩
theorem shl_len {xs : List Int} (hx : Lim xs) (s : Nat) (hs : s < 16) : (limbs ((val xs).toNat * 2 ^ s)).length ≤ xs.length + 1 := by
  have h0 := val_nonneg hx
  have h1 := val_lt hx
  rw [pow_limb] at h1
  refine (limbs_len_two _ _).2 ?_
  have h2 : (val xs).toNat < 2 ^ (16 * xs.length) := by omega
  have h3 := Nat.pow_le_pow_right (n := 2) (by decide) (show s ≤ 16 by omega)
  have e : 2 ^ (16 * (xs.length + 1)) = 2 ^ (16 * xs.length) * 2 ^ 16 := by rw [← Nat.pow_add]; congr 1
  rw [e]
  exact Nat.lt_of_lt_of_le (Nat.mul_lt_mul_of_pos_right h2 (Nat.pow_pos (by decide))) (Nat.mul_le_mul_left _ h3)
theorem shl_int {xs : List Int} (hx : Lim xs) (s : Nat) : val (limbs ((val xs).toNat * 2 ^ s)) = val xs * 2 ^ s := by
  have h0 := val_nonneg hx
  rw [limbs_val, Int.natCast_mul, Int.toNat_of_nonneg h0]
  simp

theorem in_bitsD : ∀ (w : World) (args : Array Value), (callFunc 41 args).run Try.prog w = .ok (.enter 41 args) w := enters Try.func41 (by decide) (fun h => by cases h)

theorem in_divideAt : ∀ (w : World) (args : Array Value), (callFunc 44 args).run Try.prog w = .ok (.enter 44 args) w := enters Try.func44 (by decide) (fun h => by cases h)

set_option maxHeartbeats 8000000 in
theorem divide_impl {b1 b2 g1 g2 : Nat} {v1 v2 : Value} {xs ys : List Int} (w : World) (n1 : Num b1 w g1 v1 xs) (n2 : Num b2 w g2 v2 ys) (hb : b1 ≤ w.heap.size) (hx : Nrm xs) (hy : Nrm ys) (hne : ys ≠ []) (nx : xs.length ≤ 40000) (ny : ys.length ≤ 40000) :
    Calls Try.prog 27 #[.pointer (some ⟨g1, 0, none⟩), .pointer (some ⟨g2, 0, none⟩)] w fun e w' => ∃ vq, e = .returned (.agg #[vq]) ∧ Divd b1 w w' g1 v1 vq (limbs (val xs / val ys).toNat) (limbs (val xs % val ys).toNat) := by
  obtain ⟨M, hM⟩ : ∃ M, M = ys.length := ⟨_, rfl⟩
  obtain ⟨a2, c2, hv2⟩ := n2.form
  rw [← hM] at hv2
  subst hv2
  have nM : M ≤ 40000 := by omega
  obtain ⟨s, hs, hroom⟩ := room_ok hy hne
  rw [← hM] at hroom
  have k0 : Kept 0 0 w (w.alloc (.cells #[.slice none 0 0] 39)) := (Kept.refl 0 0 w).alloc _
  have cR : (w.alloc (.cells #[.slice none 0 0] 39)).cell? ⟨w.heap.size, 0, none⟩ = some (.slice none 0 0) := new_cell_at _ _ _ _ rfl
  have fR : (w.alloc (.cells #[.slice none 0 0] 39)).frozen? ⟨w.heap.size, 0, none⟩ = false := new_loose _ _ _ _ rfl
  have hsz : (w.alloc (.cells #[.slice none 0 0] 39)).heap.size = w.heap.size + 1 := by simp
  have l1 := n1.lt
  have m1 := n1.kept k0
  have m2 := n2.kept k0
  obtain ⟨B, hB⟩ : ∃ B : Nat, B = bitsN (val ys).toNat := ⟨_, rfl⟩
  rw [← hB] at hroom
  have hw1 : IntKind.i64.wrap (16 * (M : Int)) = 16 * (M : Int) := wrap_small _ (by omega) (by omega)
  have hw2 : IntKind.i64.wrap (16 * (M : Int) - (B : Int)) = (s : Int) := by rw [hroom]; exact wrap_small _ (by omega) (by omega)
  have HM := hide hM
  have HB := hide hB
  have HR := hide hroom
  have mc := m2.cell
  clear n2 hM hB hroom
  go_enter Try.func27, Try.ntmps27
  go_wp2_with fail
  generalize w.alloc (.cells #[.slice none 0 0] 39) = W at *
  refine wp_region_held_drew (S := (fun wz => wz.cell? ⟨g2, 0, none⟩ = some (.slice a2 M c2))) (by kernel_rfl) ?_ (fun hHeld => ?_)
  · exact ((Kept.refl 0 0 W).drew).cell0 m2.cell
  replace m1 := m1.kept (Kept.refl 0 0 W).drew
  replace m2 := m2.kept (Kept.refl 0 0 W).drew
  replace k0 := k0.trans (Kept.refl 0 0 W).drew
  replace cR := ((Kept.refl 0 0 W).drew).cell0 cR
  replace fR := ((Kept.refl 0 0 W).drew).loose0 (by simp; omega) fR
  replace hsz : W.drew.heap.size = w.heap.size + 1 := hsz
  generalize W.drew = W1 at *
  refine wpAnyH_take (i := 0) (oi := _) (v := .pointer (some ⟨g2, 0, none⟩)) rfl (by kernel_rfl) (by kernel_rfl) (by kernel_rfl) (fun _ _ _ h => h) (Or.inl ⟨by rfl, ?_⟩) hHeld ?_
  · intro wq hSw
    try dsimp only at hSw
    go_simp
  try simp only [Act.put, List.getElem_toArray, List.getElem_cons_succ, List.getElem_cons_zero, List.setIfInBounds_toArray, List.set_cons_zero, List.set_cons_succ]
  refine wpAnyH_take (i := 1) (oi := _) (v := .pointer (some ⟨g2, 0, none⟩)) rfl (by kernel_rfl) (by kernel_rfl) (by kernel_rfl) (fun _ _ _ h => h) (Or.inl ⟨by rfl, ?_⟩) hHeld ?_
  · intro wq hSw
    try dsimp only at hSw
    go_simp
  try simp only [Act.put, List.getElem_toArray, List.getElem_cons_succ, List.getElem_cons_zero, List.setIfInBounds_toArray, List.set_cons_zero, List.set_cons_succ]
  refine wpAnyH_take (i := 2) (oi := _) (v := .pointer (some ⟨g2, 0, none⟩)) rfl (by kernel_rfl) (by kernel_rfl) (by kernel_rfl) (fun _ _ _ h => h) (Or.inl ⟨by rfl, ?_⟩) hHeld ?_
  · intro wq hSw
    try dsimp only at hSw
    go_simp
  try simp only [Act.put, List.getElem_toArray, List.getElem_cons_succ, List.getElem_cons_zero, List.setIfInBounds_toArray, List.set_cons_zero, List.set_cons_succ]
  refine wpAnyH_take (i := 3) (oi := _) (v := .slice a2 M c2) rfl (by kernel_rfl) (by kernel_rfl) (by kernel_rfl) (fun _ _ _ h => h) (Or.inl ⟨by rfl, ?_⟩) hHeld ?_
  · intro wq hSw
    try dsimp only at hSw
    go_simp
  try simp only [Act.put, List.getElem_toArray, List.getElem_cons_succ, List.getElem_cons_zero, List.setIfInBounds_toArray, List.set_cons_zero, List.set_cons_succ]
  refine wpAnyH_take (i := 4) (oi := _) (v := .int .i64 (M : Int)) rfl (by kernel_rfl) (by kernel_rfl) (by kernel_rfl) (fun _ _ _ h => h) (Or.inl ⟨by rfl, ?_⟩) hHeld ?_
  · intro wq hSw
    try dsimp only at hSw
    go_simp
  try simp only [Act.put, List.getElem_toArray, List.getElem_cons_succ, List.getElem_cons_zero, List.setIfInBounds_toArray, List.set_cons_zero, List.set_cons_succ]
  refine wpAnyH_take (i := 5) (oi := _) (v := .int .i64 (16 * (M : Int))) rfl (by kernel_rfl) (by kernel_rfl) (by kernel_rfl) (fun _ _ _ h => h) (Or.inl ⟨by rfl, ?_⟩) hHeld ?_
  · intro wq hSw
    try dsimp only at hSw
    go_simp
  try simp only [Act.put, List.getElem_toArray, List.getElem_cons_succ, List.getElem_cons_zero, List.setIfInBounds_toArray, List.set_cons_zero, List.set_cons_succ]
  refine wpAnyH_take (i := 6) (oi := _) (v := .pointer (some ⟨g2, 0, none⟩)) rfl (by kernel_rfl) (by kernel_rfl) (by kernel_rfl) (fun _ _ _ h => h) (Or.inl ⟨by rfl, ?_⟩) hHeld ?_
  · intro wq hSw
    try dsimp only at hSw
    go_simp
  try simp only [Act.put, List.getElem_toArray, List.getElem_cons_succ, List.getElem_cons_zero, List.setIfInBounds_toArray, List.set_cons_zero, List.set_cons_succ]
  refine wpAnyH_ready (rs := [7]) (by kernel_rfl) (by simp) ?_
  refine AllReadyH.cons rfl (fun KK hK => ?_) AllReadyH.nil
  simp only [List.getElem_toArray, List.getElem_cons_succ, List.getElem_cons_zero]
  rw [if_pos (by rfl)]
  refine wps1 41 (.tmp 16) _ rfl in_bitsD (.pointer (some ⟨g2, 0, none⟩)) rfl (bitsM_impl _ m2 hy (by omega)) ?_
  rintro e w2 ⟨rfl, k2⟩
  refine ⟨_, rfl, ?_⟩
  rw [← unhide HB]
  replace m1 := m1.kept k2
  replace m2 := m2.kept k2
  replace k0 := k0.trans k2
  replace cR := k2.cell0 cR
  replace fR := k2.loose0 (by simp; omega) fR
  have z2 := k2.size
  clear k2
  clear hHeld
  refine hK.out _ _ ?_ (fun hHeld => ?_)
  · exact m2.cell
  clear hK KK
  try simp only [Act.put, List.getElem_toArray, List.getElem_cons_succ, List.getElem_cons_zero, List.setIfInBounds_toArray, List.set_cons_zero, List.set_cons_succ]
  refine wpAnyH_take (i := 8) (oi := _) (v := .int .i64 (s : Int)) rfl (by kernel_rfl) (by kernel_rfl) (by kernel_rfl) (fun _ _ _ h => h) (Or.inl ⟨by rfl, ?_⟩) hHeld ?_
  · intro wq hSw
    try dsimp only at hSw
    go_simp
  try simp only [Act.put, List.getElem_toArray, List.getElem_cons_succ, List.getElem_cons_zero, List.setIfInBounds_toArray, List.set_cons_zero, List.set_cons_succ]
  refine wpAnyH_take (i := 9) (oi := _) (v := .int .i64 (s : Int)) rfl (by kernel_rfl) (by kernel_rfl) (by kernel_rfl) (fun _ _ _ h => h) (Or.inl ⟨by rfl, ?_⟩) hHeld ?_
  · intro wq hSw
    try dsimp only at hSw
    go_simp
  try simp only [Act.put, List.getElem_toArray, List.getElem_cons_succ, List.getElem_cons_zero, List.setIfInBounds_toArray, List.set_cons_zero, List.set_cons_succ]
  refine wpAnyH_done (by kernel_rfl) ?_ _
  clear hHeld hw1 hw2 HR
  go_wp2_with fail
  have H2 := hide hsz
  clear mc hsz
  refine (copied_impl _ m2 (by omega)).mono ?_
  rintro e w3 ⟨v3, rfl, o3, k3⟩
  replace m1 := m1.kept k3
  replace k0 := k0.trans k3
  replace cR := k3.cell0 cR
  replace fR := k3.loose0 (by have := unhide H2; dsimp only; omega) fR
  have z3 := k3.size
  clear k3 m2
  obtain ⟨a3, c3, hv⟩ := own_slice o3
  subst hv
  have l3 := o3.lt
  have kA := (Kept.refl 0 0 w3).alloc (.cells #[.slice a3 ys.length c3] 39)
  have nY := (Num.new 39 o3).less (b' := w.heap.size) (by have := unhide H2; omega)
  have hRY : w.heap.size < w3.heap.size := by have := unhide H2; omega
  replace m1 := m1.kept kA
  replace k0 := k0.trans kA
  replace cR := kA.cell0 cR
  replace fR := kA.loose0 (by dsimp only; omega) fR
  have z3' : w3.heap.size < (w3.alloc (.cells #[.slice a3 ys.length c3] 39)).heap.size := by simp
  clear kA o3
  go_wp2_with fail
  generalize w3.alloc (.cells #[.slice a3 ys.length c3] 39) = WB at *
  refine (shiftUp_impl _ nY hy.1 hne (by omega) s (by omega)).mono ?_
  rintro e w4 ⟨⟨r4, rfl⟩, u4, n4, m4⟩
  replace m1 := m1.mod m4 (fun e => by omega) (fun i e e' => by have := n1.own.lt _ e; omega)
  replace k0 := k0.mod m4 (fun i e => by omega)
  replace cR := m4.cellAt (fun e => by omega) cR
  replace fR := m4.looseAt (fun e => by omega) (by omega) fR
  have z4 := m4.size
  have l4 := n4.own.lt
  clear m4 nY
  go_wp2_with fail
  refine (shiftUp_any _ m1 hx (by omega) s (by omega)).mono ?_
  rintro e w5 ⟨⟨r5, rfl⟩, u5, n5, m5, s5, o5⟩
  replace n5 := n5.less (b' := b1) (by omega)
  have sd : SameSide g1 w w5 := (k0.side l1).trans s5
  replace n4 := n4.mod m5 (fun e => by omega) (fun i e e' => by have := l4 i e; omega)
  have md : Mod (Own1 g1 v1) w w5 := k0.toMod.then m5 (fun i e => .inl (.inl e))
  replace cR := m5.cellAt (fun e => by omega) cR
  replace fR := m5.looseAt (fun e => by omega) (by omega) fR
  have z5 := m5.size
  clear m5 m1 k0 s5
  have hX := shl_int hx.1 s
  have hYv := shl_int hy.1 s
  have hXl := limbs_lim ((val xs).toNat * 2 ^ s)
  have hYn := limbs_nrm ((val ys).toNat * 2 ^ s)
  have hXn := shl_len hx.1 s hs
  have hYnn := shl_len hy.1 s hs
  generalize limbs ((val xs).toNat * 2 ^ s) = X at *
  generalize limbs ((val ys).toNat * 2 ^ s) = Y at *
  have hx0 := val_nonneg hx.1
  have hy0 : 0 < val ys := by have e1 := nrm_pow hy hne; have : (0 : Int) < 65536 ^ (ys.length - 1) := Int.pow_pos (by decide); omega
  have hYp : 0 < val Y := by rw [hYv]; exact Int.mul_pos hy0 (Int.pow_pos (by decide))
  have hYne : Y ≠ [] := fun e => by rw [e] at hYp; simp [val] at hYp
  have DV0 := hide (Dvd.start hXl hYn hYne rfl)
  rw [hX] at DV0
  have HYV := hide hYv
  clear hX hYv
  obtain ⟨a5, c5, hv⟩ := n5.form
  subst hv
  have hce := n5.cell
  have hlo := n5.loose
  have hown' := own_kept n5.own ((Kept.refl 0 0 w5).alloc (.cells #[.int .i64 0] 3))
  have hl' : X.length ≤ 1000000 := by omega
  have hbb : b1 ≤ (w5.alloc (.cells #[.int .i64 0] 3)).heap.size := by simp; omega
  have HBB := hide hbb
  have hcc : (w5.alloc (.cells #[.int .i64 0] 3)).cell? ⟨w5.heap.size, 0, none⟩ = some (.int .i64 0) := new_cell_at _ _ _ _ rfl
  clear hbb
  go_wp2_with (at_builtin; refine wpList_snoc rfl _ _ rfl rfl _ rfl 0 hcc hown' hl' (unhide HBB) ?_)
  intro v6 w6 hown6 hgrow hat
  unfold OwnL at hown6
  replace hat := unhide hat
  obtain ⟨d1, d2, d3, d4⟩ := n5.snoc _ hgrow hat hown6
  have mg : Mod (fun i => (Value.slice a5 X.length c5).ownBlock = some i) w5 w6 := (((Kept.refl 0 0 w5).alloc (.cells #[.int .i64 0] 3)).toMod).grow hgrow (fun i hi => .inl hi)
  replace sd := (sd.trans (mg.side n5.lt n5.apart)).set0 v6
  clear mg
  have hl5 : ∀ i, Own1 g1 (.slice a5 X.length c5) i → i = g1 ∨ (v1.ownBlock = some i ∧ i < w.heap.size ∧ i ≠ g1) ∨ w4.heap.size ≤ i := fun i e => e.elim .inl (fun e => .inr ((o5 i e).elim (fun e1 => .inl ⟨e1, (n1.own.lt i e1).2, fun e2 => n1.apart (by rw [e1, e2])⟩) .inr))
  replace n4 := n4.mod d4 (fun e => by have := hl5 _ e; omega) (fun i e e' => by have := hl5 _ e'; have := l4 i e; omega)
  replace cR := d4.cellAt (fun e => by have := hl5 _ e; omega) cR
  replace fR := d4.looseAt (fun e => by have := hl5 _ e; omega) (by omega) fR
  replace md := md.then d4 (fun i e => (hl5 i e).elim (fun h => .inl (.inl h)) (fun h => h.elim (fun h => .inl (.inr h.1)) (fun h => .inr (by omega))))
  have z6 := d4.size
  obtain ⟨gb, cap, e6, -⟩ := d3.at 0 (by simp)
  rw [List.length_append, List.length_singleton] at e6
  obtain ⟨Lx, hLx⟩ : ∃ Lx, Lx = X.length + 1 := ⟨_, rfl⟩
  rw [← hLx] at e6 DV0
  subst e6
  have hgb : (v1.ownBlock = some gb ∧ gb < w.heap.size ∧ gb ≠ g1) ∨ w4.heap.size ≤ gb := hat.elim (fun e => ((hl5 gb (.inr e.symm)).elim (fun h => absurd (by rw [h]; rfl : (Value.slice (some ⟨gb, 0, none⟩) Lx cap).ownBlock = some g1) d3.apart) id)) (fun e => .inr (by simp [Value.ownBlock] at e; omega))
  have lgb : gb < w6.heap.size := by have := (d3.own.lt gb rfl).2; rw [size_set] at this; exact this
  rw [size_set] at z6
  obtain ⟨P, hP⟩ : ∃ P, P = Lx - Y.length := ⟨_, rfl⟩
  rw [← hP] at DV0
  have HLx := hide hLx
  have HP := hide hP
  have hLn : Lx ≤ 60000 := by omega
  have hYl : Y.length ≤ 60000 := by omega
  clear hLx hP hown6 hgrow hat d4 n5 o5 hce hlo hown' hcc hl5
  have kQ := (Kept.refl 0 0 (w6.setCell ⟨g1, 0, none⟩ (.slice (some ⟨gb, 0, none⟩) Lx cap))).alloc (.cells #[.slice none 0 0] 39)
  have nQ : Num w.heap.size ((w6.setCell ⟨g1, 0, none⟩ (.slice (some ⟨gb, 0, none⟩) Lx cap)).alloc (.cells #[.slice none 0 0] 39)) w6.heap.size (.slice none 0 0) [] := by have := Num.new (b := w.heap.size) (zs := []) (w := w6.setCell ⟨g1, 0, none⟩ (.slice (some ⟨gb, 0, none⟩) Lx cap)) 39 (World.ownsRow_nil _ _ _ _); rw [size_set] at this; exact this
  obtain ⟨a4, c4, hv4⟩ := n4.form
  subst hv4
  replace n4 := n4.kept kQ
  replace sd := sd.trans (kQ.side (World.block_lt_of_cell? _ _ d3.cell))
  replace d3 := d3.kept kQ
  replace cR := kQ.cell0 cR
  replace fR := kQ.loose0 (by rw [size_set]; dsimp only; omega) fR
  replace md := md.kept kQ
  have cg := d3.cell
  have cy := n4.cell
  have hne1 : ¬ g1 = w6.heap.size := by omega
  clear kQ
  go_wp2_with fail
  generalize hQ : w6.heap.size = Q at *
  generalize (w6.setCell ⟨g1, 0, none⟩ (.slice (some ⟨gb, 0, none⟩) Lx cap)).alloc (.cells #[.slice none 0 0] 39) = W7 at *
  clear d1 d2 hQ hne1
  go_quiet (fail)
  have hQ6 := nQ.lt
  replace d3 := d3.kept ((Kept.refl 0 0 W7).drewN nq)
  replace n4 := n4.kept ((Kept.refl 0 0 W7).drewN nq)
  replace nQ := nQ.kept ((Kept.refl 0 0 W7).drewN nq)
  replace cR := ((Kept.refl 0 0 W7).drewN nq).cell0 cR
  have hQ7 := nQ.lt
  replace fR := ((Kept.refl 0 0 W7).drewN nq).loose0 (by dsimp only; omega) fR
  replace md := md.drewN nq
  replace sd := sd.drewN nq
  replace hQ7 := nQ.lt
  clear cg cy
  generalize W7.drewN nq = W8 at *
  have n4' := n4.less (b' := w.heap.size) (by omega)
  clear n4
  by_cases hlt : Y.length < Lx
  · have hPn : P ≤ 60000 := by have := unhide HP; omega
    have hPp : 0 < P := by have := unhide HP; omega
    have hPi : (Lx : Int) - (Y.length : Int) = (P : Int) := by have := unhide HP; omega
    obtain ⟨i0, hi0, hz0, hz1, hz2⟩ := info_parts Try.info3'
    have hb0 : i0.bytes * P ≤ 281474976710656 := by rw [hz2]; have := unhide HP; omega
    have hm0 : P ≤ maxLen := by unfold maxLen; have := unhide HP; omega
    have cq := nQ.cell
    have fq := nQ.loose
    go_wp2_with (at_make; refine wpList_make_full _ rfl _ _ 23 rfl W8.heap.size 3 i0 (.int .i64 0) 1 Try.underlying23 hi0 hz0 hz1 .i64 .i64 _ _ P rfl rfl hPi hPi hb0 hm0 (Nat.le_refl _) ?_)
    intro w9 hown hgrow
    rw [show (madeCells #[Value.int IntKind.i64 0] P).toList = (List.replicate P (0 : Int)).map (Value.int .i64) from by have := made_zero .i64 P; simpa [Value.cells] using this] at hown
    have kn : Kept 0 0 W8 w9 := ⟨hgrow.os, hgrow.tape, hgrow.output, hgrow.size, fun i hi _ => hgrow.block i hi (by simp)⟩
    replace cq := kn.cell0 cq
    replace fq := kn.loose0 hQ7 fq
    have m9 : Mod (fun i => i = Q) W8 (w9.setCell ⟨Q, 0, none⟩ (.slice (some ⟨W8.heap.size, 0, none⟩) P P)) := Mod.set (S := fun i => i = Q) kn.toMod (p := ⟨Q, 0, none⟩) (.inl rfl) _
    have dc : DvC w.heap.size g1 gb w4.heap.size w3.heap.size Q v1 (.slice a4 Y.length c4) (.slice (some ⟨W8.heap.size, 0, none⟩) P P) := ⟨l1, hRY, by omega, fun k e => by have := l4 k e; omega, hgb.elim (fun h => .inl ⟨h.1, h.2.1⟩) .inr, by omega, lgb, by omega, fun k e => by simp [Value.ownBlock] at e; omega⟩
    have hb1 := dc.b1
    have hb3 := dc.b3
    have dw : DvW b1 w (w9.setCell ⟨Q, 0, none⟩ (.slice (some ⟨W8.heap.size, 0, none⟩) P P)) g1 gb cap Lx v1 w3.heap.size (.slice a4 Y.length c4) Y Q (.slice (some ⟨W8.heap.size, 0, none⟩) P P) (X ++ [0]) (List.replicate P 0) := ⟨d3.mod m9 (fun e => by omega) (fun i e e' => by simp [Value.ownBlock] at e; omega), n4'.mod m9 (fun e => by omega) (fun i e e' => by have := l4 i e; omega), ⟨cell_on _ _ _ _ _ cq, by rw [frozen_set]; exact fq, own_less (own_apart (by simpa using hown) (p := ⟨Q, 0, none⟩) (fun e => by simp [Value.ownBlock] at e; omega) _) (by omega), fun e => by simp [Value.ownBlock] at e; omega⟩, m9.cellAt (fun e => by omega) cR, m9.looseAt (fun e => by omega) (World.block_lt_of_cell? _ _ cR) fR, md.then m9 (fun i e => .inr (by omega)), sd.trans (m9.side (World.block_lt_of_cell? _ _ d3.cell) (fun e => by omega))⟩
    have cq9 := dw.q.cell
    clear hown hgrow kn m9 hi0 hz0 hz1 hz2 hb0 hm0 d3 n4' nQ md sd cR fR hb1 hb3 hPi l4 lgb hgb
    go_wp2_with fail
    clear cq fq cq9
    generalize w9.setCell ⟨Q, 0, none⟩ (.slice (some ⟨W8.heap.size, 0, none⟩) P P) = W9 at *
    have HDC := hide dc
    have HDW := hide dw
    clear dc dw
    go_loopw [9] (fun ii wr => ∃ (k : Nat) (qs ql : List Int), ii = .int .i64 ((k : Int) - 1) ∧ k ≤ P ∧ Dvd qs ql Y Lx P k (val xs * 2 ^ s) ∧ DvW b1 w wr g1 gb cap Lx v1 w3.heap.size (.slice a4 Y.length c4) Y Q (.slice (some ⟨W8.heap.size, 0, none⟩) P P) qs ql) (fun ii _ => (intOf ii + 1).toNat)
    case atStart => exact ⟨P, _, _, by go_num, Nat.le_refl _, unhide DV0, unhide HDW⟩
    case round =>
      clear HDW
      obtain ⟨k, qs, ql, rfl, hk, dv, dw⟩ := hrel
      have hlen := dv.len
      by_cases hk0 : 0 < k
      · obtain ⟨i, rfl⟩ : ∃ i, k = i + 1 := ⟨k - 1, by omega⟩
        have ei : ((i + 1 : Nat) : Int) - 1 = (i : Int) := by omega
        rw [ei]
        obtain ⟨gz, cz, ez, xz, fz, -⟩ := dw.q.at i (by have := dv.qlen; omega)
        rw [dv.qlen] at ez
        have hi2 : (i : Int) < (P : Int) := by omega
        have HDV := hide dv
        have HDW := hide dw
        have cq := dw.q.cell
        clear dv dw
        have egz : gz = W8.heap.size := by simp at ez; exact ez.1.symm
        subst egz
        clear ez
        go_wp2_with fail
        refine wp_region_held_drew (S := (fun wz => wz.cell? ⟨Q, 0, none⟩ = some (.slice (some ⟨W8.heap.size, 0, none⟩) P P))) (by kernel_rfl) ?_ (fun hHeld => ?_)
        · exact ((Kept.refl 0 0 wr).drew).cell0 cq
        have dw := (unhide HDW).drewN 1
        have dv := unhide HDV
        replace fz := ((Kept.refl 0 0 wr).drewN 1).loose0 (World.block_lt_of_cell? _ _ xz) fz
        replace xz := ((Kept.refl 0 0 wr).drewN 1).cell0 xz
        change DvW _ _ wr.drew _ _ _ _ _ _ _ _ _ _ _ _ at dw
        generalize wr.drew = wd at *
        clear HDW HDV cq
        refine wpAnyH_take (i := 0) (oi := _) (v := .pointer (some ⟨Q, 0, none⟩)) rfl (by kernel_rfl) (by kernel_rfl) (by kernel_rfl) (fun _ _ _ h => h) (Or.inl ⟨by rfl, ?_⟩) hHeld ?_
        · intro wq hSw
          try dsimp only at hSw
          go_simp
        try simp only [Act.put, List.getElem_toArray, List.getElem_cons_succ, List.getElem_cons_zero, List.setIfInBounds_toArray, List.set_cons_zero, List.set_cons_succ]
        refine wpAnyH_take (i := 1) (oi := _) (v := (.slice (some ⟨W8.heap.size, 0, none⟩) P P)) rfl (by kernel_rfl) (by kernel_rfl) (by kernel_rfl) (fun _ _ _ h => h) (Or.inl ⟨by rfl, ?_⟩) hHeld ?_
        · intro wq hSw
          try dsimp only at hSw
          go_simp
        try simp only [Act.put, List.getElem_toArray, List.getElem_cons_succ, List.getElem_cons_zero, List.setIfInBounds_toArray, List.set_cons_zero, List.set_cons_succ]
        refine wpAnyH_take (i := 2) (oi := _) (v := .int .i64 (i : Int)) rfl (by kernel_rfl) (by kernel_rfl) (by kernel_rfl) (fun _ _ _ h => h) (Or.inl ⟨by rfl, ?_⟩) hHeld ?_
        · intro wq hSw
          try dsimp only at hSw
          go_simp
        try simp only [Act.put, List.getElem_toArray, List.getElem_cons_succ, List.getElem_cons_zero, List.setIfInBounds_toArray, List.set_cons_zero, List.set_cons_succ]
        refine wpAnyH_take (i := 3) (oi := _) (v := .pointer (some ⟨g1, 0, none⟩)) rfl (by kernel_rfl) (by kernel_rfl) (by kernel_rfl) (fun _ _ _ h => h) (Or.inl ⟨by rfl, ?_⟩) hHeld ?_
        · intro wq hSw
          try dsimp only at hSw
          go_simp
        try simp only [Act.put, List.getElem_toArray, List.getElem_cons_succ, List.getElem_cons_zero, List.setIfInBounds_toArray, List.set_cons_zero, List.set_cons_succ]
        refine wpAnyH_take (i := 4) (oi := _) (v := .int .i64 (i : Int)) rfl (by kernel_rfl) (by kernel_rfl) (by kernel_rfl) (fun _ _ _ h => h) (Or.inl ⟨by rfl, ?_⟩) hHeld ?_
        · intro wq hSw
          try dsimp only at hSw
          go_simp
        try simp only [Act.put, List.getElem_toArray, List.getElem_cons_succ, List.getElem_cons_zero, List.setIfInBounds_toArray, List.set_cons_zero, List.set_cons_succ]
        refine wpAnyH_ready (rs := [5]) (by kernel_rfl) (by simp) ?_
        refine AllReadyH.cons rfl (fun KK hK => ?_) AllReadyH.nil
        simp only [List.getElem_toArray, List.getElem_cons_succ, List.getElem_cons_zero]
        rw [if_pos (by rfl)]
        have dc := unhide HDC
        refine wps3 44 (.tmp 60) (.tmp 6) (.tmp 61) _ rfl in_divideAt (.pointer (some ⟨g1, 0, none⟩)) (.pointer (some ⟨w3.heap.size, 0, none⟩)) (.int .i64 (i : Int)) rfl rfl rfl (divideAt_impl _ dw.n dw.y (fun e => by have := dc.b1; have := dc.y0; have := dc.y1; omega) (fun e => by have := dc.y2 _ e; have := dc.b1; have := dc.y0; omega) hlen (by have := unhide HP; omega) (by omega) dv.lim hYn hYne (dv.window (by have := unhide HP; omega))) ?_
        rintro e w10 ⟨rfl, qs2, da⟩
        refine ⟨_, rfl, ?_⟩
        have dv2 := dv.step (by have := unhide HP; omega) (by omega) hYp da.len da.lim da.sum
        have dw2 := dw.dived dc da
        have dw3 := dw2.put dc dv.qlen.symm i (val (qs.drop i) / val Y)
        obtain ⟨gz, cz, ez, xz2, fz2, -⟩ := dw2.q.at i (by have := dv.qlen; omega)
        have egz : gz = W8.heap.size := by simp [Value.slice.injEq] at ez; exact ez.1.symm
        subst egz
        clear ez
        generalize val (qs.drop i) / val Y = z at *
        clear hHeld
        refine hK.out _ _ ?_ (fun hHeld => ?_)
        · exact dw2.q.cell
        clear hK KK
        try simp only [Act.put, List.getElem_toArray, List.getElem_cons_succ, List.getElem_cons_zero, List.setIfInBounds_toArray, List.set_cons_zero, List.set_cons_succ]
        refine wpAnyH_take (i := 6) (oi := _) (v := .pointer (some ⟨W8.heap.size, i, none⟩)) rfl (by kernel_rfl) (by kernel_rfl) (by kernel_rfl) (fun _ _ _ h => h) (Or.inl ⟨by rfl, ?_⟩) hHeld ?_
        · intro wq hSw
          try dsimp only at hSw
          go_simp
        try simp only [Act.put, List.getElem_toArray, List.getElem_cons_succ, List.getElem_cons_zero, List.setIfInBounds_toArray, List.set_cons_zero, List.set_cons_succ]
        refine wpAnyH_ready (rs := [7]) (by kernel_rfl) (by simp) ?_
        refine AllReadyH.cons rfl (fun KK hK => ?_) AllReadyH.nil
        simp only [List.getElem_toArray, List.getElem_cons_succ, List.getElem_cons_zero]
        rw [if_pos (by rfl)]
        go_simp
        clear hHeld
        refine hK.out _ _ ?_ (fun hHeld => ?_)
        · exact dw3.q.cell
        clear hK KK
        try simp only [Act.put, List.getElem_toArray, List.getElem_cons_succ, List.getElem_cons_zero, List.setIfInBounds_toArray, List.set_cons_zero, List.set_cons_succ]
        refine wpAnyH_done (by kernel_rfl) ?_ _
        clear hHeld
        have DV := hide dv2
        have DW := hide dw3
        clear dv2 dw3 dw2 dw dv da dc xz fz xz2 fz2
        have hii : (i : Int) ≤ 60000 := by omega
        go_wp2_with fail
        go_roundw
        case rel => exact ⟨i, _, _, by go_num, by omega, unhide DV, unhide DW⟩
        case measure => simp [intOf]
      · have hk1 : k = 0 := by omega
        subst hk1
        have ei : ((0 : Nat) : Int) - 1 = -1 := by omega
        rw [ei]
        obtain ⟨eq, er⟩ := dv.done hx0 hy0 (unhide HYV)
        have dc := unhide HDC
        have ql2 := dv.qlim
        have qs2 := dv.lim
        go_wp2_with fail
        refine (trim_impl _ dw.q ql2).mono ?_
        rintro e w11 ⟨⟨r11, rfl⟩, u11, n11, o11, m11⟩
        rw [eq] at n11
        have nn := dw.n.mod m11 (fun e => by have := dc.g; have := dc.b4; have := dc.y0; have := dc.y1; omega) (fun i e e' => by have := dc.b3; simp [Value.ownBlock] at e; omega)
        have cR' := m11.cellAt (fun e => by have := dc.b4; have := dc.y0; have := dc.y1; omega) dw.cR
        have fR' := m11.looseAt (g := w.heap.size) (o := 0) (fun e => by have := dc.b4; have := dc.y0; have := dc.y1; omega) (World.block_lt_of_cell? _ _ dw.cR) dw.fR
        have md' := dw.md.then m11 (fun i e => .inr (by have := dc.b4; have := dc.y0; have := dc.y1; omega))
        have sd' := dw.sd.trans (m11.side (World.block_lt_of_cell? _ _ dw.n.cell) (fun e => by have := dc.g; have := dc.b4; have := dc.y0; have := dc.y1; omega))
        clear m11 dw dv
        go_wp2_with fail
        refine (shiftDown_num _ nn qs2 (by have := unhide HLx; omega) (by omega) s hs).mono ?_
        rintro e w12 ⟨⟨r12, rfl⟩, u12, n12, o12, m12, s12⟩
        replace sd' := sd'.trans s12
        rw [er] at n12
        have hO : ∀ i, Own1 g1 (.slice (some ⟨gb, 0, none⟩) Lx cap) i → i = g1 ∨ i = gb := fun i e => e.elim .inl (fun e => .inr (by simp [Value.ownBlock] at e; exact e.symm))
        replace n11 := n11.mod m12 (fun e => by have := hO _ e; have := dc.g; have := dc.b3; have := dc.b4; have := dc.y0; have := dc.y1; omega) (fun i e e' => by rw [o11] at e; have := dc.q1 i e; have := hO _ e'; have := dc.g; have := dc.b3; have := dc.b4; have := dc.y0; have := dc.y1; omega)
        have lR : w.heap.size < w11.heap.size := World.block_lt_of_cell? _ _ cR'
        replace cR' := m12.cellAt (g := w.heap.size) (o := 0) (fun e => by have := hO _ e; have := dc.g; have := dc.b1; have := dc.y0; have := dc.y1; omega) cR'
        replace fR' := m12.looseAt (g := w.heap.size) (o := 0) (fun e => by have := hO _ e; have := dc.g; have := dc.b1; have := dc.y0; have := dc.y1; omega) lR fR'
        replace md' := md'.then m12 (fun i e => (hO i e).elim (fun h => .inl (.inl h)) (fun h => dc.b1.elim (fun h1 => .inl (.inr (by rw [h]; exact h1.1))) (fun h1 => .inr (by have := dc.y0; have := dc.y1; omega))))
        clear m12 nn s12
        obtain ⟨aq, cq, hvq⟩ := n11.form
        subst hvq
        have mR : Mod (fun i => i = w.heap.size) w12 (w12.setCell ⟨w.heap.size, 0, none⟩ (.slice aq (limbs (val xs / val ys).toNat).length cq)) := (Mod.refl (fun i => i = w.heap.size) w12).set (p := ⟨w.heap.size, 0, none⟩) (.inl rfl) _
        have hq : Divd b1 w (w12.setCell ⟨w.heap.size, 0, none⟩ (.slice aq (limbs (val xs / val ys).toNat).length cq)) g1 v1 (.slice aq (limbs (val xs / val ys).toNat).length cq) (limbs (val xs / val ys).toNat) (limbs (val xs % val ys).toNat) := ⟨mR.own n11.own (fun i e e' => by rw [o11] at e; have := dc.q1 i e; have := dc.b4; have := dc.y0; have := dc.y1; omega), ⟨u12, n12.mod mR (fun e => by have := dc.g; omega) (fun i e e' => by rw [o12] at e; simp [Value.ownBlock] at e; have := dc.b1; have := dc.y0; have := dc.y1; omega), fun i e e' => by rw [o11] at e; rw [o12] at e'; simp [Value.ownBlock] at e'; have := dc.q1 i e; have := dc.b3; omega, fun i e => by rw [o12] at e; simp [Value.ownBlock] at e; subst e; exact dc.b1.elim (fun h => .inl h.1) (fun h => .inr (by have := dc.y0; have := dc.y1; omega))⟩, md'.then mR (fun i e => .inr (by omega)), sd'.far (by have := dc.g; omega) _⟩
        have HQ := hide hq
        have cQ := n11.cell
        clear hq mR n11 n12 md' sd' o11 o12 dc
        generalize (limbs (val xs / val ys).toNat).length = nl at *
        go_wp2_with fail
        exact bodyPost_ret (v := .agg #[.slice aq nl cq]) (by simp [results, Try.results27, go_sem, cR']) rfl ⟨_, rfl, unhide HQ⟩
  · have hP0 : P = 0 := by have := unhide HP; omega
    subst hP0
    have dc : DvC w.heap.size g1 gb w4.heap.size w3.heap.size Q v1 (.slice a4 Y.length c4) (.slice none 0 0) := ⟨l1, hRY, by omega, fun k e => by have := l4 k e; omega, hgb.elim (fun h => .inl ⟨h.1, h.2.1⟩) .inr, by omega, lgb, by omega, fun k e => by simp [Value.ownBlock] at e⟩
    have dw : DvW b1 w W8 g1 gb cap Lx v1 w3.heap.size (.slice a4 Y.length c4) Y Q (.slice none 0 0) (X ++ [0]) (List.replicate 0 0) := ⟨d3, n4', nQ, cR, fR, md, sd⟩
    have cq := nQ.cell
    clear d3 n4' nQ md sd cR fR l4 lgb hgb
    go_wp2_with fail
    clear cq
    have HDC := hide dc
    have HDW := hide dw
    clear dc dw
    go_loopw [9] (fun ii wr => ∃ (k : Nat) (qs ql : List Int), ii = .int .i64 ((k : Int) - 1) ∧ k ≤ 0 ∧ Dvd qs ql Y Lx 0 k (val xs * 2 ^ s) ∧ DvW b1 w wr g1 gb cap Lx v1 w3.heap.size (.slice a4 Y.length c4) Y Q (.slice none 0 0) qs ql) (fun ii _ => (intOf ii + 1).toNat)
    case atStart => exact ⟨0, _, _, rfl, Nat.le_refl _, unhide DV0, unhide HDW⟩
    case round =>
      clear HDW
      obtain ⟨k, qs, ql, rfl, hk, dv, dw⟩ := hrel
      have hlen := dv.len
      by_cases hk0 : 0 < k
      · obtain ⟨i, rfl⟩ : ∃ i, k = i + 1 := ⟨k - 1, by omega⟩
        have ei : ((i + 1 : Nat) : Int) - 1 = (i : Int) := by omega
        rw [ei]
        obtain ⟨gz, cz, ez, xz, fz, -⟩ := dw.q.at i (by have := dv.qlen; omega)
        rw [dv.qlen] at ez
        have hi2 : (i : Int) < (0 : Int) := by omega
        have HDV := hide dv
        have HDW := hide dw
        have cq := dw.q.cell
        clear dv dw
        omega
      · have hk1 : k = 0 := by omega
        subst hk1
        have ei : ((0 : Nat) : Int) - 1 = -1 := by omega
        rw [ei]
        obtain ⟨eq, er⟩ := dv.done hx0 hy0 (unhide HYV)
        have dc := unhide HDC
        have ql2 := dv.qlim
        have qs2 := dv.lim
        go_wp2_with fail
        refine (trim_impl _ dw.q ql2).mono ?_
        rintro e w11 ⟨⟨r11, rfl⟩, u11, n11, o11, m11⟩
        rw [eq] at n11
        have nn := dw.n.mod m11 (fun e => by have := dc.g; have := dc.b4; have := dc.y0; have := dc.y1; omega) (fun i e e' => by have := dc.b3; simp [Value.ownBlock] at e; omega)
        have cR' := m11.cellAt (fun e => by have := dc.b4; have := dc.y0; have := dc.y1; omega) dw.cR
        have fR' := m11.looseAt (g := w.heap.size) (o := 0) (fun e => by have := dc.b4; have := dc.y0; have := dc.y1; omega) (World.block_lt_of_cell? _ _ dw.cR) dw.fR
        have md' := dw.md.then m11 (fun i e => .inr (by have := dc.b4; have := dc.y0; have := dc.y1; omega))
        have sd' := dw.sd.trans (m11.side (World.block_lt_of_cell? _ _ dw.n.cell) (fun e => by have := dc.g; have := dc.b4; have := dc.y0; have := dc.y1; omega))
        clear m11 dw dv
        go_wp2_with fail
        refine (shiftDown_num _ nn qs2 (by have := unhide HLx; omega) (by omega) s hs).mono ?_
        rintro e w12 ⟨⟨r12, rfl⟩, u12, n12, o12, m12, s12⟩
        replace sd' := sd'.trans s12
        rw [er] at n12
        have hO : ∀ i, Own1 g1 (.slice (some ⟨gb, 0, none⟩) Lx cap) i → i = g1 ∨ i = gb := fun i e => e.elim .inl (fun e => .inr (by simp [Value.ownBlock] at e; exact e.symm))
        replace n11 := n11.mod m12 (fun e => by have := hO _ e; have := dc.g; have := dc.b3; have := dc.b4; have := dc.y0; have := dc.y1; omega) (fun i e e' => by rw [o11] at e; have := dc.q1 i e; have := hO _ e'; have := dc.g; have := dc.b3; have := dc.b4; have := dc.y0; have := dc.y1; omega)
        have lR : w.heap.size < w11.heap.size := World.block_lt_of_cell? _ _ cR'
        replace cR' := m12.cellAt (g := w.heap.size) (o := 0) (fun e => by have := hO _ e; have := dc.g; have := dc.b1; have := dc.y0; have := dc.y1; omega) cR'
        replace fR' := m12.looseAt (g := w.heap.size) (o := 0) (fun e => by have := hO _ e; have := dc.g; have := dc.b1; have := dc.y0; have := dc.y1; omega) lR fR'
        replace md' := md'.then m12 (fun i e => (hO i e).elim (fun h => .inl (.inl h)) (fun h => dc.b1.elim (fun h1 => .inl (.inr (by rw [h]; exact h1.1))) (fun h1 => .inr (by have := dc.y0; have := dc.y1; omega))))
        clear m12 nn s12
        obtain ⟨aq, cq, hvq⟩ := n11.form
        subst hvq
        have mR : Mod (fun i => i = w.heap.size) w12 (w12.setCell ⟨w.heap.size, 0, none⟩ (.slice aq (limbs (val xs / val ys).toNat).length cq)) := (Mod.refl (fun i => i = w.heap.size) w12).set (p := ⟨w.heap.size, 0, none⟩) (.inl rfl) _
        have hq : Divd b1 w (w12.setCell ⟨w.heap.size, 0, none⟩ (.slice aq (limbs (val xs / val ys).toNat).length cq)) g1 v1 (.slice aq (limbs (val xs / val ys).toNat).length cq) (limbs (val xs / val ys).toNat) (limbs (val xs % val ys).toNat) := ⟨mR.own n11.own (fun i e e' => by rw [o11] at e; have := dc.q1 i e; have := dc.b4; have := dc.y0; have := dc.y1; omega), ⟨u12, n12.mod mR (fun e => by have := dc.g; omega) (fun i e e' => by rw [o12] at e; simp [Value.ownBlock] at e; have := dc.b1; have := dc.y0; have := dc.y1; omega), fun i e e' => by rw [o11] at e; rw [o12] at e'; simp [Value.ownBlock] at e'; have := dc.q1 i e; have := dc.b3; omega, fun i e => by rw [o12] at e; simp [Value.ownBlock] at e; subst e; exact dc.b1.elim (fun h => .inl h.1) (fun h => .inr (by have := dc.y0; have := dc.y1; omega))⟩, md'.then mR (fun i e => .inr (by omega)), sd'.far (by have := dc.g; omega) _⟩
        have HQ := hide hq
        have cQ := n11.cell
        clear hq mR n11 n12 md' sd' o11 o12 dc
        generalize (limbs (val xs / val ys).toNat).length = nl at *
        go_wp2_with fail
        exact bodyPost_ret (v := .agg #[.slice aq nl cq]) (by simp [results, Try.results27, go_sem, cR']) rfl ⟨_, rfl, unhide HQ⟩

end Go.Proofs.Ytpeaghaojfbbnaa
