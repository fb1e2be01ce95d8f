/-
  The program's MatText.
-/
import Derived.Test.YtfikfmkhmojpfaaMtx1
import Derived.Test.YtfikfmkhmojpfaaEncl
import Derived.Test.YtfikfmkhmojpfaaChk
import Derived.Test.YtfikfmkhmojpfaaMat1
import Derived.Test.YtfikfmkhmojpfaaDyt2
import Derived.Maps.AppendAt
import Derived.OwnWalkIn
import Derived.OrdersIn
import Derived.RangeFuncCalls
import Derived.Stop.RegionWithIn
namespace Go.Proofs.Ytfikfmkhmojpfaa
open Go.RowKit Go.Shelf
set_option linter.unusedVariables false
set_option maxRecDepth 8000
set_option linter.unusedSimpArgs false
attribute [local go_sem] Oper.semAt_some

/-- A call of one argument, inside a round of a loop. -/
theorem wpi_call1 {P : Program} {l n : Nat} {o : Oper} {a : Act} {w : World} {K : Act → World → Prop} {Q : Exit → Act → World → Prop} {R : Ending → World → Prop}
    (f : FuncId) (x : Operand) (ts : Array TypeId) (hop : o.op = Op.call { callee := Callee.value (Operand.func f), args := #[x], argTypes := ts })
    (hcf : ∀ (w : World) (args : Array Value), (callFunc f args).run P w = .ok (.enter f args) w) (vx : Value) (hx : a.eval x = vx) (hc : Calls P f #[vx] w R) (hK : ∀ e w', R e w' → ∃ v, e = .returned v ∧ K (a.put o.dst v) w') :
    Oper.wpIn (Fence.wide.inRound l) n P o a w K Q := by
  unfold Oper.wpIn
  have hrun : (execOp a.eval o).run P w = .ok (.enter f #[vx]) w := by
    have hfn : a.eval (.func f) = .func (.func f) #[] #[] := rfl
    simp [execOp, hop, resolve, invoke, hx, hfn, Deferred.ofValue, Result.andThen, hcf]
  refine ⟨fun _ _ => trivial, ?_⟩
  rw [Oper.semAt_plain _ _ _ (by rw [hop]; intro c h; cases h), hrun, Oper.uponIn_enter]
  refine ⟨fun h => (by cases h), (CallsIn.inRound l (callsIn_wide.2 hc)).mono ?_⟩
  intro e w' h
  obtain ⟨v, rfl, h2⟩ := hK e w' h
  exact h2
/-- An append of one value to a row of the call's own, inside a round of a loop. -/
theorem wpi_append1 {P : Program} {l n' : Nat} {w : World} {o : Oper} {a : Act} {K : Act → World → Prop} {Q : Exit → Act → World → Prop} (s x : Operand) (t : TypeId)
    (ho : o.op = .call { callee := .builtin .append, args := #[s, x], argTypes := #[t, t] })
    (base : Nat) (e : TypeId) (i : TypeInfo) (z : Value) (size bytes : Nat) (ht : P.underlying t = some (.slice e)) (hi : P.info? e = some i) (hz : i.zero = some z)
    (hsize : i.size = size) (hby : i.bytes = bytes) (hzs : z.cells.size = size) (hsz : 0 < size)
    (v : Value) (n : Nat) (xs : List Value) (hs : a.eval s = v) (hown : w.ownsRow base e size v n xs)
    (ad : Addr) (m c : Nat) (news : List Value) (hx : a.eval x = .slice (some ad) m c) (hl : news.length = m * size) (hnews : ∀ j u, news[j]? = some u → w.cell? (ad.add j) = some u) (h1 : ∀ u ∈ news, u.oneCell' = true)
    (h63 : n + m ≤ maxLen) (hbytes : (n + m) * bytes ≤ 140737488355328) (hbase : base ≤ w.heap.size)
    (h : ∀ v' w', w'.ownsRow base e size v' (n + m) (xs ++ news) → w.grownBy w' v.ownBlock → (v'.ownBlock = v.ownBlock ∨ v'.ownBlock = some w.heap.size) → K (a.put o.dst v') w') : Oper.wpIn (Fence.wide.inRound l) n' P o a w K Q := by
  obtain ⟨v', w', hr, h2, h3, h4, h5⟩ := run_append_own_at (P := P) w base t o.type e i z size bytes ht hi hz hsize hby hzs hsz v n xs hown ad m c news hl hnews h1 h63 hbytes hbase
  unfold Oper.wpIn
  refine ⟨fun _ _ => trivial, ?_⟩
  rw [Oper.semAt_plain _ _ _ (by rw [ho]; intro c h; cases h)]
  simp [execOp, ho, resolve, invoke, builtin, hs, hx, hr, Result.andThen]
  exact h v' w' h2 h3 h5

/-- What MatText tells. -/
def mtB (y : Int) (ds : List DE) : Bool := mokB y ds && allB (fun i => tB (ds.getD i de0)) ds.length
def rowF (ds : List DE) (n : Nat) (i : Nat) : List Int := jT [32] (fun q => ltF ds (i * n + q)) n
def mtT (y : Int) (ds : List DE) : List Int := if mtB y ds = true then 91 :: (jT [59, 32] (rowF ds y.toNat) y.toNat ++ [93]) else []
theorem mt_no {y : Int} {ds : List DE} (h : mtB y ds = false) : mtB y ds = false ∧ mtT y ds = [] := ⟨h, by unfold mtT; rw [h]; rfl⟩
theorem rowF_bts (ds : List DE) (n i : Nat) : Bts (rowF ds n i) := jT_bts (bts_one 32 (by decide) (by decide)) (fun j _ => tT_bts _)
theorem rowF_len (ds : List DE) {n : Nat} (hn : n ≤ 4) (i : Nat) : (rowF ds n i).length ≤ 13000 := by
  have h := jT_len (sep := [32]) (F := fun q => ltF ds (i * n + q)) (M := 3000) (by decide) n (fun j _ => tT_len _)
  have : (3000 + 10) * n ≤ (3000 + 10) * 4 := Nat.mul_le_mul_left _ hn
  unfold rowF
  omega
theorem rowF_ne {ds : List DE} {n i : Nat} (hn : 1 ≤ n) (h : ∀ q, q < n → ltF ds (i * n + q) ≠ []) : rowF ds n i ≠ [] := by
  obtain ⟨m, rfl⟩ : ∃ m, n = m + 1 := ⟨n - 1, by omega⟩
  exact jT_ne (n := m) (h m (by omega))
theorem mtT_len (y : Int) (ds : List DE) : (mtT y ds).length ≤ 60000 := by
  unfold mtT
  split
  · rename_i h
    unfold mtB at h
    rw [Bool.and_eq_true] at h
    obtain ⟨u1, u2, -⟩ := mok_partsA h.1
    have h1 := jT_len (sep := [59, 32]) (F := rowF ds y.toNat) (M := 13000) (by decide) y.toNat (fun j _ => rowF_len ds (by omega) j)
    have h2 : (13000 + 10) * y.toNat ≤ (13000 + 10) * 4 := Nat.mul_le_mul_left _ (by omega)
    simp
    omega
  · simp

theorem row_lt {k : IntKind} {bw : Bool} {b : Nat} {w : World} {v : Value} {zs : List Int} (r : Row k bw b (b + 1) w v zs) (h : zs ≠ []) : b < w.heap.size := by
  obtain ⟨a, c, rfl, h1, h2, h3⟩ := r
  obtain ⟨g, off, rfl, q1, q2, q3, -⟩ := h3 h
  omega
/-- The rows that have been joined. -/
def MtI (W4 : World) (r0 : Nat) (G : Nat → List Int) (hi : Nat) (pre : List Nat) (A : World) : Prop :=
  ∃ u vs, A.cell? ⟨r0, 0, none⟩ = some u ∧ A.frozen? ⟨r0, 0, none⟩ = false ∧ A.ownsRow hi 30 1 u vs.length vs ∧ vs.length = pre.length ∧
    (∀ j, j < pre.length → ∃ v b, vs[j]? = some v ∧ hi ≤ b ∧ b < A.heap.size ∧ (∀ q, u.ownBlock = some q → q ≠ b) ∧ Row .u8 true b (b + 1) A v (G j)) ∧ hi ≤ A.heap.size ∧ Kept r0 (r0 + 1) W4 A

theorem Kept.looseOut {lo hi : Nat} {W w' : World} (k : Kept lo hi W w') {a : Addr} (ho : a.block < lo ∨ hi ≤ a.block) (hb : a.block < W.heap.size) (h : W.frozen? a = false) : w'.frozen? a = false :=
  (World.frozen?_of_block (k.block _ hb ho)).trans h
theorem mt_step {w4 A C B7 : World} {r0 hi x b6 : Nat} {G : Nat → List Int} {u v6 v7 : Value} {vs : List Value} {pre : List Nat} (h2 : w4.heap.size + 2 ≤ hi) (hr0 : r0 < w4.heap.size) (c1 : A.cell? ⟨r0, 0, none⟩ = some u) (f1 : A.frozen? ⟨r0, 0, none⟩ = false) (o1 : A.ownsRow hi 30 1 u vs.length vs) (hvl : vs.length = pre.length) (hx : pre.length = x)
    (hrow : ∀ j, j < pre.length → ∃ v b, vs[j]? = some v ∧ hi ≤ b ∧ b < A.heap.size ∧ (∀ q, u.ownBlock = some q → q ≠ b) ∧ Row .u8 true b (b + 1) A v (G j)) (s1 : hi ≤ A.heap.size) (k1 : Kept r0 (r0 + 1) w4 A) (kc : Kept 0 0 A C) (hb6 : A.heap.size ≤ b6 ∧ b6 < C.heap.size) (rb6 : Row .u8 true b6 (b6 + 1) C v6 (G x))
    (o7 : B7.ownsRow hi 30 1 v7 (vs.length + 1) (vs ++ [v6])) (g7 : C.grownBy B7 u.ownBlock) (e7 : v7.ownBlock = u.ownBlock ∨ v7.ownBlock = some C.heap.size) :
    (B7.cell? ⟨r0, 0, none⟩ = some u ∧ B7.frozen? ⟨r0, 0, none⟩ = false) ∧ MtI w4 r0 G hi (pre ++ [x]) (B7.setCell ⟨r0, 0, none⟩ v7) ∧ Mod (Out w4.heap.size hi) A (B7.setCell ⟨r0, 0, none⟩ v7) := by
  have hlt := fun i hi' => o1.lt i hi'
  have zc := kc.size
  have z7 := g7.size
  have oc := own_kept o1 kc
  have hltC := fun i hi' => oc.lt i hi'
  have k7 : Kept hi C.heap.size C B7 := Kept.grown g7 hltC
  have cC := kc.cell0 c1
  have fC := kc.loose0 (World.block_lt_of_cell? _ _ c1) f1
  have c7 := k7.cellOut (a := ⟨r0, 0, none⟩) (.inl (by dsimp only; omega)) cC
  have f7 := k7.looseOut (a := ⟨r0, 0, none⟩) (.inl (by dsimp only; omega)) (World.block_lt_of_cell? _ _ cC) fC
  have ks : Kept r0 (r0 + 1) B7 (B7.setCell ⟨r0, 0, none⟩ v7) := (Kept.refl _ _ _).setCell (p := ⟨r0, 0, none⟩) (Nat.le_refl _) (Nat.lt_succ_self _) _
  have zs : (B7.setCell ⟨r0, 0, none⟩ v7).heap.size = B7.heap.size := size_set _ _ _
  have hap : ∀ b, b < C.heap.size → (∀ q, u.ownBlock = some q → q ≠ b) → ∀ q, v7.ownBlock = some q → q ≠ b := fun b hb h q hq => by
    rcases e7 with e | e
    · exact h q (e ▸ hq)
    · rw [e] at hq
      have : C.heap.size = q := Option.some.inj hq
      omega
  have hgo : ∀ b zs v, hi ≤ b → (∀ q, u.ownBlock = some q → q ≠ b) → Row .u8 true b (b + 1) C v zs → Row .u8 true b (b + 1) (B7.setCell ⟨r0, 0, none⟩ v7) v zs := fun b zs v hb h r =>
    (row_apart r g7 h).kept ks (.inr (.inl (by omega)))
  refine ⟨⟨c7, f7⟩, ⟨v7, vs ++ [v6], cell_on _ _ _ _ _ c7, by rw [frozen_set]; exact f7, ?_, by simp [hvl], fun j hj => ?_, by omega, ?_⟩, ?_⟩
  · rw [List.length_append]
    exact own_other o7 ks (by omega)
  · rw [List.length_append] at hj
    by_cases hjx : j < pre.length
    · obtain ⟨v, b, q1, q2, q3, q4, q5⟩ := hrow j hjx
      exact ⟨v, b, by rw [List.getElem?_append_left (by omega)]; exact q1, q2, by omega, hap b (by omega) q4, hgo b _ v q2 q4 (q5.kept kc (by omega))⟩
    · obtain rfl : j = x := by simp at hj; omega
      have h6 : ∀ q, u.ownBlock = some q → q ≠ b6 := fun q hq => by have := (hlt q hq).2; omega
      exact ⟨v6, b6, by rw [List.getElem?_append_right (by omega), show j - vs.length = 0 by omega]; rfl, by omega, by omega, hap b6 (by omega) h6, hgo b6 _ v6 (by omega) h6 rb6⟩
  · have k2 : Kept r0 (r0 + 1) w4 B7 := (k1.trans kc.any).growNew g7 (fun q hq => by have := (hltC q hq).1; omega)
    exact k2.trans ks
  · have m5 : Mod (Out w4.heap.size hi) A B7 := (kc.toMod (S := Out w4.heap.size hi)).then k7.modw (fun i hi' => .inl (by unfold Out; omega))
    exact m5.set (p := ⟨r0, 0, none⟩) (.inl (show Out _ _ r0 by unfold Out; omega)) v7
theorem txs_at {w2 w4 A : World} {g L N r0 : Nat} {F : Nat → List Int} (tx : Txs w2 g L N F) (hne : ∀ q, q < N → F q ≠ []) (kt : Kept 0 0 w2 w4) (k : Kept r0 (r0 + 1) w4 A) (hr : r0 = w2.heap.size) (hg : g < r0) (off n : Nat) (h : off + n ≤ N) : TxsO A g off n (fun q => F (off + q)) := fun j hj => by
  obtain ⟨v, b, c, -, -, r⟩ := tx (off + j) (by omega)
  have hb := row_lt r (hne _ (by omega))
  exact ⟨v, b, k.cellOut (a := ⟨g, off + j, none⟩) (.inl (by dsimp only; omega)) (kt.cell0 c), (r.kept kt (by omega)).kept k (.inl (by omega))⟩
theorem range_pre8 {n x : Nat} {pre post : List Nat} (h : List.range n = pre ++ x :: post) : pre = List.range x ∧ x < n := by
  have hm : x ∈ List.range n := by rw [h]; simp
  have hx := List.mem_range.1 hm
  have hl := congrArg List.length h
  simp at hl
  have h1 : (pre ++ x :: post)[pre.length]? = some x := by simp
  rw [← h, List.getElem?_range (by omega)] at h1
  have h2 : pre.length = x := by simpa using h1
  obtain ⟨post', h3⟩ := range_split8 (n := n) (i := x) (by omega)
  exact ⟨(List.append_inj (h.symm.trans h3) (by simp [h2])).1, hx⟩
theorem in_joined : ∀ (w : World) (args : Array Value), (callFunc 47 args).run Try.prog w = .ok (.enter 47 args) w := enters Try.func47 (by decide) (fun h => by cases h)

set_option maxHeartbeats 16000000 in
theorem matText_impl {lo hi : Nat} {v : Value} {ds : List DE} (y0 : Int) (w : World) (q0 : WfD ds) (r : Dys lo hi w v ds) :
    Calls Try.prog 31 #[.agg #[.int .i64 y0, v]] w fun e w' => ∃ v', e = .returned (.tuple #[v', .bool (mtB y0 ds)]) ∧ Row .u8 true w.heap.size w'.heap.size w' v' (mtT y0 ds) ∧ Kept 0 0 w w' := by
  obtain ⟨a, c, rfl, -, -⟩ := r.form
  have k0 : Kept 0 0 w (w.alloc (.cells #[.int .i64 y0, .slice a ds.length c] 67)) := (Kept.refl 0 0 w).alloc _
  have p0 : (w.alloc (.cells #[.int .i64 y0, .slice a ds.length c] 67)).cell? ⟨w.heap.size, 0, none⟩ = some (.int .i64 y0) := new_cell2 _ _ _ _ _ _ rfl rfl
  have p1 : (w.alloc (.cells #[.int .i64 y0, .slice a ds.length c] 67)).cell? ⟨w.heap.size, 1, none⟩ = some (.slice a ds.length c) := new_cell2 _ _ _ _ _ _ rfl rfl
  have hok := matOk_impl y0 _ q0 (r.kept k0 (by omega))
  replace r := r.kept k0 (by omega)
  have sB : Hid ((w.alloc (.cells #[.int .i64 y0, .slice a ds.length c] 67)).heap.size = w.heap.size + 1) := by (show _ = _; simp)
  refine (callsIn_wide (n := 3)).1 ?_
  refine callsIn_of_wp_marks Try.func31 rfl trivial ?_ rfl
  simp only [Try.ntmps31, List.size_toArray, List.length_cons, List.length_nil, Nat.reduceAdd, Nat.reduceSub, Array.replicate_succ, Array.replicate_zero, List.push_toArray, List.append_toArray, List.nil_append, List.cons_append]
  gi_wp2_with fail
  generalize (w.alloc (.cells #[.int .i64 y0, .slice a ds.length c] 67)) = W at *
  refine ⟨trivial, ?_⟩
  refine (callsIn_wide.2 hok).mono ?_
  rintro e w1 ⟨rfl, k1⟩
  replace p0 := k1.cell0 p0
  replace p1 := k1.cell0 p1
  replace r := r.kept k1 (by omega)
  have K1 := hide (k0.trans k1)
  have sW : Hid (w.heap.size < w1.heap.size) := by (show _ < _; have := k1.size; have := unhide sB; omega)
  clear hok k0 k1
  cases hm : mokB y0 ds
  · have HB := hide (mt_no (show mtB y0 ds = false by unfold mtB; rw [hm]; rfl))
    clear hm r q0
    gi_wp2
    exact ⟨.tuple #[.slice none 0 0, .bool false], by simp [results, Try.results31, go_sem], ⟨.slice none 0 0, by rw [(unhide HB).1], by rw [(unhide HB).2]; exact Row.nil _ _ _ _ _, unhide K1⟩⟩
  obtain ⟨u1, u2, u3, U⟩ := mok_partsA hm
  obtain ⟨n, rfl⟩ := Int.eq_ofNat_of_zero_le (show 0 ≤ y0 by omega)
  have hlen : ds.length = n * n := by rw [← Int.natCast_mul] at u3; omega
  have h16 : n * n ≤ 4 * 4 := Nat.mul_le_mul (by omega) (by omega)
  have hta := toldAllT_impl w1 (by omega) r q0
  obtain ⟨A, hA⟩ : ∃ A, allB (fun i => tB (ds.getD i de0)) ds.length = A := ⟨_, rfl⟩
  rw [hA] at hta
  have HA := hide hA
  have HM := hide hm
  have HN : Hid (1 ≤ n ∧ n ≤ 4 ∧ ds.length = n * n) := ⟨by omega, by omega, hlen⟩
  clear u1 u2 u3 U hm hA r q0 hlen h16
  gi_wp2_with fail
  refine ⟨trivial, ?_⟩
  refine (callsIn_wide.2 hta).mono ?_
  rintro e w2 ⟨v2, rfl, hv2, k2⟩
  replace p0 := k2.cell0 p0
  replace p1 := k2.cell0 p1
  have K2 := hide ((unhide K1).trans k2)
  have z2 := k2.size
  clear hta k2
  cases A
  · have HB := hide (mt_no (show mtB (n : Int) ds = false by unfold mtB; rw [unhide HA, Bool.and_false]))
    clear hv2
    gi_wp2
    exact ⟨.tuple #[.slice none 0 0, .bool false], by simp [results, Try.results31, go_sem], ⟨.slice none 0 0, by rw [(unhide HB).1], by rw [(unhide HB).2]; exact Row.nil _ _ _ _ _, unhide K2⟩⟩
  obtain ⟨rfl, hgl, tx⟩ := hv2 rfl
  obtain ⟨N, hNN⟩ : ∃ N, ds.length = N := ⟨_, rfl⟩
  rw [hNN] at tx HN ⊢
  have hN1 := (unhide HN).1
  have hN4 := (unhide HN).2.1
  have hNn := (unhide HN).2.2
  have HNN := hide hNN
  have hall : ∀ q, q < N → ltF ds q ≠ [] := fun q hq => tT_ne (allB_at (unhide HA) (by rw [hNN]; exact hq))
  have HALL := hide hall
  obtain ⟨gN, hgN⟩ : ∃ g, g = w1.heap.size := ⟨_, rfl⟩
  rw [← hgN] at tx hgl ⊢
  have TX := hide tx
  have HGL : Hid (gN < w2.heap.size ∧ w.heap.size < gN) := ⟨hgl, by rw [hgN]; exact unhide sW⟩
  obtain ⟨r0, hr0⟩ : ∃ r, r = w2.heap.size := ⟨_, rfl⟩
  have kR := (Kept.refl 0 0 w2).alloc (.cells #[.slice none 0 0] 89)
  have cR : (w2.alloc (.cells #[.slice none 0 0] 89)).cell? ⟨r0, 0, none⟩ = some (.slice none 0 0) := new_cell_at _ _ _ _ hr0
  have fR : (w2.alloc (.cells #[.slice none 0 0] 89)).frozen? ⟨r0, 0, none⟩ = false := new_loose _ _ _ _ hr0
  have sR : Hid ((w2.alloc (.cells #[.slice none 0 0] 89)).heap.size = r0 + 1) := by (show _ = _; rw [hr0]; simp)
  have p0' := kR.cell0 p0
  have HR0 := hide hr0
  have hck := chunk_impl (g := gN) (c := N) (n := n) (len := N) (w2.alloc (.cells #[.slice none 0 0] 89)) hN1
  rw [unhide sR] at hck
  have K3 := hide ((unhide K2).trans kR)
  have KR := hide kR
  clear hNN hall hgN tx hgl hr0 kR p0 p1 hN1 hN4 hNn
  gi_wp2_with fail
  rw [← unhide HR0]
  generalize (w2.alloc (.cells #[.slice none 0 0] 89)) = W3 at *
  refine ⟨trivial, ?_⟩
  refine (callsIn_wide.2 hck).mono ?_
  rintro e w4 ⟨rfl, hw4⟩
  have kC : Kept 0 0 W3 w4 := by rw [hw4]; exact ((Kept.refl 0 0 W3).alloc _).alloc _
  have cB0 : w4.cell? ⟨r0 + 1, 0, none⟩ = some (.slice (some ⟨gN, 0, none⟩) N N) := by rw [hw4]; exact old_cell _ (new_cell_at _ _ _ _ (unhide sR).symm)
  have cB1 : w4.cell? ⟨r0 + 1 + 1, 0, none⟩ = some (.int .i64 (n : Int)) := by rw [hw4]; exact new_cell_at _ _ _ _ (by rw [World.size_alloc, unhide sR])
  have s4 : Hid (w4.heap.size = r0 + 3) := by (show _ = _; rw [hw4, World.size_alloc, World.size_alloc, unhide sR])
  replace cR := kC.cell0 cR
  replace fR := kC.loose0 (a := ⟨r0, 0, none⟩) (by have := unhide sR; dsimp only; omega) fR
  replace p0' := kC.cell0 p0'
  have K4 := hide ((unhide K3).trans kC)
  have KT := hide ((unhide KR).trans kC)
  clear hck hw4 kC
  gi_wp2_with fail
  have hseq := chunk1_own (g := gN) (c := N) (m := n) (n := n) (b := r0 + 1) 2 (by decide) (unhide HN).1 (by have := (unhide HN).2.1; omega) (by have := (unhide HN).2.1; omega) (by have := (unhide HN).2.2; omega) (by have h1 := (unhide HN).2.1; have h2 := (unhide HN).2.2; have : n * n ≤ 4 * 4 := Nat.mul_le_mul h1 h1; omega) w4
  rw [← (unhide HN).2.2] at hseq
  refine wpIn_rangeFunc_ownWR rfl (by decide) (gf := 81) (lb := #[.pointer (some ⟨r0 + 1, 0, none⟩), .pointer (some ⟨r0 + 1 + 1, 0, none⟩)]) rfl trivial (enters_of Try.func81 (by kernel_rfl) rfl) hseq (fun _ => rfl) (MtI w4 r0 (rowF ds n)) ?i0 ?ir ?ik
    (fun x => { tmps := #[.agg #[.int .i64 (n : Int), .slice a N c], .pointer (some ⟨w.heap.size, 0, none⟩), .slice none 0 0, .bool false, .slice (some ⟨gN, 0, none⟩) N N, .bool true, .pointer (some ⟨r0, 0, none⟩), .slice (some ⟨gN, x * n, none⟩) n n, .agg #[.int .i64 (n : Int), .slice a N c], .bool true, .bool false, .tuple #[.slice (some ⟨gN, 0, none⟩) N N, .bool true], .pointer (some ⟨w.heap.size, 1, none⟩), .slice a N c, .tuple #[.slice (some ⟨gN, 0, none⟩) N N, .bool true], .slice (some ⟨gN, 0, none⟩) N N, .bool true, .bool true, .bool false, .slice (some ⟨gN, 0, none⟩) N N, .pointer (some ⟨w.heap.size, 0, none⟩), .int .i64 (n : Int), .func (.func 81) #[] #[.pointer (some ⟨r0 + 1, 0, none⟩), .pointer (some ⟨r0 + 1 + 1, 0, none⟩)], .slice (some ⟨gN, x * n, none⟩) n n, undef, undef, undef, undef, undef, undef, undef, undef, undef, undef], defers := [] }) ?assign ?body ?done
  case i0 =>
    intro hi W' k h1 e
    exact ⟨.slice none 0 0, [], k.cell0 cR, k.loose0 (World.block_lt_of_cell? _ _ cR) fR, World.ownsRow_nil _ _ _ _, rfl, fun j hj => by simp at hj, by omega, k.any⟩
  case ir =>
    rintro hi pre A ⟨u, vs, -, -, -, -, -, -, k⟩
    exact ⟨k.cellOut (a := ⟨r0 + 1, 0, none⟩) (.inr (Nat.le_refl _)) cB0, k.cellOut (a := ⟨r0 + 1 + 1, 0, none⟩) (.inr (by dsimp only; omega)) cB1⟩
  case ik =>
    rintro hi pre A B ⟨u, vs, c1, f1, o1, hl, hr, s1, k1⟩ k
    have h4 := unhide s4
    have zk := k.size
    have hno : ¬ (w4.heap.size ≤ r0 ∧ r0 < hi) := by omega
    exact ⟨u, vs, k.cellOut (a := ⟨r0, 0, none⟩) (.inl (by dsimp only; omega)) c1, k.looseOut (a := ⟨r0, 0, none⟩) (.inl (by dsimp only; omega)) (World.block_lt_of_cell? _ _ c1) f1, k.modw.own o1 (fun i hi' => by have := o1.lt i hi'; omega), hl, fun j hj => by
      obtain ⟨v, b, q1, q2, q3, q4, q5⟩ := hr j hj
      exact ⟨v, b, q1, q2, by omega, q4, q5.kept k (.inr (.inl (by omega)))⟩, by omega, ⟨k.os.trans k1.os, k.tape.trans k1.tape, k.output.trans k1.output, Nat.le_trans k1.size zk, fun i hi' ho => (k.block i (Nat.lt_of_lt_of_le hi' k1.size) (.inl hi')).trans (k1.block i hi' ho)⟩⟩
  case assign =>
    intro l x W K hK
    gi_wp2
    exact hK
  case done =>
    rintro D hi A hD1 hD2 ⟨u, vs, c1, f1, o1, hl, hr, s1, k1⟩ hK
    rw [List.length_range] at hl hr
    obtain ⟨n0, hn0⟩ : ∃ m, n = m + 1 := ⟨n - 1, by have := (unhide HN).1; omega⟩
    have o2 : A.ownsRow hi 30 1 u (n0 + 1) vs := by rw [← hn0, ← hl]; exact o1
    obtain ⟨g', cap', hu⟩ : ∃ g c, u = .slice (some ⟨g, 0, none⟩) n c := by
      have h := ownsRow_succ o2
      rw [← hn0] at h
      exact h
    rw [← hn0] at o2
    subst hu
    have hcap : n ≤ cap' := by have := own_cap o2; omega
    have txo : TxsO A g' 0 n (rowF ds n) := fun j hj => by
      obtain ⟨v, b, q1, q2, q3, q4, q5⟩ := hr j hj
      have h1 := o2.cells (g := g') rfl j v q1
      rw [Addr.add_lit] at h1
      exact ⟨v, b, h1, q5⟩
    have hall : ∀ i, i < n → rowF ds n i ≠ [] := fun i hi' => rowF_ne (unhide HN).1 (fun q hq => unhide HALL _ (by
      rw [(unhide HN).2.2]
      have : i * n + n ≤ n * n := by rw [← Nat.succ_mul]; exact Nat.mul_le_mul_right n hi'
      omega))
    have hcv := Lib.run_convert_bytes_const (P := Try.prog) A 30 5 #[.int .u8 59, .int .u8 32] 2 2 Try.underlying30 Try.underlying5
    have kl := (Kept.refl 0 0 A).alloc (.cells #[.int .u8 59, .int .u8 32] 5 (2, 3))
    have rl : Row .u8 false A.heap.size (A.alloc (.cells #[.int .u8 59, .int .u8 32] 5 (2, 3))).heap.size (A.alloc (.cells #[.int .u8 59, .int .u8 32] 5 (2, 3))) (.slice (some ⟨A.heap.size, 0, none⟩) 2 2) [59, 32] := by
      refine ⟨_, 2, rfl, Nat.le_refl _, by unfold maxLen; decide, fun _ => ⟨A.heap.size, 0, rfl, Nat.le_refl _, by simp, by simp, fun i hi' => ?_, fun h => by cases h⟩⟩
      match i, hi' with
      | 0, _ => exact World.cell?_alloc_mark A _ _ _ 0
      | 1, _ => exact World.cell?_alloc_mark A _ _ _ 1
    have hj := joinO_impl (c := cap') _ (by have := (unhide HN).2.1; omega) (txo.kept kl) hall (fun i _ => rowF_bts ds n i) (fun i _ => by have := rowF_len ds (n := n) (unhide HN).2.1 i; omega) rl (fun z hz => by
      rcases List.mem_cons.1 hz with e | e
      · subst e; decide
      · rw [List.mem_singleton] at e; subst e; decide) (by decide) hcap
    obtain ⟨J, hJ⟩ : ∃ J, jT [59, 32] (rowF ds n) n = J := ⟨_, rfl⟩
    have hJne : J ≠ [] := by rw [← hJ, hn0]; rw [hn0] at hall; exact jT_ne (hall n0 (Nat.lt_succ_self _))
    have hJl : J.length ≤ 500000 := by
      rw [← hJ]
      have h1 := jT_len (sep := [59, 32]) (F := rowF ds n) (M := 13000) (by decide) n (fun j _ => rowF_len ds (unhide HN).2.1 j)
      have h2 : (13000 + 10) * n ≤ (13000 + 10) * 4 := Nat.mul_le_mul_left _ (unhide HN).2.1
      omega
    rw [hJ] at hj
    have hb : mtB (n : Int) ds = true := by unfold mtB; rw [unhide HM, unhide HA]; rfl
    have HB : Hid (mtB (n : Int) ds = true ∧ mtT (n : Int) ds = 91 :: (J ++ [93])) := ⟨hb, by unfold mtT; rw [if_pos hb, Int.toNat_natCast, hJ]⟩
    have KA : Hid (Kept 0 0 w A) := (unhide K4).winThen k1 (by have := (unhide HGL).1; have := unhide HR0; have := (unhide HGL).2; omega)
    have KL := hide kl
    have HKD := hide hK
    have HHI : Hid (D < A.heap.size ∧ w.heap.size ≤ D) := ⟨by omega, Nat.le_trans (unhide K4).size hD1⟩
    have HN0 := hide hn0
    clear o1 o2 hl hr txo hall kl rl hJ hb k1 hK hD1 hD2 s1 hseq cR fR cB0 cB1 p0' hn0 f1
    have HJNE := hide hJne
    have HJL := hide hJl
    have HLN : vs.length = vs.length := rfl
    clear hJne hJl HLN
    gi_wp2_with fail
    refine ⟨trivial, ?_⟩
    refine (callsIn_wide.2 hj).mono ?_
    rintro e w6 ⟨v6, rfl, r6, k6⟩
    have he := enclosed_impl 91 93 w6 r6 (unhide HJNE) (unhide HJL)
    obtain ⟨a6, c6, hv6⟩ := Row.form' r6
    subst hv6
    have K6 := hide ((unhide KL).trans k6)
    clear hj r6 k6 hcv
    gi_wp2_with fail
    refine ⟨trivial, ?_⟩
    refine (callsIn_wide.2 he).mono ?_
    rintro e w7 ⟨v7, rfl, r7, k7⟩
    obtain ⟨J2, hJ2⟩ : ∃ J2, 91 :: (J ++ [93]) = J2 := ⟨_, rfl⟩
    rw [hJ2] at r7 HB
    obtain ⟨a7, c7, hv7⟩ := Row.form' r7
    subst hv7
    have K7 := hide ((unhide K6).trans k7)
    have z6 := (unhide K6).size
    have R7 := hide r7
    clear he r7 k7 hJ2
    gi_wp2_with fail
    have hK7 := ((unhide K7).block D (unhide HHI).1 (by omega)).trans (unhide HKD)
    refine ⟨by simp, .inl ⟨_, _, rfl, run_takeDeferred hK7, ?_⟩⟩
    have kp := Kept.put (lo := D) (hi := D + 1) w7 (.deferred none) (Nat.le_refl _) (Nat.lt_succ_self _)
    have zA := (unhide KA).size
    have h3 := unhide HHI
    refine ⟨.tuple #[.slice a7 J2.length c7, .bool true], by simp [results, Try.results31, go_sem], ⟨_, by rw [(unhide HB).1], ?_, (((unhide KA).trans (unhide K7)).winThen kp h3.2)⟩⟩
    rw [(unhide HB).2]
    exact (((unhide R7).kept kp (by omega)).wider (by omega) (Nat.le_refl _)).tight
  case body =>
    rintro l hi pre x post A hx h2 ⟨u, vs, c1, f1, o1, hl, hr, s1, k1⟩
    obtain ⟨hp, hxn⟩ := range_pre8 hx
    have hpl : pre.length = x := by rw [hp]; simp
    have hxN : x * n + n ≤ N := by rw [(unhide HN).2.2, ← Nat.succ_mul]; exact Nat.mul_le_mul_right n hxn
    have txo := txs_at (unhide TX) (unhide HALL) (unhide KT) k1 (unhide HR0) (by have := (unhide HGL).1; have := unhide HR0; omega) (x * n) n hxN
    obtain ⟨RX, hRX⟩ : ∃ R, rowF ds n x = R := ⟨_, rfl⟩
    have hRne : RX ≠ [] := by rw [← hRX]; exact rowF_ne (unhide HN).1 (fun q hq => unhide HALL _ (by omega))
    have MB : Hid (∀ A7, Kept 0 0 A A7 → Calls Try.prog 47 #[.slice (some ⟨gN, x * n, none⟩) n n] A7 fun e w' => ∃ v', e = .returned v' ∧ Row .u8 true A7.heap.size w'.heap.size w' v' RX ∧ Kept 0 0 A7 w') := fun A7 k7 => by
      rw [← hRX]
      exact joinedO_impl (c := n) A7 (by have := (unhide HN).2.1; omega) (txo.kept k7) (fun q hq => unhide HALL _ (by omega)) (fun q _ => tT_bts _) (fun q _ => by have := tT_len (ds.getD (x * n + q) de0); show (tT _).length ≤ _; omega) (Nat.le_refl _)
    have STEP : Hid (∀ (C B7 : World) (b6 : Nat) (v6 v7 : Value), Kept 0 0 A C → A.heap.size ≤ b6 ∧ b6 < C.heap.size → Row .u8 true b6 (b6 + 1) C v6 RX → B7.ownsRow hi 30 1 v7 (vs.length + 1) (vs ++ [v6]) → C.grownBy B7 u.ownBlock → (v7.ownBlock = u.ownBlock ∨ v7.ownBlock = some C.heap.size) →
      (B7.cell? ⟨r0, 0, none⟩ = some u ∧ B7.frozen? ⟨r0, 0, none⟩ = false) ∧ MtI w4 r0 (rowF ds n) hi (pre ++ [x]) (B7.setCell ⟨r0, 0, none⟩ v7) ∧ Mod (Out w4.heap.size hi) A (B7.setCell ⟨r0, 0, none⟩ v7)) := fun C B7 b6 v6 v7 kc hb6 rb6 o7 g7 e7 =>
      mt_step h2 (by have := unhide s4; omega) c1 f1 o1 hl hpl hr s1 k1 kc hb6 (by rw [hRX]; exact rb6) o7 g7 e7
    have hvl4 : vs.length ≤ 4 := by have := (unhide HN).2.1; omega
    have OW := hide o1
    have HRNE := hide hRne
    obtain ⟨i0, hi0, hz0, hz1, hz2⟩ := info_parts Try.infoBs
    have KD := hide ((Kept.refl 0 0 A).drew)
    have B1 : Hid (vs.length + 1 ≤ maxLen ∧ (vs.length + 1) * 24 ≤ 140737488355328) := ⟨by unfold maxLen; omega, by omega⟩
    clear hx hp hpl hxN txo hRX hRne hr k1 hl o1 hvl4 f1 cR fR cB0 cB1 p0' hseq
    gi_wp2_with fail
    refine wpIn_region_any (by kernel_rfl) ?_
    refine wpAnyIn_ready (rs := [0, 1]) (by kernel_rfl) (by simp) ?_
    refine AllReadyIn.cons rfl (fun KK hK => ?_) (AllReadyIn.cons rfl (fun KK hK => ?_) AllReadyIn.nil)
    · simp only [List.getElem_toArray, List.getElem_cons_succ, List.getElem_cons_zero]
      rw [if_pos (by rfl)]
      have cL0 := (unhide KD).cell0 c1
      go_simp
      refine hK _ _ ?_
      clear hK KK
      try simp only [Act.put, List.getElem_toArray, List.getElem_cons_succ, List.getElem_cons_zero, List.setIfInBounds_toArray, List.set_cons_zero, List.set_cons_succ]
      refine wpAnyIn_ready (rs := [1]) (by kernel_rfl) (by simp) ?_
      refine AllReadyIn.cons rfl (fun KK hK => ?_) AllReadyIn.nil
      · simp only [List.getElem_toArray, List.getElem_cons_succ, List.getElem_cons_zero]
        rw [if_pos (by rfl)]
        go_simp
        refine hK _ _ ?_
        clear hK KK
        try simp only [Act.put, List.getElem_toArray, List.getElem_cons_succ, List.getElem_cons_zero, List.setIfInBounds_toArray, List.set_cons_zero, List.set_cons_succ]
        refine wpAnyIn_ready (rs := [2]) (by kernel_rfl) (by simp) ?_
        refine AllReadyIn.cons rfl (fun KK hK => ?_) AllReadyIn.nil
        · simp only [List.getElem_toArray, List.getElem_cons_succ, List.getElem_cons_zero]
          rw [if_pos (by rfl)]
          refine wpi_call1 47 _ _ rfl in_joined (.slice (some ⟨gN, x * n, none⟩) n n) rfl (unhide MB _ (unhide KD)) ?_
          rintro e w6 ⟨v6, rfl, r6, k6⟩
          refine ⟨_, rfl, ?_⟩
          obtain ⟨a6, c6, hv6⟩ := Row.form' r6
          subst hv6
          obtain ⟨b6, hb6, rb6⟩ := row_block1 r6
          replace hb6 := hb6 (unhide HRNE)
          have K6 := hide ((unhide KD).trans k6)
          have zD := (unhide KD).size
          have RB6 := hide rb6
          have HB6 : Hid (A.heap.size ≤ b6 ∧ b6 < w6.heap.size) := ⟨by omega, hb6.2⟩
          clear r6 k6 rb6 hb6 zD
          refine hK _ _ ?_
          clear hK KK
          try simp only [Act.put, List.getElem_toArray, List.getElem_cons_succ, List.getElem_cons_zero, List.setIfInBounds_toArray, List.set_cons_zero, List.set_cons_succ]
          refine wpAnyIn_ready (rs := [3]) (by kernel_rfl) (by simp) ?_
          refine AllReadyIn.cons rfl (fun KK hK => ?_) AllReadyIn.nil
          · simp only [List.getElem_toArray, List.getElem_cons_succ, List.getElem_cons_zero]
            rw [if_pos (by rfl)]
            go_simp
            have k8 := (Kept.refl 0 0 w6).alloc (.cells #[.slice a6 RX.length c6] 30)
            have LC : Hid (∀ j u, [Value.slice a6 RX.length c6][j]? = some u → (w6.alloc (.cells #[.slice a6 RX.length c6] 30)).cell? ((⟨w6.heap.size, 0, none⟩ : Addr).add j) = some u) := lit_cell (new_cell_at _ _ _ _ rfl)
            have K8 := hide ((unhide K6).trans k8)
            have RB8 := hide ((unhide RB6).kept k8 (by omega))
            have HB8 : Hid (A.heap.size ≤ b6 ∧ b6 < (w6.alloc (.cells #[.slice a6 RX.length c6] 30)).heap.size) := ⟨(unhide HB6).1, by have := (unhide HB6).2; have := k8.size; omega⟩
            clear k8
            refine hK _ _ ?_
            clear hK KK
            try simp only [Act.put, List.getElem_toArray, List.getElem_cons_succ, List.getElem_cons_zero, List.setIfInBounds_toArray, List.set_cons_zero, List.set_cons_succ]
            refine wpAnyIn_ready (rs := [4]) (by kernel_rfl) (by simp) ?_
            refine AllReadyIn.cons rfl (fun KK hK => ?_) AllReadyIn.nil
            · simp only [List.getElem_toArray, List.getElem_cons_succ, List.getElem_cons_zero]
              rw [if_pos (by rfl)]
              refine wpi_append1 _ _ 89 rfl hi 30 i0 (.slice none 0 0) 1 24 Try.underlying89 hi0 hz0 hz1 hz2 rfl (by decide) u vs.length vs rfl (own_kept (unhide OW) (unhide K8)) ⟨w6.heap.size, 0, none⟩ 1 1 [.slice a6 RX.length c6] rfl rfl (unhide LC) (by intro y hy; simp at hy; subst hy; rfl) (unhide B1).1 (unhide B1).2 (Nat.le_trans s1 (unhide K8).size) ?_
              intro v7 w7 o7 g7 e7
              obtain ⟨gv, cv, hv7⟩ := ownsRow_succ o7
              subst hv7
              have FIN := hide (unhide STEP _ _ _ _ _ (unhide K8) (unhide HB8) (unhide RB8) o7 g7 e7)
              clear o7 g7 e7
              refine hK _ _ ?_
              clear hK KK
              try simp only [Act.put, List.getElem_toArray, List.getElem_cons_succ, List.getElem_cons_zero, List.setIfInBounds_toArray, List.set_cons_zero, List.set_cons_succ]
              refine wpAnyIn_ready (rs := [5]) (by kernel_rfl) (by simp) ?_
              refine AllReadyIn.cons rfl (fun KK hK => ?_) AllReadyIn.nil
              · simp only [List.getElem_toArray, List.getElem_cons_succ, List.getElem_cons_zero]
                rw [if_pos (by rfl)]
                have c9 := (unhide FIN).1.1
                have f9 := (unhide FIN).1.2
                go_simp
                refine hK _ _ ?_
                clear hK KK
                try simp only [Act.put, List.getElem_toArray, List.getElem_cons_succ, List.getElem_cons_zero, List.setIfInBounds_toArray, List.set_cons_zero, List.set_cons_succ]
                refine wpAnyIn_done (by kernel_rfl) ?_ _
                gi_wp2
                exact ⟨(unhide FIN).2.1, (unhide FIN).2.2⟩
    · simp only [List.getElem_toArray, List.getElem_cons_succ, List.getElem_cons_zero]
      rw [if_pos (by rfl)]
      go_simp
      refine hK _ _ ?_
      clear hK KK
      try simp only [Act.put, List.getElem_toArray, List.getElem_cons_succ, List.getElem_cons_zero, List.setIfInBounds_toArray, List.set_cons_zero, List.set_cons_succ]
      refine wpAnyIn_ready (rs := [0, 2]) (by kernel_rfl) (by simp) ?_
      refine AllReadyIn.cons rfl (fun KK hK => ?_) (AllReadyIn.cons rfl (fun KK hK => ?_) AllReadyIn.nil)
      · simp only [List.getElem_toArray, List.getElem_cons_succ, List.getElem_cons_zero]
        rw [if_pos (by rfl)]
        have cL1 := (unhide KD).cell0 c1
        go_simp
        refine hK _ _ ?_
        clear hK KK
        try simp only [Act.put, List.getElem_toArray, List.getElem_cons_succ, List.getElem_cons_zero, List.setIfInBounds_toArray, List.set_cons_zero, List.set_cons_succ]
        refine wpAnyIn_ready (rs := [2]) (by kernel_rfl) (by simp) ?_
        refine AllReadyIn.cons rfl (fun KK hK => ?_) AllReadyIn.nil
        · simp only [List.getElem_toArray, List.getElem_cons_succ, List.getElem_cons_zero]
          rw [if_pos (by rfl)]
          refine wpi_call1 47 _ _ rfl in_joined (.slice (some ⟨gN, x * n, none⟩) n n) rfl (unhide MB _ (unhide KD)) ?_
          rintro e w6 ⟨v6, rfl, r6, k6⟩
          refine ⟨_, rfl, ?_⟩
          obtain ⟨a6, c6, hv6⟩ := Row.form' r6
          subst hv6
          obtain ⟨b6, hb6, rb6⟩ := row_block1 r6
          replace hb6 := hb6 (unhide HRNE)
          have K6 := hide ((unhide KD).trans k6)
          have zD := (unhide KD).size
          have RB6 := hide rb6
          have HB6 : Hid (A.heap.size ≤ b6 ∧ b6 < w6.heap.size) := ⟨by omega, hb6.2⟩
          clear r6 k6 rb6 hb6 zD
          refine hK _ _ ?_
          clear hK KK
          try simp only [Act.put, List.getElem_toArray, List.getElem_cons_succ, List.getElem_cons_zero, List.setIfInBounds_toArray, List.set_cons_zero, List.set_cons_succ]
          refine wpAnyIn_ready (rs := [3]) (by kernel_rfl) (by simp) ?_
          refine AllReadyIn.cons rfl (fun KK hK => ?_) AllReadyIn.nil
          · simp only [List.getElem_toArray, List.getElem_cons_succ, List.getElem_cons_zero]
            rw [if_pos (by rfl)]
            go_simp
            have k8 := (Kept.refl 0 0 w6).alloc (.cells #[.slice a6 RX.length c6] 30)
            have LC : Hid (∀ j u, [Value.slice a6 RX.length c6][j]? = some u → (w6.alloc (.cells #[.slice a6 RX.length c6] 30)).cell? ((⟨w6.heap.size, 0, none⟩ : Addr).add j) = some u) := lit_cell (new_cell_at _ _ _ _ rfl)
            have K8 := hide ((unhide K6).trans k8)
            have RB8 := hide ((unhide RB6).kept k8 (by omega))
            have HB8 : Hid (A.heap.size ≤ b6 ∧ b6 < (w6.alloc (.cells #[.slice a6 RX.length c6] 30)).heap.size) := ⟨(unhide HB6).1, by have := (unhide HB6).2; have := k8.size; omega⟩
            clear k8
            refine hK _ _ ?_
            clear hK KK
            try simp only [Act.put, List.getElem_toArray, List.getElem_cons_succ, List.getElem_cons_zero, List.setIfInBounds_toArray, List.set_cons_zero, List.set_cons_succ]
            refine wpAnyIn_ready (rs := [4]) (by kernel_rfl) (by simp) ?_
            refine AllReadyIn.cons rfl (fun KK hK => ?_) AllReadyIn.nil
            · simp only [List.getElem_toArray, List.getElem_cons_succ, List.getElem_cons_zero]
              rw [if_pos (by rfl)]
              refine wpi_append1 _ _ 89 rfl hi 30 i0 (.slice none 0 0) 1 24 Try.underlying89 hi0 hz0 hz1 hz2 rfl (by decide) u vs.length vs rfl (own_kept (unhide OW) (unhide K8)) ⟨w6.heap.size, 0, none⟩ 1 1 [.slice a6 RX.length c6] rfl rfl (unhide LC) (by intro y hy; simp at hy; subst hy; rfl) (unhide B1).1 (unhide B1).2 (Nat.le_trans s1 (unhide K8).size) ?_
              intro v7 w7 o7 g7 e7
              obtain ⟨gv, cv, hv7⟩ := ownsRow_succ o7
              subst hv7
              have FIN := hide (unhide STEP _ _ _ _ _ (unhide K8) (unhide HB8) (unhide RB8) o7 g7 e7)
              clear o7 g7 e7
              refine hK _ _ ?_
              clear hK KK
              try simp only [Act.put, List.getElem_toArray, List.getElem_cons_succ, List.getElem_cons_zero, List.setIfInBounds_toArray, List.set_cons_zero, List.set_cons_succ]
              refine wpAnyIn_ready (rs := [5]) (by kernel_rfl) (by simp) ?_
              refine AllReadyIn.cons rfl (fun KK hK => ?_) AllReadyIn.nil
              · simp only [List.getElem_toArray, List.getElem_cons_succ, List.getElem_cons_zero]
                rw [if_pos (by rfl)]
                have c9 := (unhide FIN).1.1
                have f9 := (unhide FIN).1.2
                go_simp
                refine hK _ _ ?_
                clear hK KK
                try simp only [Act.put, List.getElem_toArray, List.getElem_cons_succ, List.getElem_cons_zero, List.setIfInBounds_toArray, List.set_cons_zero, List.set_cons_succ]
                refine wpAnyIn_done (by kernel_rfl) ?_ _
                gi_wp2
                exact ⟨(unhide FIN).2.1, (unhide FIN).2.2⟩
      · simp only [List.getElem_toArray, List.getElem_cons_succ, List.getElem_cons_zero]
        rw [if_pos (by rfl)]
        refine wpi_call1 47 _ _ rfl in_joined (.slice (some ⟨gN, x * n, none⟩) n n) rfl (unhide MB _ (unhide KD)) ?_
        rintro e w6 ⟨v6, rfl, r6, k6⟩
        refine ⟨_, rfl, ?_⟩
        obtain ⟨a6, c6, hv6⟩ := Row.form' r6
        subst hv6
        obtain ⟨b6, hb6, rb6⟩ := row_block1 r6
        replace hb6 := hb6 (unhide HRNE)
        have K6 := hide ((unhide KD).trans k6)
        have zD := (unhide KD).size
        have RB6 := hide rb6
        have HB6 : Hid (A.heap.size ≤ b6 ∧ b6 < w6.heap.size) := ⟨by omega, hb6.2⟩
        clear r6 k6 rb6 hb6 zD
        refine hK _ _ ?_
        clear hK KK
        try simp only [Act.put, List.getElem_toArray, List.getElem_cons_succ, List.getElem_cons_zero, List.setIfInBounds_toArray, List.set_cons_zero, List.set_cons_succ]
        refine wpAnyIn_ready (rs := [0, 3]) (by kernel_rfl) (by simp) ?_
        refine AllReadyIn.cons rfl (fun KK hK => ?_) (AllReadyIn.cons rfl (fun KK hK => ?_) AllReadyIn.nil)
        · simp only [List.getElem_toArray, List.getElem_cons_succ, List.getElem_cons_zero]
          rw [if_pos (by rfl)]
          have cL2 := (unhide K6).cell0 c1
          go_simp
          refine hK _ _ ?_
          clear hK KK
          try simp only [Act.put, List.getElem_toArray, List.getElem_cons_succ, List.getElem_cons_zero, List.setIfInBounds_toArray, List.set_cons_zero, List.set_cons_succ]
          refine wpAnyIn_ready (rs := [3]) (by kernel_rfl) (by simp) ?_
          refine AllReadyIn.cons rfl (fun KK hK => ?_) AllReadyIn.nil
          · simp only [List.getElem_toArray, List.getElem_cons_succ, List.getElem_cons_zero]
            rw [if_pos (by rfl)]
            go_simp
            have k8 := (Kept.refl 0 0 w6).alloc (.cells #[.slice a6 RX.length c6] 30)
            have LC : Hid (∀ j u, [Value.slice a6 RX.length c6][j]? = some u → (w6.alloc (.cells #[.slice a6 RX.length c6] 30)).cell? ((⟨w6.heap.size, 0, none⟩ : Addr).add j) = some u) := lit_cell (new_cell_at _ _ _ _ rfl)
            have K8 := hide ((unhide K6).trans k8)
            have RB8 := hide ((unhide RB6).kept k8 (by omega))
            have HB8 : Hid (A.heap.size ≤ b6 ∧ b6 < (w6.alloc (.cells #[.slice a6 RX.length c6] 30)).heap.size) := ⟨(unhide HB6).1, by have := (unhide HB6).2; have := k8.size; omega⟩
            clear k8
            refine hK _ _ ?_
            clear hK KK
            try simp only [Act.put, List.getElem_toArray, List.getElem_cons_succ, List.getElem_cons_zero, List.setIfInBounds_toArray, List.set_cons_zero, List.set_cons_succ]
            refine wpAnyIn_ready (rs := [4]) (by kernel_rfl) (by simp) ?_
            refine AllReadyIn.cons rfl (fun KK hK => ?_) AllReadyIn.nil
            · simp only [List.getElem_toArray, List.getElem_cons_succ, List.getElem_cons_zero]
              rw [if_pos (by rfl)]
              refine wpi_append1 _ _ 89 rfl hi 30 i0 (.slice none 0 0) 1 24 Try.underlying89 hi0 hz0 hz1 hz2 rfl (by decide) u vs.length vs rfl (own_kept (unhide OW) (unhide K8)) ⟨w6.heap.size, 0, none⟩ 1 1 [.slice a6 RX.length c6] rfl rfl (unhide LC) (by intro y hy; simp at hy; subst hy; rfl) (unhide B1).1 (unhide B1).2 (Nat.le_trans s1 (unhide K8).size) ?_
              intro v7 w7 o7 g7 e7
              obtain ⟨gv, cv, hv7⟩ := ownsRow_succ o7
              subst hv7
              have FIN := hide (unhide STEP _ _ _ _ _ (unhide K8) (unhide HB8) (unhide RB8) o7 g7 e7)
              clear o7 g7 e7
              refine hK _ _ ?_
              clear hK KK
              try simp only [Act.put, List.getElem_toArray, List.getElem_cons_succ, List.getElem_cons_zero, List.setIfInBounds_toArray, List.set_cons_zero, List.set_cons_succ]
              refine wpAnyIn_ready (rs := [5]) (by kernel_rfl) (by simp) ?_
              refine AllReadyIn.cons rfl (fun KK hK => ?_) AllReadyIn.nil
              · simp only [List.getElem_toArray, List.getElem_cons_succ, List.getElem_cons_zero]
                rw [if_pos (by rfl)]
                have c9 := (unhide FIN).1.1
                have f9 := (unhide FIN).1.2
                go_simp
                refine hK _ _ ?_
                clear hK KK
                try simp only [Act.put, List.getElem_toArray, List.getElem_cons_succ, List.getElem_cons_zero, List.setIfInBounds_toArray, List.set_cons_zero, List.set_cons_succ]
                refine wpAnyIn_done (by kernel_rfl) ?_ _
                gi_wp2
                exact ⟨(unhide FIN).2.1, (unhide FIN).2.2⟩
        · simp only [List.getElem_toArray, List.getElem_cons_succ, List.getElem_cons_zero]
          rw [if_pos (by rfl)]
          go_simp
          have k8 := (Kept.refl 0 0 w6).alloc (.cells #[.slice a6 RX.length c6] 30)
          have LC : Hid (∀ j u, [Value.slice a6 RX.length c6][j]? = some u → (w6.alloc (.cells #[.slice a6 RX.length c6] 30)).cell? ((⟨w6.heap.size, 0, none⟩ : Addr).add j) = some u) := lit_cell (new_cell_at _ _ _ _ rfl)
          have K8 := hide ((unhide K6).trans k8)
          have RB8 := hide ((unhide RB6).kept k8 (by omega))
          have HB8 : Hid (A.heap.size ≤ b6 ∧ b6 < (w6.alloc (.cells #[.slice a6 RX.length c6] 30)).heap.size) := ⟨(unhide HB6).1, by have := (unhide HB6).2; have := k8.size; omega⟩
          clear k8
          refine hK _ _ ?_
          clear hK KK
          try simp only [Act.put, List.getElem_toArray, List.getElem_cons_succ, List.getElem_cons_zero, List.setIfInBounds_toArray, List.set_cons_zero, List.set_cons_succ]
          refine wpAnyIn_ready (rs := [0]) (by kernel_rfl) (by simp) ?_
          refine AllReadyIn.cons rfl (fun KK hK => ?_) AllReadyIn.nil
          · simp only [List.getElem_toArray, List.getElem_cons_succ, List.getElem_cons_zero]
            rw [if_pos (by rfl)]
            have cL3 := (unhide K8).cell0 c1
            go_simp
            refine hK _ _ ?_
            clear hK KK
            try simp only [Act.put, List.getElem_toArray, List.getElem_cons_succ, List.getElem_cons_zero, List.setIfInBounds_toArray, List.set_cons_zero, List.set_cons_succ]
            refine wpAnyIn_ready (rs := [4]) (by kernel_rfl) (by simp) ?_
            refine AllReadyIn.cons rfl (fun KK hK => ?_) AllReadyIn.nil
            · simp only [List.getElem_toArray, List.getElem_cons_succ, List.getElem_cons_zero]
              rw [if_pos (by rfl)]
              refine wpi_append1 _ _ 89 rfl hi 30 i0 (.slice none 0 0) 1 24 Try.underlying89 hi0 hz0 hz1 hz2 rfl (by decide) u vs.length vs rfl (own_kept (unhide OW) (unhide K8)) ⟨w6.heap.size, 0, none⟩ 1 1 [.slice a6 RX.length c6] rfl rfl (unhide LC) (by intro y hy; simp at hy; subst hy; rfl) (unhide B1).1 (unhide B1).2 (Nat.le_trans s1 (unhide K8).size) ?_
              intro v7 w7 o7 g7 e7
              obtain ⟨gv, cv, hv7⟩ := ownsRow_succ o7
              subst hv7
              have FIN := hide (unhide STEP _ _ _ _ _ (unhide K8) (unhide HB8) (unhide RB8) o7 g7 e7)
              clear o7 g7 e7
              refine hK _ _ ?_
              clear hK KK
              try simp only [Act.put, List.getElem_toArray, List.getElem_cons_succ, List.getElem_cons_zero, List.setIfInBounds_toArray, List.set_cons_zero, List.set_cons_succ]
              refine wpAnyIn_ready (rs := [5]) (by kernel_rfl) (by simp) ?_
              refine AllReadyIn.cons rfl (fun KK hK => ?_) AllReadyIn.nil
              · simp only [List.getElem_toArray, List.getElem_cons_succ, List.getElem_cons_zero]
                rw [if_pos (by rfl)]
                have c9 := (unhide FIN).1.1
                have f9 := (unhide FIN).1.2
                go_simp
                refine hK _ _ ?_
                clear hK KK
                try simp only [Act.put, List.getElem_toArray, List.getElem_cons_succ, List.getElem_cons_zero, List.setIfInBounds_toArray, List.set_cons_zero, List.set_cons_succ]
                refine wpAnyIn_done (by kernel_rfl) ?_ _
                gi_wp2
                exact ⟨(unhide FIN).2.1, (unhide FIN).2.2⟩

end Go.Proofs.Ytfikfmkhmojpfaa
