/-
  Contracts that the proofs of this seat share: Mt0, Dys5, Tm1, Tm2.
-/
import Derived.Test.YthahoabkehcgbaaGreatDoorBS
import Derived.Test.YthahoabkehcgbaaGreatDoorDy7
import Derived.Test.YthahoabkehcgbaaGreatDoorBW
import Derived.Deep.DeepCutAuto
import Derived.Deep.RegionHeld3
import Derived.Test.YthahoabkehcgbaaGreatDoorDys4
import Derived.Maps.AppendAt
import Derived.Test.YthahoabkehcgbaaGreatDoorBQ
namespace Go.Proofs.YthahoabkehcgbaaGreatDoor
open Go.RowKit
set_option linter.unusedVariables false
set_option maxRecDepth 8000
set_option linter.unusedSimpArgs false

set_option maxHeartbeats 2000000 in
theorem own7_spec {bw : Bool} {lo hi : Nat} {v : Value} {zs : List Int} (s : Bool) (x : Int) (wn : WN s zs) (hl : zs.length ≤ 1000000) (w : World) (r : Row .i64 bw lo hi w v zs) :
    Calls Tryz.prog 88 #[.agg #[.bool s, v, .int .i64 x]] w fun e w' => ∃ v', e = .returned (.agg #[.bool s, v', .int .i64 x]) ∧ Row .i64 true w.heap.size w'.heap.size w' v' zs ∧ Kept 0 0 w w' := by
  have g1 : (s && decide (0 < zs.length)) = s := by
    cases s
    · rfl
    · rw [decide_eq_true (wn.2 rfl)]; rfl
  have g2 : limbs (val zs).toNat = zs := (nrm_limbs wn.1).symm
  have k0 : Kept 0 0 w ((w.alloc (.cells #[.bool s, v, .int .i64 x] 52)).alloc (.cells #[.bool false, .slice none 0 0, .int .i64 0] 52)) := (((Kept.refl 0 0 w).alloc (.cells #[.bool s, v, .int .i64 x] 52)).alloc (.cells #[.bool false, .slice none 0 0, .int .i64 0] 52))
  have p0 : ((w.alloc (.cells #[.bool s, v, .int .i64 x] 52)).alloc (.cells #[.bool false, .slice none 0 0, .int .i64 0] 52)).cell? ⟨w.heap.size, 0, none⟩ = some (.bool s) := old_cell _ (new_cell2 _ _ _ _ _ _ (by simp) rfl)
  have p1 : ((w.alloc (.cells #[.bool s, v, .int .i64 x] 52)).alloc (.cells #[.bool false, .slice none 0 0, .int .i64 0] 52)).cell? ⟨w.heap.size, 1, none⟩ = some (v) := old_cell _ (new_cell2 _ _ _ _ _ _ (by simp) rfl)
  have p2 : ((w.alloc (.cells #[.bool s, v, .int .i64 x] 52)).alloc (.cells #[.bool false, .slice none 0 0, .int .i64 0] 52)).cell? ⟨w.heap.size, 2, none⟩ = some (.int .i64 x) := old_cell _ (new_cell2 _ _ _ _ _ _ (by simp) rfl)
  have q0 : ((w.alloc (.cells #[.bool s, v, .int .i64 x] 52)).alloc (.cells #[.bool false, .slice none 0 0, .int .i64 0] 52)).cell? ⟨w.heap.size + 1, 0, none⟩ = some (.bool false) := new_cell2 _ _ _ _ _ _ (by simp) rfl
  have qf0 : ((w.alloc (.cells #[.bool s, v, .int .i64 x] 52)).alloc (.cells #[.bool false, .slice none 0 0, .int .i64 0] 52)).frozen? ⟨w.heap.size + 1, 0, none⟩ = false := new_loose2 _ _ _ _ _ (by simp)
  have q1 : ((w.alloc (.cells #[.bool s, v, .int .i64 x] 52)).alloc (.cells #[.bool false, .slice none 0 0, .int .i64 0] 52)).cell? ⟨w.heap.size + 1, 1, none⟩ = some (.slice none 0 0) := new_cell2 _ _ _ _ _ _ (by simp) rfl
  have qf1 : ((w.alloc (.cells #[.bool s, v, .int .i64 x] 52)).alloc (.cells #[.bool false, .slice none 0 0, .int .i64 0] 52)).frozen? ⟨w.heap.size + 1, 1, none⟩ = false := new_loose2 _ _ _ _ _ (by simp)
  have q2 : ((w.alloc (.cells #[.bool s, v, .int .i64 x] 52)).alloc (.cells #[.bool false, .slice none 0 0, .int .i64 0] 52)).cell? ⟨w.heap.size + 1, 2, none⟩ = some (.int .i64 0) := new_cell2 _ _ _ _ _ _ (by simp) rfl
  have qf2 : ((w.alloc (.cells #[.bool s, v, .int .i64 x] 52)).alloc (.cells #[.bool false, .slice none 0 0, .int .i64 0] 52)).frozen? ⟨w.heap.size + 1, 2, none⟩ = false := new_loose2 _ _ _ _ _ (by simp)
  replace r := r.kept k0 (by omega)
  have s0 : ((w.alloc (.cells #[.bool s, v, .int .i64 x] 52)).alloc (.cells #[.bool false, .slice none 0 0, .int .i64 0] 52)).heap.size = w.heap.size + 2 := by simp
  obtain ⟨a, c, hv⟩ := Row.form' r
  subst hv
  have K := hide (k0)
  clear k0
  have S0 := hide s0
  clear s0
  go_enter Tryz.func88, Tryz.ntmps88
  go_wp2_with fail
  generalize ((w.alloc (.cells #[.bool s, .slice a zs.length c, .int .i64 x] 52)).alloc (.cells #[.bool false, .slice none 0 0, .int .i64 0] 52)) = W at *
  have mk := fun w' r' => make_spec (bw := bw) (lo := lo) (hi := hi) (v := .slice a zs.length c) (zs := zs) s w' r' wn.1.1 hl
  rw [g1, g2] at mk
  clear g1 g2
  have kd := (Kept.refl 0 0 W).drew
  replace r := r.kept kd (.inr (.inr (Nat.le_refl 0)))
  replace qf0 := kd.loose0 (World.block_lt_of_cell? _ _ q0) qf0
  replace qf1 := kd.loose0 (World.block_lt_of_cell? _ _ q1) qf1
  replace qf2 := kd.loose0 (World.block_lt_of_cell? _ _ q2) qf2
  replace p0 := kd.cell0 p0
  replace p1 := kd.cell0 p1
  replace p2 := kd.cell0 p2
  replace q0 := kd.cell0 q0
  replace q1 := kd.cell0 q1
  replace q2 := kd.cell0 q2
  replace K := hide ((unhide K).trans kd)
  have z1 := kd.size
  clear kd
  refine wp_region_held_drew (S := (fun w' => w'.cell? ⟨w.heap.size, 0, none⟩ = some (.bool s) ∧ w'.cell? ⟨w.heap.size, 1, none⟩ = some (.slice a zs.length c) ∧ w'.cell? ⟨w.heap.size, 2, none⟩ = some (.int .i64 x))) (by kernel_rfl) ?_ (fun hHeld => ?_)
  · exact ⟨p0, p1, p2⟩
  refine wpAnyH_take (i := 0) (oi := _) (v := .pointer (some ⟨w.heap.size, 0, none⟩)) rfl (by kernel_rfl) (by kernel_rfl) (by kernel_rfl) (fun _ _ _ h => h) (Or.inl ⟨by rfl, ?_⟩) hHeld ?_
  · intro wq hSw
    try dsimp only at hSw
    go_simp
  try simp only [Act.put, List.getElem_toArray, List.getElem_cons_succ, List.getElem_cons_zero, List.setIfInBounds_toArray, List.set_cons_zero, List.set_cons_succ]
  refine wpAnyH_take (i := 1) (oi := _) (v := .pointer (some ⟨w.heap.size, 0, none⟩)) rfl (by kernel_rfl) (by kernel_rfl) (by kernel_rfl) (fun _ _ _ h => h) (Or.inl ⟨by rfl, ?_⟩) hHeld ?_
  · intro wq hSw
    try dsimp only at hSw
    go_simp
  try simp only [Act.put, List.getElem_toArray, List.getElem_cons_succ, List.getElem_cons_zero, List.setIfInBounds_toArray, List.set_cons_zero, List.set_cons_succ]
  refine wpAnyH_take (i := 2) (oi := _) (v := .bool s) rfl (by kernel_rfl) (by kernel_rfl) (by kernel_rfl) (fun _ _ _ h => h) (Or.inl ⟨by rfl, ?_⟩) hHeld ?_
  · intro wq hSw
    try dsimp only at hSw
    go_simp
  try simp only [Act.put, List.getElem_toArray, List.getElem_cons_succ, List.getElem_cons_zero, List.setIfInBounds_toArray, List.set_cons_zero, List.set_cons_succ]
  refine wpAnyH_take (i := 3) (oi := _) (v := .pointer (some ⟨w.heap.size, 0, none⟩)) rfl (by kernel_rfl) (by kernel_rfl) (by kernel_rfl) (fun _ _ _ h => h) (Or.inl ⟨by rfl, ?_⟩) hHeld ?_
  · intro wq hSw
    try dsimp only at hSw
    go_simp
  try simp only [Act.put, List.getElem_toArray, List.getElem_cons_succ, List.getElem_cons_zero, List.setIfInBounds_toArray, List.set_cons_zero, List.set_cons_succ]
  refine wpAnyH_take (i := 4) (oi := _) (v := .pointer (some ⟨w.heap.size, 1, none⟩)) rfl (by kernel_rfl) (by kernel_rfl) (by kernel_rfl) (fun _ _ _ h => h) (Or.inl ⟨by rfl, ?_⟩) hHeld ?_
  · intro wq hSw
    try dsimp only at hSw
    go_simp
  try simp only [Act.put, List.getElem_toArray, List.getElem_cons_succ, List.getElem_cons_zero, List.setIfInBounds_toArray, List.set_cons_zero, List.set_cons_succ]
  refine wpAnyH_take (i := 5) (oi := _) (v := .agg #[.slice a zs.length c]) rfl (by kernel_rfl) (by kernel_rfl) (by kernel_rfl) (fun _ _ _ h => h) (Or.inl ⟨by rfl, ?_⟩) hHeld ?_
  · intro wq hSw
    try dsimp only at hSw
    go_simp
  try simp only [Act.put, List.getElem_toArray, List.getElem_cons_succ, List.getElem_cons_zero, List.setIfInBounds_toArray, List.set_cons_zero, List.set_cons_succ]
  refine wpAnyH_take (i := 7) (oi := _) (v := .pointer (some ⟨w.heap.size, 2, none⟩)) rfl (by kernel_rfl) (by kernel_rfl) (by kernel_rfl) (fun _ _ _ h => h) (Or.inl ⟨by rfl, ?_⟩) hHeld ?_
  · intro wq hSw
    try dsimp only at hSw
    go_simp
  try simp only [Act.put, List.getElem_toArray, List.getElem_cons_succ, List.getElem_cons_zero, List.setIfInBounds_toArray, List.set_cons_zero, List.set_cons_succ]
  refine wpAnyH_take (i := 8) (oi := _) (v := .int .i64 x) rfl (by kernel_rfl) (by kernel_rfl) (by kernel_rfl) (fun _ _ _ h => h) (Or.inl ⟨by rfl, ?_⟩) hHeld ?_
  · intro wq hSw
    try dsimp only at hSw
    go_simp
  try simp only [Act.put, List.getElem_toArray, List.getElem_cons_succ, List.getElem_cons_zero, List.setIfInBounds_toArray, List.set_cons_zero, List.set_cons_succ]
  refine wpAnyH_ready (rs := [6]) (by kernel_rfl) (by simp) ?_
  refine AllReadyH.cons rfl (fun KK hK => ?_) AllReadyH.nil
  simp only [List.getElem_toArray, List.getElem_cons_succ, List.getElem_cons_zero]
  rw [if_pos (by rfl)]
  refine wps2 152 (.tmp 5) (.tmp 8) _ rfl in_l3make (.bool s) (.agg #[.slice a zs.length c]) rfl rfl (mk _ r) ?_
  rintro e w2 ⟨v6, rfl, r6, k2⟩
  refine ⟨_, rfl, ?_⟩
  replace r := r.kept k2 (.inr (.inr (Nat.le_refl 0)))
  replace qf0 := k2.loose0 (World.block_lt_of_cell? _ _ q0) qf0
  replace qf1 := k2.loose0 (World.block_lt_of_cell? _ _ q1) qf1
  replace qf2 := k2.loose0 (World.block_lt_of_cell? _ _ q2) qf2
  replace p0 := k2.cell0 p0
  replace p1 := k2.cell0 p1
  replace p2 := k2.cell0 p2
  replace q0 := k2.cell0 q0
  replace q1 := k2.cell0 q1
  replace q2 := k2.cell0 q2
  replace K := hide ((unhide K).trans k2)
  have z3 := k2.size
  clear k2
  clear hHeld
  refine hK.out _ _ ?_ (fun hHeld => ?_)
  · exact ⟨p0, p1, p2⟩
  clear hK KK
  try simp only [Act.put, List.getElem_toArray, List.getElem_cons_succ, List.getElem_cons_zero, List.setIfInBounds_toArray, List.set_cons_zero, List.set_cons_succ]
  obtain ⟨a6, c6, hv⟩ := Row.form' r6
  subst hv
  refine wpAnyH_take (i := 9) (oi := _) (v := .agg #[.bool s, .slice a6 zs.length c6, .int .i64 x]) rfl (by kernel_rfl) (by kernel_rfl) (by kernel_rfl) (fun _ _ _ h => h) (Or.inl ⟨by rfl, ?_⟩) hHeld ?_
  · intro wq hSw
    try dsimp only at hSw
    go_simp
  try simp only [Act.put, List.getElem_toArray, List.getElem_cons_succ, List.getElem_cons_zero, List.setIfInBounds_toArray, List.set_cons_zero, List.set_cons_succ]
  refine wpAnyH_ready (rs := [10]) (by kernel_rfl) (by simp) ?_
  refine AllReadyH.cons rfl (fun KK hK => ?_) AllReadyH.nil
  simp only [List.getElem_toArray, List.getElem_cons_succ, List.getElem_cons_zero]
  rw [if_pos (by rfl)]
  go_simp
  clear hHeld
  refine hK.out _ _ ?_ (fun hHeld => ?_)
  · exact ⟨(cell_aside _ (by have := unhide S0; dsimp only; omega) (cell_aside _ (by have := unhide S0; dsimp only; omega) (cell_aside _ (by have := unhide S0; dsimp only; omega) p0))), (cell_aside _ (by have := unhide S0; dsimp only; omega) (cell_aside _ (by have := unhide S0; dsimp only; omega) (cell_aside _ (by have := unhide S0; dsimp only; omega) p1))), (cell_aside _ (by have := unhide S0; dsimp only; omega) (cell_aside _ (by have := unhide S0; dsimp only; omega) (cell_aside _ (by have := unhide S0; dsimp only; omega) p2)))⟩
  clear hK KK
  try simp only [Act.put, List.getElem_toArray, List.getElem_cons_succ, List.getElem_cons_zero, List.setIfInBounds_toArray, List.set_cons_zero, List.set_cons_succ]
  refine wpAnyH_done (by kernel_rfl) ?_ _
  clear hHeld
  clear mk
  have R := hide ((((r6.set_other (p := ⟨w.heap.size + 1, 0, none⟩) (.inl (by have := unhide S0; dsimp only; omega)) (.bool s)).set_other (p := ⟨w.heap.size + 1, 1, none⟩) (.inl (by have := unhide S0; dsimp only; omega)) (.slice a6 zs.length c6)).set_other (p := ⟨w.heap.size + 1, 2, none⟩) (.inl (by have := unhide S0; dsimp only; omega)) (.int .i64 x)).tight.wider (lo' := w.heap.size) (by have := unhide S0; omega) (Nat.le_refl _))
  have K7 := hide ((((unhide K).setNew (p := ⟨w.heap.size + 1, 0, none⟩) (by simp) (.bool s)).setNew (p := ⟨w.heap.size + 1, 1, none⟩) (by simp) (.slice a6 zs.length c6)).setNew (p := ⟨w.heap.size + 1, 2, none⟩) (by simp) (.int .i64 x))
  clear r r6 K 
  go_wp2_with fail
  exact bodyPost_ret (v := .agg #[.bool s, .slice a6 zs.length c6, .int .i64 x]) (by simp [results, Tryz.results88, go_sem, q0, q1, q2]) rfl ⟨_, rfl, unhide R, unhide K7⟩

theorem in_l7own : ∀ (w : World) (args : Array Value), (callFunc 88 args).run Tryz.prog w = .ok (.enter 88 args) w := enters Tryz.func88 (by decide) (fun h => by cases h)

theorem d_back {s : Bool} {zs : List Int} {x : Int} (h : dokB s zs x = true) : wsg (wval s zs) = s ∧ dlm (wval s zs) = zs ∧ dex (wval s zs) x = x := by
  have h1 := (dok_parts h).1
  obtain ⟨f1, f2⟩ := d_form h (wval s zs) (wval_abs (wok_int h1).2.2.2.1)
  exact ⟨wn_sign (wok_wn h1), f1, f2⟩
theorem ans_back {s : Bool} {zs : List Int} {x : Int} (h : dokB s zs x = true) : ansDS true (wval s zs) x = s ∧ ansDL true (wval s zs) x = zs ∧ ansDE true (wval s zs) x = x ∧ ansDB true (wval s zs) x = true := by
  obtain ⟨h1, h2, h3⟩ := d_back h
  have hB : ansDB true (wval s zs) x = true := by unfold ansDB; rw [h1, h2, h3, h]; rfl
  refine ⟨?_, ?_, ?_, hB⟩
  · unfold ansDS; rw [hB, h1]; rfl
  · unfold ansDL; rw [if_pos hB, h2]
  · unfold ansDE; rw [if_pos hB, h3]

end Go.Proofs.YthahoabkehcgbaaGreatDoor

namespace Go.Proofs.YthahoabkehcgbaaGreatDoor
open Go.RowKit
set_option linter.unusedVariables false
set_option maxRecDepth 8000
set_option linter.unusedSimpArgs false

/-- An append to a list of the call's own as one step, told where the new list lies. -/
theorem wp_append_at {P : Program} {w : World} {o : Oper} {a : Act} {K : Act → World → Prop} {Q : Exit → Act → World → Prop} (s x : Operand) (t : TypeId)
    (ho : o.op = .call { callee := .builtin .append, args := #[s, x], argTypes := #[t, t] })
    (base : Nat) (e : TypeId) (i : TypeInfo) (z : Value) (size bytes : Nat) (ht : P.underlying t = some (.slice e)) (hi : P.info? e = some i) (hz : i.zero = some z)
    (hsize : i.size = size) (hby : i.bytes = bytes) (hzs : z.cells.size = size) (hsz : 0 < size)
    (v : Value) (n : Nat) (xs : List Value) (hs : a.eval s = v) (hown : w.ownsRow base e size v n xs)
    (ad : Addr) (m c : Nat) (news : List Value) (hx : a.eval x = .slice (some ad) m c) (hl : news.length = m * size) (hnews : ∀ j u, news[j]? = some u → w.cell? (ad.add j) = some u) (h1 : ∀ u ∈ news, u.oneCell' = true)
    (h63 : n + m ≤ maxLen) (hbytes : (n + m) * bytes ≤ 140737488355328) (hbase : base ≤ w.heap.size)
    (h : ∀ v' w', w'.ownsRow base e size v' (n + m) (xs ++ news) → w.grownBy w' v.ownBlock → (v'.ownBlock = v.ownBlock ∨ v'.ownBlock = some w.heap.size) → K (a.put o.dst v') w') : o.wp P a w K Q := by
  obtain ⟨v', w', hr, h2, h3, _, h5⟩ := run_append_own_at (P := P) w base t o.type e i z size bytes ht hi hz hsize hby hzs hsz v n xs hown ad m c news hl hnews h1 h63 hbytes hbase
  unfold Oper.wp execOp
  simp only [ho, resolve, invoke, builtin, Sem.run_bind, Sem.run_pure, Result.andThen_ok, List.map_toArray, List.map_cons, List.map_nil, hs, hx, hr]
  exact h v' w' h2 h3 h5

/-- The list v has got the numbers f 0 .. f (k - 1). -/
def AccD (lo : Nat) (w : World) (v : Value) (k : Nat) (f : Nat → DE) : Prop :=
  ∃ (us : Nat → Value) (b : Nat → Nat) (xs : List Value), w.ownsRow lo 52 3 v k xs ∧
    (∀ i, i < k → xs[i * 3]? = some (.bool (f i).1) ∧ xs[i * 3 + 1]? = some (us i) ∧ xs[i * 3 + 2]? = some (.int .i64 (f i).2.2)) ∧
    (∀ i, i < k → ((f i).2.1 ≠ [] → lo ≤ b i ∧ b i < w.heap.size ∧ v.ownBlock ≠ some (b i)) ∧ Row .i64 true (b i) (b i + 1) w (us i) (f i).2.1) ∧
    ∀ i j, i < j → j < k → (f i).2.1 ≠ [] → (f j).2.1 ≠ [] → b i < b j

theorem AccD.nil (lo : Nat) (w : World) (f : Nat → DE) : AccD lo w (.slice none 0 0) 0 f :=
  ⟨fun _ => undef, fun _ => 0, [], ⟨rfl, .inl ⟨rfl, rfl⟩⟩, fun i hi => by omega, fun i hi => by omega, fun i j h1 h2 => by omega⟩
theorem AccD.kept {lo : Nat} {w w' : World} {v : Value} {k : Nat} {f : Nat → DE} (h : AccD lo w v k f) (q : Kept 0 0 w w') : AccD lo w' v k f := by
  obtain ⟨us, b, xs, ho, hx, hr, hm⟩ := h
  have hs := q.size
  refine ⟨us, b, xs, ho.kept q.toGrown (by cases v.ownBlock <;> simp), hx, fun i hi => ?_, hm⟩
  obtain ⟨q1, q2⟩ := hr i hi
  exact ⟨fun e => by have := q1 e; exact ⟨this.1, by omega, this.2.2⟩, q2.kept q (by omega)⟩
theorem AccD.form {lo : Nat} {w : World} {v : Value} {k : Nat} {f : Nat → DE} (h : AccD lo w v k f) : ∃ a c, v = .slice a k c := by
  obtain ⟨us, b, xs, ho, -⟩ := h
  rcases ho.2 with ⟨rfl, rfl⟩ | ⟨g, cap, cur, hv, _⟩
  · exact ⟨none, 0, rfl⟩
  · exact ⟨_, cap, hv⟩
theorem AccD.snoc {lo : Nat} {w0 w w2 : World} {v v2 : Value} {k : Nat} {f : Nat → DE} {s : Bool} {u : Value} {y : Int} {z : List Int} {us : Nat → Value} {b : Nat → Nat} {xs : List Value}
    (hx : ∀ i, i < k → xs[i * 3]? = some (.bool (f i).1) ∧ xs[i * 3 + 1]? = some (us i) ∧ xs[i * 3 + 2]? = some (.int .i64 (f i).2.2)) (hl : xs.length = k * 3)
    (hr : ∀ i, i < k → ((f i).2.1 ≠ [] → lo ≤ b i ∧ b i < w0.heap.size ∧ v.ownBlock ≠ some (b i)) ∧ Row .i64 true (b i) (b i + 1) w (us i) (f i).2.1)
    (hm : ∀ i j, i < j → j < k → (f i).2.1 ≠ [] → (f j).2.1 ≠ [] → b i < b j) (hv0 : ∀ i, v.ownBlock = some i → i < w0.heap.size) (hlo : lo ≤ w0.heap.size) (hs : w0.heap.size ≤ w.heap.size)
    (hu : Row .i64 true w0.heap.size w.heap.size w u z) (ho : w2.ownsRow lo 52 3 v2 (k + 1) (xs ++ [.bool s, u, .int .i64 y])) (hg : w.grownBy w2 v.ownBlock) (hb : v2.ownBlock = v.ownBlock ∨ v2.ownBlock = some w.heap.size) :
    AccD lo w2 v2 (k + 1) (upE f k (s, z, y)) := by
  obtain ⟨q, hq1, hq⟩ := hu.block1
  have hsz := hg.size
  have kk : ∀ r, v.ownBlock ≠ some r → r < w.heap.size → w2.heap[r]? = w.heap[r]? := fun r h1 h2 => hg.block r h2 (fun e => h1 e.symm)
  have rowK : ∀ {r : Nat} {u' : Value} {z' : List Int}, Row .i64 true r (r + 1) w u' z' → (z' ≠ [] → v.ownBlock ≠ some r) → Row .i64 true r (r + 1) w2 u' z' := fun {r u' z'} h1 h2 => by
    by_cases e : z' = []
    · exact h1.none e
    · have hne := h2 e
      cases hv : v.ownBlock with
      | none => exact h1.kept (l := 0) (h := 0) ⟨hg.os, hg.tape, hg.output, hg.size, fun i hi _ => hg.block i hi (by rw [hv]; simp)⟩ (by omega)
      | some t =>
        rw [hv] at hne
        have hne' : t ≠ r := fun e => hne (by rw [e])
        exact h1.kept (l := t) (h := t + 1) ⟨hg.os, hg.tape, hg.output, hg.size, fun i hi ho => hg.block i hi (by rw [hv]; intro e; cases e; omega)⟩ (by omega)
  refine ⟨fun i => if i = k then u else us i, fun i => if i = k then q else b i, _, ho, fun i hi => ?_, fun i hi => ?_, fun i j h1 h2 e1 e2 => ?_⟩
  · dsimp only
    by_cases e : i = k
    · subst e
      rw [upE_same, if_pos rfl]
      refine ⟨?_, ?_, ?_⟩
      · rw [List.getElem?_append_right (by omega), show i * 3 - xs.length = 0 by omega]; rfl
      · rw [List.getElem?_append_right (by omega), show i * 3 + 1 - xs.length = 1 by omega]; rfl
      · rw [List.getElem?_append_right (by omega), show i * 3 + 2 - xs.length = 2 by omega]; rfl
    · rw [upE_other _ _ e, if_neg e]
      obtain ⟨a1, a2, a3⟩ := hx i (by omega)
      exact ⟨by rw [List.getElem?_append_left (by omega)]; exact a1, by rw [List.getElem?_append_left (by omega)]; exact a2, by rw [List.getElem?_append_left (by omega)]; exact a3⟩
  · dsimp only
    by_cases e : i = k
    · subst e
      rw [upE_same, if_pos rfl, if_pos rfl]
      refine ⟨fun e => ?_, rowK hq (fun e h => by have := hq1 e; have := hv0 _ h; omega)⟩
      have h3 := hq1 e
      refine ⟨by omega, by omega, ?_⟩
      rcases hb with h | h
      · rw [h]; intro e4; have := hv0 _ e4; omega
      · rw [h]; intro e4; have := Option.some.inj e4; omega
    · rw [upE_other _ _ e, if_neg e, if_neg e]
      obtain ⟨q1, q2⟩ := hr i (by omega)
      refine ⟨fun e => ?_, rowK q2 (fun e => (q1 e).2.2)⟩
      have h3 := q1 e
      refine ⟨h3.1, by omega, ?_⟩
      rcases hb with h | h
      · rw [h]; exact h3.2.2
      · rw [h]; intro e4; have := Option.some.inj e4; omega
  · dsimp only
    have hik : i ≠ k := by omega
    rw [if_neg hik]
    rw [upE_other _ _ hik] at e1
    by_cases e : j = k
    · subst e
      rw [if_pos rfl]
      rw [upE_same] at e2
      have := ((hr i (by omega)).1 e1).2.1
      have := hq1 e2
      omega
    · rw [if_neg e]
      rw [upE_other _ _ e] at e2
      exact hm i j h1 (by omega) e1 e2
theorem AccD.done {lo : Nat} {w : World} {v : Value} {ds : List DE} {f : Nat → DE} (h : AccD lo w v ds.length f) (hf : ∀ i, i < ds.length → f i = ds.getD i de0) : DysO lo w.heap.size w v ds := by
  obtain ⟨us, b, xs, ho, hx, hr, hm⟩ := h
  rcases ho.2 with ⟨rfl, h0⟩ | ⟨g, cap, cur, rfl, hb, hg, hle, hmm, hs, htake⟩
  · exact ⟨none, 0, by rw [h0], by omega, Nat.zero_le _, fun hne => absurd (List.length_eq_zero_iff.1 h0) hne⟩
  · have hcell : ∀ i u, xs[i]? = some u → w.cell? ⟨g, i, none⟩ = some u := fun i u hi => by
      have hlt : i < xs.length := (List.getElem?_eq_some_iff.1 hi).1
      rw [ho.1] at hlt
      rw [← htake, List.getElem?_take, if_pos hlt] at hi
      simpa [World.cell?, hg] using hi
    refine ⟨_, cap, rfl, hle, hmm, fun _ => ⟨g, 0, b, rfl, hb, (Array.getElem?_eq_some_iff.1 hg).1, (Array.getElem?_eq_some_iff.1 hg).1, fun i hi => ?_, fun k hk => by simp [World.frozen?, hg], fun i j h1 h2 e1 e2 => by
      have := hm i j h1 h2 (by rw [hf i (by omega)]; exact e1) (by rw [hf j h2]; exact e2); omega⟩⟩
    obtain ⟨a1, a2, a3⟩ := hx i hi
    obtain ⟨q1, q2⟩ := hr i hi
    rw [hf i hi] at a1 a3 q1 q2
    refine ⟨fun e => ?_, us i, by rw [Nat.zero_add]; exact hcell _ _ a1, by rw [Nat.zero_add]; exact hcell _ _ a2, by rw [Nat.zero_add]; exact hcell _ _ a3, q2⟩
    obtain ⟨p1, p2, p3⟩ := q1 e
    exact ⟨p1, p2, fun e => p3 (by rw [e]; rfl)⟩

theorem Kept.looseOut {lo hi : Nat} {W w' : World} (k : Kept lo hi W w') {a : Addr} (ho : a.block < lo ∨ hi ≤ a.block) (hb : a.block < W.heap.size) (h : W.frozen? a = false) : w'.frozen? a = false :=
  (World.frozen?_of_block (k.block _ hb ho)).trans h
theorem own3_kept {base : Nat} {e : TypeId} {w w' : World} {v : Value} {n : Nat} {xs : List Value} (h : w.ownsRow base e 3 v n xs) (q : Kept 0 0 w w') : w'.ownsRow base e 3 v n xs :=
  h.kept q.toGrown (by cases v.ownBlock <;> simp)
theorem AccD.stored {lo x p : Nat} {w : World} {u v : Value} {k : Nat} {f : Nat → DE} (h : AccD lo w v k f) (hx : x < lo) : AccD lo (w.setCell ⟨x, p, none⟩ u) v k f := by
  obtain ⟨us, b, xs, ho, hxx, hr, hm⟩ := h
  have kx : Kept x (x + 1) w (w.setCell ⟨x, p, none⟩ u) := (Kept.refl _ _ _).setCell (p := ⟨x, p, none⟩) (Nat.le_refl _) (Nat.lt_succ_self _) _
  refine ⟨us, b, xs, ⟨ho.1, ?_⟩, hxx, fun i hi => ?_, hm⟩
  · rcases ho.2 with hn | ⟨g, cap, cur, rfl, hb, hg, rest⟩
    · exact .inl hn
    · exact .inr ⟨g, cap, cur, rfl, hb, (kx.block g (Array.getElem?_eq_some_iff.1 hg).1 (by omega)).trans hg, rest⟩
  · obtain ⟨q1, q2⟩ := hr i hi
    refine ⟨fun e => by have := q1 e; rw [size_set]; exact this, ?_⟩
    by_cases e : (f i).2.1 = []
    · exact q2.none e
    · have := (q1 e).1
      exact q2.kept kx (by omega)

/-- Each number is in its one form, of whatever length. -/
def AllWN (ds : List DE) : Prop := ∀ i, i < ds.length → WN (ds.getD i de0).1 (ds.getD i de0).2.1 ∧ (ds.getD i de0).2.1.length ≤ 1000000

set_option maxHeartbeats 16000000 in
theorem own8_spec {lo hi : Nat} {v : Value} {ds : List DE} (m : Int) (w : World) (hn : ds.length ≤ 100) (hwn : AllWN ds) (r : Dys lo hi w v ds) :
    Calls Tryz.prog 133 #[.agg #[.int .i64 m, v]] w fun e w' => ∃ v', e = .returned (.agg #[.int .i64 m, v']) ∧ DysO w.heap.size w'.heap.size w' v' ds ∧ Kept 0 0 w w' := by
  obtain ⟨W, hW⟩ : ∃ W, W = ((w.alloc (.cells #[.int .i64 m, v] 59)).alloc (.cells #[.int .i64 0, .slice none 0 0] 59)).alloc (.cells #[.int .i64 m, .slice none 0 0] 59) := ⟨_, rfl⟩
  have k0 : Kept 0 0 w W := by rw [hW]; exact (((Kept.refl 0 0 w).alloc _).alloc _).alloc _
  have r0 := r.kept k0 (by omega)
  have A1 : W.cell? ⟨w.heap.size, 1, none⟩ = some v := by rw [hW]; exact old_cell _ (old_cell _ (new_cell2 _ _ _ _ _ _ (by simp) rfl))
  have R0 : W.cell? ⟨w.heap.size + 1, 0, none⟩ = some (.int .i64 0) := by rw [hW]; exact old_cell _ (new_cell2 _ _ _ _ _ _ (by simp) rfl)
  have R1 : W.cell? ⟨w.heap.size + 1, 1, none⟩ = some (.slice none 0 0) := by rw [hW]; exact old_cell _ (new_cell2 _ _ _ _ _ _ (by simp) rfl)
  have Rf0 : W.frozen? ⟨w.heap.size + 1, 0, none⟩ = false := by rw [hW]; exact ((Kept.refl 0 0 _).alloc _).loose0 (by simp) (new_loose2 _ _ _ _ _ (by simp))
  have Rf1 : W.frozen? ⟨w.heap.size + 1, 1, none⟩ = false := by rw [hW]; exact ((Kept.refl 0 0 _).alloc _).loose0 (by simp) (new_loose2 _ _ _ _ _ (by simp))
  have O0 : W.cell? ⟨w.heap.size + 1 + 1, 0, none⟩ = some (.int .i64 m) := by rw [hW]; exact new_cell2 _ _ _ _ _ _ (by simp) rfl
  have O1 : W.cell? ⟨w.heap.size + 1 + 1, 1, none⟩ = some (.slice none 0 0) := by rw [hW]; exact new_cell2 _ _ _ _ _ _ (by simp) rfl
  have Of1 : W.frozen? ⟨w.heap.size + 1 + 1, 1, none⟩ = false := by rw [hW]; exact new_loose2 _ _ _ _ _ (by simp)
  have s0 : W.heap.size = w.heap.size + 3 := by rw [hW]; simp
  obtain ⟨a, c, rfl, -, -⟩ := r.form
  obtain ⟨n, hnn⟩ : ∃ n, n = ds.length := ⟨_, rfl⟩
  rw [← hnn] at r0 A1 hn
  have hW2 : W = ((w.alloc (.cells #[.int .i64 m, .slice a n c] 59)).alloc (.cells #[.int .i64 0, .slice none 0 0] 59)).alloc (.cells #[.int .i64 m, .slice none 0 0] 59) := by rw [hW, ← hnn]
  have HN := hide hnn
  have R := hide (show Dys lo hi w (.slice a n c) ds by rw [hnn]; exact r)
  have HWN := hide hwn
  have S0 := hide s0
  have K0 := hide k0
  have A0' : AccD W.heap.size W (.slice none 0 0) 0 (fun i => ds.getD i de0) := AccD.nil _ _ _
  have AC := hide A0'
  rw [← hnn]
  clear r r0 hnn hwn s0 k0 A0' hW
  obtain ⟨i0, hi0, hz0, hz1, hz2⟩ := info_parts Tryz.infoDy
  go_enter Tryz.func133, Tryz.ntmps133
  go_wp2_with fail
  rw [← hW2]
  clear hW2
  go_loopw [4] (fun s4 wr => ∃ (j : Nat) (vO : Value), s4 = .int .i64 j ∧ j ≤ n ∧ Hid (AccD W.heap.size wr vO j (fun i => ds.getD i de0)) ∧ wr.cell? ⟨w.heap.size + 1 + 1, 0, none⟩ = some (.int .i64 m) ∧ wr.cell? ⟨w.heap.size + 1 + 1, 1, none⟩ = some vO ∧ wr.frozen? ⟨w.heap.size + 1 + 1, 1, none⟩ = false ∧ Hid (Kept 0 0 w wr) ∧ Hid (Kept (w.heap.size + 2) (w.heap.size + 3) W wr)) (fun s4 _ => n - (intOf s4).toNat)
  case atStart => exact ⟨0, _, rfl, Nat.zero_le _, AC, O0, O1, Of1, K0, Kept.refl _ _ _⟩
  case round =>
    clear AC O0 O1 Of1
    obtain ⟨j, vO, rfl, hj, hA, o0, o1, of1, k, kW⟩ := hrel
    have hwj : IntKind.i64.wrap ((j : Int) + 1) = ((j + 1 : Nat) : Int) := by rw [IntKind.wrap_i64]; omega
    have a1 := (unhide kW).cellOut (a := ⟨w.heap.size, 1, none⟩) (by dsimp only; omega) A1
    obtain ⟨aO, cO, hvO⟩ := (unhide hA).form
    subst hvO
    by_cases hlt : j < n
    · have hjl : j < ds.length := by rw [← unhide HN]; exact hlt
      have hs0 := unhide S0
      obtain ⟨g, off, ln, rfl, -, -, hgw, b, kk, c0, c1, c2, hln, rr⟩ := (unhide R).at (i := j) hjl
      have kd := (unhide k).drew
      replace c0 := kd.cell0 c0
      replace c1 := kd.cell0 c1
      replace c2 := kd.cell0 c2
      replace rr := rr.kept kd (by omega)
      obtain ⟨wn0, wl0⟩ := unhide HWN j hjl
      obtain ⟨s0, hs0'⟩ : ∃ q, q = (ds.getD j de0).1 := ⟨_, rfl⟩
      obtain ⟨y0, hy0⟩ : ∃ q, q = (ds.getD j de0).2.2 := ⟨_, rfl⟩
      obtain ⟨z0, hz0'⟩ : ∃ q, q = (ds.getD j de0).2.1 := ⟨_, rfl⟩
      rw [← hs0'] at c0 wn0
      rw [← hy0] at c2
      rw [← hz0'] at hln rr wn0 wl0
      have hE : Hid (ds.getD j de0 = (s0, z0, y0)) := by show _ = _; rw [hs0', hy0, hz0']
      have a1d : wr.drew.cell? ⟨w.heap.size, 1, none⟩ = some (.slice (some ⟨g, off, none⟩) n c) := a1
      have o1d : wr.drew.cell? ⟨w.heap.size + 1 + 1, 1, none⟩ = some (.slice aO j cO) := o1
      have o0d : wr.drew.cell? ⟨w.heap.size + 1 + 1, 0, none⟩ = some (.int .i64 m) := o0
      have of1d : wr.drew.frozen? ⟨w.heap.size + 1 + 1, 1, none⟩ = false := of1
      obtain ⟨us, bb, xs, ho0, hx0, hr0, hm0⟩ := (unhide hA).kept ((Kept.refl 0 0 wr).drew)
      have HLO : W.heap.size ≤ wr.drew.heap.size := (unhide kW).size
      have hown := fun w' r' => own7_spec s0 y0 wn0 wl0 w' (bw := false) (lo := lo) (hi := hi) (v := .slice b ln kk) r'
      have KWd := hide ((unhide kW).drew)
      have KD := hide kd
      have HGW := hide hgw
      have HS0 := hide hs0
      have HJL := hide hjl
      clear hs0' hy0 hz0' hln hA k kW kd wn0 wl0 hgw hs0 hjl
      go_wp2_with fail
      refine wp_region_held_drew (S := (fun w' => w'.cell? ⟨w.heap.size, 1, none⟩ = some (.slice (some ⟨g, off, none⟩) n c) ∧ w'.cell? ⟨g, off + j * 3, none⟩ = some (.bool s0) ∧ w'.cell? ⟨g, off + j * 3 + 1, none⟩ = some (.slice b ln kk) ∧ w'.cell? ⟨g, off + j * 3 + 2, none⟩ = some (.int .i64 y0))) (by kernel_rfl) ?_ (fun hHeld => ?_)
      · exact ⟨a1d, c0, c1, c2⟩
      refine wpAnyH_take (i := 0) (oi := _) (v := .pointer (some ⟨w.heap.size + 1 + 1, 1, none⟩)) rfl (by kernel_rfl) (by kernel_rfl) (by kernel_rfl) (fun _ _ _ h => h) (Or.inl ⟨by rfl, ?_⟩) hHeld ?_
      · intro wq hSw
        try dsimp only at hSw
        go_simp
      try simp only [Act.put, List.getElem_toArray, List.getElem_cons_succ, List.getElem_cons_zero, List.setIfInBounds_toArray, List.set_cons_zero, List.set_cons_succ]
      refine wpAnyH_take (i := 2) (oi := _) (v := .pointer (some ⟨w.heap.size, 1, none⟩)) rfl (by kernel_rfl) (by kernel_rfl) (by kernel_rfl) (fun _ _ _ h => h) (Or.inl ⟨by rfl, ?_⟩) hHeld ?_
      · intro wq hSw
        try dsimp only at hSw
        go_simp
      try simp only [Act.put, List.getElem_toArray, List.getElem_cons_succ, List.getElem_cons_zero, List.setIfInBounds_toArray, List.set_cons_zero, List.set_cons_succ]
      refine wpAnyH_take (i := 3) (oi := _) (v := .slice (some ⟨g, off, none⟩) n c) rfl (by kernel_rfl) (by kernel_rfl) (by kernel_rfl) (fun _ _ _ h => h) (Or.inl ⟨by rfl, ?_⟩) hHeld ?_
      · intro wq hSw
        try dsimp only at hSw
        go_simp
      try simp only [Act.put, List.getElem_toArray, List.getElem_cons_succ, List.getElem_cons_zero, List.setIfInBounds_toArray, List.set_cons_zero, List.set_cons_succ]
      refine wpAnyH_take (i := 4) (oi := _) (v := .int .i64 (j : Int)) rfl (by kernel_rfl) (by kernel_rfl) (by kernel_rfl) (fun _ _ _ h => h) (Or.inl ⟨by rfl, ?_⟩) hHeld ?_
      · intro wq hSw
        try dsimp only at hSw
        go_simp
      try simp only [Act.put, List.getElem_toArray, List.getElem_cons_succ, List.getElem_cons_zero, List.setIfInBounds_toArray, List.set_cons_zero, List.set_cons_succ]
      refine wpAnyH_take (i := 5) (oi := _) (v := .pointer (some ⟨g, off + j * 3, none⟩)) rfl (by kernel_rfl) (by kernel_rfl) (by kernel_rfl) (fun _ _ _ h => h) (Or.inl ⟨by rfl, ?_⟩) hHeld ?_
      · intro wq hSw
        try dsimp only at hSw
        go_simp
      try simp only [Act.put, List.getElem_toArray, List.getElem_cons_succ, List.getElem_cons_zero, List.setIfInBounds_toArray, List.set_cons_zero, List.set_cons_succ]
      refine wpAnyH_take (i := 6) (oi := _) (v := .agg #[.bool s0, .slice b ln kk, .int .i64 y0]) rfl (by kernel_rfl) (by kernel_rfl) (by kernel_rfl) (fun _ _ _ h => h) (Or.inl ⟨by rfl, ?_⟩) hHeld ?_
      · intro wq hSw
        try dsimp only at hSw
        go_simp
      try simp only [Act.put, List.getElem_toArray, List.getElem_cons_succ, List.getElem_cons_zero, List.setIfInBounds_toArray, List.set_cons_zero, List.set_cons_succ]
      refine wpAnyH_ready (rs := [1, 7]) (by kernel_rfl) (by simp) ?_
      refine AllReadyH.cons rfl (fun KK hK => ?_) (AllReadyH.cons rfl (fun KK hK => ?_) AllReadyH.nil)
      · simp only [List.getElem_toArray, List.getElem_cons_succ, List.getElem_cons_zero]
        rw [if_pos (by rfl)]
        go_simp
        clear hHeld
        refine hK.out _ _ ?_ (fun hHeld => ?_)
        · exact ⟨a1d, c0, c1, c2⟩
        clear hK KK
        try simp only [Act.put, List.getElem_toArray, List.getElem_cons_succ, List.getElem_cons_zero, List.setIfInBounds_toArray, List.set_cons_zero, List.set_cons_succ]
        refine wpAnyH_ready (rs := [7]) (by kernel_rfl) (by simp) ?_
        refine AllReadyH.cons rfl (fun KK hK => ?_) AllReadyH.nil
        simp only [List.getElem_toArray, List.getElem_cons_succ, List.getElem_cons_zero]
        rw [if_pos (by rfl)]
        refine wps1 88 (.tmp 21) _ rfl in_l7own (.agg #[.bool s0, .slice b ln kk, .int .i64 y0]) rfl (hown _ rr) ?_
        rintro e w3 ⟨v3, rfl, r3, k3⟩
        refine ⟨_, rfl, ?_⟩
        obtain ⟨a3, d3, hv3⟩ := Row.form' r3
        subst hv3
        replace of1d := k3.loose0 (World.block_lt_of_cell? _ _ o1d) of1d
        replace a1d := k3.cell0 a1d
        replace c0 := k3.cell0 c0
        replace c1 := k3.cell0 c1
        replace c2 := k3.cell0 c2
        replace o1d := k3.cell0 o1d
        replace o0d := k3.cell0 o0d
        have ho3 := own3_kept ho0 k3
        have hr3 := fun i (hi : i < j) => (hr0 i hi).2.kept k3 (.inr (.inr (Nat.le_refl 0)))
        have KDe := hide ((unhide KD).trans k3)
        have KWe := hide ((unhide KWd).trans k3.any)
        have z3 := k3.size
        clear hHeld
        refine hK.out _ _ ?_ (fun hHeld => ?_)
        · exact ⟨a1d, c0, c1, c2⟩
        clear hK KK
        try simp only [Act.put, List.getElem_toArray, List.getElem_cons_succ, List.getElem_cons_zero, List.setIfInBounds_toArray, List.set_cons_zero, List.set_cons_succ]
        refine wpAnyH_ready (rs := [8]) (by kernel_rfl) (by simp) ?_
        refine AllReadyH.cons rfl (fun KK hK => ?_) AllReadyH.nil
        simp only [List.getElem_toArray, List.getElem_cons_succ, List.getElem_cons_zero]
        rw [if_pos (by rfl)]
        go_simp
        have k4 := (Kept.refl 0 0 w3).alloc (.cells #[.bool s0, .slice a3 z0.length d3, .int .i64 y0] 52)
        replace of1d := k4.loose0 (World.block_lt_of_cell? _ _ o1d) of1d
        replace a1d := k4.cell0 a1d
        replace c0 := k4.cell0 c0
        replace c1 := k4.cell0 c1
        replace c2 := k4.cell0 c2
        replace o1d := k4.cell0 o1d
        replace o0d := k4.cell0 o0d
        have n0 : (w3.alloc (.cells #[.bool s0, .slice a3 z0.length d3, .int .i64 y0] 52)).cell? ⟨w3.heap.size, 0, none⟩ = some (.bool s0) := new_cell2 _ _ _ _ _ _ rfl rfl
        have n1 : (w3.alloc (.cells #[.bool s0, .slice a3 z0.length d3, .int .i64 y0] 52)).cell? ⟨w3.heap.size, 1, none⟩ = some (.slice a3 z0.length d3) := new_cell2 _ _ _ _ _ _ rfl rfl
        have n2 : (w3.alloc (.cells #[.bool s0, .slice a3 z0.length d3, .int .i64 y0] 52)).cell? ⟨w3.heap.size, 2, none⟩ = some (.int .i64 y0) := new_cell2 _ _ _ _ _ _ rfl rfl
        have ho4 := own3_kept ho3 k4
        have hr4 := fun i (hi : i < j) => (hr3 i hi).kept k4 (.inr (.inr (Nat.le_refl 0)))
        have r4 := r3.kept k4 (by omega)
        have KDf := hide ((unhide KDe).trans k4)
        have KWf := hide ((unhide KWe).trans k4.any)
        have s4 : Hid ((w3.alloc (.cells #[.bool s0, .slice a3 z0.length d3, .int .i64 y0] 52)).heap.size = w3.heap.size + 1) := by show _ = _; simp
        clear k4
        clear hHeld
        refine hK.out _ _ ?_ (fun hHeld => ?_)
        · exact ⟨a1d, c0, c1, c2⟩
        clear hK KK
        try simp only [Act.put, List.getElem_toArray, List.getElem_cons_succ, List.getElem_cons_zero, List.setIfInBounds_toArray, List.set_cons_zero, List.set_cons_succ]
        generalize (w3.alloc (.cells #[.bool s0, .slice a3 z0.length d3, .int .i64 y0] 52)) = w4 at *
        have hlx := ho4.1
        have hvb : ∀ i, (Value.slice aO j cO).ownBlock = some i → W.heap.size ≤ i := fun i hi => (ho4.lt i hi).1
        refine wpAnyH_ready (rs := [9]) (by kernel_rfl) (by simp) ?_
        refine AllReadyH.cons rfl (fun KK hK => ?_) AllReadyH.nil
        simp only [List.getElem_toArray, List.getElem_cons_succ, List.getElem_cons_zero]
        rw [if_pos (by rfl)]
        refine wp_append_at (.tmp 16) (.tmp 23) 57 rfl W.heap.size 52 i0 (.agg #[.bool false, .slice none 0 0, .int .i64 0]) 3 40 Tryz.underlying57 hi0 hz0 hz1 hz2 rfl (by decide) (.slice aO j cO) j xs rfl ho4 ⟨w3.heap.size, 0, none⟩ 1 1 [.bool s0, .slice a3 z0.length d3, .int .i64 y0] rfl rfl ?_ ?_ ?_ ?_ ?_ ?_
        · intro q u hq
          match q, hq with
          | 0, hq => simp at hq; subst hq; simpa [Addr.add] using n0
          | 1, hq => simp at hq; subst hq; simpa [Addr.add] using n1
          | 2, hq => simp at hq; subst hq; simpa [Addr.add] using n2
        · intro u hu; simp at hu; rcases hu with rfl | rfl | rfl <;> rfl
        · unfold maxLen; omega
        · omega
        · have := (unhide KWf).size; omega
        intro v5 w5 o5 g5 b5
        have hs4 := unhide s4
        have hS := unhide HS0
        have hgW := unhide HGW
        have hk3 := (unhide KDe).size
        have hkW := (unhide KWe).size
        have ACg := AccD.snoc (w0 := wr.drew) (f := fun i => ds.getD i de0) (z := z0) hx0 hlx (fun i hi => ⟨(hr0 i hi).1, hr4 i hi⟩) hm0 (fun i hi => (ho0.lt i hi).2) HLO (by omega) (r4.wider (Nat.le_refl _) (by omega)) o5 g5 b5
        have hup : upE (fun i => ds.getD i de0) j (s0, z0, y0) = fun i => ds.getD i de0 := by
          funext i
          by_cases e : i = j
          · subst e; rw [upE_same]; exact (unhide hE).symm
          · rw [upE_other _ _ e]
        rw [hup] at ACg
        obtain ⟨a5, c5, hv5⟩ := ACg.form
        subst hv5
        have gk : ∀ {x f : Nat} {u : Value}, x < W.heap.size → w4.cell? ⟨x, f, none⟩ = some u → w5.cell? ⟨x, f, none⟩ = some u := fun {x f u} hx hc => (World.cell?_of_block (w := w4) (a := ⟨x, f, none⟩) (g5.block x (World.block_lt_of_cell? _ ⟨x, f, none⟩ hc) (fun e => by have := hvb x e.symm; omega))).trans hc
        have gf : ∀ {x f : Nat}, x < W.heap.size → x < w4.heap.size → w4.frozen? ⟨x, f, none⟩ = false → w5.frozen? ⟨x, f, none⟩ = false := fun {x f} hx hl hc => (World.frozen?_of_block (w := w4) (a := ⟨x, f, none⟩) (g5.block x hl (fun e => by have := hvb x e.symm; omega))).trans hc
        replace a1d := gk (by omega) a1d
        replace c0 := gk (by omega) c0
        replace c1 := gk (by omega) c1
        replace c2 := gk (by omega) c2
        replace o1d := gk (by omega) o1d
        replace o0d := gk (by omega) o0d
        replace of1d := gf (by omega) (by omega) of1d
        have KW5 : Kept (w.heap.size + 2) (w.heap.size + 3) W w5 := ⟨g5.os.trans (unhide KWf).os, g5.tape.trans (unhide KWf).tape, g5.output.trans (unhide KWf).output, Nat.le_trans (unhide KWf).size g5.size, fun i hi ho => (g5.block i (Nat.lt_of_lt_of_le hi (unhide KWf).size) (fun e => by have := hvb i e.symm; omega)).trans ((unhide KWf).block i hi ho)⟩
        have KD5 : Kept 0 0 w w5 := ⟨g5.os.trans (unhide KDf).os, g5.tape.trans (unhide KDf).tape, g5.output.trans (unhide KDf).output, Nat.le_trans (unhide KDf).size g5.size, fun i hi ho => (g5.block i (Nat.lt_of_lt_of_le hi (unhide KDf).size) (fun e => by have := hvb i e.symm; omega)).trans ((unhide KDf).block i hi ho)⟩
        clear hHeld
        refine hK.out _ _ ?_ (fun hHeld => ?_)
        · exact ⟨a1d, c0, c1, c2⟩
        clear hK KK
        try simp only [Act.put, List.getElem_toArray, List.getElem_cons_succ, List.getElem_cons_zero, List.setIfInBounds_toArray, List.set_cons_zero, List.set_cons_succ]
        refine wpAnyH_take (i := 10) (oi := _) (v := .pointer (some ⟨w.heap.size + 1 + 1, 1, none⟩)) rfl (by kernel_rfl) (by kernel_rfl) (by kernel_rfl) (fun _ _ _ h => h) (Or.inl ⟨by rfl, ?_⟩) hHeld ?_
        · intro wq hSw
          try dsimp only at hSw
          go_simp
        try simp only [Act.put, List.getElem_toArray, List.getElem_cons_succ, List.getElem_cons_zero, List.setIfInBounds_toArray, List.set_cons_zero, List.set_cons_succ]
        refine wpAnyH_ready (rs := [11]) (by kernel_rfl) (by simp) ?_
        refine AllReadyH.cons rfl (fun KK hK => ?_) AllReadyH.nil
        simp only [List.getElem_toArray, List.getElem_cons_succ, List.getElem_cons_zero]
        rw [if_pos (by rfl)]
        go_simp
        have ks : Kept (w.heap.size + 2) (w.heap.size + 3) w5 (w5.setCell ⟨w.heap.size + 1 + 1, 1, none⟩ (.slice a5 (j + 1) c5)) := (Kept.refl _ _ _).setCell (p := ⟨w.heap.size + 1 + 1, 1, none⟩) (Nat.le_refl _) (Nat.lt_succ_self _) _
        replace a1d := ks.cellOut (by dsimp only; omega) a1d
        replace c0 := ks.cellOut (by dsimp only; omega) c0
        replace c1 := ks.cellOut (by dsimp only; omega) c1
        replace c2 := ks.cellOut (by dsimp only; omega) c2
        have e0 := cell_off _ _ _ 1 (.slice a5 (j + 1) c5) _ o0d (by omega)
        have e1 := cell_on _ _ _ (.slice a5 (j + 1) c5) _ o1d
        have e2 : (w5.setCell ⟨w.heap.size + 1 + 1, 1, none⟩ (.slice a5 (j + 1) c5)).frozen? ⟨w.heap.size + 1 + 1, 1, none⟩ = false := by rw [frozen_set]; exact of1d
        have ACh := hide (ACg.stored (x := w.heap.size + 1 + 1) (p := 1) (u := .slice a5 (j + 1) c5) (by omega))
        have KWh := hide (KW5.trans ks)
        have KDh := hide (KD5.wide ks (by omega))
        clear hHeld
        refine hK.out _ _ ?_ (fun hHeld => ?_)
        · exact ⟨a1d, c0, c1, c2⟩
        clear hK KK
        try simp only [Act.put, List.getElem_toArray, List.getElem_cons_succ, List.getElem_cons_zero, List.setIfInBounds_toArray, List.set_cons_zero, List.set_cons_succ]
        refine wpAnyH_done (by kernel_rfl) ?_ _
        clear hHeld a1d c0 c1 c2 o1d o0d of1d n0 n1 n2 hown rr r3 r4 ACg ks KW5 KD5 gk gf o5 g5 b5 hvb ho4 hr4 ho3 hr3 a1
        go_wp2
        go_roundw
        case rel => exact ⟨j + 1, .slice a5 (j + 1) c5, by simp, hlt, ACh, e0, e1, e2, KDh, KWh⟩
        case measure => simp [intOf]; omega
      · simp only [List.getElem_toArray, List.getElem_cons_succ, List.getElem_cons_zero]
        rw [if_pos (by rfl)]
        refine wps1 88 (.tmp 21) _ rfl in_l7own (.agg #[.bool s0, .slice b ln kk, .int .i64 y0]) rfl (hown _ rr) ?_
        rintro e w3 ⟨v3, rfl, r3, k3⟩
        refine ⟨_, rfl, ?_⟩
        obtain ⟨a3, d3, hv3⟩ := Row.form' r3
        subst hv3
        replace of1d := k3.loose0 (World.block_lt_of_cell? _ _ o1d) of1d
        replace a1d := k3.cell0 a1d
        replace c0 := k3.cell0 c0
        replace c1 := k3.cell0 c1
        replace c2 := k3.cell0 c2
        replace o1d := k3.cell0 o1d
        replace o0d := k3.cell0 o0d
        have ho3 := own3_kept ho0 k3
        have hr3 := fun i (hi : i < j) => (hr0 i hi).2.kept k3 (.inr (.inr (Nat.le_refl 0)))
        have KDe := hide ((unhide KD).trans k3)
        have KWe := hide ((unhide KWd).trans k3.any)
        have z3 := k3.size
        clear hHeld
        refine hK.out _ _ ?_ (fun hHeld => ?_)
        · exact ⟨a1d, c0, c1, c2⟩
        clear hK KK
        try simp only [Act.put, List.getElem_toArray, List.getElem_cons_succ, List.getElem_cons_zero, List.setIfInBounds_toArray, List.set_cons_zero, List.set_cons_succ]
        refine wpAnyH_ready (rs := [1, 8]) (by kernel_rfl) (by simp) ?_
        refine AllReadyH.cons rfl (fun KK hK => ?_) (AllReadyH.cons rfl (fun KK hK => ?_) AllReadyH.nil)
        · simp only [List.getElem_toArray, List.getElem_cons_succ, List.getElem_cons_zero]
          rw [if_pos (by rfl)]
          go_simp
          clear hHeld
          refine hK.out _ _ ?_ (fun hHeld => ?_)
          · exact ⟨a1d, c0, c1, c2⟩
          clear hK KK
          try simp only [Act.put, List.getElem_toArray, List.getElem_cons_succ, List.getElem_cons_zero, List.setIfInBounds_toArray, List.set_cons_zero, List.set_cons_succ]
          refine wpAnyH_ready (rs := [8]) (by kernel_rfl) (by simp) ?_
          refine AllReadyH.cons rfl (fun KK hK => ?_) AllReadyH.nil
          simp only [List.getElem_toArray, List.getElem_cons_succ, List.getElem_cons_zero]
          rw [if_pos (by rfl)]
          go_simp
          have k4 := (Kept.refl 0 0 w3).alloc (.cells #[.bool s0, .slice a3 z0.length d3, .int .i64 y0] 52)
          replace of1d := k4.loose0 (World.block_lt_of_cell? _ _ o1d) of1d
          replace a1d := k4.cell0 a1d
          replace c0 := k4.cell0 c0
          replace c1 := k4.cell0 c1
          replace c2 := k4.cell0 c2
          replace o1d := k4.cell0 o1d
          replace o0d := k4.cell0 o0d
          have n0 : (w3.alloc (.cells #[.bool s0, .slice a3 z0.length d3, .int .i64 y0] 52)).cell? ⟨w3.heap.size, 0, none⟩ = some (.bool s0) := new_cell2 _ _ _ _ _ _ rfl rfl
          have n1 : (w3.alloc (.cells #[.bool s0, .slice a3 z0.length d3, .int .i64 y0] 52)).cell? ⟨w3.heap.size, 1, none⟩ = some (.slice a3 z0.length d3) := new_cell2 _ _ _ _ _ _ rfl rfl
          have n2 : (w3.alloc (.cells #[.bool s0, .slice a3 z0.length d3, .int .i64 y0] 52)).cell? ⟨w3.heap.size, 2, none⟩ = some (.int .i64 y0) := new_cell2 _ _ _ _ _ _ rfl rfl
          have ho4 := own3_kept ho3 k4
          have hr4 := fun i (hi : i < j) => (hr3 i hi).kept k4 (.inr (.inr (Nat.le_refl 0)))
          have r4 := r3.kept k4 (by omega)
          have KDf := hide ((unhide KDe).trans k4)
          have KWf := hide ((unhide KWe).trans k4.any)
          have s4 : Hid ((w3.alloc (.cells #[.bool s0, .slice a3 z0.length d3, .int .i64 y0] 52)).heap.size = w3.heap.size + 1) := by show _ = _; simp
          clear k4
          clear hHeld
          refine hK.out _ _ ?_ (fun hHeld => ?_)
          · exact ⟨a1d, c0, c1, c2⟩
          clear hK KK
          try simp only [Act.put, List.getElem_toArray, List.getElem_cons_succ, List.getElem_cons_zero, List.setIfInBounds_toArray, List.set_cons_zero, List.set_cons_succ]
          generalize (w3.alloc (.cells #[.bool s0, .slice a3 z0.length d3, .int .i64 y0] 52)) = w4 at *
          have hlx := ho4.1
          have hvb : ∀ i, (Value.slice aO j cO).ownBlock = some i → W.heap.size ≤ i := fun i hi => (ho4.lt i hi).1
          refine wpAnyH_ready (rs := [9]) (by kernel_rfl) (by simp) ?_
          refine AllReadyH.cons rfl (fun KK hK => ?_) AllReadyH.nil
          simp only [List.getElem_toArray, List.getElem_cons_succ, List.getElem_cons_zero]
          rw [if_pos (by rfl)]
          refine wp_append_at (.tmp 16) (.tmp 23) 57 rfl W.heap.size 52 i0 (.agg #[.bool false, .slice none 0 0, .int .i64 0]) 3 40 Tryz.underlying57 hi0 hz0 hz1 hz2 rfl (by decide) (.slice aO j cO) j xs rfl ho4 ⟨w3.heap.size, 0, none⟩ 1 1 [.bool s0, .slice a3 z0.length d3, .int .i64 y0] rfl rfl ?_ ?_ ?_ ?_ ?_ ?_
          · intro q u hq
            match q, hq with
            | 0, hq => simp at hq; subst hq; simpa [Addr.add] using n0
            | 1, hq => simp at hq; subst hq; simpa [Addr.add] using n1
            | 2, hq => simp at hq; subst hq; simpa [Addr.add] using n2
          · intro u hu; simp at hu; rcases hu with rfl | rfl | rfl <;> rfl
          · unfold maxLen; omega
          · omega
          · have := (unhide KWf).size; omega
          intro v5 w5 o5 g5 b5
          have hs4 := unhide s4
          have hS := unhide HS0
          have hgW := unhide HGW
          have hk3 := (unhide KDe).size
          have hkW := (unhide KWe).size
          have ACg := AccD.snoc (w0 := wr.drew) (f := fun i => ds.getD i de0) (z := z0) hx0 hlx (fun i hi => ⟨(hr0 i hi).1, hr4 i hi⟩) hm0 (fun i hi => (ho0.lt i hi).2) HLO (by omega) (r4.wider (Nat.le_refl _) (by omega)) o5 g5 b5
          have hup : upE (fun i => ds.getD i de0) j (s0, z0, y0) = fun i => ds.getD i de0 := by
            funext i
            by_cases e : i = j
            · subst e; rw [upE_same]; exact (unhide hE).symm
            · rw [upE_other _ _ e]
          rw [hup] at ACg
          obtain ⟨a5, c5, hv5⟩ := ACg.form
          subst hv5
          have gk : ∀ {x f : Nat} {u : Value}, x < W.heap.size → w4.cell? ⟨x, f, none⟩ = some u → w5.cell? ⟨x, f, none⟩ = some u := fun {x f u} hx hc => (World.cell?_of_block (w := w4) (a := ⟨x, f, none⟩) (g5.block x (World.block_lt_of_cell? _ ⟨x, f, none⟩ hc) (fun e => by have := hvb x e.symm; omega))).trans hc
          have gf : ∀ {x f : Nat}, x < W.heap.size → x < w4.heap.size → w4.frozen? ⟨x, f, none⟩ = false → w5.frozen? ⟨x, f, none⟩ = false := fun {x f} hx hl hc => (World.frozen?_of_block (w := w4) (a := ⟨x, f, none⟩) (g5.block x hl (fun e => by have := hvb x e.symm; omega))).trans hc
          replace a1d := gk (by omega) a1d
          replace c0 := gk (by omega) c0
          replace c1 := gk (by omega) c1
          replace c2 := gk (by omega) c2
          replace o1d := gk (by omega) o1d
          replace o0d := gk (by omega) o0d
          replace of1d := gf (by omega) (by omega) of1d
          have KW5 : Kept (w.heap.size + 2) (w.heap.size + 3) W w5 := ⟨g5.os.trans (unhide KWf).os, g5.tape.trans (unhide KWf).tape, g5.output.trans (unhide KWf).output, Nat.le_trans (unhide KWf).size g5.size, fun i hi ho => (g5.block i (Nat.lt_of_lt_of_le hi (unhide KWf).size) (fun e => by have := hvb i e.symm; omega)).trans ((unhide KWf).block i hi ho)⟩
          have KD5 : Kept 0 0 w w5 := ⟨g5.os.trans (unhide KDf).os, g5.tape.trans (unhide KDf).tape, g5.output.trans (unhide KDf).output, Nat.le_trans (unhide KDf).size g5.size, fun i hi ho => (g5.block i (Nat.lt_of_lt_of_le hi (unhide KDf).size) (fun e => by have := hvb i e.symm; omega)).trans ((unhide KDf).block i hi ho)⟩
          clear hHeld
          refine hK.out _ _ ?_ (fun hHeld => ?_)
          · exact ⟨a1d, c0, c1, c2⟩
          clear hK KK
          try simp only [Act.put, List.getElem_toArray, List.getElem_cons_succ, List.getElem_cons_zero, List.setIfInBounds_toArray, List.set_cons_zero, List.set_cons_succ]
          refine wpAnyH_take (i := 10) (oi := _) (v := .pointer (some ⟨w.heap.size + 1 + 1, 1, none⟩)) rfl (by kernel_rfl) (by kernel_rfl) (by kernel_rfl) (fun _ _ _ h => h) (Or.inl ⟨by rfl, ?_⟩) hHeld ?_
          · intro wq hSw
            try dsimp only at hSw
            go_simp
          try simp only [Act.put, List.getElem_toArray, List.getElem_cons_succ, List.getElem_cons_zero, List.setIfInBounds_toArray, List.set_cons_zero, List.set_cons_succ]
          refine wpAnyH_ready (rs := [11]) (by kernel_rfl) (by simp) ?_
          refine AllReadyH.cons rfl (fun KK hK => ?_) AllReadyH.nil
          simp only [List.getElem_toArray, List.getElem_cons_succ, List.getElem_cons_zero]
          rw [if_pos (by rfl)]
          go_simp
          have ks : Kept (w.heap.size + 2) (w.heap.size + 3) w5 (w5.setCell ⟨w.heap.size + 1 + 1, 1, none⟩ (.slice a5 (j + 1) c5)) := (Kept.refl _ _ _).setCell (p := ⟨w.heap.size + 1 + 1, 1, none⟩) (Nat.le_refl _) (Nat.lt_succ_self _) _
          replace a1d := ks.cellOut (by dsimp only; omega) a1d
          replace c0 := ks.cellOut (by dsimp only; omega) c0
          replace c1 := ks.cellOut (by dsimp only; omega) c1
          replace c2 := ks.cellOut (by dsimp only; omega) c2
          have e0 := cell_off _ _ _ 1 (.slice a5 (j + 1) c5) _ o0d (by omega)
          have e1 := cell_on _ _ _ (.slice a5 (j + 1) c5) _ o1d
          have e2 : (w5.setCell ⟨w.heap.size + 1 + 1, 1, none⟩ (.slice a5 (j + 1) c5)).frozen? ⟨w.heap.size + 1 + 1, 1, none⟩ = false := by rw [frozen_set]; exact of1d
          have ACh := hide (ACg.stored (x := w.heap.size + 1 + 1) (p := 1) (u := .slice a5 (j + 1) c5) (by omega))
          have KWh := hide (KW5.trans ks)
          have KDh := hide (KD5.wide ks (by omega))
          clear hHeld
          refine hK.out _ _ ?_ (fun hHeld => ?_)
          · exact ⟨a1d, c0, c1, c2⟩
          clear hK KK
          try simp only [Act.put, List.getElem_toArray, List.getElem_cons_succ, List.getElem_cons_zero, List.setIfInBounds_toArray, List.set_cons_zero, List.set_cons_succ]
          refine wpAnyH_done (by kernel_rfl) ?_ _
          clear hHeld a1d c0 c1 c2 o1d o0d of1d n0 n1 n2 hown rr r3 r4 ACg ks KW5 KD5 gk gf o5 g5 b5 hvb ho4 hr4 ho3 hr3 a1
          go_wp2
          go_roundw
          case rel => exact ⟨j + 1, .slice a5 (j + 1) c5, by simp, hlt, ACh, e0, e1, e2, KDh, KWh⟩
          case measure => simp [intOf]; omega
        · simp only [List.getElem_toArray, List.getElem_cons_succ, List.getElem_cons_zero]
          rw [if_pos (by rfl)]
          go_simp
          have k4 := (Kept.refl 0 0 w3).alloc (.cells #[.bool s0, .slice a3 z0.length d3, .int .i64 y0] 52)
          replace of1d := k4.loose0 (World.block_lt_of_cell? _ _ o1d) of1d
          replace a1d := k4.cell0 a1d
          replace c0 := k4.cell0 c0
          replace c1 := k4.cell0 c1
          replace c2 := k4.cell0 c2
          replace o1d := k4.cell0 o1d
          replace o0d := k4.cell0 o0d
          have n0 : (w3.alloc (.cells #[.bool s0, .slice a3 z0.length d3, .int .i64 y0] 52)).cell? ⟨w3.heap.size, 0, none⟩ = some (.bool s0) := new_cell2 _ _ _ _ _ _ rfl rfl
          have n1 : (w3.alloc (.cells #[.bool s0, .slice a3 z0.length d3, .int .i64 y0] 52)).cell? ⟨w3.heap.size, 1, none⟩ = some (.slice a3 z0.length d3) := new_cell2 _ _ _ _ _ _ rfl rfl
          have n2 : (w3.alloc (.cells #[.bool s0, .slice a3 z0.length d3, .int .i64 y0] 52)).cell? ⟨w3.heap.size, 2, none⟩ = some (.int .i64 y0) := new_cell2 _ _ _ _ _ _ rfl rfl
          have ho4 := own3_kept ho3 k4
          have hr4 := fun i (hi : i < j) => (hr3 i hi).kept k4 (.inr (.inr (Nat.le_refl 0)))
          have r4 := r3.kept k4 (by omega)
          have KDf := hide ((unhide KDe).trans k4)
          have KWf := hide ((unhide KWe).trans k4.any)
          have s4 : Hid ((w3.alloc (.cells #[.bool s0, .slice a3 z0.length d3, .int .i64 y0] 52)).heap.size = w3.heap.size + 1) := by show _ = _; simp
          clear k4
          clear hHeld
          refine hK.out _ _ ?_ (fun hHeld => ?_)
          · exact ⟨a1d, c0, c1, c2⟩
          clear hK KK
          try simp only [Act.put, List.getElem_toArray, List.getElem_cons_succ, List.getElem_cons_zero, List.setIfInBounds_toArray, List.set_cons_zero, List.set_cons_succ]
          generalize (w3.alloc (.cells #[.bool s0, .slice a3 z0.length d3, .int .i64 y0] 52)) = w4 at *
          refine wpAnyH_ready (rs := [1]) (by kernel_rfl) (by simp) ?_
          refine AllReadyH.cons rfl (fun KK hK => ?_) AllReadyH.nil
          simp only [List.getElem_toArray, List.getElem_cons_succ, List.getElem_cons_zero]
          rw [if_pos (by rfl)]
          go_simp
          clear hHeld
          refine hK.out _ _ ?_ (fun hHeld => ?_)
          · exact ⟨a1d, c0, c1, c2⟩
          clear hK KK
          try simp only [Act.put, List.getElem_toArray, List.getElem_cons_succ, List.getElem_cons_zero, List.setIfInBounds_toArray, List.set_cons_zero, List.set_cons_succ]
          have hlx := ho4.1
          have hvb : ∀ i, (Value.slice aO j cO).ownBlock = some i → W.heap.size ≤ i := fun i hi => (ho4.lt i hi).1
          refine wpAnyH_ready (rs := [9]) (by kernel_rfl) (by simp) ?_
          refine AllReadyH.cons rfl (fun KK hK => ?_) AllReadyH.nil
          simp only [List.getElem_toArray, List.getElem_cons_succ, List.getElem_cons_zero]
          rw [if_pos (by rfl)]
          refine wp_append_at (.tmp 16) (.tmp 23) 57 rfl W.heap.size 52 i0 (.agg #[.bool false, .slice none 0 0, .int .i64 0]) 3 40 Tryz.underlying57 hi0 hz0 hz1 hz2 rfl (by decide) (.slice aO j cO) j xs rfl ho4 ⟨w3.heap.size, 0, none⟩ 1 1 [.bool s0, .slice a3 z0.length d3, .int .i64 y0] rfl rfl ?_ ?_ ?_ ?_ ?_ ?_
          · intro q u hq
            match q, hq with
            | 0, hq => simp at hq; subst hq; simpa [Addr.add] using n0
            | 1, hq => simp at hq; subst hq; simpa [Addr.add] using n1
            | 2, hq => simp at hq; subst hq; simpa [Addr.add] using n2
          · intro u hu; simp at hu; rcases hu with rfl | rfl | rfl <;> rfl
          · unfold maxLen; omega
          · omega
          · have := (unhide KWf).size; omega
          intro v5 w5 o5 g5 b5
          have hs4 := unhide s4
          have hS := unhide HS0
          have hgW := unhide HGW
          have hk3 := (unhide KDe).size
          have hkW := (unhide KWe).size
          have ACg := AccD.snoc (w0 := wr.drew) (f := fun i => ds.getD i de0) (z := z0) hx0 hlx (fun i hi => ⟨(hr0 i hi).1, hr4 i hi⟩) hm0 (fun i hi => (ho0.lt i hi).2) HLO (by omega) (r4.wider (Nat.le_refl _) (by omega)) o5 g5 b5
          have hup : upE (fun i => ds.getD i de0) j (s0, z0, y0) = fun i => ds.getD i de0 := by
            funext i
            by_cases e : i = j
            · subst e; rw [upE_same]; exact (unhide hE).symm
            · rw [upE_other _ _ e]
          rw [hup] at ACg
          obtain ⟨a5, c5, hv5⟩ := ACg.form
          subst hv5
          have gk : ∀ {x f : Nat} {u : Value}, x < W.heap.size → w4.cell? ⟨x, f, none⟩ = some u → w5.cell? ⟨x, f, none⟩ = some u := fun {x f u} hx hc => (World.cell?_of_block (w := w4) (a := ⟨x, f, none⟩) (g5.block x (World.block_lt_of_cell? _ ⟨x, f, none⟩ hc) (fun e => by have := hvb x e.symm; omega))).trans hc
          have gf : ∀ {x f : Nat}, x < W.heap.size → x < w4.heap.size → w4.frozen? ⟨x, f, none⟩ = false → w5.frozen? ⟨x, f, none⟩ = false := fun {x f} hx hl hc => (World.frozen?_of_block (w := w4) (a := ⟨x, f, none⟩) (g5.block x hl (fun e => by have := hvb x e.symm; omega))).trans hc
          replace a1d := gk (by omega) a1d
          replace c0 := gk (by omega) c0
          replace c1 := gk (by omega) c1
          replace c2 := gk (by omega) c2
          replace o1d := gk (by omega) o1d
          replace o0d := gk (by omega) o0d
          replace of1d := gf (by omega) (by omega) of1d
          have KW5 : Kept (w.heap.size + 2) (w.heap.size + 3) W w5 := ⟨g5.os.trans (unhide KWf).os, g5.tape.trans (unhide KWf).tape, g5.output.trans (unhide KWf).output, Nat.le_trans (unhide KWf).size g5.size, fun i hi ho => (g5.block i (Nat.lt_of_lt_of_le hi (unhide KWf).size) (fun e => by have := hvb i e.symm; omega)).trans ((unhide KWf).block i hi ho)⟩
          have KD5 : Kept 0 0 w w5 := ⟨g5.os.trans (unhide KDf).os, g5.tape.trans (unhide KDf).tape, g5.output.trans (unhide KDf).output, Nat.le_trans (unhide KDf).size g5.size, fun i hi ho => (g5.block i (Nat.lt_of_lt_of_le hi (unhide KDf).size) (fun e => by have := hvb i e.symm; omega)).trans ((unhide KDf).block i hi ho)⟩
          clear hHeld
          refine hK.out _ _ ?_ (fun hHeld => ?_)
          · exact ⟨a1d, c0, c1, c2⟩
          clear hK KK
          try simp only [Act.put, List.getElem_toArray, List.getElem_cons_succ, List.getElem_cons_zero, List.setIfInBounds_toArray, List.set_cons_zero, List.set_cons_succ]
          refine wpAnyH_take (i := 10) (oi := _) (v := .pointer (some ⟨w.heap.size + 1 + 1, 1, none⟩)) rfl (by kernel_rfl) (by kernel_rfl) (by kernel_rfl) (fun _ _ _ h => h) (Or.inl ⟨by rfl, ?_⟩) hHeld ?_
          · intro wq hSw
            try dsimp only at hSw
            go_simp
          try simp only [Act.put, List.getElem_toArray, List.getElem_cons_succ, List.getElem_cons_zero, List.setIfInBounds_toArray, List.set_cons_zero, List.set_cons_succ]
          refine wpAnyH_ready (rs := [11]) (by kernel_rfl) (by simp) ?_
          refine AllReadyH.cons rfl (fun KK hK => ?_) AllReadyH.nil
          simp only [List.getElem_toArray, List.getElem_cons_succ, List.getElem_cons_zero]
          rw [if_pos (by rfl)]
          go_simp
          have ks : Kept (w.heap.size + 2) (w.heap.size + 3) w5 (w5.setCell ⟨w.heap.size + 1 + 1, 1, none⟩ (.slice a5 (j + 1) c5)) := (Kept.refl _ _ _).setCell (p := ⟨w.heap.size + 1 + 1, 1, none⟩) (Nat.le_refl _) (Nat.lt_succ_self _) _
          replace a1d := ks.cellOut (by dsimp only; omega) a1d
          replace c0 := ks.cellOut (by dsimp only; omega) c0
          replace c1 := ks.cellOut (by dsimp only; omega) c1
          replace c2 := ks.cellOut (by dsimp only; omega) c2
          have e0 := cell_off _ _ _ 1 (.slice a5 (j + 1) c5) _ o0d (by omega)
          have e1 := cell_on _ _ _ (.slice a5 (j + 1) c5) _ o1d
          have e2 : (w5.setCell ⟨w.heap.size + 1 + 1, 1, none⟩ (.slice a5 (j + 1) c5)).frozen? ⟨w.heap.size + 1 + 1, 1, none⟩ = false := by rw [frozen_set]; exact of1d
          have ACh := hide (ACg.stored (x := w.heap.size + 1 + 1) (p := 1) (u := .slice a5 (j + 1) c5) (by omega))
          have KWh := hide (KW5.trans ks)
          have KDh := hide (KD5.wide ks (by omega))
          clear hHeld
          refine hK.out _ _ ?_ (fun hHeld => ?_)
          · exact ⟨a1d, c0, c1, c2⟩
          clear hK KK
          try simp only [Act.put, List.getElem_toArray, List.getElem_cons_succ, List.getElem_cons_zero, List.setIfInBounds_toArray, List.set_cons_zero, List.set_cons_succ]
          refine wpAnyH_done (by kernel_rfl) ?_ _
          clear hHeld a1d c0 c1 c2 o1d o0d of1d n0 n1 n2 hown rr r3 r4 ACg ks KW5 KD5 gk gf o5 g5 b5 hvb ho4 hr4 ho3 hr3 a1
          go_wp2
          go_roundw
          case rel => exact ⟨j + 1, .slice a5 (j + 1) c5, by simp, hlt, ACh, e0, e1, e2, KDh, KWh⟩
          case measure => simp [intOf]; omega
    · have hjn : j = n := by omega
      subst hjn
      have hs0 := unhide S0
      have r0' := (unhide kW).cellOut (a := ⟨w.heap.size + 1, 0, none⟩) (by dsimp only; omega) R0
      have r1' := (unhide kW).cellOut (a := ⟨w.heap.size + 1, 1, none⟩) (by dsimp only; omega) R1
      have rf0' := (unhide kW).looseOut (a := ⟨w.heap.size + 1, 0, none⟩) (by dsimp only; omega) (show w.heap.size + 1 < _ by omega) Rf0
      have rf1' := (unhide kW).looseOut (a := ⟨w.heap.size + 1, 1, none⟩) (by dsimp only; omega) (show w.heap.size + 1 < _ by omega) Rf1
      have E0 := cell_off _ _ _ 1 (.slice aO j cO) _ (cell_on _ _ _ (.int .i64 m) _ r0') (show (0 : Nat) ≠ 1 by omega)
      have E1 := cell_on _ _ _ (.slice aO j cO) _ (cell_off _ _ _ 0 (.int .i64 m) _ r1' (show (1 : Nat) ≠ 0 by omega))
      have hl := unhide HN
      have AC2 := (((unhide hA).stored (x := w.heap.size + 1) (p := 0) (u := .int .i64 m) (by omega)).stored (x := w.heap.size + 1) (p := 1) (u := .slice aO j cO) (by omega))
      have D2 : DysO W.heap.size ((wr.setCell ⟨w.heap.size + 1, 0, none⟩ (.int .i64 m)).setCell ⟨w.heap.size + 1, 1, none⟩ (.slice aO j cO)).heap.size ((wr.setCell ⟨w.heap.size + 1, 0, none⟩ (.int .i64 m)).setCell ⟨w.heap.size + 1, 1, none⟩ (.slice aO j cO)) (.slice aO j cO) ds := AccD.done (hl ▸ AC2) (fun i hi => rfl)
      have DD := hide (D2.wider (lo' := w.heap.size) (by omega) (Nat.le_refl _))
      have K7 := hide ((((unhide k).setNew (p := ⟨w.heap.size + 1, 0, none⟩) (by simp) (.int .i64 m)).setNew (p := ⟨w.heap.size + 1, 1, none⟩) (by simp) (.slice aO j cO)))
      clear AC2 D2 hA k kW hs0 hl R0 R1 Rf0 Rf1
      go_wp2
      exact bodyPost_ret (v := .agg #[.int .i64 m, .slice aO j cO]) (by simp [results, Tryz.results133, go_sem, E0, E1]) rfl ⟨_, rfl, unhide DD, unhide K7⟩

end Go.Proofs.YthahoabkehcgbaaGreatDoor

namespace Go.Proofs.YthahoabkehcgbaaGreatDoor
open Go.RowKit
set_option linter.unusedVariables false
set_option maxRecDepth 8000
set_option linter.unusedSimpArgs false

set_option maxHeartbeats 4000000 in
theorem multiplyDyadic_old {b1 b2 : Nat} {w : World} {g1 g2 : Nat} {u1 u2 : Value} {s1 s2 : Bool} {xs ys : List Int} {x1 x2 : Int} (n01 : Num b1 w g1 u1 xs) (n02 : Num b2 w g2 u2 ys) (d01 : Sd w g1 s1) (d02 : Sd w g2 s2) (e01 : Ex w g1 x1) (e02 : Ex w g2 x2) (ne : g1 ≠ g2) (hx : Nrm xs) (hy : Nrm ys) (nx : xs.length ≤ 100000) (ny : ys.length ≤ 100000) (f1 : -40000 ≤ x1) (f2 : x1 ≤ 40000) (f3 : -40000 ≤ x2) (f4 : x2 ≤ 40000) :
    Calls Tryz.prog 253 #[.pointer (some ⟨g1, 0, none⟩), .pointer (some ⟨g2, 0, none⟩)] w fun e w' => (∃ r, e = .returned r) ∧ ∃ u, Num w.heap.size w' g1 u (limbs (val xs * val ys).toNat) ∧ Sd w' g1 (!(s1 == s2)) ∧ Ex w' g1 (x1 + x2) ∧ Mod (fun i => i = g1) w w' := by
  have kw := (Kept.refl 0 0 w).drew
  have d1 : Sd w.drew g1 s1 := ⟨kw.cell0 d01.1, kw.loose0 (a := ⟨g1, 1, none⟩) n01.lt d01.2⟩
  have d2 : Sd w.drew g2 s2 := ⟨kw.cell0 d02.1, kw.loose0 (a := ⟨g2, 1, none⟩) n02.lt d02.2⟩
  have e1 : Ex w.drew g1 x1 := ⟨kw.cell0 e01.1, kw.loose0 (a := ⟨g1, 2, none⟩) n01.lt e01.2⟩
  have e2 : Ex w.drew g2 x2 := ⟨kw.cell0 e02.1, kw.loose0 (a := ⟨g2, 2, none⟩) n02.lt e02.2⟩
  have HMS := hide (multiplySigned_tail _ (n01.kept kw) (n02.kept kw) d1 d2 ne hx.1 hy.1 nx ny)
  have KW := hide kw
  clear n01 n02 d01 d02 e01 e02 kw
  have hw : IntKind.i64.wrap (x1 + x2) = x1 + x2 := w64 _ (by omega) (by omega)
  go_enter Tryz.func253, Tryz.ntmps253
  go_wp2_with fail
  refine wp_region_held_drew (S := (fun _ => True)) (by kernel_rfl) ?_ (fun hHeld => ?_)
  · trivial
  refine wpAnyH_take (i := 0) (oi := _) (v := .pointer (some ⟨g1, 0, none⟩)) rfl (by kernel_rfl) (by kernel_rfl) (by kernel_rfl) (fun _ _ _ h => h) (Or.inl ⟨by rfl, ?_⟩) hHeld ?_
  · intro wq hSw
    try dsimp only at hSw
    go_simp
  try simp only [Act.put, List.getElem_toArray, List.getElem_cons_succ, List.getElem_cons_zero, List.setIfInBounds_toArray, List.set_cons_zero, List.set_cons_succ]
  refine wpAnyH_take (i := 1) (oi := _) (v := .pointer (some ⟨g1, 0, none⟩)) rfl (by kernel_rfl) (by kernel_rfl) (by kernel_rfl) (fun _ _ _ h => h) (Or.inl ⟨by rfl, ?_⟩) hHeld ?_
  · intro wq hSw
    try dsimp only at hSw
    go_simp
  try simp only [Act.put, List.getElem_toArray, List.getElem_cons_succ, List.getElem_cons_zero, List.setIfInBounds_toArray, List.set_cons_zero, List.set_cons_succ]
  refine wpAnyH_take (i := 2) (oi := _) (v := .pointer (some ⟨g1, 0, none⟩)) rfl (by kernel_rfl) (by kernel_rfl) (by kernel_rfl) (fun _ _ _ h => h) (Or.inl ⟨by rfl, ?_⟩) hHeld ?_
  · intro wq hSw
    try dsimp only at hSw
    go_simp
  try simp only [Act.put, List.getElem_toArray, List.getElem_cons_succ, List.getElem_cons_zero, List.setIfInBounds_toArray, List.set_cons_zero, List.set_cons_succ]
  refine wpAnyH_take (i := 3) (oi := _) (v := .pointer (some ⟨g2, 0, none⟩)) rfl (by kernel_rfl) (by kernel_rfl) (by kernel_rfl) (fun _ _ _ h => h) (Or.inl ⟨by rfl, ?_⟩) hHeld ?_
  · intro wq hSw
    try dsimp only at hSw
    go_simp
  try simp only [Act.put, List.getElem_toArray, List.getElem_cons_succ, List.getElem_cons_zero, List.setIfInBounds_toArray, List.set_cons_zero, List.set_cons_succ]
  refine wpAnyH_take (i := 4) (oi := _) (v := .pointer (some ⟨g2, 0, none⟩)) rfl (by kernel_rfl) (by kernel_rfl) (by kernel_rfl) (fun _ _ _ h => h) (Or.inl ⟨by rfl, ?_⟩) hHeld ?_
  · intro wq hSw
    try dsimp only at hSw
    go_simp
  try simp only [Act.put, List.getElem_toArray, List.getElem_cons_succ, List.getElem_cons_zero, List.setIfInBounds_toArray, List.set_cons_zero, List.set_cons_succ]
  refine wpAnyH_take (i := 5) (oi := _) (v := .pointer (some ⟨g2, 0, none⟩)) rfl (by kernel_rfl) (by kernel_rfl) (by kernel_rfl) (fun _ _ _ h => h) (Or.inl ⟨by rfl, ?_⟩) hHeld ?_
  · intro wq hSw
    try dsimp only at hSw
    go_simp
  try simp only [Act.put, List.getElem_toArray, List.getElem_cons_succ, List.getElem_cons_zero, List.setIfInBounds_toArray, List.set_cons_zero, List.set_cons_succ]
  refine wpAnyH_ready (rs := [6]) (by kernel_rfl) (by simp) ?_
  refine AllReadyH.cons rfl (fun KK hK => ?_) AllReadyH.nil
  simp only [List.getElem_toArray, List.getElem_cons_succ, List.getElem_cons_zero]
  rw [if_pos (by rfl)]
  refine wps2 254 (.tmp 6) (.tmp 9) _ rfl in_multiplySigned (.pointer (some ⟨g1, 0, none⟩)) (.pointer (some ⟨g2, 0, none⟩)) rfl rfl (unhide HMS) ?_
  rintro e w2 ⟨⟨r2, rfl⟩, v2, n2, d3, m2, t2⟩
  refine ⟨_, rfl, ?_⟩
  clear hHeld
  refine hK.out _ _ ?_ (fun hHeld => ?_)
  · trivial
  clear hK KK
  try simp only [Act.put, List.getElem_toArray, List.getElem_cons_succ, List.getElem_cons_zero, List.setIfInBounds_toArray, List.set_cons_zero, List.set_cons_succ]
  refine wpAnyH_done (by kernel_rfl) ?_ _
  clear hHeld
  have e3 := e1.tail t2
  have e4 : Ex w2 g2 x2 := e2.tail (m2.side e2.lt (fun e => ne e.symm)).tail
  have hc1 := e3.1
  have hf1 := e3.2
  have hc2 := e4.1
  have kd := (Kept.refl 0 0 w2).drew
  have FF : Hid (Num w.heap.size (w2.drew.setCell ⟨g1, 2, none⟩ (.int .i64 (x1 + x2))) g1 v2 (limbs (val xs * val ys).toNat) ∧ Sd (w2.drew.setCell ⟨g1, 2, none⟩ (.int .i64 (x1 + x2))) g1 (!(s1 == s2)) ∧ Ex (w2.drew.setCell ⟨g1, 2, none⟩ (.int .i64 (x1 + x2))) g1 (x1 + x2) ∧ Mod (fun i => i = g1) w (w2.drew.setCell ⟨g1, 2, none⟩ (.int .i64 (x1 + x2)))) :=
    ⟨(n2.kept kd).set2 _, (d3.kept kd).set2 _, (e3.kept kd).set _, ((((unhide KW).toMod (S := fun i => i = g1)).trans m2).kept kd).set (p := ⟨g1, 2, none⟩) (.inl rfl) _⟩
  clear HMS n2 d3 m2 t2 e3 e4 e1 e2 d1 d2 kd KW
  go_wp2
  go_region
  go_wp2
  exact bodyPost_end (v := .tuple #[]) (by simp [results, Tryz.results253, go_sem]) rfl ⟨⟨_, rfl⟩, _, unhide FF⟩

theorem DyP.parts {X : Nat → Prop} {w : World} {g : Nat} {d : DE} (h : DyP X w g d) : ∃ u, Num 0 w g u d.2.1 ∧ Sd w g d.1 ∧ Ex w g d.2.2 := by
  obtain ⟨u, n, s, e, -⟩ := h
  exact ⟨u, n, s, e⟩

set_option maxHeartbeats 4000000 in
theorem timesD_impl {L1 L2 V1 V2 : Int} {g1 g2 : Nat} {u1 u2 : Value} {a b : DE} (w : World) (hL1 : -20000 ≤ L1) (hL2 : -20000 ≤ L2) (n1 : Num 0 w g1 u1 a.2.1) (d1 : Sd w g1 a.1) (e1 : Ex w g1 a.2.2) (n2 : Num 0 w g2 u2 b.2.1) (d2 : Sd w g2 b.1) (e2 : Ex w g2 b.2.2) (i1 : NV L1 V1 a) (i2 : NV L2 V2 b) (x1 : a.2.2 ≤ 20000) (x2 : b.2.2 ≤ 20000) (hs : (V1 * V2).natAbs < 2 ^ AA) :
    Calls Tryz.prog 252 #[.pointer (some ⟨g1, 0, none⟩), .pointer (some ⟨g2, 0, none⟩)] w fun e w' => ∃ g d, e = .returned (.pointer (some ⟨g, 0, none⟩)) ∧ DyP (fun y => y < w.heap.size) w' g d ∧ NV (L1 + L2) (V1 * V2) d ∧ Kept 0 0 w w' := by
  have sv := fun (d : DE) h1 h2 h3 => mul_isV (d := d) i1.1 i2.1 h1 h2 h3
  have ha := i1.1.2.1
  have hb := i2.1.2.1
  have la := i1.2.1
  have lb := i2.2.1
  have f1 : -20000 ≤ a.2.2 := by have := i1.1.1; omega
  have f3 : -20000 ≤ b.2.2 := by have := i2.1.1; omega
  have HS := hide hs
  have ng2 := n2.lt
  clear i1 i2 hs
  obtain ⟨s1, xs, y1⟩ := a
  obtain ⟨s2, ys, y2⟩ := b
  dsimp only at *
  have SV := hide sv
  clear sv
  have h1 := again_impl w n1 d1 e1 (by omega)
  clear n1 d1 e1
  go_enter Tryz.func252, Tryz.ntmps252
  go_wp2_with fail
  refine h1.mono ?_
  rintro e w1 ⟨v1, rfl, o1, k1⟩
  obtain ⟨a1, c1, hv1⟩ := own_slice o1
  subst hv1
  have D := new_dya s1 y1 150 o1
  have kA := k1.alloc (.cells #[.slice a1 xs.length c1, .bool s1, .int .i64 y1] 150)
  have hz := k1.size
  have hmul := multiplyDyadic_old D.1 (n2.kept kA) D.2.1 ⟨kA.cell0 d2.1, kA.loose0 (a := ⟨g2, 1, none⟩) ng2 d2.2⟩ D.2.2 ⟨kA.cell0 e2.1, kA.loose0 (a := ⟨g2, 2, none⟩) ng2 e2.2⟩ (by omega) ha hb (by omega) (by omega) (by omega) (by omega) (by omega) (by omega)
  have KA := hide kA
  have B0 := hide hz
  clear h1 o1 k1 D n2 d2 e2 kA hz
  go_wp2_with fail
  refine hmul.mono ?_
  rintro e w3 ⟨⟨r3, rfl⟩, u, n3, d3, e3, m3⟩
  have hB := unhide B0
  have hsA : (w1.alloc (.cells #[.slice a1 xs.length c1, .bool s1, .int .i64 y1] 150)).heap.size = w1.heap.size + 1 := by simp
  have DP : Hid (DyP (fun y => y < w.heap.size) w3 w1.heap.size (!(s1 == s2), limbs (val xs * val ys).toNat, y1 + y2)) := ⟨u, n3.less (Nat.zero_le _), d3, e3, by omega, fun i hi => by have := (n3.own.lt i hi).1; omega⟩
  have IS : Hid (NV (L1 + L2) (V1 * V2) (!(s1 == s2), limbs (val xs * val ys).toNat, y1 + y2)) := by
    have hh := unhide SV (!(s1 == s2), limbs (val xs * val ys).toNat, y1 + y2) (limbs_nrm _) (mul_sgn s1 s2 ha.1 hb.1) rfl
    have hl := hh.len (unhide HS) (show AA ≤ 16 * 2500 by decide)
    exact ⟨hh, Nat.le_trans hl (by decide), by show y1 + y2 ≤ 40000; omega⟩
  have K3 := hide ((unhide KA).mod m3 (fun i hi => by subst hi; exact hB))
  clear hmul n3 d3 e3 m3 hB hsA
  go_wp2
  go_ret
  exact ⟨_, _, rfl, unhide DP, unhide IS, unhide K3⟩

/-- The sum of the first n. -/
def psum (f : Nat → Int) : Nat → Int
  | 0 => 0
  | n + 1 => psum f n + f n

theorem times_is (a : Addr) (w : World) : (method 367 77 (.pointer (some a)) "loop.example/g00382/impl.times").run Tryz.prog w = .ok (252, .pointer (some a)) w := by kernel_rfl

set_option maxHeartbeats 8000000 in
theorem total_impl {L : Int} {gl m c base : Nat} {P : Nat → Nat} {F : Nat → DE} {V : Nat → Int} (w : World) (hL : -40000 ≤ L) (h0 : 0 < m) (hm : m ≤ 1000) (hc : m ≤ c) (hc2 : c ≤ 9223372036854775807) (hb : base ≤ w.heap.size) (hl : ∀ q, q < m → w.cell? ⟨gl, q, none⟩ = some (.pointer (some ⟨P q, 0, none⟩))) (hn : ∀ q, q < m → DyP (fun x => x < base) w (P q) (F q) ∧ NV L (V q) (F q)) (hs : ∀ q, q ≤ m → (psum V q).natAbs < 2 ^ AA) :
    Calls Tryz.prog 148 #[.slice (some ⟨gl, 0, none⟩) m c] w fun e w' => ∃ g d, e = .returned (.pointer (some ⟨g, 0, none⟩)) ∧ DyP (fun x => x < base) w' g d ∧ NV L (psum V m) d ∧ Kept 0 0 w w' := by
  have l0 := hl 0 h0
  by_cases hm1 : m = 1
  · subst hm1
    have D : Hid (DyP (fun x => x < base) w (P 0) (F 0) ∧ NV L (psum V 1) (F 0)) := ⟨(hn 0 h0).1, by show NV L (0 + V 0) _; rw [Int.zero_add]; exact (hn 0 h0).2⟩
    clear hl hn hs hb
    by_cases hc1 : c = 1
    · subst hc1
      go_enter Tryz.func148, Tryz.ntmps148
      go_wp2_with fail
      go_loopw [12, 3] (fun s12 s3 wr => s12 = .int .i64 0 ∧ s3 = .pointer (some ⟨P 0, 0, none⟩) ∧ w = wr) (fun s12 _ _ => 1)
      case atStart => exact ⟨rfl, rfl, rfl⟩
      case round =>
        obtain ⟨rfl, rfl, rfl⟩ := hrel
        go_wp2
        go_ret
        exact ⟨_, _, rfl, (unhide D).1, (unhide D).2, Kept.refl _ _ _⟩
    · have hc3 : 1 < c := by omega
      have hc4 : c - 1 ≠ 0 := by omega
      go_enter Tryz.func148, Tryz.ntmps148
      go_wp2_with fail
      go_loopw [12, 3] (fun s12 s3 wr => s12 = .int .i64 0 ∧ s3 = .pointer (some ⟨P 0, 0, none⟩) ∧ w = wr) (fun s12 _ _ => 1)
      case atStart => exact ⟨rfl, rfl, rfl⟩
      case round =>
        obtain ⟨rfl, rfl, rfl⟩ := hrel
        go_wp2
        go_ret
        exact ⟨_, _, rfl, (unhide D).1, (unhide D).2, Kept.refl _ _ _⟩
  have hc3 : 1 < c := by omega
  have hc4 : c - 1 ≠ 0 := by omega
  have hc5 : c ≠ 1 := by omega
  have HL := hide hl
  have HN := hide hn
  have HS := hide hs
  have HB := hide hb
  have hfu := plus_is
  clear hl hn hs hb
  go_enter Tryz.func148, Tryz.ntmps148
  go_wp2_with fail
  go_loopw [12, 3] (fun s12 s3 wr => ∃ (i g : Nat) (d : DE), s12 = .int .i64 i ∧ s3 = .pointer (some ⟨g, 0, none⟩) ∧ i + 1 ≤ m ∧ Hid (DyP (fun x => x < base) wr g d ∧ NV L (psum V (i + 1)) d) ∧ Kept 0 0 w wr) (fun s12 _ _ => m - (intOf s12).toNat)
  case atStart => exact ⟨0, P 0, F 0, rfl, rfl, h0, ⟨(unhide HN 0 h0).1, by show NV L (0 + V 0) _; rw [Int.zero_add]; exact (unhide HN 0 h0).2⟩, Kept.refl _ _ _⟩
  case round =>
    obtain ⟨i, g, d, rfl, rfl, hi, hD, k⟩ := hrel
    have hwi : IntKind.i64.wrap ((i : Int) + 1) = ((i + 1 : Nat) : Int) := by rw [IntKind.wrap_i64]; omega
    by_cases hlt : i < m - 1
    · have hlt2 : i + 1 < m := by omega
      have hcl := k.cell0 (unhide HL (i + 1) hlt2)
      have hcl2 : wr.cell? ⟨gl, 1 + i, none⟩ = some (.pointer (some ⟨P (i + 1), 0, none⟩)) := by rw [Nat.add_comm 1 i]; exact hcl
      obtain ⟨u1, n1, d1, e1⟩ := (unhide hD).1.parts
      obtain ⟨u2, n2, d2, e2⟩ := ((unhide HN (i + 1) hlt2).1.kept k).parts
      have hp := plusD_impl wr hL n1 d1 e1 n2 d2 e2 (unhide hD).2 (unhide HN (i + 1) hlt2).2 (unhide HS (i + 2) (by omega))
      have K := hide k
      have BB := hide (Nat.le_trans (unhide HB) k.size)
      clear n1 d1 e1 n2 d2 e2 k hD hcl
      go_wp2_with fail
      refine hp.mono ?_
      rintro e w3 ⟨g3, d3, rfl, dp, nv, k3⟩
      have DD : Hid (DyP (fun x => x < base) w3 g3 d3 ∧ NV L (psum V (i + 1 + 1)) d3) := ⟨dp.less (fun x hx _ => by have := unhide BB; omega), nv⟩
      have K3 := hide ((unhide K).trans k3)
      clear hp dp nv k3 K BB hcl2
      go_wp2
      go_roundw
      case rel => exact ⟨i + 1, g3, d3, by simp, rfl, hlt2, DD, unhide K3⟩
      case measure => simp [intOf]; omega
    · have him : i + 1 = m := by omega
      rw [him] at hD
      have K := hide k
      clear k him
      go_wp2
      go_ret
      exact ⟨_, _, rfl, (unhide hD).1, (unhide hD).2, unhide K⟩

end Go.Proofs.YthahoabkehcgbaaGreatDoor

namespace Go.Proofs.YthahoabkehcgbaaGreatDoor
open Go.RowKit
set_option linter.unusedVariables false
set_option maxRecDepth 8000
set_option linter.unusedSimpArgs false

/-- An append to a list of the call's own, told where the new list lies. -/
theorem wpList_append_at {P : Program} {w : World} {ops : Array Oper} {rest : List Oper} {o : Oper} {a : Act} {Q : Exit → Act → World → Prop} (hgd : o.guard = none) (s x : Operand) (t : TypeId)
    (ho : o.op = .call { callee := .builtin .append, args := #[s, x], argTypes := #[t, t] })
    (base : Nat) (e : TypeId) (i : TypeInfo) (z : Value) (size bytes : Nat) (ht : P.underlying t = some (.slice e)) (hi : P.info? e = some i) (hz : i.zero = some z)
    (hsize : i.size = size) (hby : i.bytes = bytes) (hzs : z.cells.size = size) (hsz : 0 < size)
    (v : Value) (n : Nat) (xs : List Value) (hs : a.eval s = v) (hown : w.ownsRow base e size v n xs)
    (ad : Addr) (m c : Nat) (news : List Value) (hx : a.eval x = .slice (some ad) m c) (hl : news.length = m * size) (hnews : ∀ j u, news[j]? = some u → w.cell? (ad.add j) = some u) (h1 : ∀ u ∈ news, u.oneCell' = true)
    (h63 : n + m ≤ maxLen) (hbytes : (n + m) * bytes ≤ 140737488355328) (hbase : base ≤ w.heap.size)
    (h : ∀ v' w', w'.ownsRow base e size v' (n + m) (xs ++ news) → w.grownBy w' v.ownBlock → (v'.ownBlock = v.ownBlock ∨ v'.ownBlock = some w.heap.size) → wpList P ops Q rest (a.put o.dst v') w') : wpList P ops Q (o :: rest) a w :=
  wpList_plain hgd fun _ hK => wp_append_at s x t ho base e i z size bytes ht hi hz hsize hby hzs hsz v n xs hs hown ad m c news hx hl hnews h1 h63 hbytes hbase fun v' w' h2 h3 h5 => hK _ _ (h v' w' h2 h3 h5)

/-- So many products in a list of the call's own. -/
def Prods (b : Nat) (L : Int) (V : Nat → Int) (w : World) (v : Value) (i : Nat) (P : Nat → Nat) : Prop :=
  w.ownsRow b 77 1 v i (ptrs P i) ∧ ∃ F : Nat → DE, ∀ q, q < i → DyP (fun x => x < b ∨ v.ownBlock = some x) w (P q) (F q) ∧ NV L (V q) (F q)
theorem Prods.kept {b i : Nat} {L : Int} {V : Nat → Int} {w w' : World} {v : Value} {P : Nat → Nat} (h : Prods b L V w v i P) (k : Kept 0 0 w w') : Prods b L V w' v i P := by
  obtain ⟨h1, F, h2⟩ := h
  exact ⟨own_kept h1 k, F, fun q hq => ⟨(h2 q hq).1.kept k, (h2 q hq).2⟩⟩
theorem ptrs_congr {G G' : Nat → Nat} {m : Nat} (h : ∀ p, p < m → G p = G' p) : ptrs G m = ptrs G' m := by
  unfold ptrs
  exact List.map_congr_left (fun p hp => by rw [h p (List.mem_range.1 hp)])
theorem DyP.app {b g : Nat} {v v' : Value} {w3 w' : World} {d : DE} (h : DyP (fun x => x < b ∨ v.ownBlock = some x) w3 g d) (m : Mod (fun x => v.ownBlock = some x) w3 w') (h5 : v'.ownBlock = v.ownBlock ∨ v'.ownBlock = some w3.heap.size) : DyP (fun x => x < b ∨ v'.ownBlock = some x) w' g d := by
  obtain ⟨u, n, s, e, x1, x2⟩ := h
  have m' : Mod (fun x => x < b ∨ v.ownBlock = some x) w3 w' := ⟨m.os, m.tape, m.output, m.size, fun i hi ho => m.block i hi (fun h => ho (.inr h))⟩
  have key : ∀ y, y < w3.heap.size → ¬ (y < b ∨ v.ownBlock = some y) → ¬ (y < b ∨ v'.ownBlock = some y) := fun y hy hn h => by
    rcases h with h | h
    · exact hn (.inl h)
    · rcases h5 with h6 | h6
      · exact hn (.inr (by rw [← h6]; exact h))
      · rw [h6] at h
        cases h
        exact Nat.lt_irrefl _ hy
  exact ⟨u, n.mod m' x1 x2, ⟨m'.cell (a := ⟨g, 1, none⟩) x1 s.1, m'.loose (a := ⟨g, 1, none⟩) x1 n.lt s.2⟩, ⟨m'.cell (a := ⟨g, 2, none⟩) x1 e.1, m'.loose (a := ⟨g, 2, none⟩) x1 n.lt e.2⟩, key g n.lt x1, fun i hi => key i (n.own.lt i hi).2 (x2 i hi)⟩
/-- One more product. -/
theorem Prods.step {b i g : Nat} {L : Int} {V : Nat → Int} {w w' w3 : World} {v v' : Value} {P : Nat → Nat} {d : DE} (h : Prods b L V w3 v i P) (hb : b ≤ w3.heap.size) (hs : w.heap.size ≤ w3.heap.size) (hv : ∀ k, v.ownBlock = some k → k < w.heap.size) (hb2 : b ≤ w.heap.size) (dp : DyP (fun y => y < w.heap.size) w3 g d) (nv : NV L (V i) d)
    (h2 : w'.ownsRow b 77 1 v' (i + 1) (ptrs P i ++ [Value.pointer (some ⟨g, 0, none⟩)])) (h3 : w3.grownBy w' v.ownBlock) (h5 : v'.ownBlock = v.ownBlock ∨ v'.ownBlock = some w3.heap.size) : Prods b L V w' v' (i + 1) (updG P i g) := by
  obtain ⟨h1, F, hF⟩ := h
  have m : Mod (fun x => v.ownBlock = some x) w3 w' := ⟨h3.os, h3.tape, h3.output, h3.size, fun k hk ho => h3.block k hk (fun e => ho e.symm)⟩
  refine ⟨?_, fun q => if q = i then d else F q, fun q hq => ?_⟩
  · have e : ptrs (updG P i g) (i + 1) = ptrs P i ++ [Value.pointer (some ⟨g, 0, none⟩)] := by
      rw [ptrs_add, ptrs_congr (G := updG P i g) (G' := P) (fun p hp => updG_off P (by omega))]
      simp [ptrs, updG_on]
    rw [e]
    exact h2
  · by_cases e : q = i
    · subst e
      dsimp only
      rw [if_pos rfl, updG_on]
      refine ⟨?_, nv⟩
      exact DyP.app (dp.less (fun x hx _ => by rcases hx with hx | hx; omega; exact hv x hx)) m h5
    · dsimp only
      rw [if_neg e, updG_off P e]
      obtain ⟨a1, a2⟩ := hF q (by omega)
      exact ⟨a1.app m h5, a2⟩

set_option maxHeartbeats 16000000 in
theorem dot_impl {L1 L2 : Int} {r1 r2 n : Nat} {A B : Nat → Nat} {Fa Fb : Nat → DE} {Va Vb : Nat → Int} (w : World) (hL1 : -20000 ≤ L1) (hL2 : -20000 ≤ L2) (h0 : 0 < n) (hn : n ≤ 1000) (c1 : ∀ q, q < n → w.cell? ⟨r1, q, none⟩ = some (.pointer (some ⟨A q, 0, none⟩))) (c2 : ∀ q, q < n → w.cell? ⟨r2, q, none⟩ = some (.pointer (some ⟨B q, 0, none⟩)))
    (na : ∀ q, q < n → (∃ u, Num 0 w (A q) u (Fa q).2.1 ∧ Sd w (A q) (Fa q).1 ∧ Ex w (A q) (Fa q).2.2) ∧ NV L1 (Va q) (Fa q) ∧ (Fa q).2.2 ≤ 20000) (nb : ∀ q, q < n → (∃ u, Num 0 w (B q) u (Fb q).2.1 ∧ Sd w (B q) (Fb q).1 ∧ Ex w (B q) (Fb q).2.2) ∧ NV L2 (Vb q) (Fb q) ∧ (Fb q).2.2 ≤ 20000)
    (hs : ∀ q, q < n → (Va q * Vb q).natAbs < 2 ^ AA) (hs2 : ∀ q, q ≤ n → (psum (fun q => Va q * Vb q) q).natAbs < 2 ^ AA) :
    Calls Tryz.prog 263 #[.slice (some ⟨r1, 0, none⟩) n n, .slice (some ⟨r2, 0, none⟩) n n] w fun e w' => ∃ g d, e = .returned (.pointer (some ⟨g, 0, none⟩)) ∧ DyP (fun y => y < w.heap.size) w' g d ∧ NV (L1 + L2) (psum (fun q => Va q * Vb q) n) d ∧ Kept 0 0 w w' := by
  obtain ⟨i1, hi1, hy0, hy1, hy2⟩ := info_parts Tryz.infoPD
  have C1 := hide c1
  have C2 := hide c2
  have NA := hide na
  have NB := hide nb
  have HS := hide hs
  have HS2 := hide hs2
  have hfu := times_is
  have P0 : Hid (Prods w.heap.size (L1 + L2) (fun q => Va q * Vb q) w (.slice none 0 0) 0 (fun _ => 0)) := ⟨World.ownsRow_nil _ _ _ _, fun _ => de0, fun q hq => absurd hq (Nat.not_lt_zero _)⟩
  clear c1 c2 na nb hs hs2
  go_enter Tryz.func263, Tryz.ntmps263
  go_wp2_with fail
  go_loopw [10, 5] (fun s10 s5 wr => ∃ (i : Nat) (v : Value) (P : Nat → Nat), s10 = .int .i64 i ∧ s5 = v ∧ i ≤ n ∧ Hid (Prods w.heap.size (L1 + L2) (fun q => Va q * Vb q) wr v i P) ∧ Kept 0 0 w wr) (fun s10 _ _ => n - (intOf s10).toNat)
  case atStart => exact ⟨0, _, _, rfl, rfl, Nat.zero_le _, P0, Kept.refl _ _ _⟩
  case round =>
    clear P0
    obtain ⟨i, v, P, rfl, rfl, hi, hP, k⟩ := hrel
    obtain ⟨av, cv, hv⟩ := own_slice (unhide hP).1
    subst hv
    have hwi : IntKind.i64.wrap ((i : Int) + 1) = ((i + 1 : Nat) : Int) := by rw [IntKind.wrap_i64]; omega
    by_cases hlt : i < n
    · have hcl := k.cell0 (unhide C1 i hlt)
      have hcl2 := k.cell0 (unhide C2 i hlt)
      obtain ⟨⟨u1, n1, d1, e1⟩, nv1, x1⟩ := unhide NA i hlt
      obtain ⟨⟨u2, n2, d2, e2⟩, nv2, x2⟩ := unhide NB i hlt
      have ht := timesD_impl wr hL1 hL2 (n1.kept k) ⟨k.cell0 d1.1, k.loose0 (a := ⟨A i, 1, none⟩) n1.lt d1.2⟩ ⟨k.cell0 e1.1, k.loose0 (a := ⟨A i, 2, none⟩) n1.lt e1.2⟩ (n2.kept k) ⟨k.cell0 d2.1, k.loose0 (a := ⟨B i, 1, none⟩) n2.lt d2.2⟩ ⟨k.cell0 e2.1, k.loose0 (a := ⟨B i, 2, none⟩) n2.lt e2.2⟩ nv1 nv2 x1 x2 (unhide HS i hlt)
      have K := hide k
      have HVL := hide (show ∀ q, (Value.slice av i cv).ownBlock = some q → q < wr.heap.size from fun q hq => ((unhide hP).1.lt q hq).2)
      have HVG := hide (show ∀ q, (Value.slice av i cv).ownBlock = some q → w.heap.size ≤ q from fun q hq => ((unhide hP).1.lt q hq).1)
      clear n1 d1 e1 n2 d2 e2 nv1 nv2 x1 x2 k
      go_wp2_with fail
      refine ht.mono ?_
      rintro e w3 ⟨g3, d3, rfl, dp, nv, k3⟩
      have kA := (Kept.refl 0 0 w3).alloc (.cells #[.pointer (some ⟨g3, 0, none⟩)] 77)
      have hcn : (w3.alloc (.cells #[.pointer (some ⟨g3, 0, none⟩)] 77)).cell? ⟨w3.heap.size, 0, none⟩ = some (.pointer (some ⟨g3, 0, none⟩)) := new_cell2 _ _ _ _ _ _ rfl rfl
      have hP3 := (unhide hP).kept (k3.trans kA)
      have dp3 := dp.kept kA
      have hown := hP3.1
      have z3 : wr.heap.size ≤ (w3.alloc (.cells #[.pointer (some ⟨g3, 0, none⟩)] 77)).heap.size := (k3.trans kA).size
      have zw := (unhide K).size
      have HB := hide (Nat.le_trans zw z3)
      have K3 := hide (((unhide K).trans k3).trans kA)
      have HP3 := hide hP3
      have DP3 := hide dp3
      have NV3 := hide nv
      have OWN := hide hown
      have HN := hide (lit_cell hcn)
      have HZ3 := hide z3
      have HZW := hide zw
      have H1 : Hid (∀ u ∈ [Value.pointer (some ⟨g3, 0, none⟩)], u.oneCell' = true) := fun u hu => by
        cases List.mem_singleton.1 hu
        rfl
      have C3 : Hid (i + 1 ≤ maxLen) := by show _ ≤ _; unfold maxLen; omega
      have C4 : Hid ((i + 1) * 8 ≤ 140737488355328) := by show _ ≤ _; omega
      clear ht dp nv k3 kA hP3 dp3 hown z3 zw hcn hP K hcl hcl2
      go_wp2_with (at_builtin; refine wpList_append_at rfl _ _ 176 rfl w.heap.size 77 i1 (.pointer none) 1 8 Tryz.underlying176 hi1 hy0 hy1 hy2 rfl (by decide) _ _ _ rfl (unhide OWN) ⟨w3.heap.size, 0, none⟩ 1 1 [Value.pointer (some ⟨g3, 0, none⟩)] rfl rfl (unhide HN) (unhide H1) (unhide C3) (unhide C4) (unhide HB) ?_)
      intro v4 w4 hown4 hgrow h5
      have PP : Hid (Prods w.heap.size (L1 + L2) (fun q => Va q * Vb q) w4 v4 (i + 1) (updG P i g3)) := (unhide HP3).step (unhide HB) (unhide HZ3) (unhide HVL) (unhide HZW) (unhide DP3) (unhide NV3) hown4 hgrow (by rw [show (w3.alloc (.cells #[.pointer (some ⟨g3, 0, none⟩)] 77)).heap.size = w3.heap.size + 1 by simp]; exact h5)
      have K4 := hide ((unhide K3).growNew hgrow (fun q hq => unhide HVG q hq))
      clear hown4 hgrow h5 OWN HN H1 C3 C4 HB HP3 DP3 NV3 K3 HVL HVG HZ3 HZW
      go_wp2
      go_roundw
      case rel => exact ⟨i + 1, v4, updG P i g3, by simp, rfl, hlt, PP, unhide K4⟩
      case measure => simp [intOf]; omega
    · have hin : i = n := by omega
      subst hin
      obtain ⟨hown, F, hF⟩ := unhide hP
      obtain ⟨gl, cl, hv⟩ : ∃ gl cl, (Value.slice av i cv) = .slice (some ⟨gl, 0, none⟩) i cl := by
        rcases hown.2 with ⟨e, hn0⟩ | ⟨g, cap, cur, e, _⟩
        · omega
        · exact ⟨g, cap, e⟩
      cases hv
      have hcap : i ≤ cv ∧ cv ≤ maxLen := by
        rcases hown.2 with ⟨e, hn0⟩ | ⟨g, cap, cur, e, _, _, q1, q2, _⟩
        · omega
        · cases e; exact ⟨q1, q2⟩
      have ht := total_impl (L := L1 + L2) (base := w.heap.size) (P := P) (F := F) (V := fun q => Va q * Vb q) wr (by omega) h0 hn hcap.1 (by have := hcap.2; unfold maxLen at this; omega) k.size (fun q hq => by
        have h1 := hown.cells (g := gl) rfl q _ (ptrs_at P hq)
        rw [Addr.add_lit, Nat.zero_add] at h1
        exact h1) (fun q hq => ⟨(hF q hq).1.less (fun x hx _ => .inl hx), (hF q hq).2⟩) (unhide HS2)
      have K := hide k
      clear hown hF hcap k hP
      go_wp2_with fail
      refine ht.mono ?_
      rintro e w5 ⟨g5, d5, rfl, dp, nv, k5⟩
      have DD : Hid (DyP (fun y => y < w.heap.size) w5 g5 d5 ∧ NV (L1 + L2) (psum (fun q => Va q * Vb q) i) d5) := ⟨dp, nv⟩
      have K5 := hide ((unhide K).trans k5)
      clear ht dp nv k5 K
      go_wp2
      go_ret
      exact ⟨_, _, rfl, (unhide DD).1, (unhide DD).2, unhide K5⟩

theorem in_dot : ∀ (w : World) (args : Array Value), (callFunc 263 args).run Tryz.prog w = .ok (.enter 263 args) w := enters Tryz.func263 (by decide) (fun h => by cases h)

theorem in_times1 : ∀ (w : World) (args : Array Value), (callFunc 262 args).run Tryz.prog w = .ok (.enter 262 args) w := enters Tryz.func262 (by decide) (fun h => by cases h)

set_option maxHeartbeats 8000000 in
theorem times1_impl {PP : World → Nat → DE → Prop} {B1 B2 R1 R2 r1 r2 n i j : Nat} (w : World) (hi : i < n) (hj : j < n) (c0 : w.cell? ⟨B1, 0, none⟩ = some (.slice (some ⟨R1, 0, none⟩) n n)) (c1 : w.cell? ⟨R1, i, none⟩ = some (.slice (some ⟨r1, 0, none⟩) n n)) (d0 : w.cell? ⟨B2, 0, none⟩ = some (.slice (some ⟨R2, 0, none⟩) n n)) (d1 : w.cell? ⟨R2, j, none⟩ = some (.slice (some ⟨r2, 0, none⟩) n n))
    (hc : Calls Tryz.prog 263 #[.slice (some ⟨r1, 0, none⟩) n n, .slice (some ⟨r2, 0, none⟩) n n] w.drew fun e w' => ∃ g d, e = .returned (.pointer (some ⟨g, 0, none⟩)) ∧ PP w' g d ∧ Kept 0 0 w.drew w') :
    Calls Tryz.prog 262 #[.int .i64 (i : Int), .int .i64 (j : Int), .pointer (some ⟨B1, 0, none⟩), .pointer (some ⟨B2, 0, none⟩)] w fun e w' => ∃ g d, e = .returned (.pointer (some ⟨g, 0, none⟩)) ∧ PP w' g d ∧ Kept 0 0 w w' := by
  go_enter Tryz.func262, Tryz.ntmps262
  go_wp2_with fail
  have kd := (Kept.refl 0 0 w).drew
  replace c0 := kd.cell0 c0
  replace c1 := kd.cell0 c1
  replace d0 := kd.cell0 d0
  replace d1 := kd.cell0 d1
  have KD := hide kd
  clear kd
  refine wp_region_held_drew (S := (fun w' => w'.cell? ⟨B1, 0, none⟩ = some (.slice (some ⟨R1, 0, none⟩) n n) ∧ w'.cell? ⟨R1, i, none⟩ = some (.slice (some ⟨r1, 0, none⟩) n n) ∧ w'.cell? ⟨B2, 0, none⟩ = some (.slice (some ⟨R2, 0, none⟩) n n) ∧ w'.cell? ⟨R2, j, none⟩ = some (.slice (some ⟨r2, 0, none⟩) n n))) (by kernel_rfl) ?_ (fun hHeld => ?_)
  · exact ⟨c0, c1, d0, d1⟩
  refine wpAnyH_take (i := 0) (oi := _) (v := .pointer (some ⟨B1, 0, none⟩)) rfl (by kernel_rfl) (by kernel_rfl) (by kernel_rfl) (fun _ _ _ h => h) (Or.inl ⟨by rfl, ?_⟩) hHeld ?_
  · intro wq hSw
    try dsimp only at hSw
    go_simp
  try simp only [Act.put, List.getElem_toArray, List.getElem_cons_succ, List.getElem_cons_zero, List.setIfInBounds_toArray, List.set_cons_zero, List.set_cons_succ]
  refine wpAnyH_take (i := 1) (oi := _) (v := .slice (some ⟨R1, 0, none⟩) n n) rfl (by kernel_rfl) (by kernel_rfl) (by kernel_rfl) (fun _ _ _ h => h) (Or.inl ⟨by rfl, ?_⟩) hHeld ?_
  · intro wq hSw
    try dsimp only at hSw
    go_simp
  try simp only [Act.put, List.getElem_toArray, List.getElem_cons_succ, List.getElem_cons_zero, List.setIfInBounds_toArray, List.set_cons_zero, List.set_cons_succ]
  refine wpAnyH_take (i := 2) (oi := _) (v := .int .i64 (i : Int)) rfl (by kernel_rfl) (by kernel_rfl) (by kernel_rfl) (fun _ _ _ h => h) (Or.inl ⟨by rfl, ?_⟩) hHeld ?_
  · intro wq hSw
    try dsimp only at hSw
    go_simp
  try simp only [Act.put, List.getElem_toArray, List.getElem_cons_succ, List.getElem_cons_zero, List.setIfInBounds_toArray, List.set_cons_zero, List.set_cons_succ]
  refine wpAnyH_take (i := 3) (oi := _) (v := .pointer (some ⟨R1, i, none⟩)) rfl (by kernel_rfl) (by kernel_rfl) (by kernel_rfl) (fun _ _ _ h => h) (Or.inl ⟨by rfl, ?_⟩) hHeld ?_
  · intro wq hSw
    try dsimp only at hSw
    go_simp
  try simp only [Act.put, List.getElem_toArray, List.getElem_cons_succ, List.getElem_cons_zero, List.setIfInBounds_toArray, List.set_cons_zero, List.set_cons_succ]
  refine wpAnyH_take (i := 4) (oi := _) (v := .slice (some ⟨r1, 0, none⟩) n n) rfl (by kernel_rfl) (by kernel_rfl) (by kernel_rfl) (fun _ _ _ h => h) (Or.inl ⟨by rfl, ?_⟩) hHeld ?_
  · intro wq hSw
    try dsimp only at hSw
    go_simp
  try simp only [Act.put, List.getElem_toArray, List.getElem_cons_succ, List.getElem_cons_zero, List.setIfInBounds_toArray, List.set_cons_zero, List.set_cons_succ]
  refine wpAnyH_take (i := 5) (oi := _) (v := .slice (some ⟨R2, 0, none⟩) n n) rfl (by kernel_rfl) (by kernel_rfl) (by kernel_rfl) (fun _ _ _ h => h) (Or.inl ⟨by rfl, ?_⟩) hHeld ?_
  · intro wq hSw
    try dsimp only at hSw
    go_simp
  try simp only [Act.put, List.getElem_toArray, List.getElem_cons_succ, List.getElem_cons_zero, List.setIfInBounds_toArray, List.set_cons_zero, List.set_cons_succ]
  refine wpAnyH_take (i := 6) (oi := _) (v := .int .i64 (j : Int)) rfl (by kernel_rfl) (by kernel_rfl) (by kernel_rfl) (fun _ _ _ h => h) (Or.inl ⟨by rfl, ?_⟩) hHeld ?_
  · intro wq hSw
    try dsimp only at hSw
    go_simp
  try simp only [Act.put, List.getElem_toArray, List.getElem_cons_succ, List.getElem_cons_zero, List.setIfInBounds_toArray, List.set_cons_zero, List.set_cons_succ]
  refine wpAnyH_take (i := 7) (oi := _) (v := .pointer (some ⟨R2, j, none⟩)) rfl (by kernel_rfl) (by kernel_rfl) (by kernel_rfl) (fun _ _ _ h => h) (Or.inl ⟨by rfl, ?_⟩) hHeld ?_
  · intro wq hSw
    try dsimp only at hSw
    go_simp
  try simp only [Act.put, List.getElem_toArray, List.getElem_cons_succ, List.getElem_cons_zero, List.setIfInBounds_toArray, List.set_cons_zero, List.set_cons_succ]
  refine wpAnyH_take (i := 8) (oi := _) (v := .slice (some ⟨r2, 0, none⟩) n n) rfl (by kernel_rfl) (by kernel_rfl) (by kernel_rfl) (fun _ _ _ h => h) (Or.inl ⟨by rfl, ?_⟩) hHeld ?_
  · intro wq hSw
    try dsimp only at hSw
    go_simp
  try simp only [Act.put, List.getElem_toArray, List.getElem_cons_succ, List.getElem_cons_zero, List.setIfInBounds_toArray, List.set_cons_zero, List.set_cons_succ]
  refine wpAnyH_ready (rs := [9]) (by kernel_rfl) (by simp) ?_
  refine AllReadyH.cons rfl (fun KK hK => ?_) AllReadyH.nil
  simp only [List.getElem_toArray, List.getElem_cons_succ, List.getElem_cons_zero]
  rw [if_pos (by rfl)]
  refine wps2 263 (.tmp 11) (.tmp 15) _ rfl in_dot (.slice (some ⟨r1, 0, none⟩) n n) (.slice (some ⟨r2, 0, none⟩) n n) rfl rfl hc ?_
  rintro e w1 ⟨g, d, rfl, pp, k1⟩
  refine ⟨_, rfl, ?_⟩
  replace c0 := k1.cell0 c0
  replace c1 := k1.cell0 c1
  replace d0 := k1.cell0 d0
  replace d1 := k1.cell0 d1
  have K1 := hide ((unhide KD).trans k1)
  have PQ := hide pp
  clear hc k1 pp
  clear hHeld
  refine hK.out _ _ ?_ (fun hHeld => ?_)
  · exact ⟨c0, c1, d0, d1⟩
  clear hK KK
  try simp only [Act.put, List.getElem_toArray, List.getElem_cons_succ, List.getElem_cons_zero, List.setIfInBounds_toArray, List.set_cons_zero, List.set_cons_succ]
  refine wpAnyH_take (i := 10) (oi := _) (v := .pointer (some ⟨g, 0, none⟩)) rfl (by kernel_rfl) (by kernel_rfl) (by kernel_rfl) (fun _ _ _ h => h) (Or.inl ⟨by rfl, ?_⟩) hHeld ?_
  · intro wq hSw
    try dsimp only at hSw
    go_simp
  try simp only [Act.put, List.getElem_toArray, List.getElem_cons_succ, List.getElem_cons_zero, List.setIfInBounds_toArray, List.set_cons_zero, List.set_cons_succ]
  refine wpAnyH_done (by kernel_rfl) ?_ _
  clear hHeld c0 c1 d0 d1
  go_wp2_with fail
  go_ret
  exact ⟨g, d, rfl, unhide PQ, unhide K1⟩

/-- What a product's number is worth. -/
def mulW (n : Nat) (V1 V2 : Nat → Int) (p : Nat) : Int := psum (fun q => V1 (p / n * n + q) * V2 (q * n + p % n)) n

set_option maxHeartbeats 16000000 in
theorem timesS_impl {S1 S2 : Nat → Prop} {R1 R2 n b1 b2 : Nat} {G1 G2 : Nat → Nat} {F1 F2 : Nat → DE} {L1 L2 : Int} {V1 V2 : Nat → Int} (w : World) (h0 : 0 < n) (hn : n ≤ 1000) (hL1 : -20000 ≤ L1) (hL2 : -20000 ≤ L2) (s1 : SqG S1 w R1 n n G1) (m1 : Nums b1 S1 w (n * n) G1 F1) (s2 : SqG S2 w R2 n n G2) (m2 : Nums b2 S2 w (n * n) G2 F2) (h1 : ∀ p, p < n * n → NV L1 (V1 p) (F1 p) ∧ (F1 p).2.2 ≤ 20000) (h2 : ∀ p, p < n * n → NV L2 (V2 p) (F2 p) ∧ (F2 p).2.2 ≤ 20000) (hs : ∀ p q, p < n * n → q < n * n → (V1 p * V2 q).natAbs < 2 ^ AA) (hs2 : ∀ i j m, i < n → j < n → m ≤ n → (psum (fun q => V1 (i * n + q) * V2 (q * n + j)) m).natAbs < 2 ^ AA) :
    Calls Tryz.prog 260 #[.agg #[.slice (some ⟨R1, 0, none⟩) n n], .agg #[.slice (some ⟨R2, 0, none⟩) n n]] w fun e w' => ∃ R G S F, e = .returned (.agg #[.slice (some ⟨R, 0, none⟩) n n]) ∧ SqG S w' R n n G ∧ Nums w.heap.size S w' (n * n) G F ∧ (∀ p, p < n * n → NV (L1 + L2) (mulW n V1 V2 p) (F p)) ∧ (∀ x, S x → w.heap.size ≤ x ∧ x < w'.heap.size) ∧ Kept 0 0 w w' := by
  obtain ⟨W, hW⟩ : ∃ W, W = ((w.alloc (.cells #[.slice (some ⟨R1, 0, none⟩) n n] 113)).alloc (.cells #[.slice (some ⟨R2, 0, none⟩) n n] 113)).alloc (.cells #[.slice none 0 0] 113) := ⟨_, rfl⟩
  have k0 : Kept 0 0 w W := by rw [hW]; exact (((Kept.refl 0 0 w).alloc _).alloc _).alloc _
  have c0 : W.cell? ⟨w.heap.size, 0, none⟩ = some (.slice (some ⟨R1, 0, none⟩) n n) := by rw [hW]; exact old_cell _ (old_cell _ (new_cell2 _ _ _ _ _ _ (by simp) rfl))
  have d0 : W.cell? ⟨w.heap.size + 1, 0, none⟩ = some (.slice (some ⟨R2, 0, none⟩) n n) := by rw [hW]; exact old_cell _ (new_cell2 _ _ _ _ _ _ (by simp) rfl)
  have q0 : W.cell? ⟨w.heap.size + 2, 0, none⟩ = some (.slice none 0 0) := by rw [hW]; exact new_cell2 _ _ _ _ _ _ (by simp) rfl
  have qf : W.frozen? ⟨w.heap.size + 2, 0, none⟩ = false := by rw [hW]; exact new_loose2 _ _ _ _ _ (by simp)
  have sW : W.heap.size = w.heap.size + 3 := by rw [hW]; simp
  have htu := turned_impl W hn (s2.kept k0) (Nums.mod m2 k0.toMod)
  rw [hW] at htu
  have SW := hide sW
  have K0 := hide k0
  have SQ1 := hide s1
  have NM1 := hide m1
  have H1 := hide h1
  have H2 := hide h2
  have HS := hide hs
  have HS2 := hide hs2
  clear s1 m1 s2 m2 h1 h2 hs hs2 sW k0
  go_enter Tryz.func260, Tryz.ntmps260
  go_wp2_with fail
  refine htu.mono ?_
  rw [← hW]
  rintro e w1 ⟨RT, GT, ST, rfl, sqT, nmT, hST, k1⟩
  clear htu hW
  have kB := (Kept.refl 0 0 w1).alloc (.cells #[.slice (some ⟨RT, 0, none⟩) n n] 111)
  have kk := k1.trans kB
  have b0 : (w1.alloc (.cells #[.slice (some ⟨RT, 0, none⟩) n n] 111)).cell? ⟨w1.heap.size, 0, none⟩ = some (.slice (some ⟨RT, 0, none⟩) n n) := new_cell2 _ _ _ _ _ _ rfl rfl
  have C0 := kk.cell0 c0
  have Q0 := kk.cell0 q0
  have QF := kk.loose0 (World.block_lt_of_cell? _ _ q0) qf
  have kw := (unhide K0).trans kk
  have sqT2 := sqT.kept kB
  have nmT2 := Nums.mod nmT (kB.toMod)
  have hm := makeSquare_newQ (n := n) hn 262 in_times1 #[.pointer (some ⟨w.heap.size, 0, none⟩), .pointer (some ⟨w1.heap.size, 0, none⟩)] (fun p d => NV (L1 + L2) (mulW n V1 V2 p) d) (w1.alloc (.cells #[.slice (some ⟨RT, 0, none⟩) n n] 111)) (fun i j w' hi hj k => by
    have kwd : Kept 0 0 w w'.drew := (kw.trans k).drew
    have kd : Kept 0 0 (w1.alloc (.cells #[.slice (some ⟨RT, 0, none⟩) n n] 111)) w'.drew := k.drew
    obtain ⟨r1, cr1, -, -, -, q1⟩ := (unhide SQ1).2.2 i hi
    obtain ⟨r2, cr2, -, -, -, q2⟩ := sqT2.2.2 j hj
    have hc := dot_impl (L1 := L1) (L2 := L2) (A := fun q => G1 (i * n + q)) (B := fun q => GT (j * n + q)) (Fa := fun q => F1 (i * n + q)) (Fb := fun q => F2 (turP n (j * n + q))) (Va := fun q => V1 (i * n + q)) (Vb := fun q => V2 (q * n + j)) w'.drew hL1 hL2 h0 hn (fun q hq => kwd.cell0 (q1 q hq)) (fun q hq => kd.cell0 (q2 q hq))
      (fun q hq => by
        obtain ⟨u, nn, dd, ee⟩ := (unhide NM1).at (place_lt hi hq)
        exact ⟨⟨u, nn.kept kwd, ⟨kwd.cell0 dd.1, kwd.loose0 (a := ⟨G1 (i * n + q), 1, none⟩) nn.lt dd.2⟩, ⟨kwd.cell0 ee.1, kwd.loose0 (a := ⟨G1 (i * n + q), 2, none⟩) nn.lt ee.2⟩⟩, unhide H1 _ (place_lt hi hq)⟩)
      (fun q hq => by
        obtain ⟨u, nn, dd, ee⟩ := nmT2.at (place_lt hj hq)
        refine ⟨⟨u, nn.kept kd, ⟨kd.cell0 dd.1, kd.loose0 (a := ⟨GT (j * n + q), 1, none⟩) nn.lt dd.2⟩, ⟨kd.cell0 ee.1, kd.loose0 (a := ⟨GT (j * n + q), 2, none⟩) nn.lt ee.2⟩⟩, ?_⟩
        rw [turP_at j hq]
        exact unhide H2 _ (place_lt hq hj))
      (fun q hq => unhide HS _ _ (place_lt hi hq) (place_lt hq hj)) (fun q hq => unhide HS2 i j q hi hj hq)
    have ew : mulW n V1 V2 (i * n + j) = psum (fun q => V1 (i * n + q) * V2 (q * n + j)) n := by
      unfold mulW
      rw [Nat.mul_comm i n, Nat.mul_add_mod, Nat.mod_eq_of_lt hj, Nat.mul_add_div (by omega), Nat.div_eq_of_lt hj, Nat.add_zero, Nat.mul_comm n i]
    refine (times1_impl (PP := fun w'' g d => DyP (fun y => y < w'.heap.size) w'' g d ∧ NV (L1 + L2) (mulW n V1 V2 (i * n + j)) d) (B1 := w.heap.size) (B2 := w1.heap.size) w' hi hj (k.cell0 C0) ((kw.trans k).cell0 cr1) (k.cell0 b0) (k.cell0 cr2) (hc.mono ?_)).mono ?_
    · rintro e w'' ⟨g, d, rfl, dp, nv, k'⟩
      exact ⟨g, d, rfl, ⟨dp, by rw [ew]; exact nv⟩, k'⟩
    · rintro e w'' ⟨g, d, rfl, ⟨dp, nv⟩, k'⟩
      exact ⟨g, d, rfl, dp, nv, k'⟩)
  have hfl : (Instr.field 113 (.agg #[.slice (some ⟨RT, 0, none⟩) n n]) 0).run Tryz.prog w1 = .ok (.slice (some ⟨RT, 0, none⟩) n n) w1 := by kernel_rfl
  have sW := unhide SW
  have hz1 : w.heap.size + 3 ≤ (w1.alloc (.cells #[.slice (some ⟨RT, 0, none⟩) n n] 111)).heap.size := by have := kk.size; omega
  have HZ1 := hide hz1
  have KWW := hide kw
  clear k1 kB kk kw sqT sqT2 nmT nmT2 hST b0 c0 q0 qf d0 sW hz1 NM1 SQ1 H1 H2 HS HS2
  go_wp2_with fail
  refine hm.mono ?_
  rintro e w3 ⟨R, G, S, F, rfl, sq, nm, hq, hS, hR, k3⟩
  have q1 := k3.cell0 Q0
  have qf1 := k3.loose0 (World.block_lt_of_cell? _ _ Q0) QF
  have hz1 := unhide HZ1
  have E1 := cell_on w3 (w.heap.size + 2) 0 (.slice (some ⟨R, 0, none⟩) n n) _ q1
  have ks : Kept (w.heap.size + 2) (w.heap.size + 3) w3 (w3.setCell ⟨w.heap.size + 2, 0, none⟩ (.slice (some ⟨R, 0, none⟩) n n)) := (Kept.refl _ _ _).setCell (p := ⟨w.heap.size + 2, 0, none⟩) (Nat.le_refl _) (Nat.lt_succ_self _) _
  have S2 : Hid (SqG S (w3.setCell ⟨w.heap.size + 2, 0, none⟩ (.slice (some ⟨R, 0, none⟩) n n)) R n n G ∧ Nums w.heap.size S (w3.setCell ⟨w.heap.size + 2, 0, none⟩ (.slice (some ⟨R, 0, none⟩) n n)) (n * n) G F ∧ (∀ p, p < n * n → NV (L1 + L2) (mulW n V1 V2 p) (F p)) ∧ (∀ x, S x → w.heap.size ≤ x ∧ x < (w3.setCell ⟨w.heap.size + 2, 0, none⟩ (.slice (some ⟨R, 0, none⟩) n n)).heap.size)) :=
    ⟨sq.keptY ks (by omega), (nm.win ks (by omega)).less (by omega), hq, fun x hx => by (have := hS x hx; rw [size_set]; omega)⟩
  have K2 := hide (((unhide KWW).trans k3).wide ks (by omega))
  clear hm sq nm hq hS hR k3 ks hz1 Q0 QF C0
  go_wp2
  exact bodyPost_ret (v := .agg #[.slice (some ⟨R, 0, none⟩) n n]) (by simp [results, Tryz.results260, go_sem, E1]) rfl ⟨R, G, S, F, rfl, (unhide S2).1, (unhide S2).2.1, (unhide S2).2.2.1, (unhide S2).2.2.2, unhide K2⟩

end Go.Proofs.YthahoabkehcgbaaGreatDoor
