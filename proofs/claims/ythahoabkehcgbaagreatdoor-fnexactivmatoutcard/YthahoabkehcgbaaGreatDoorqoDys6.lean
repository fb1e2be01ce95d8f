/-
  A list that is being filled with numbers whose limbs may lie elsewhere: it is read, not written, later.
-/
import Derived.Test.YthahoabkehcgbaaGreatDoorqoDys4
import Derived.Test.YthahoabkehcgbaaGreatDoorqoDy7
import Derived.Deep.DeepCutAuto
import Derived.Deep.RegionHeld3
import Derived.Maps.AppendAt
import Derived.Test.YthahoabkehcgbaaGreatDoorqoBQ
import Derived.Test.YthahoabkehcgbaaGreatDoorqoBM
namespace Go.Proofs.YthahoabkehcgbaaGreatDoor
open Go.RowKit
set_option linter.unusedVariables false
set_option maxRecDepth 8000
set_option linter.unusedSimpArgs false

set_option maxHeartbeats 2000000 in
theorem own7_spec {bw : Bool} {lo hi : Nat} {v : Value} {zs : List Int} (s : Bool) (x : Int) (wn : WN s zs) (hl : zs.length ≤ 1000000) (w : World) (r : Row .i64 bw lo hi w v zs) :
    Calls Tryz.prog 88 #[.agg #[.bool s, v, .int .i64 x]] w fun e w' => ∃ v', e = .returned (.agg #[.bool s, v', .int .i64 x]) ∧ Row .i64 true w.heap.size w'.heap.size w' v' zs ∧ Kept 0 0 w w' := by
  have g1 : (s && decide (0 < zs.length)) = s := by
    cases s
    · rfl
    · rw [decide_eq_true (wn.2 rfl)]; rfl
  have g2 : limbs (val zs).toNat = zs := (nrm_limbs wn.1).symm
  have k0 : Kept 0 0 w ((w.alloc (.cells #[.bool s, v, .int .i64 x] 52)).alloc (.cells #[.bool false, .slice none 0 0, .int .i64 0] 52)) := (((Kept.refl 0 0 w).alloc (.cells #[.bool s, v, .int .i64 x] 52)).alloc (.cells #[.bool false, .slice none 0 0, .int .i64 0] 52))
  have p0 : ((w.alloc (.cells #[.bool s, v, .int .i64 x] 52)).alloc (.cells #[.bool false, .slice none 0 0, .int .i64 0] 52)).cell? ⟨w.heap.size, 0, none⟩ = some (.bool s) := old_cell _ (new_cell2 _ _ _ _ _ _ (by simp) rfl)
  have p1 : ((w.alloc (.cells #[.bool s, v, .int .i64 x] 52)).alloc (.cells #[.bool false, .slice none 0 0, .int .i64 0] 52)).cell? ⟨w.heap.size, 1, none⟩ = some (v) := old_cell _ (new_cell2 _ _ _ _ _ _ (by simp) rfl)
  have p2 : ((w.alloc (.cells #[.bool s, v, .int .i64 x] 52)).alloc (.cells #[.bool false, .slice none 0 0, .int .i64 0] 52)).cell? ⟨w.heap.size, 2, none⟩ = some (.int .i64 x) := old_cell _ (new_cell2 _ _ _ _ _ _ (by simp) rfl)
  have q0 : ((w.alloc (.cells #[.bool s, v, .int .i64 x] 52)).alloc (.cells #[.bool false, .slice none 0 0, .int .i64 0] 52)).cell? ⟨w.heap.size + 1, 0, none⟩ = some (.bool false) := new_cell2 _ _ _ _ _ _ (by simp) rfl
  have qf0 : ((w.alloc (.cells #[.bool s, v, .int .i64 x] 52)).alloc (.cells #[.bool false, .slice none 0 0, .int .i64 0] 52)).frozen? ⟨w.heap.size + 1, 0, none⟩ = false := new_loose2 _ _ _ _ _ (by simp)
  have q1 : ((w.alloc (.cells #[.bool s, v, .int .i64 x] 52)).alloc (.cells #[.bool false, .slice none 0 0, .int .i64 0] 52)).cell? ⟨w.heap.size + 1, 1, none⟩ = some (.slice none 0 0) := new_cell2 _ _ _ _ _ _ (by simp) rfl
  have qf1 : ((w.alloc (.cells #[.bool s, v, .int .i64 x] 52)).alloc (.cells #[.bool false, .slice none 0 0, .int .i64 0] 52)).frozen? ⟨w.heap.size + 1, 1, none⟩ = false := new_loose2 _ _ _ _ _ (by simp)
  have q2 : ((w.alloc (.cells #[.bool s, v, .int .i64 x] 52)).alloc (.cells #[.bool false, .slice none 0 0, .int .i64 0] 52)).cell? ⟨w.heap.size + 1, 2, none⟩ = some (.int .i64 0) := new_cell2 _ _ _ _ _ _ (by simp) rfl
  have qf2 : ((w.alloc (.cells #[.bool s, v, .int .i64 x] 52)).alloc (.cells #[.bool false, .slice none 0 0, .int .i64 0] 52)).frozen? ⟨w.heap.size + 1, 2, none⟩ = false := new_loose2 _ _ _ _ _ (by simp)
  replace r := r.kept k0 (by omega)
  have s0 : ((w.alloc (.cells #[.bool s, v, .int .i64 x] 52)).alloc (.cells #[.bool false, .slice none 0 0, .int .i64 0] 52)).heap.size = w.heap.size + 2 := by simp
  obtain ⟨a, c, hv⟩ := Row.form' r
  subst hv
  have K := hide (k0)
  clear k0
  have S0 := hide s0
  clear s0
  go_enter Tryz.func88, Tryz.ntmps88
  go_wp2_with fail
  generalize ((w.alloc (.cells #[.bool s, .slice a zs.length c, .int .i64 x] 52)).alloc (.cells #[.bool false, .slice none 0 0, .int .i64 0] 52)) = W at *
  have mk := fun w' r' => make_spec (bw := bw) (lo := lo) (hi := hi) (v := .slice a zs.length c) (zs := zs) s w' r' wn.1.1 hl
  rw [g1, g2] at mk
  clear g1 g2
  have kd := (Kept.refl 0 0 W).drew
  replace r := r.kept kd (.inr (.inr (Nat.le_refl 0)))
  replace qf0 := kd.loose0 (World.block_lt_of_cell? _ _ q0) qf0
  replace qf1 := kd.loose0 (World.block_lt_of_cell? _ _ q1) qf1
  replace qf2 := kd.loose0 (World.block_lt_of_cell? _ _ q2) qf2
  replace p0 := kd.cell0 p0
  replace p1 := kd.cell0 p1
  replace p2 := kd.cell0 p2
  replace q0 := kd.cell0 q0
  replace q1 := kd.cell0 q1
  replace q2 := kd.cell0 q2
  replace K := hide ((unhide K).trans kd)
  have z1 := kd.size
  clear kd
  refine wp_region_held_drew (S := (fun w' => w'.cell? ⟨w.heap.size, 0, none⟩ = some (.bool s) ∧ w'.cell? ⟨w.heap.size, 1, none⟩ = some (.slice a zs.length c) ∧ w'.cell? ⟨w.heap.size, 2, none⟩ = some (.int .i64 x))) (by kernel_rfl) ?_ (fun hHeld => ?_)
  · exact ⟨p0, p1, p2⟩
  refine wpAnyH_take (i := 0) (oi := _) (v := .pointer (some ⟨w.heap.size, 0, none⟩)) rfl (by kernel_rfl) (by kernel_rfl) (by kernel_rfl) (fun _ _ _ h => h) (Or.inl ⟨by rfl, ?_⟩) hHeld ?_
  · intro wq hSw
    try dsimp only at hSw
    go_simp
  try simp only [Act.put, List.getElem_toArray, List.getElem_cons_succ, List.getElem_cons_zero, List.setIfInBounds_toArray, List.set_cons_zero, List.set_cons_succ]
  refine wpAnyH_take (i := 1) (oi := _) (v := .pointer (some ⟨w.heap.size, 0, none⟩)) rfl (by kernel_rfl) (by kernel_rfl) (by kernel_rfl) (fun _ _ _ h => h) (Or.inl ⟨by rfl, ?_⟩) hHeld ?_
  · intro wq hSw
    try dsimp only at hSw
    go_simp
  try simp only [Act.put, List.getElem_toArray, List.getElem_cons_succ, List.getElem_cons_zero, List.setIfInBounds_toArray, List.set_cons_zero, List.set_cons_succ]
  refine wpAnyH_take (i := 2) (oi := _) (v := .bool s) rfl (by kernel_rfl) (by kernel_rfl) (by kernel_rfl) (fun _ _ _ h => h) (Or.inl ⟨by rfl, ?_⟩) hHeld ?_
  · intro wq hSw
    try dsimp only at hSw
    go_simp
  try simp only [Act.put, List.getElem_toArray, List.getElem_cons_succ, List.getElem_cons_zero, List.setIfInBounds_toArray, List.set_cons_zero, List.set_cons_succ]
  refine wpAnyH_take (i := 3) (oi := _) (v := .pointer (some ⟨w.heap.size, 0, none⟩)) rfl (by kernel_rfl) (by kernel_rfl) (by kernel_rfl) (fun _ _ _ h => h) (Or.inl ⟨by rfl, ?_⟩) hHeld ?_
  · intro wq hSw
    try dsimp only at hSw
    go_simp
  try simp only [Act.put, List.getElem_toArray, List.getElem_cons_succ, List.getElem_cons_zero, List.setIfInBounds_toArray, List.set_cons_zero, List.set_cons_succ]
  refine wpAnyH_take (i := 4) (oi := _) (v := .pointer (some ⟨w.heap.size, 1, none⟩)) rfl (by kernel_rfl) (by kernel_rfl) (by kernel_rfl) (fun _ _ _ h => h) (Or.inl ⟨by rfl, ?_⟩) hHeld ?_
  · intro wq hSw
    try dsimp only at hSw
    go_simp
  try simp only [Act.put, List.getElem_toArray, List.getElem_cons_succ, List.getElem_cons_zero, List.setIfInBounds_toArray, List.set_cons_zero, List.set_cons_succ]
  refine wpAnyH_take (i := 5) (oi := _) (v := .agg #[.slice a zs.length c]) rfl (by kernel_rfl) (by kernel_rfl) (by kernel_rfl) (fun _ _ _ h => h) (Or.inl ⟨by rfl, ?_⟩) hHeld ?_
  · intro wq hSw
    try dsimp only at hSw
    go_simp
  try simp only [Act.put, List.getElem_toArray, List.getElem_cons_succ, List.getElem_cons_zero, List.setIfInBounds_toArray, List.set_cons_zero, List.set_cons_succ]
  refine wpAnyH_take (i := 7) (oi := _) (v := .pointer (some ⟨w.heap.size, 2, none⟩)) rfl (by kernel_rfl) (by kernel_rfl) (by kernel_rfl) (fun _ _ _ h => h) (Or.inl ⟨by rfl, ?_⟩) hHeld ?_
  · intro wq hSw
    try dsimp only at hSw
    go_simp
  try simp only [Act.put, List.getElem_toArray, List.getElem_cons_succ, List.getElem_cons_zero, List.setIfInBounds_toArray, List.set_cons_zero, List.set_cons_succ]
  refine wpAnyH_take (i := 8) (oi := _) (v := .int .i64 x) rfl (by kernel_rfl) (by kernel_rfl) (by kernel_rfl) (fun _ _ _ h => h) (Or.inl ⟨by rfl, ?_⟩) hHeld ?_
  · intro wq hSw
    try dsimp only at hSw
    go_simp
  try simp only [Act.put, List.getElem_toArray, List.getElem_cons_succ, List.getElem_cons_zero, List.setIfInBounds_toArray, List.set_cons_zero, List.set_cons_succ]
  refine wpAnyH_ready (rs := [6]) (by kernel_rfl) (by simp) ?_
  refine AllReadyH.cons rfl (fun KK hK => ?_) AllReadyH.nil
  simp only [List.getElem_toArray, List.getElem_cons_succ, List.getElem_cons_zero]
  rw [if_pos (by rfl)]
  refine wps2 152 (.tmp 5) (.tmp 8) _ rfl in_l3make (.bool s) (.agg #[.slice a zs.length c]) rfl rfl (mk _ r) ?_
  rintro e w2 ⟨v6, rfl, r6, k2⟩
  refine ⟨_, rfl, ?_⟩
  replace r := r.kept k2 (.inr (.inr (Nat.le_refl 0)))
  replace qf0 := k2.loose0 (World.block_lt_of_cell? _ _ q0) qf0
  replace qf1 := k2.loose0 (World.block_lt_of_cell? _ _ q1) qf1
  replace qf2 := k2.loose0 (World.block_lt_of_cell? _ _ q2) qf2
  replace p0 := k2.cell0 p0
  replace p1 := k2.cell0 p1
  replace p2 := k2.cell0 p2
  replace q0 := k2.cell0 q0
  replace q1 := k2.cell0 q1
  replace q2 := k2.cell0 q2
  replace K := hide ((unhide K).trans k2)
  have z3 := k2.size
  clear k2
  clear hHeld
  refine hK.out _ _ ?_ (fun hHeld => ?_)
  · exact ⟨p0, p1, p2⟩
  clear hK KK
  try simp only [Act.put, List.getElem_toArray, List.getElem_cons_succ, List.getElem_cons_zero, List.setIfInBounds_toArray, List.set_cons_zero, List.set_cons_succ]
  obtain ⟨a6, c6, hv⟩ := Row.form' r6
  subst hv
  refine wpAnyH_take (i := 9) (oi := _) (v := .agg #[.bool s, .slice a6 zs.length c6, .int .i64 x]) rfl (by kernel_rfl) (by kernel_rfl) (by kernel_rfl) (fun _ _ _ h => h) (Or.inl ⟨by rfl, ?_⟩) hHeld ?_
  · intro wq hSw
    try dsimp only at hSw
    go_simp
  try simp only [Act.put, List.getElem_toArray, List.getElem_cons_succ, List.getElem_cons_zero, List.setIfInBounds_toArray, List.set_cons_zero, List.set_cons_succ]
  refine wpAnyH_ready (rs := [10]) (by kernel_rfl) (by simp) ?_
  refine AllReadyH.cons rfl (fun KK hK => ?_) AllReadyH.nil
  simp only [List.getElem_toArray, List.getElem_cons_succ, List.getElem_cons_zero]
  rw [if_pos (by rfl)]
  go_simp
  clear hHeld
  refine hK.out _ _ ?_ (fun hHeld => ?_)
  · exact ⟨(cell_aside _ (by have := unhide S0; dsimp only; omega) (cell_aside _ (by have := unhide S0; dsimp only; omega) (cell_aside _ (by have := unhide S0; dsimp only; omega) p0))), (cell_aside _ (by have := unhide S0; dsimp only; omega) (cell_aside _ (by have := unhide S0; dsimp only; omega) (cell_aside _ (by have := unhide S0; dsimp only; omega) p1))), (cell_aside _ (by have := unhide S0; dsimp only; omega) (cell_aside _ (by have := unhide S0; dsimp only; omega) (cell_aside _ (by have := unhide S0; dsimp only; omega) p2)))⟩
  clear hK KK
  try simp only [Act.put, List.getElem_toArray, List.getElem_cons_succ, List.getElem_cons_zero, List.setIfInBounds_toArray, List.set_cons_zero, List.set_cons_succ]
  refine wpAnyH_done (by kernel_rfl) ?_ _
  clear hHeld
  clear mk
  have R := hide ((((r6.set_other (p := ⟨w.heap.size + 1, 0, none⟩) (.inl (by have := unhide S0; dsimp only; omega)) (.bool s)).set_other (p := ⟨w.heap.size + 1, 1, none⟩) (.inl (by have := unhide S0; dsimp only; omega)) (.slice a6 zs.length c6)).set_other (p := ⟨w.heap.size + 1, 2, none⟩) (.inl (by have := unhide S0; dsimp only; omega)) (.int .i64 x)).tight.wider (lo' := w.heap.size) (by have := unhide S0; omega) (Nat.le_refl _))
  have K7 := hide ((((unhide K).setNew (p := ⟨w.heap.size + 1, 0, none⟩) (by simp) (.bool s)).setNew (p := ⟨w.heap.size + 1, 1, none⟩) (by simp) (.slice a6 zs.length c6)).setNew (p := ⟨w.heap.size + 1, 2, none⟩) (by simp) (.int .i64 x))
  clear r r6 K 
  go_wp2_with fail
  exact bodyPost_ret (v := .agg #[.bool s, .slice a6 zs.length c6, .int .i64 x]) (by simp [results, Tryz.results88, go_sem, q0, q1, q2]) rfl ⟨_, rfl, unhide R, unhide K7⟩

theorem in_l7own : ∀ (w : World) (args : Array Value), (callFunc 88 args).run Tryz.prog w = .ok (.enter 88 args) w := enters Tryz.func88 (by decide) (fun h => by cases h)

end Go.Proofs.YthahoabkehcgbaaGreatDoor

namespace Go.Proofs.YthahoabkehcgbaaGreatDoor
open Go.RowKit
set_option linter.unusedVariables false
set_option maxRecDepth 8000
set_option linter.unusedSimpArgs false

/-- The list v has got the numbers f 0 .. f (k - 1). -/
def AccD (lo : Nat) (w : World) (v : Value) (k : Nat) (f : Nat → DE) : Prop :=
  ∃ (us : Nat → Value) (b : Nat → Nat) (xs : List Value), w.ownsRow lo 52 3 v k xs ∧
    (∀ i, i < k → xs[i * 3]? = some (.bool (f i).1) ∧ xs[i * 3 + 1]? = some (us i) ∧ xs[i * 3 + 2]? = some (.int .i64 (f i).2.2)) ∧
    (∀ i, i < k → ((f i).2.1 ≠ [] → lo ≤ b i ∧ b i < w.heap.size ∧ v.ownBlock ≠ some (b i)) ∧ Row .i64 true (b i) (b i + 1) w (us i) (f i).2.1) ∧
    ∀ i j, i < j → j < k → (f i).2.1 ≠ [] → (f j).2.1 ≠ [] → b i < b j

theorem AccD.nil (lo : Nat) (w : World) (f : Nat → DE) : AccD lo w (.slice none 0 0) 0 f :=
  ⟨fun _ => undef, fun _ => 0, [], ⟨rfl, .inl ⟨rfl, rfl⟩⟩, fun i hi => by omega, fun i hi => by omega, fun i j h1 h2 => by omega⟩
theorem AccD.kept {lo : Nat} {w w' : World} {v : Value} {k : Nat} {f : Nat → DE} (h : AccD lo w v k f) (q : Kept 0 0 w w') : AccD lo w' v k f := by
  obtain ⟨us, b, xs, ho, hx, hr, hm⟩ := h
  have hs := q.size
  refine ⟨us, b, xs, ho.kept q.toGrown (by cases v.ownBlock <;> simp), hx, fun i hi => ?_, hm⟩
  obtain ⟨q1, q2⟩ := hr i hi
  exact ⟨fun e => by have := q1 e; exact ⟨this.1, by omega, this.2.2⟩, q2.kept q (by omega)⟩
theorem AccD.form {lo : Nat} {w : World} {v : Value} {k : Nat} {f : Nat → DE} (h : AccD lo w v k f) : ∃ a c, v = .slice a k c := by
  obtain ⟨us, b, xs, ho, -⟩ := h
  rcases ho.2 with ⟨rfl, rfl⟩ | ⟨g, cap, cur, hv, _⟩
  · exact ⟨none, 0, rfl⟩
  · exact ⟨_, cap, hv⟩
theorem AccD.snoc {lo : Nat} {w0 w w2 : World} {v v2 : Value} {k : Nat} {f : Nat → DE} {s : Bool} {u : Value} {y : Int} {z : List Int} {us : Nat → Value} {b : Nat → Nat} {xs : List Value}
    (hx : ∀ i, i < k → xs[i * 3]? = some (.bool (f i).1) ∧ xs[i * 3 + 1]? = some (us i) ∧ xs[i * 3 + 2]? = some (.int .i64 (f i).2.2)) (hl : xs.length = k * 3)
    (hr : ∀ i, i < k → ((f i).2.1 ≠ [] → lo ≤ b i ∧ b i < w0.heap.size ∧ v.ownBlock ≠ some (b i)) ∧ Row .i64 true (b i) (b i + 1) w (us i) (f i).2.1)
    (hm : ∀ i j, i < j → j < k → (f i).2.1 ≠ [] → (f j).2.1 ≠ [] → b i < b j) (hv0 : ∀ i, v.ownBlock = some i → i < w0.heap.size) (hlo : lo ≤ w0.heap.size) (hs : w0.heap.size ≤ w.heap.size)
    (hu : Row .i64 true w0.heap.size w.heap.size w u z) (ho : w2.ownsRow lo 52 3 v2 (k + 1) (xs ++ [.bool s, u, .int .i64 y])) (hg : w.grownBy w2 v.ownBlock) (hb : v2.ownBlock = v.ownBlock ∨ v2.ownBlock = some w.heap.size) :
    AccD lo w2 v2 (k + 1) (upE f k (s, z, y)) := by
  obtain ⟨q, hq1, hq⟩ := hu.block1
  have hsz := hg.size
  have kk : ∀ r, v.ownBlock ≠ some r → r < w.heap.size → w2.heap[r]? = w.heap[r]? := fun r h1 h2 => hg.block r h2 (fun e => h1 e.symm)
  have rowK : ∀ {r : Nat} {u' : Value} {z' : List Int}, Row .i64 true r (r + 1) w u' z' → (z' ≠ [] → v.ownBlock ≠ some r) → Row .i64 true r (r + 1) w2 u' z' := fun {r u' z'} h1 h2 => by
    by_cases e : z' = []
    · exact h1.none e
    · have hne := h2 e
      cases hv : v.ownBlock with
      | none => exact h1.kept (l := 0) (h := 0) ⟨hg.os, hg.tape, hg.output, hg.size, fun i hi _ => hg.block i hi (by rw [hv]; simp)⟩ (by omega)
      | some t =>
        rw [hv] at hne
        have hne' : t ≠ r := fun e => hne (by rw [e])
        exact h1.kept (l := t) (h := t + 1) ⟨hg.os, hg.tape, hg.output, hg.size, fun i hi ho => hg.block i hi (by rw [hv]; intro e; cases e; omega)⟩ (by omega)
  refine ⟨fun i => if i = k then u else us i, fun i => if i = k then q else b i, _, ho, fun i hi => ?_, fun i hi => ?_, fun i j h1 h2 e1 e2 => ?_⟩
  · dsimp only
    by_cases e : i = k
    · subst e
      rw [upE_same, if_pos rfl]
      refine ⟨?_, ?_, ?_⟩
      · rw [List.getElem?_append_right (by omega), show i * 3 - xs.length = 0 by omega]; rfl
      · rw [List.getElem?_append_right (by omega), show i * 3 + 1 - xs.length = 1 by omega]; rfl
      · rw [List.getElem?_append_right (by omega), show i * 3 + 2 - xs.length = 2 by omega]; rfl
    · rw [upE_other _ _ e, if_neg e]
      obtain ⟨a1, a2, a3⟩ := hx i (by omega)
      exact ⟨by rw [List.getElem?_append_left (by omega)]; exact a1, by rw [List.getElem?_append_left (by omega)]; exact a2, by rw [List.getElem?_append_left (by omega)]; exact a3⟩
  · dsimp only
    by_cases e : i = k
    · subst e
      rw [upE_same, if_pos rfl, if_pos rfl]
      refine ⟨fun e => ?_, rowK hq (fun e h => by have := hq1 e; have := hv0 _ h; omega)⟩
      have h3 := hq1 e
      refine ⟨by omega, by omega, ?_⟩
      rcases hb with h | h
      · rw [h]; intro e4; have := hv0 _ e4; omega
      · rw [h]; intro e4; have := Option.some.inj e4; omega
    · rw [upE_other _ _ e, if_neg e, if_neg e]
      obtain ⟨q1, q2⟩ := hr i (by omega)
      refine ⟨fun e => ?_, rowK q2 (fun e => (q1 e).2.2)⟩
      have h3 := q1 e
      refine ⟨h3.1, by omega, ?_⟩
      rcases hb with h | h
      · rw [h]; exact h3.2.2
      · rw [h]; intro e4; have := Option.some.inj e4; omega
  · dsimp only
    have hik : i ≠ k := by omega
    rw [if_neg hik]
    rw [upE_other _ _ hik] at e1
    by_cases e : j = k
    · subst e
      rw [if_pos rfl]
      rw [upE_same] at e2
      have := ((hr i (by omega)).1 e1).2.1
      have := hq1 e2
      omega
    · rw [if_neg e]
      rw [upE_other _ _ e] at e2
      exact hm i j h1 (by omega) e1 e2
theorem AccD.done {lo : Nat} {w : World} {v : Value} {ds : List DE} {f : Nat → DE} (h : AccD lo w v ds.length f) (hf : ∀ i, i < ds.length → f i = ds.getD i de0) : DysO lo w.heap.size w v ds := by
  obtain ⟨us, b, xs, ho, hx, hr, hm⟩ := h
  rcases ho.2 with ⟨rfl, h0⟩ | ⟨g, cap, cur, rfl, hb, hg, hle, hmm, hs, htake⟩
  · exact ⟨none, 0, by rw [h0], by omega, Nat.zero_le _, fun hne => absurd (List.length_eq_zero_iff.1 h0) hne⟩
  · have hcell : ∀ i u, xs[i]? = some u → w.cell? ⟨g, i, none⟩ = some u := fun i u hi => by
      have hlt : i < xs.length := (List.getElem?_eq_some_iff.1 hi).1
      rw [ho.1] at hlt
      rw [← htake, List.getElem?_take, if_pos hlt] at hi
      simpa [World.cell?, hg] using hi
    refine ⟨_, cap, rfl, hle, hmm, fun _ => ⟨g, 0, b, rfl, hb, (Array.getElem?_eq_some_iff.1 hg).1, (Array.getElem?_eq_some_iff.1 hg).1, fun i hi => ?_, fun k hk => by simp [World.frozen?, hg], fun i j h1 h2 e1 e2 => by
      have := hm i j h1 h2 (by rw [hf i (by omega)]; exact e1) (by rw [hf j h2]; exact e2); omega⟩⟩
    obtain ⟨a1, a2, a3⟩ := hx i hi
    obtain ⟨q1, q2⟩ := hr i hi
    rw [hf i hi] at a1 a3 q1 q2
    refine ⟨fun e => ?_, us i, by rw [Nat.zero_add]; exact hcell _ _ a1, by rw [Nat.zero_add]; exact hcell _ _ a2, by rw [Nat.zero_add]; exact hcell _ _ a3, q2⟩
    obtain ⟨p1, p2, p3⟩ := q1 e
    exact ⟨p1, p2, fun e => p3 (by rw [e]; rfl)⟩

theorem Kept.looseOut {lo hi : Nat} {W w' : World} (k : Kept lo hi W w') {a : Addr} (ho : a.block < lo ∨ hi ≤ a.block) (hb : a.block < W.heap.size) (h : W.frozen? a = false) : w'.frozen? a = false :=
  (World.frozen?_of_block (k.block _ hb ho)).trans h
theorem AccD.stored {lo x p : Nat} {w : World} {u v : Value} {k : Nat} {f : Nat → DE} (h : AccD lo w v k f) (hx : x < lo) : AccD lo (w.setCell ⟨x, p, none⟩ u) v k f := by
  obtain ⟨us, b, xs, ho, hxx, hr, hm⟩ := h
  have kx : Kept x (x + 1) w (w.setCell ⟨x, p, none⟩ u) := (Kept.refl _ _ _).setCell (p := ⟨x, p, none⟩) (Nat.le_refl _) (Nat.lt_succ_self _) _
  refine ⟨us, b, xs, ⟨ho.1, ?_⟩, hxx, fun i hi => ?_, hm⟩
  · rcases ho.2 with hn | ⟨g, cap, cur, rfl, hb, hg, rest⟩
    · exact .inl hn
    · exact .inr ⟨g, cap, cur, rfl, hb, (kx.block g (Array.getElem?_eq_some_iff.1 hg).1 (by omega)).trans hg, rest⟩
  · obtain ⟨q1, q2⟩ := hr i hi
    refine ⟨fun e => by have := q1 e; rw [size_set]; exact this, ?_⟩
    by_cases e : (f i).2.1 = []
    · exact q2.none e
    · have := (q1 e).1
      exact q2.kept kx (by omega)

/-- Each number is in its one form, of whatever length. -/
def AllWN (ds : List DE) : Prop := ∀ i, i < ds.length → WN (ds.getD i de0).1 (ds.getD i de0).2.1 ∧ (ds.getD i de0).2.1.length ≤ 1000000

end Go.Proofs.YthahoabkehcgbaaGreatDoor

namespace Go.Proofs.YthahoabkehcgbaaGreatDoor
open Go.RowKit
set_option linter.unusedVariables false
set_option maxRecDepth 8000
set_option linter.unusedSimpArgs false

end Go.Proofs.YthahoabkehcgbaaGreatDoor

namespace Go.Proofs.YthahoabkehcgbaaGreatDoor
open Go.RowKit
set_option linter.unusedVariables false
set_option maxRecDepth 8000
set_option linter.unusedSimpArgs false

/-- So many products in a list of the call's own. -/
def Prods (b : Nat) (L : Int) (V : Nat → Int) (w : World) (v : Value) (i : Nat) (P : Nat → Nat) : Prop :=
  w.ownsRow b 77 1 v i (ptrs P i) ∧ ∃ F : Nat → DE, ∀ q, q < i → DyP (fun x => x < b ∨ v.ownBlock = some x) w (P q) (F q) ∧ NV L (V q) (F q)
theorem Prods.kept {b i : Nat} {L : Int} {V : Nat → Int} {w w' : World} {v : Value} {P : Nat → Nat} (h : Prods b L V w v i P) (k : Kept 0 0 w w') : Prods b L V w' v i P := by
  obtain ⟨h1, F, h2⟩ := h
  exact ⟨own_kept h1 k, F, fun q hq => ⟨(h2 q hq).1.kept k, (h2 q hq).2⟩⟩
theorem ptrs_congr {G G' : Nat → Nat} {m : Nat} (h : ∀ p, p < m → G p = G' p) : ptrs G m = ptrs G' m := by
  unfold ptrs
  exact List.map_congr_left (fun p hp => by rw [h p (List.mem_range.1 hp)])
theorem DyP.app {b g : Nat} {v v' : Value} {w3 w' : World} {d : DE} (h : DyP (fun x => x < b ∨ v.ownBlock = some x) w3 g d) (m : Mod (fun x => v.ownBlock = some x) w3 w') (h5 : v'.ownBlock = v.ownBlock ∨ v'.ownBlock = some w3.heap.size) : DyP (fun x => x < b ∨ v'.ownBlock = some x) w' g d := by
  obtain ⟨u, n, s, e, x1, x2⟩ := h
  have m' : Mod (fun x => x < b ∨ v.ownBlock = some x) w3 w' := ⟨m.os, m.tape, m.output, m.size, fun i hi ho => m.block i hi (fun h => ho (.inr h))⟩
  have key : ∀ y, y < w3.heap.size → ¬ (y < b ∨ v.ownBlock = some y) → ¬ (y < b ∨ v'.ownBlock = some y) := fun y hy hn h => by
    rcases h with h | h
    · exact hn (.inl h)
    · rcases h5 with h6 | h6
      · exact hn (.inr (by rw [← h6]; exact h))
      · rw [h6] at h
        cases h
        exact Nat.lt_irrefl _ hy
  exact ⟨u, n.mod m' x1 x2, ⟨m'.cell (a := ⟨g, 1, none⟩) x1 s.1, m'.loose (a := ⟨g, 1, none⟩) x1 n.lt s.2⟩, ⟨m'.cell (a := ⟨g, 2, none⟩) x1 e.1, m'.loose (a := ⟨g, 2, none⟩) x1 n.lt e.2⟩, key g n.lt x1, fun i hi => key i (n.own.lt i hi).2 (x2 i hi)⟩
/-- One more product. -/
theorem Prods.step {b i g : Nat} {L : Int} {V : Nat → Int} {w w' w3 : World} {v v' : Value} {P : Nat → Nat} {d : DE} (h : Prods b L V w3 v i P) (hb : b ≤ w3.heap.size) (hs : w.heap.size ≤ w3.heap.size) (hv : ∀ k, v.ownBlock = some k → k < w.heap.size) (hb2 : b ≤ w.heap.size) (dp : DyP (fun y => y < w.heap.size) w3 g d) (nv : NV L (V i) d)
    (h2 : w'.ownsRow b 77 1 v' (i + 1) (ptrs P i ++ [Value.pointer (some ⟨g, 0, none⟩)])) (h3 : w3.grownBy w' v.ownBlock) (h5 : v'.ownBlock = v.ownBlock ∨ v'.ownBlock = some w3.heap.size) : Prods b L V w' v' (i + 1) (updG P i g) := by
  obtain ⟨h1, F, hF⟩ := h
  have m : Mod (fun x => v.ownBlock = some x) w3 w' := ⟨h3.os, h3.tape, h3.output, h3.size, fun k hk ho => h3.block k hk (fun e => ho e.symm)⟩
  refine ⟨?_, fun q => if q = i then d else F q, fun q hq => ?_⟩
  · have e : ptrs (updG P i g) (i + 1) = ptrs P i ++ [Value.pointer (some ⟨g, 0, none⟩)] := by
      rw [ptrs_add, ptrs_congr (G := updG P i g) (G' := P) (fun p hp => updG_off P (by omega))]
      simp [ptrs, updG_on]
    rw [e]
    exact h2
  · by_cases e : q = i
    · subst e
      dsimp only
      rw [if_pos rfl, updG_on]
      refine ⟨?_, nv⟩
      exact DyP.app (dp.less (fun x hx _ => by rcases hx with hx | hx; omega; exact hv x hx)) m h5
    · dsimp only
      rw [if_neg e, updG_off P e]
      obtain ⟨a1, a2⟩ := hF q (by omega)
      exact ⟨a1.app m h5, a2⟩

end Go.Proofs.YthahoabkehcgbaaGreatDoor


namespace Go.Proofs.YthahoabkehcgbaaGreatDoor
open Go.RowKit
set_option linter.unusedVariables false
set_option maxRecDepth 8000
set_option linter.unusedSimpArgs false

theorem cmpD_pos {L V U : Int} {a b : DE} (h1 : IsV L V a) (h2 : IsV L U b) : cmpDI (wval a.1 a.2.1) a.2.2 (wval b.1 b.2.1) b.2.2 = cmpI V U := by
  obtain ⟨x1, n1, e1⟩ := h1
  obtain ⟨x2, n2, e2⟩ := h2
  unfold cmpDI
  rw [← cmpI_scale _ _ (min a.2.2 b.2.2 - L).toNat, pow_step _ (by omega) (by omega), pow_step _ (by omega) (by omega), e1, e2]
theorem IsV.low {L V m : Int} {d : DE} (h : IsV L V d) (hL : L ≤ m) (hm : m ≤ d.2.2) : IsV L V (d.1, limbs ((val d.2.1).toNat * 2 ^ (d.2.2 - m).toNat), m) := by
  obtain ⟨x, n, e⟩ := h
  refine ⟨hL, limbs_nrm _, ?_⟩
  dsimp only
  rw [shl_val d.1 n, pow_step _ hm hL, e]
theorem NV.low {L V m : Int} {d : DE} (h : NV L V d) (hL : L ≤ m) (hm : m ≤ d.2.2) (hV : V.natAbs < 2 ^ AA) : NV L V (d.1, limbs ((val d.2.1).toNat * 2 ^ (d.2.2 - m).toNat), m) := by
  have hh := h.1.low hL hm
  have hl := hh.len hV (show AA ≤ 16 * 2500 by decide)
  exact ⟨hh, Nat.le_trans hl (by decide), by have := h.2.2; show m ≤ 40000; omega⟩
/-- The first k pointers of G are to the numbers F; no two share a block; U are their lists. -/
structure NumL (w0 w : World) (k : Nat) (G : Nat → Nat) (U : Nat → Value) (F : Nat → DE) : Prop where
  n : ∀ p, p < k → Num w0.heap.size w (G p) (U p) (F p).2.1 ∧ Sd w (G p) (F p).1 ∧ Ex w (G p) (F p).2.2 ∧ w0.heap.size ≤ G p
  ap : ∀ p q, p < k → q < k → p ≠ q → G p ≠ G q ∧ (U p).ownBlock ≠ some (G q) ∧ (∀ i, (U p).ownBlock = some i → (U q).ownBlock ≠ some i)
  k0 : Kept 0 0 w0 w
theorem NumL.two {w0 w : World} {k p q : Nat} {G : Nat → Nat} {U : Nat → Value} {F : Nat → DE} (h : NumL w0 w k G U F) (hp : p < k) (hq : q < k) (hne : p ≠ q) : Two w0 w (G p) (G q) (U p) (U q) (F p).2.1 (F q).2.1 :=
  ⟨(h.n p hp).1, (h.n q hq).1, (h.ap p q hp hq hne).1, (h.ap p q hp hq hne).2.1, (h.ap q p hq hp (fun e => hne e.symm)).2.1, (h.ap p q hp hq hne).2.2, h.k0, (h.n p hp).2.2.2, (h.n q hq).2.2.2⟩
theorem Sd.mod {S : Nat → Prop} {w w' : World} {g : Nat} {s : Bool} (h : Sd w g s) (m : Mod S w w') (hS : ¬ S g) : Sd w' g s := ⟨m.cell (a := ⟨g, 1, none⟩) hS h.1, m.loose (a := ⟨g, 1, none⟩) hS h.lt h.2⟩
theorem Ex.mod {S : Nat → Prop} {w w' : World} {g : Nat} {x : Int} (h : Ex w g x) (m : Mod S w w') (hS : ¬ S g) : Ex w' g x := ⟨m.cell (a := ⟨g, 2, none⟩) hS h.1, m.loose (a := ⟨g, 2, none⟩) hS h.lt h.2⟩
theorem NumL.kept {w0 w w' : World} {k : Nat} {G : Nat → Nat} {U : Nat → Value} {F : Nat → DE} (h : NumL w0 w k G U F) (m : Kept 0 0 w w') : NumL w0 w' k G U F :=
  ⟨fun p hp => ⟨(h.n p hp).1.kept m, (h.n p hp).2.1.kept m, (h.n p hp).2.2.1.kept m, (h.n p hp).2.2.2⟩, h.ap, h.k0.trans m⟩
end Go.Proofs.YthahoabkehcgbaaGreatDoor


namespace Go.Proofs.YthahoabkehcgbaaGreatDoor
open Go.RowKit
set_option linter.unusedVariables false
set_option maxRecDepth 8000
set_option linter.unusedSimpArgs false

/-- What a number is worth, in units of 2 to the power L. -/
def dv (L : Int) (d : DE) : Int := wval d.1 d.2.1 * 2 ^ (d.2.2 - L).toNat
theorem dok_nv {d : DE} (h : dOkE d = true) {L : Int} (hL : L ≤ -3000) : NV L (dv L d) d := by
  obtain ⟨h1, h2, h3, -, -⟩ := dok_parts h
  obtain ⟨-, -, lx, hx⟩ := wok_int h1
  exact ⟨⟨by omega, hx, rfl⟩, by omega, by omega⟩
theorem dok_len {s : Bool} {z : List Int} {y : Int} (h : dokB s z y = true) : z.length ≤ 100 ∧ Nrm z ∧ -3000 ≤ y ∧ y ≤ 3000 := by
  obtain ⟨h1, h2, h3, -, -⟩ := dok_parts h
  exact ⟨(wok_int h1).2.2.1, (wok_int h1).2.2.2, h2, h3⟩
end Go.Proofs.YthahoabkehcgbaaGreatDoor


namespace Go.Proofs.YthahoabkehcgbaaGreatDoor
open Go.RowKit
set_option linter.unusedVariables false
set_option maxRecDepth 8000
set_option linter.unusedSimpArgs false

end Go.Proofs.YthahoabkehcgbaaGreatDoor


namespace Go.Proofs.YthahoabkehcgbaaGreatDoor
open Go.RowKit
set_option linter.unusedVariables false
set_option maxRecDepth 8000

/-- A number that is only read is stored into three cells. -/
theorem DyAt.storeR {w : World} {g o l h : Nat} {s : Bool} {u : Value} {y : Int} {z : List Int} (h0 : ∃ x, w.cell? ⟨g, o, none⟩ = some x) (h1 : ∃ x, w.cell? ⟨g, o + 1, none⟩ = some x) (h2 : ∃ x, w.cell? ⟨g, o + 2, none⟩ = some x) (r : Row .i64 false l h w u z) (hb : z ≠ [] → g < l ∨ h ≤ g) :
    DyAt false l h (((w.setCell ⟨g, o, none⟩ (.bool s)).setCell ⟨g, o + 1, none⟩ u).setCell ⟨g, o + 2, none⟩ (.int .i64 y)) g o (s, z, y) := by
  obtain ⟨x0, h0⟩ := h0
  obtain ⟨x1, h1⟩ := h1
  obtain ⟨x2, h2⟩ := h2
  have k : Kept g (g + 1) w (((w.setCell ⟨g, o, none⟩ (.bool s)).setCell ⟨g, o + 1, none⟩ u).setCell ⟨g, o + 2, none⟩ (.int .i64 y)) :=
    (((Kept.refl g (g + 1) w).setCell (p := ⟨g, o, none⟩) (Nat.le_refl _) (Nat.lt_succ_self _) _).setCell (p := ⟨g, o + 1, none⟩) (Nat.le_refl _) (Nat.lt_succ_self _) _).setCell (p := ⟨g, o + 2, none⟩) (Nat.le_refl _) (Nat.lt_succ_self _) _
  have rr : Row .i64 false l h (((w.setCell ⟨g, o, none⟩ (.bool s)).setCell ⟨g, o + 1, none⟩ u).setCell ⟨g, o + 2, none⟩ (.int .i64 y)) u z := by
    by_cases e : z = []
    · exact r.none e
    · have := hb e
      exact r.kept k (by omega)
  refine ⟨u, ?_, ?_, ?_, rr⟩
  · exact cell_off _ _ _ _ _ _ (cell_off _ _ _ _ _ _ (cell_on _ _ _ _ _ h0) (by omega)) (by omega)
  · refine cell_off _ _ _ _ _ _ (cell_on _ _ _ _ x1 ?_) (by omega)
    exact cell_off _ _ _ _ _ _ h1 (by omega)
  · refine cell_on _ _ _ _ x2 ?_
    exact cell_off _ _ _ _ _ _ (cell_off _ _ _ _ _ _ h2 (by omega)) (by omega)

/-- A list that is being filled: the numbers at the places of P are there. -/
structure FillP (B g n : Nat) (ds : List DE) (P : Nat → Prop) (w : World) : Prop where
  lt : g < w.heap.size
  lb : B ≤ g
  got : ∀ i, i < n → P i → ∃ l h, ((ds.getD i de0).2.1 ≠ [] → g < l ∨ h ≤ B) ∧ DyAt false l h w g (i * 3) (ds.getD i de0)
  cell : ∀ k, k < n * 3 → ∃ u, w.cell? ⟨g, k, none⟩ = some u
  loose : ∀ k, k < n * 3 → w.frozen? ⟨g, k, none⟩ = false

theorem Fill.toP {lo B g n : Nat} {ds ds' : List DE} {P : Nat → Prop} {w : World} (f : Fill lo g n ds 0 w) (hB : B ≤ g) (hP : ∀ i, i < n → ¬ P i) : FillP B g n ds' P w :=
  ⟨f.lt, hB, fun i hi h => absurd h (hP i hi), f.cell, f.loose⟩
theorem FillP.keptW {B g n l' h' : Nat} {ds : List DE} {P : Nat → Prop} {w w' : World} (f : FillP B g n ds P w) (k : Kept l' h' w w') (h1 : B ≤ l' ∨ h' ≤ l') (h2 : h' ≤ g) : FillP B g n ds P w' := by
  have hb := k.block g f.lt (.inr h2)
  have hB := f.lb
  exact ⟨Nat.lt_of_lt_of_le f.lt k.size, hB, fun i hi h => by
    obtain ⟨l, h, q1, q2⟩ := f.got i hi h
    exact ⟨l, h, q1, q2.keptE k (fun e => by have := q1 e; omega) (by omega)⟩, fun q hq => by obtain ⟨x, hx⟩ := f.cell q hq; exact ⟨x, (World.cell?_of_block (w := w) (a := ⟨g, q, none⟩) hb).trans hx⟩, fun q hq => (World.frozen?_of_block (w := w) (a := ⟨g, q, none⟩) hb).trans (f.loose q hq)⟩
theorem FillP.kept {B g n : Nat} {ds : List DE} {P : Nat → Prop} {w w' : World} (f : FillP B g n ds P w) (k : Kept 0 0 w w') : FillP B g n ds P w' := f.keptW k (.inr (Nat.le_refl 0)) (Nat.zero_le _)
theorem FillP.step {B g n j l hh : Nat} {ds : List DE} {P P' : Nat → Prop} {w w' : World} {s : Bool} {u : Value} {y : Int} {z : List Int} (f : FillP B g n ds P w) (hj : j < n) (k : Kept 0 0 w w') (r : Row .i64 false l hh w' u z) (hr : z ≠ [] → g < l ∨ hh ≤ B) (he : ds.getD j de0 = (s, z, y)) (hP : ∀ i, P' i → i = j ∨ P i) :
    FillP B g n ds P' (((w'.setCell ⟨g, j * 3, none⟩ (.bool s)).setCell ⟨g, j * 3 + 1, none⟩ u).setCell ⟨g, j * 3 + 2, none⟩ (.int .i64 y)) := by
  have f' := f.kept k
  have hB := f.lb
  refine ⟨by rw [size_set, size_set, size_set]; exact f'.lt, hB, fun i hi hPi => ?_, fun k' hk' => ?_, fun k' hk' => ?_⟩
  · by_cases e : i = j
    · subst e
      rw [he]
      exact ⟨l, hh, hr, DyAt.storeR (f'.cell _ (by omega)) (f'.cell _ (by omega)) (f'.cell _ (by omega)) r (fun e => by have := hr e; omega)⟩
    · obtain ⟨l', h', h1, h2⟩ := f'.got i hi ((hP i hPi).resolve_left e)
      exact ⟨l', h', h1, h2.stored _ _ _ (fun e => by have := h1 e; omega) (by omega)⟩
  · obtain ⟨x, hx⟩ := f'.cell k' hk'
    obtain ⟨x1, hx1⟩ := cells_of_setCell (p := j * 3) (u := .bool s) hx
    obtain ⟨x2, hx2⟩ := cells_of_setCell (p := j * 3 + 1) (u := u) hx1
    exact cells_of_setCell (p := j * 3 + 2) (u := .int .i64 y) hx2
  · rw [frozen_set, frozen_set, frozen_set]
    exact f'.loose k' hk'
theorem FillP.done {B g n : Nat} {ds : List DE} {P : Nat → Prop} {w : World} (f : FillP B g n ds P w) (hP : ∀ i, i < n → P i) (hn : n = ds.length) (hm : n ≤ maxLen) : Dys 0 w.heap.size w (.slice (some ⟨g, 0, none⟩) n n) ds := by
  subst hn
  refine ⟨_, _, rfl, Nat.le_refl _, hm, fun _ => ⟨g, 0, rfl, Nat.zero_le _, f.lt, f.lt, fun i hi => ?_⟩⟩
  obtain ⟨l, h, h1, u, c0, c1, c2, r⟩ := f.got i hi (hP i hi)
  rw [Nat.zero_add]
  exact ⟨u, c0, c1, c2, r.tight.wider (Nat.zero_le _) (Nat.le_refl _)⟩

end Go.Proofs.YthahoabkehcgbaaGreatDoor

