/-
  Held intervals whose numbers' lists may begin behind their blocks' first cells.
-/
import Derived.Test.YthahoabkehcgbaaGreatDoorqoWrk2
import Derived.Test.YthahoabkehcgbaaGreatDoorqoWrk4
import Derived.Deep.DeepCutAuto
import Derived.Deep.RegionHeld3
namespace Go.Proofs.YthahoabkehcgbaaGreatDoor
open Go.RowKit
set_option linter.unusedVariables false
set_option maxRecDepth 8000
set_option linter.unusedSimpArgs false

/-- A number whose blocks lie in lo .. hi. -/
def DwK (lo hi : Nat) (w : World) (g : Nat) (d : DE) : Prop :=
  ∃ u, Wrk 0 w g u d.2.1 ∧ Sd w g d.1 ∧ Ex w g d.2.2 ∧ lo ≤ g ∧ g < hi ∧ ∀ i, u.ownBlock = some i → lo ≤ i ∧ i < hi

theorem DwK.mod {lo hi : Nat} {X : Nat → Prop} {w w' : World} {g : Nat} {d : DE} (h : DwK lo hi w g d) (k : Mod X w w') (hX : ∀ x, lo ≤ x → x < hi → ¬ X x) : DwK lo hi w' g d := by
  obtain ⟨u, n, s, e, x1, x2, x3⟩ := h
  have hg := hX g x1 x2
  exact ⟨u, n.mod k hg (fun i hi => hX i (x3 i hi).1 (x3 i hi).2), ⟨k.cell (a := ⟨g, 1, none⟩) hg s.1, k.loose (a := ⟨g, 1, none⟩) hg n.lt s.2⟩, ⟨k.cell (a := ⟨g, 2, none⟩) hg e.1, k.loose (a := ⟨g, 2, none⟩) hg n.lt e.2⟩, x1, x2, x3⟩

/-- The first k pointers of G are to the numbers F, whose blocks lie apart, behind b, and in no block of S. -/
def NumsK (b : Nat) (S : Nat → Prop) (w : World) (k : Nat) (G : Nat → Nat) (F : Nat → DE) : Prop :=
  ∃ L H : Nat → Nat, (∀ p, p < k → DwK (L p) (H p) w (G p) (F p) ∧ b ≤ L p ∧ H p ≤ w.heap.size ∧ ∀ x, L p ≤ x → x < H p → ¬ S x) ∧ ∀ p q, p < k → q < k → p ≠ q → H p ≤ L q ∨ H q ≤ L p

theorem NumsK.mod {b k : Nat} {S : Nat → Prop} {w w' : World} {G : Nat → Nat} {F : Nat → DE} (h : NumsK b S w k G F) (m : Mod S w w') : NumsK b S w' k G F := by
  obtain ⟨L, H, h1, h2⟩ := h
  refine ⟨L, H, fun p hp => ?_, h2⟩
  obtain ⟨d, q1, q2, q3⟩ := h1 p hp
  exact ⟨d.mod m q3, q1, Nat.le_trans q2 m.size, q3⟩

theorem NumsK.more {b k x : Nat} {S : Nat → Prop} {w : World} {G : Nat → Nat} {F : Nat → DE} (h : NumsK b S w k G F) (hx : w.heap.size ≤ x) : NumsK b (fun y => S y ∨ y = x) w k G F := by
  obtain ⟨L, H, h1, h2⟩ := h
  refine ⟨L, H, fun p hp => ?_, h2⟩
  obtain ⟨d, q1, q2, q3⟩ := h1 p hp
  exact ⟨d, q1, q2, fun y hy1 hy2 hs => hs.elim (q3 y hy1 hy2) (fun e => by omega)⟩

theorem NumsK.congr {b k : Nat} {S : Nat → Prop} {w : World} {G G' : Nat → Nat} {F F' : Nat → DE} (h : NumsK b S w k G F) (hG : ∀ p, p < k → G' p = G p) (hF : ∀ p, p < k → F' p = F p) : NumsK b S w k G' F' := by
  obtain ⟨L, H, h1, h2⟩ := h
  exact ⟨L, H, fun p hp => by rw [hG p hp, hF p hp]; exact h1 p hp, h2⟩

theorem DwK.kept {lo hi : Nat} {w w' : World} {g : Nat} {d : DE} (h : DwK lo hi w g d) (k : Kept 0 0 w w') : DwK lo hi w' g d := h.mod (k.toMod (S := fun _ => False)) (fun _ _ _ h => h)

theorem DwK.wider {lo hi lo' hi' : Nat} {w : World} {g : Nat} {d : DE} (h : DwK lo hi w g d) (h1 : lo' ≤ lo) (h2 : hi ≤ hi') : DwK lo' hi' w g d := by
  obtain ⟨u, n, s, e, x1, x2, x3⟩ := h
  exact ⟨u, n, s, e, by omega, by omega, fun i hi => by have := x3 i hi; omega⟩

theorem NumsK.win {b k lo hi : Nat} {S : Nat → Prop} {w w' : World} {G : Nat → Nat} {F : Nat → DE} (h : NumsK b S w k G F) (m : Kept lo hi w w') (hb : hi ≤ b) : NumsK b S w' k G F := by
  obtain ⟨L, H, h1, h2⟩ := h
  refine ⟨L, H, fun p hp => ?_, h2⟩
  obtain ⟨d, q1, q2, q3⟩ := h1 p hp
  exact ⟨d.mod (X := fun i => lo ≤ i ∧ i < hi) ⟨m.os, m.tape, m.output, m.size, fun i hi ho => m.block i hi (by omega)⟩ (fun x hx1 _ hx => by omega), q1, Nat.le_trans q2 m.size, q3⟩

theorem NumsK.less {b b' k : Nat} {S : Nat → Prop} {w : World} {G : Nat → Nat} {F : Nat → DE} (h : NumsK b S w k G F) (hb : b' ≤ b) : NumsK b' S w k G F := by
  obtain ⟨L, H, h1, h2⟩ := h
  exact ⟨L, H, fun p hp => by obtain ⟨d, q1, q2, q3⟩ := h1 p hp; exact ⟨d, by omega, q2, q3⟩, h2⟩

theorem DwK.keptA {lo hi l h : Nat} {w w' : World} {g : Nat} {d : DE} (D : DwK lo hi w g d) (k : Kept l h w w') (hd : h ≤ lo ∨ hi ≤ l) : DwK lo hi w' g d :=
  D.mod k.modW (fun x h1 h2 hx => by omega)

theorem NumsK.step2 {b k g1 g2 mid : Nat} {S : Nat → Prop} {w w' : World} {G : Nat → Nat} {F : Nat → DE} (h : NumsK b S w (2 * k) G F) (m : Kept 0 0 w w') (hb : b ≤ w.heap.size) (hS : ∀ x, S x → x < w.heap.size) (d1 : DwK w.heap.size mid w' g1 (F (2 * k))) (d2 : DwK mid w'.heap.size w' g2 (F (2 * k + 1))) (hm : w.heap.size ≤ mid) (hm' : mid ≤ w'.heap.size) : NumsK b S w' (2 * (k + 1)) (updH G k g1 g2) F := by
  obtain ⟨L0, H0, h10, h20⟩ := h
  have hs := m.size
  obtain ⟨L, H, h1, h2, h3⟩ : ∃ L H : Nat → Nat, (∀ p, p < 2 * k → DwK (L p) (H p) w' (G p) (F p) ∧ b ≤ L p ∧ H p ≤ w'.heap.size ∧ ∀ x, L p ≤ x → x < H p → ¬ S x) ∧ (∀ p q, p < 2 * k → q < 2 * k → p ≠ q → H p ≤ L q ∨ H q ≤ L p) ∧ ∀ p, p < 2 * k → H p ≤ w.heap.size := by
    refine ⟨L0, H0, fun p hp => ?_, h20, fun p hp => (h10 p hp).2.2.1⟩
    obtain ⟨d, q1, q2, q3⟩ := h10 p hp
    exact ⟨d.mod (m.toMod (S := S)) q3, q1, Nat.le_trans q2 hs, q3⟩
  refine ⟨fun p => if p = 2 * k then w.heap.size else if p = 2 * k + 1 then mid else L p, fun p => if p = 2 * k then mid else if p = 2 * k + 1 then w'.heap.size else H p, fun p hp => ?_, fun p q hp hq hne => ?_⟩
  · by_cases e : p = 2 * k
    · subst e
      simp only [if_pos, updH_lo]
      exact ⟨d1, hb, hm', fun x hx _ hsx => by have := hS x hsx; omega⟩
    · by_cases e2 : p = 2 * k + 1
      · subst e2
        simp only [if_neg e, if_pos, updH_hi]
        exact ⟨d2, by omega, Nat.le_refl _, fun x hx _ hsx => by have := hS x hsx; omega⟩
      · simp only [if_neg e, if_neg e2, updH_off G e e2]
        exact h1 p (by omega)
  · by_cases e : p = 2 * k
    · have a2 : q ≠ 2 * k := by omega
      simp only [if_pos e, if_neg a2]
      by_cases b2 : q = 2 * k + 1
      · simp only [if_pos b2]; exact .inl (Nat.le_refl _)
      · simp only [if_neg b2]; exact .inr (h3 q (by omega))
    · by_cases e2 : p = 2 * k + 1
      · simp only [if_neg e, if_pos e2]
        by_cases a2 : q = 2 * k
        · simp only [if_pos a2]; exact .inr (Nat.le_refl _)
        · have b2 : q ≠ 2 * k + 1 := by omega
          simp only [if_neg a2, if_neg b2]
          exact .inr (Nat.le_trans (h3 q (by omega)) hm)
      · simp only [if_neg e, if_neg e2]
        by_cases a2 : q = 2 * k
        · simp only [if_pos a2]; exact .inl (h3 p (by omega))
        · by_cases b2 : q = 2 * k + 1
          · simp only [if_neg a2, if_pos b2]; exact .inl (Nat.le_trans (h3 p (by omega)) hm)
          · simp only [if_neg a2, if_neg b2]; exact h2 p q (by omega) (by omega) hne

/-- Each call makes two new numbers of which something is known. -/
theorem makeSquareK_newQ {n : Nat} (hn : n ≤ 1000) (FN : FuncId) (hcf : ∀ (w : World) (args : Array Value), (callFunc FN args).run Tryz.prog w = .ok (.enter FN args) w) (caps : Array Value) (Q : Nat → DE → Prop) (w : World)
    (H : ∀ i j w', i < n → j < n → Kept 0 0 w w' → Calls Tryz.prog FN (#[.int .i64 (i : Int), .int .i64 (j : Int)] ++ caps) w' fun e w'' => ∃ g1 g2 mid d1 d2, e = .returned (.agg #[.pointer (some ⟨g1, 0, none⟩), .pointer (some ⟨g2, 0, none⟩)]) ∧ DwK w'.heap.size mid w'' g1 d1 ∧ DwK mid w''.heap.size w'' g2 d2 ∧ Q (2 * (i * n + j)) d1 ∧ Q (2 * (i * n + j) + 1) d2 ∧ w'.heap.size ≤ mid ∧ mid ≤ w''.heap.size ∧ Kept 0 0 w' w'') :
    Calls Tryz.prog 91 #[.int .i64 (n : Int), .func (.func FN) #[] caps] w fun e w' => ∃ R G S F, e = .returned (.agg #[.slice (some ⟨R, 0, none⟩) n n]) ∧ SqH S w' R n n G ∧ NumsK w.heap.size S w' (2 * (n * n)) G F ∧ (∀ p, p < 2 * (n * n) → Q p (F p)) ∧ (∀ x, S x → w.heap.size ≤ x ∧ x < w'.heap.size) ∧ w.heap.size < R ∧ Kept 0 0 w w' := by
  refine (makeSquareH_any hn FN hcf caps w (fun k G S w' => ∃ F, NumsK w.heap.size S w' (2 * k) G F ∧ ∀ p, p < 2 * k → Q p (F p)) ?_ (fun k G S w1 w2 h m => ?_) (fun k G S w1 x h hx => ?_) ?_).mono ?_
  · intro S hS
    exact ⟨fun _ => de0, ⟨fun _ => 0, fun _ => 0, fun p hp => absurd hp (Nat.not_lt_zero _), fun p q hp => absurd hp (Nat.not_lt_zero _)⟩, fun p hp => absurd hp (Nat.not_lt_zero _)⟩
  · obtain ⟨F, h1, h2⟩ := h
    exact ⟨F, h1.mod m, h2⟩
  · obtain ⟨F, h1, h2⟩ := h
    exact ⟨F, h1.more hx, h2⟩
  · intro i j w' G S hi hj hS k hJ
    obtain ⟨F, h1, h2⟩ := hJ
    refine (H i j w' hi hj k).mono ?_
    rintro e w'' ⟨g1, g2, mid, d1, d2, rfl, p1, p2, q1, q2, m1, m2, k'⟩
    obtain ⟨F', hF'⟩ : ∃ F' : Nat → DE, F' = fun p => if p = 2 * (i * n + j) then d1 else if p = 2 * (i * n + j) + 1 then d2 else F p := ⟨_, rfl⟩
    have f1 : F' (2 * (i * n + j)) = d1 := by rw [hF']; dsimp only; rw [if_pos rfl]
    have f2 : F' (2 * (i * n + j) + 1) = d2 := by rw [hF']; dsimp only; rw [if_neg (by omega), if_pos rfl]
    have f3 : ∀ p, p < 2 * (i * n + j) → F' p = F p := fun p hp => by rw [hF']; dsimp only; rw [if_neg (by omega), if_neg (by omega)]
    rw [← f1] at p1 q1
    rw [← f2] at p2 q2
    refine ⟨g1, g2, rfl, ⟨F', (h1.congr (F' := F') (fun _ _ => rfl) f3).step2 k' k.size (fun x hx => (hS x hx).2) p1 p2 m1 m2, fun p hp => ?_⟩, k'⟩
    by_cases e : p = 2 * (i * n + j)
    · subst e; exact q1
    · by_cases e2 : p = 2 * (i * n + j) + 1
      · subst e2; exact q2
      · rw [f3 p (by omega)]; exact h2 p (by omega)
  · rintro e w' ⟨R, G, S, rfl, sq, ⟨F, h1, h2⟩, hS, hR, k⟩
    exact ⟨R, G, S, F, rfl, sq, h1, h2, hS, hR, k⟩

set_option maxHeartbeats 8000000 in
theorem eachK1_impl {R n B i j : Nat} {S : Nat → Prop} {G : Nat → Nat} {FN : FuncId} {caps : Array Value} {Q1 Q2 : DE → Prop} (hcf : ∀ (w : World) (args : Array Value), (callFunc FN args).run Tryz.prog w = .ok (.enter FN args) w) (w : World) (hn : n ≤ 1000) (hi' : i < n) (hj : j < n) (sq : SqH S w R n n G)
    (c0 : w.cell? ⟨B + 1, 0, none⟩ = some (.func (.func FN) #[] caps)) (c1 : w.cell? ⟨B, 0, none⟩ = some (.slice (some ⟨R, 0, none⟩) n n))
    (H : ∀ w', Kept 0 0 w w' → Calls Tryz.prog FN (#[.agg #[.pointer (some ⟨G (2 * (i * n + j)), 0, none⟩), .pointer (some ⟨G (2 * (i * n + j) + 1), 0, none⟩)]] ++ caps) w' fun e w'' => ∃ g1 g2 mid d1 d2, e = .returned (.agg #[.pointer (some ⟨g1, 0, none⟩), .pointer (some ⟨g2, 0, none⟩)]) ∧ DwK w'.heap.size mid w'' g1 d1 ∧ DwK mid w''.heap.size w'' g2 d2 ∧ Q1 d1 ∧ Q2 d2 ∧ w'.heap.size ≤ mid ∧ mid ≤ w''.heap.size ∧ Kept 0 0 w' w'') :
    Calls Tryz.prog 171 #[.int .i64 (i : Int), .int .i64 (j : Int), .pointer (some ⟨B + 1, 0, none⟩), .pointer (some ⟨B, 0, none⟩)] w fun e w' => ∃ g1 g2 mid d1 d2, e = .returned (.agg #[.pointer (some ⟨g1, 0, none⟩), .pointer (some ⟨g2, 0, none⟩)]) ∧ DwK w.heap.size mid w' g1 d1 ∧ DwK mid w'.heap.size w' g2 d2 ∧ Q1 d1 ∧ Q2 d2 ∧ w.heap.size ≤ mid ∧ mid ≤ w'.heap.size ∧ Kept 0 0 w w' := by
  obtain ⟨h1, -, h3⟩ := sq
  obtain ⟨r, c2, -, -, -, q4⟩ := h3 i hi'
  obtain ⟨e0, e1⟩ := q4 j hj
  obtain ⟨G1, hG1⟩ : ∃ x, x = G (2 * (i * n + j)) := ⟨_, rfl⟩
  obtain ⟨G2, hG2⟩ : ∃ x, x = G (2 * (i * n + j) + 1) := ⟨_, rfl⟩
  rw [← hG1] at H e0
  rw [← hG2] at H e1
  obtain ⟨W, hW⟩ : ∃ W, W = w.alloc (.cells #[.pointer none, .pointer none] 79) := ⟨_, rfl⟩
  have k0 : Kept 0 0 w W := by rw [hW]; exact (Kept.refl 0 0 w).alloc _
  have q0 : W.cell? ⟨w.heap.size, 0, none⟩ = some (.pointer none) := by rw [hW]; exact new_cell2 _ _ _ _ _ _ rfl rfl
  have q1 : W.cell? ⟨w.heap.size, 1, none⟩ = some (.pointer none) := by rw [hW]; exact new_cell2 _ _ _ _ _ _ rfl rfl
  have f0 : W.frozen? ⟨w.heap.size, 0, none⟩ = false := by rw [hW]; exact new_loose2 _ _ _ _ _ rfl
  have f1 : W.frozen? ⟨w.heap.size, 1, none⟩ = false := by rw [hW]; exact new_loose2 _ _ _ _ _ rfl
  have SW : Hid (W.heap.size = w.heap.size + 1) := by show _ = _; rw [hW]; simp
  have kz := (Kept.refl 0 0 W).drew
  have kd := k0.trans kz
  have hd := H W.drew kd
  clear h1 h3 q4 hG1 hG2 H
  have B_c0 := hide (World.block_lt_of_cell? _ _ c0)
  have B_c1 := hide (World.block_lt_of_cell? _ _ c1)
  have B_c2 := hide (World.block_lt_of_cell? _ _ c2)
  have B_e0 := hide (World.block_lt_of_cell? _ _ e0)
  have B_e1 := hide (World.block_lt_of_cell? _ _ e1)
  replace c0 := kd.cell0 c0
  replace c1 := kd.cell0 c1
  replace c2 := kd.cell0 c2
  replace e0 := kd.cell0 e0
  replace e1 := kd.cell0 e1
  replace f0 := kz.loose0 (World.block_lt_of_cell? _ _ q0) f0
  replace f1 := kz.loose0 (World.block_lt_of_cell? _ _ q1) f1
  replace q0 := kz.cell0 q0
  replace q1 := kz.cell0 q1
  have KD := hide kd
  clear kd kz k0
  go_enter Tryz.func171, Tryz.ntmps171
  go_wp2_with fail
  rw [← hW]
  clear hW
  refine wp_region_held_drew (S := (fun w' => w'.cell? ⟨B + 1, 0, none⟩ = some (.func (.func FN) #[] caps) ∧ w'.cell? ⟨B, 0, none⟩ = some (.slice (some ⟨R, 0, none⟩) n n) ∧ w'.cell? ⟨R, i, none⟩ = some (.slice (some ⟨r, 0, none⟩) n n) ∧ w'.cell? ⟨r, j * 2, none⟩ = some (.pointer (some ⟨G1, 0, none⟩)) ∧ w'.cell? ⟨r, j * 2 + 1, none⟩ = some (.pointer (some ⟨G2, 0, none⟩)))) (by kernel_rfl) ?_ (fun hHeld => ?_)
  · exact ⟨c0, c1, c2, e0, e1⟩
  refine wpAnyH_take (i := 0) (oi := _) (v := .func (.func FN) #[] caps) rfl (by kernel_rfl) (by kernel_rfl) (by kernel_rfl) (fun _ _ _ h => h) (Or.inl ⟨by rfl, ?_⟩) hHeld ?_
  · intro wq hSw
    try dsimp only at hSw
    go_simp
  try simp only [Act.put, List.getElem_toArray, List.getElem_cons_succ, List.getElem_cons_zero, List.setIfInBounds_toArray, List.set_cons_zero, List.set_cons_succ]
  refine wpAnyH_take (i := 1) (oi := _) (v := .pointer (some ⟨B, 0, none⟩)) rfl (by kernel_rfl) (by kernel_rfl) (by kernel_rfl) (fun _ _ _ h => h) (Or.inl ⟨by rfl, ?_⟩) hHeld ?_
  · intro wq hSw
    try dsimp only at hSw
    go_simp
  try simp only [Act.put, List.getElem_toArray, List.getElem_cons_succ, List.getElem_cons_zero, List.setIfInBounds_toArray, List.set_cons_zero, List.set_cons_succ]
  refine wpAnyH_take (i := 2) (oi := _) (v := .slice (some ⟨R, 0, none⟩) n n) rfl (by kernel_rfl) (by kernel_rfl) (by kernel_rfl) (fun _ _ _ h => h) (Or.inl ⟨by rfl, ?_⟩) hHeld ?_
  · intro wq hSw
    try dsimp only at hSw
    go_simp
  try simp only [Act.put, List.getElem_toArray, List.getElem_cons_succ, List.getElem_cons_zero, List.setIfInBounds_toArray, List.set_cons_zero, List.set_cons_succ]
  refine wpAnyH_take (i := 3) (oi := _) (v := .int .i64 (i : Int)) rfl (by kernel_rfl) (by kernel_rfl) (by kernel_rfl) (fun _ _ _ h => h) (Or.inl ⟨by rfl, ?_⟩) hHeld ?_
  · intro wq hSw
    try dsimp only at hSw
    go_simp
  try simp only [Act.put, List.getElem_toArray, List.getElem_cons_succ, List.getElem_cons_zero, List.setIfInBounds_toArray, List.set_cons_zero, List.set_cons_succ]
  refine wpAnyH_take (i := 4) (oi := _) (v := .pointer (some ⟨R, i, none⟩)) rfl (by kernel_rfl) (by kernel_rfl) (by kernel_rfl) (fun _ _ _ h => h) (Or.inl ⟨by rfl, ?_⟩) hHeld ?_
  · intro wq hSw
    try dsimp only at hSw
    go_simp
  try simp only [Act.put, List.getElem_toArray, List.getElem_cons_succ, List.getElem_cons_zero, List.setIfInBounds_toArray, List.set_cons_zero, List.set_cons_succ]
  refine wpAnyH_take (i := 5) (oi := _) (v := .slice (some ⟨r, 0, none⟩) n n) rfl (by kernel_rfl) (by kernel_rfl) (by kernel_rfl) (fun _ _ _ h => h) (Or.inl ⟨by rfl, ?_⟩) hHeld ?_
  · intro wq hSw
    try dsimp only at hSw
    go_simp
  try simp only [Act.put, List.getElem_toArray, List.getElem_cons_succ, List.getElem_cons_zero, List.setIfInBounds_toArray, List.set_cons_zero, List.set_cons_succ]
  refine wpAnyH_take (i := 6) (oi := _) (v := .int .i64 (j : Int)) rfl (by kernel_rfl) (by kernel_rfl) (by kernel_rfl) (fun _ _ _ h => h) (Or.inl ⟨by rfl, ?_⟩) hHeld ?_
  · intro wq hSw
    try dsimp only at hSw
    go_simp
  try simp only [Act.put, List.getElem_toArray, List.getElem_cons_succ, List.getElem_cons_zero, List.setIfInBounds_toArray, List.set_cons_zero, List.set_cons_succ]
  refine wpAnyH_take (i := 7) (oi := _) (v := .pointer (some ⟨r, j * 2, none⟩)) rfl (by kernel_rfl) (by kernel_rfl) (by kernel_rfl) (fun _ _ _ h => h) (Or.inl ⟨by rfl, ?_⟩) hHeld ?_
  · intro wq hSw
    try dsimp only at hSw
    go_simp
  try simp only [Act.put, List.getElem_toArray, List.getElem_cons_succ, List.getElem_cons_zero, List.setIfInBounds_toArray, List.set_cons_zero, List.set_cons_succ]
  refine wpAnyH_take (i := 8) (oi := _) (v := .agg #[.pointer (some ⟨G1, 0, none⟩), .pointer (some ⟨G2, 0, none⟩)]) rfl (by kernel_rfl) (by kernel_rfl) (by kernel_rfl) (fun _ _ _ h => h) (Or.inl ⟨by rfl, ?_⟩) hHeld ?_
  · intro wq hSw
    try dsimp only at hSw
    go_simp
  try simp only [Act.put, List.getElem_toArray, List.getElem_cons_succ, List.getElem_cons_zero, List.setIfInBounds_toArray, List.set_cons_zero, List.set_cons_succ]
  refine wpAnyH_ready (rs := [9]) (by kernel_rfl) (by simp) ?_
  refine AllReadyH.cons rfl (fun KK hK => ?_) AllReadyH.nil
  simp only [List.getElem_toArray, List.getElem_cons_succ, List.getElem_cons_zero]
  rw [if_pos (by rfl)]
  refine wpv1k FN (.tmp 7) (.tmp 15) _ caps rfl rfl hcf (.agg #[.pointer (some ⟨G1, 0, none⟩), .pointer (some ⟨G2, 0, none⟩)]) rfl hd ?_
  rintro e w1 ⟨g1, g2, mid, d1, d2, rfl, D1, D2, hQ1, hQ2, m1, m2, k1⟩
  refine ⟨_, rfl, ?_⟩
  have D := hide (And.intro D1 (And.intro D2 (And.intro m1 m2)))
  have QQ := hide (And.intro hQ1 hQ2)
  have K1 := hide ((unhide KD).trans k1)
  replace c0 := k1.cell0 c0
  replace c1 := k1.cell0 c1
  replace c2 := k1.cell0 c2
  replace e0 := k1.cell0 e0
  replace e1 := k1.cell0 e1
  replace f0 := k1.loose0 (World.block_lt_of_cell? _ _ q0) f0
  replace f1 := k1.loose0 (World.block_lt_of_cell? _ _ q1) f1
  replace q0 := k1.cell0 q0
  replace q1 := k1.cell0 q1
  clear hd D1 D2 m1 m2 hQ1 hQ2 k1 KD
  clear hHeld
  refine hK.out _ _ ?_ (fun hHeld => ?_)
  · exact ⟨c0, c1, c2, e0, e1⟩
  clear hK KK
  try simp only [Act.put, List.getElem_toArray, List.getElem_cons_succ, List.getElem_cons_zero, List.setIfInBounds_toArray, List.set_cons_zero, List.set_cons_succ]
  refine wpAnyH_ready (rs := [10]) (by kernel_rfl) (by simp) ?_
  refine AllReadyH.cons rfl (fun KK hK => ?_) AllReadyH.nil
  simp only [List.getElem_toArray, List.getElem_cons_succ, List.getElem_cons_zero]
  rw [if_pos (by rfl)]
  go_simp
  have ks : Kept w.heap.size (w.heap.size + 1) w1 ((w1.setCell ⟨w.heap.size, 0, none⟩ (.pointer (some ⟨g1, 0, none⟩))).setCell ⟨w.heap.size, 1, none⟩ (.pointer (some ⟨g2, 0, none⟩))) := ((Kept.refl _ _ _).setCell (p := ⟨w.heap.size, 0, none⟩) (Nat.le_refl _) (Nat.lt_succ_self _) _).setCell (p := ⟨w.heap.size, 1, none⟩) (Nat.le_refl _) (Nat.lt_succ_self _) _
  replace c0 := ks.cellOut (by have := unhide B_c0; dsimp only at this ⊢; omega) c0
  replace c1 := ks.cellOut (by have := unhide B_c1; dsimp only at this ⊢; omega) c1
  replace c2 := ks.cellOut (by have := unhide B_c2; dsimp only at this ⊢; omega) c2
  replace e0 := ks.cellOut (by have := unhide B_e0; dsimp only at this ⊢; omega) e0
  replace e1 := ks.cellOut (by have := unhide B_e1; dsimp only at this ⊢; omega) e1
  clear hHeld
  refine hK.out _ _ ?_ (fun hHeld => ?_)
  · exact ⟨c0, c1, c2, e0, e1⟩
  clear hK KK
  try simp only [Act.put, List.getElem_toArray, List.getElem_cons_succ, List.getElem_cons_zero, List.setIfInBounds_toArray, List.set_cons_zero, List.set_cons_succ]
  refine wpAnyH_done (by kernel_rfl) ?_ _
  clear hHeld
  have G0 := cell_off _ _ _ 1 (.pointer (some ⟨g2, 0, none⟩)) _ (cell_on _ _ _ (.pointer (some ⟨g1, 0, none⟩)) _ q0) (show (0 : Nat) ≠ 1 by omega)
  have G1 := cell_on _ _ _ (.pointer (some ⟨g2, 0, none⟩)) _ (cell_off _ _ _ 0 (.pointer (some ⟨g1, 0, none⟩)) _ q1 (show (1 : Nat) ≠ 0 by omega))
  have hsz : ((w1.setCell ⟨w.heap.size, 0, none⟩ (.pointer (some ⟨g1, 0, none⟩))).setCell ⟨w.heap.size, 1, none⟩ (.pointer (some ⟨g2, 0, none⟩))).heap.size = w1.heap.size := by rw [size_set, size_set]
  have dd := unhide D
  have sW := unhide SW
  have hdz : W.drew.heap.size = W.heap.size := rfl
  rw [hdz, sW] at dd
  have D9 : Hid (DwK w.heap.size mid ((w1.setCell ⟨w.heap.size, 0, none⟩ (.pointer (some ⟨g1, 0, none⟩))).setCell ⟨w.heap.size, 1, none⟩ (.pointer (some ⟨g2, 0, none⟩))) g1 (d1) ∧ DwK mid ((w1.setCell ⟨w.heap.size, 0, none⟩ (.pointer (some ⟨g1, 0, none⟩))).setCell ⟨w.heap.size, 1, none⟩ (.pointer (some ⟨g2, 0, none⟩))).heap.size ((w1.setCell ⟨w.heap.size, 0, none⟩ (.pointer (some ⟨g1, 0, none⟩))).setCell ⟨w.heap.size, 1, none⟩ (.pointer (some ⟨g2, 0, none⟩))) g2 (d2) ∧ w.heap.size ≤ mid ∧ mid ≤ ((w1.setCell ⟨w.heap.size, 0, none⟩ (.pointer (some ⟨g1, 0, none⟩))).setCell ⟨w.heap.size, 1, none⟩ (.pointer (some ⟨g2, 0, none⟩))).heap.size) :=
    ⟨(dd.1.mod ks.toModW (fun x h1 h2 h => by omega)).wider (by omega) (Nat.le_refl _), (dd.2.1.mod ks.toModW (fun x h1 h2 h => by omega)).wider (Nat.le_refl _) (by omega), by omega, by omega⟩
  have K9 := hide ((unhide K1).wide ks (Nat.le_refl _))
  clear D ks dd hdz hsz K1 sW
  clear c0 c1 c2 e0 e1
  go_wp2
  exact bodyPost_ret (v := .agg #[.pointer (some ⟨g1, 0, none⟩), .pointer (some ⟨g2, 0, none⟩)]) (by simp [results, Tryz.results171, go_sem, G0, G1]) rfl ⟨g1, g2, mid, d1, d2, rfl, (unhide D9).1, (unhide D9).2.1, (unhide QQ).1, (unhide QQ).2, (unhide D9).2.2.1, (unhide D9).2.2.2, unhide K9⟩

set_option maxHeartbeats 8000000 in
theorem eachK_impl {R n : Nat} {S : Nat → Prop} {G : Nat → Nat} {FN : FuncId} {caps : Array Value} (Q : Nat → DE → Prop) (hcf : ∀ (w : World) (args : Array Value), (callFunc FN args).run Tryz.prog w = .ok (.enter FN args) w) (w : World) (hn : n ≤ 1000) (sq : SqH S w R n n G)
    (H : ∀ p w', p < n * n → Kept 0 0 w w' → Calls Tryz.prog FN (#[.agg #[.pointer (some ⟨G (2 * p), 0, none⟩), .pointer (some ⟨G (2 * p + 1), 0, none⟩)]] ++ caps) w' fun e w'' => ∃ g1 g2 mid d1 d2, e = .returned (.agg #[.pointer (some ⟨g1, 0, none⟩), .pointer (some ⟨g2, 0, none⟩)]) ∧ DwK w'.heap.size mid w'' g1 d1 ∧ DwK mid w''.heap.size w'' g2 d2 ∧ Q (2 * p) d1 ∧ Q (2 * p + 1) d2 ∧ w'.heap.size ≤ mid ∧ mid ≤ w''.heap.size ∧ Kept 0 0 w' w'') :
    Calls Tryz.prog 114 #[.agg #[.slice (some ⟨R, 0, none⟩) n n], .func (.func FN) #[] caps] w fun e w' => ∃ R' G' S' F', e = .returned (.agg #[.slice (some ⟨R', 0, none⟩) n n]) ∧ SqH S' w' R' n n G' ∧ NumsK w.heap.size S' w' (2 * (n * n)) G' F' ∧ (∀ p, p < 2 * (n * n) → Q p (F' p)) ∧ (∀ x, S' x → w.heap.size ≤ x ∧ x < w'.heap.size) ∧ w.heap.size ≤ R' ∧ Kept 0 0 w w' := by
  obtain ⟨W, hW⟩ : ∃ W, W = ((w.alloc (.cells #[.slice (some ⟨R, 0, none⟩) n n] 76)).alloc (.cells #[.func (.func FN) #[] caps] 127)).alloc (.cells #[.slice none 0 0] 76) := ⟨_, rfl⟩
  have k0 : Kept 0 0 w W := by rw [hW]; exact (((Kept.refl 0 0 w).alloc _).alloc _).alloc _
  have c1 : W.cell? ⟨w.heap.size, 0, none⟩ = some (.slice (some ⟨R, 0, none⟩) n n) := by rw [hW]; exact old_cell _ (old_cell _ (new_cell_at _ _ _ _ rfl))
  have c0 : W.cell? ⟨w.heap.size + 1, 0, none⟩ = some (.func (.func FN) #[] caps) := by rw [hW]; exact old_cell _ (new_cell_at _ _ _ _ (by simp))
  have q0 : W.cell? ⟨w.heap.size + 2, 0, none⟩ = some (.slice none 0 0) := by rw [hW]; exact new_cell2 _ _ _ _ _ _ (by simp) rfl
  have qf : W.frozen? ⟨w.heap.size + 2, 0, none⟩ = false := by rw [hW]; exact new_loose2 _ _ _ _ _ (by simp)
  have sW : W.heap.size = w.heap.size + 3 := by rw [hW]; simp
  have hm := makeSquareK_newQ (n := n) hn 171 in_eachH1 #[.pointer (some ⟨w.heap.size + 1, 0, none⟩), .pointer (some ⟨w.heap.size, 0, none⟩)] Q W (fun i j w' hi hj k => eachK1_impl (B := w.heap.size) (FN := FN) (caps := caps) (Q1 := Q (2 * (i * n + j))) (Q2 := Q (2 * (i * n + j) + 1)) hcf w' hn hi hj ((sq.kept k0).kept k) (k.cell0 c0) (k.cell0 c1) (fun w'' k' => H (i * n + j) w'' (place_lt hi hj) ((k0.trans k).trans k')))
  rw [hW] at hm c1
  have SW := hide sW
  clear sW c0 H sq
  go_enter Tryz.func114, Tryz.ntmps114
  go_wp2_with fail
  refine hm.mono ?_
  rw [← hW]
  rintro e w1 ⟨R', G', S', F', rfl, sq, nm, hQ, hS, hR, k1⟩
  have q1 := k1.cell0 q0
  have qf1 := k1.loose0 (World.block_lt_of_cell? _ _ q0) qf
  have sW := unhide SW
  have E1 := cell_on w1 (w.heap.size + 2) 0 (.slice (some ⟨R', 0, none⟩) n n) _ q1
  have ks : Kept (w.heap.size + 2) (w.heap.size + 2 + 1) w1 (w1.setCell ⟨w.heap.size + 2, 0, none⟩ (.slice (some ⟨R', 0, none⟩) n n)) := (Kept.refl _ _ _).setCell (p := ⟨w.heap.size + 2, 0, none⟩) (Nat.le_refl _) (Nat.lt_succ_self _) _
  have S2 : Hid (SqH S' (w1.setCell ⟨w.heap.size + 2, 0, none⟩ (.slice (some ⟨R', 0, none⟩) n n)) R' n n G' ∧ NumsK w.heap.size S' (w1.setCell ⟨w.heap.size + 2, 0, none⟩ (.slice (some ⟨R', 0, none⟩) n n)) (2 * (n * n)) G' F' ∧ (∀ x, S' x → w.heap.size ≤ x ∧ x < (w1.setCell ⟨w.heap.size + 2, 0, none⟩ (.slice (some ⟨R', 0, none⟩) n n)).heap.size)) :=
    ⟨sq.keptY ks (by omega), (nm.win ks (by omega)).less (by omega), fun x hx => by (have := hS x hx; rw [size_set]; omega)⟩
  have K2 := hide ((k0.trans k1).wide ks (by omega))
  have hRR : w.heap.size ≤ R' := by omega
  have NQ := hide hQ
  clear hm sq nm hQ hS hR k1 ks sW q0 qf c1
  go_wp2
  exact bodyPost_ret (v := .agg #[.slice (some ⟨R', 0, none⟩) n n]) (by simp [results, Tryz.results114, go_sem, E1]) rfl ⟨R', G', S', F', rfl, (unhide S2).1, (unhide S2).2.1, unhide NQ, (unhide S2).2.2, by have := hRR; omega, unhide K2⟩

set_option maxHeartbeats 4000000 in
theorem tellEndK_impl {lo hi g : Nat} {d : DE} (m : Int) (w : World) (D : DwK lo hi w g d) (hhi : hi ≤ w.heap.size) (ok : TelOk d) (T : TabB w) :
    Calls Tryz.prog 112 #[.pointer (some ⟨g, 0, none⟩), .int .i64 m] w fun e w' => ∃ v', e = .returned (.tuple #[.agg #[.bool (tdE d).1, v', .int .i64 (tdE d).2.2], .bool (tdB d)]) ∧ Row .i64 true w.heap.size w'.heap.size w' v' (tdE d).2.1 ∧ Kept lo hi w w' := by
  obtain ⟨W, hW⟩ : ∃ W, W = w.alloc (.cells #[.bool false, .slice none 0 0, .int .i64 0] 52) := ⟨_, rfl⟩
  have k0 : Kept 0 0 w W := by rw [hW]; exact (Kept.refl 0 0 w).alloc _
  have q0 : W.cell? ⟨w.heap.size, 0, none⟩ = some (.bool false) := by rw [hW]; exact new_cell2 _ _ _ _ _ _ rfl rfl
  have q1 : W.cell? ⟨w.heap.size, 1, none⟩ = some (.slice none 0 0) := by rw [hW]; exact new_cell2 _ _ _ _ _ _ rfl rfl
  have q2 : W.cell? ⟨w.heap.size, 2, none⟩ = some (.int .i64 0) := by rw [hW]; exact new_cell2 _ _ _ _ _ _ rfl rfl
  have f0 : W.frozen? ⟨w.heap.size, 0, none⟩ = false := by rw [hW]; exact new_loose2 _ _ _ _ _ rfl
  have f1 : W.frozen? ⟨w.heap.size, 1, none⟩ = false := by rw [hW]; exact new_loose2 _ _ _ _ _ rfl
  have f2 : W.frozen? ⟨w.heap.size, 2, none⟩ = false := by rw [hW]; exact new_loose2 _ _ _ _ _ rfl
  have sW : W.heap.size = w.heap.size + 1 := by rw [hW]; simp
  obtain ⟨u, nu, su, xu, l1, l2, l3⟩ := DwK.kept D k0
  have htd := toldDyadic_wrk (wval d.1 d.2.1) rfl W nu su xu ok.1 ok.2.1 ok.2.2.1 ok.2.2.2 (T.kept k0)
  obtain ⟨GB, hGB⟩ : ∃ y, ansDB true (wval d.1 d.2.1) d.2.2 = y := ⟨_, rfl⟩
  obtain ⟨GS, hGS⟩ : ∃ y, ansDS true (wval d.1 d.2.1) d.2.2 = y := ⟨_, rfl⟩
  obtain ⟨GL, hGL⟩ : ∃ y, ansDL true (wval d.1 d.2.1) d.2.2 = y := ⟨_, rfl⟩
  obtain ⟨GE, hGE⟩ : ∃ y, ansDE true (wval d.1 d.2.1) d.2.2 = y := ⟨_, rfl⟩
  unfold tdE tdB
  dsimp only
  rw [hGB, hGS, hGL, hGE] at htd ⊢
  have W1 : Hid (∀ q, Own1 g u q → lo ≤ q ∧ q < hi) := fun q hq => by
    rcases hq with h | h
    · subst h; exact ⟨l1, l2⟩
    · exact l3 q h
  have SW := hide sW
  have K0 := hide k0
  rw [hW] at htd
  clear nu su xu l1 l2 l3 ok T D hGB hGS hGL hGE sW k0
  go_enter Tryz.func112, Tryz.ntmps112
  go_wp2_with fail
  rw [← hW] at htd ⊢
  clear hW
  refine htd.mono ?_
  rintro e w1 ⟨v1, rfl, r1, m1⟩
  obtain ⟨a1, c1, hv1⟩ := Row.form' r1
  subst hv1
  have k1 : Kept lo hi W w1 := ⟨m1.os, m1.tape, m1.output, m1.size, fun q hq ho => m1.block q hq (fun h => by have := unhide W1 q h; omega)⟩
  have sW := unhide SW
  replace f0 := k1.looseOut (a := ⟨w.heap.size, 0, none⟩) (.inr hhi) (World.block_lt_of_cell? _ _ q0) f0
  replace f1 := k1.looseOut (a := ⟨w.heap.size, 1, none⟩) (.inr hhi) (World.block_lt_of_cell? _ _ q1) f1
  replace f2 := k1.looseOut (a := ⟨w.heap.size, 2, none⟩) (.inr hhi) (World.block_lt_of_cell? _ _ q2) f2
  replace q0 := k1.cellOut (a := ⟨w.heap.size, 0, none⟩) (.inr hhi) q0
  replace q1 := k1.cellOut (a := ⟨w.heap.size, 1, none⟩) (.inr hhi) q1
  replace q2 := k1.cellOut (a := ⟨w.heap.size, 2, none⟩) (.inr hhi) q2
  have K7 := hide ((((((unhide K0).any (lo := lo) (hi := hi)).trans k1).setNew (p := ⟨w.heap.size, 0, none⟩) (Nat.le_refl _) (.bool GS)).setNew (p := ⟨w.heap.size, 1, none⟩) (Nat.le_refl _) (.slice a1 GL.length c1)).setNew (p := ⟨w.heap.size, 2, none⟩) (Nat.le_refl _) (.int .i64 GE))
  have R7 := hide ((((r1.set_other (p := ⟨w.heap.size, 0, none⟩) (.inl (by dsimp only; omega)) (.bool GS)).set_other (p := ⟨w.heap.size, 1, none⟩) (.inl (by dsimp only; omega)) (.slice a1 GL.length c1)).set_other (p := ⟨w.heap.size, 2, none⟩) (.inl (by dsimp only; omega)) (.int .i64 GE)).tight.wider (lo' := w.heap.size) (by omega) (Nat.le_refl _))
  clear htd r1 m1 k1 K0 W1 sW
  go_wp2
  exact bodyPost_ret (v := .tuple #[.agg #[.bool GS, .slice a1 GL.length c1, .int .i64 GE], .bool GB]) (by simp [results, Tryz.results112, go_sem, q0, q1, q2]) rfl ⟨_, rfl, unhide R7, unhide K7⟩

set_option maxHeartbeats 8000000 in
theorem bothEndsK_impl {l1 h1 l2 h2 g1 g2 : Nat} {d1 d2 : DE} (w : World) (D1 : DwK l1 h1 w g1 d1) (D2 : DwK l2 h2 w g2 d2) (hh1 : h1 ≤ w.heap.size) (hh2 : h2 ≤ w.heap.size) (hd : h1 ≤ l2 ∨ h2 ≤ l1) (ok1 : TelOk d1) (ok2 : TelOk d2) (T : TabB w) (t1 : 1 < l1) :
    Calls Tryz.prog 111 #[.pointer (some ⟨g1, 0, none⟩), .pointer (some ⟨g2, 0, none⟩), .func (.func 112) #[] #[]] w fun e w' => HAns (hB d1 d2) d1 d2 (HW l1 h1 l2 h2) w e w' := by
  obtain ⟨W, hW⟩ : ∃ W, W = w.alloc (.cells #[.bool false, .slice none 0 0, .int .i64 0, .bool false, .slice none 0 0, .int .i64 0] 102) := ⟨_, rfl⟩
  have k0 : Kept 0 0 w W := by rw [hW]; exact (Kept.refl 0 0 w).alloc _

  have R0 : W.cell? ⟨w.heap.size, 0, none⟩ = some (.bool false) := by rw [hW]; exact new_cell2 _ _ _ _ _ _ rfl rfl
  have Rf0 : W.frozen? ⟨w.heap.size, 0, none⟩ = false := by rw [hW]; exact new_loose2 _ _ _ _ _ rfl
  have R1 : W.cell? ⟨w.heap.size, 1, none⟩ = some (.slice none 0 0) := by rw [hW]; exact new_cell2 _ _ _ _ _ _ rfl rfl
  have Rf1 : W.frozen? ⟨w.heap.size, 1, none⟩ = false := by rw [hW]; exact new_loose2 _ _ _ _ _ rfl
  have R2 : W.cell? ⟨w.heap.size, 2, none⟩ = some (.int .i64 0) := by rw [hW]; exact new_cell2 _ _ _ _ _ _ rfl rfl
  have Rf2 : W.frozen? ⟨w.heap.size, 2, none⟩ = false := by rw [hW]; exact new_loose2 _ _ _ _ _ rfl
  have R3 : W.cell? ⟨w.heap.size, 3, none⟩ = some (.bool false) := by rw [hW]; exact new_cell2 _ _ _ _ _ _ rfl rfl
  have Rf3 : W.frozen? ⟨w.heap.size, 3, none⟩ = false := by rw [hW]; exact new_loose2 _ _ _ _ _ rfl
  have R4 : W.cell? ⟨w.heap.size, 4, none⟩ = some (.slice none 0 0) := by rw [hW]; exact new_cell2 _ _ _ _ _ _ rfl rfl
  have Rf4 : W.frozen? ⟨w.heap.size, 4, none⟩ = false := by rw [hW]; exact new_loose2 _ _ _ _ _ rfl
  have R5 : W.cell? ⟨w.heap.size, 5, none⟩ = some (.int .i64 0) := by rw [hW]; exact new_cell2 _ _ _ _ _ _ rfl rfl
  have Rf5 : W.frozen? ⟨w.heap.size, 5, none⟩ = false := by rw [hW]; exact new_loose2 _ _ _ _ _ rfl
  have sW : W.heap.size = w.heap.size + 1 := by rw [hW]; simp
  have hc1 := tellEndK_impl 3 W (DwK.kept D1 k0) (by omega) ok1 (T.kept k0)
  obtain ⟨⟨s1, z1, y1⟩, hE1⟩ : ∃ q, q = tdE d1 := ⟨_, rfl⟩
  obtain ⟨⟨s2, z2, y2⟩, hE2⟩ : ∃ q, q = tdE d2 := ⟨_, rfl⟩
  have HE1 := hide hE1
  have HE2 := hide hE2
  rw [← hE1] at hc1
  dsimp only at hc1
  obtain ⟨b1, hb1⟩ : ∃ q, q = tdB d1 := ⟨_, rfl⟩
  obtain ⟨b2, hb2⟩ : ∃ q, q = tdB d2 := ⟨_, rfl⟩
  have HB : Hid (hB d1 d2 = (b1 && b2)) := by show _ = _; rw [hb1, hb2]; rfl
  have HB2 := hide hb2
  rw [← hb1] at hc1
  rw [unhide HB]
  have DD2 := hide (DwK.kept D2 k0)
  have OK2 := hide ok2
  have TT := hide (T.kept k0)
  have K0 := hide k0
  have SW := hide sW
  have HW1 := hide (And.intro hh1 (And.intro hh2 (And.intro hd t1)))
  rw [hW] at hc1
  clear D1 D2 ok1 ok2 T hh1 hh2 hd t1 hE1 hE2 hb1 hb2 k0 sW
  go_enter Tryz.func111, Tryz.ntmps111
  go_wp2_with fail
  rw [← hW] at hc1 ⊢
  clear hW
  refine hc1.mono ?_
  rintro e w1 ⟨vL, rfl, rL, k1⟩
  obtain ⟨hh1, hh2, hd, t1⟩ := unhide HW1
  have sW := unhide SW
  replace Rf0 := k1.looseOut (a := ⟨w.heap.size, 0, none⟩) (.inr hh1) (World.block_lt_of_cell? _ _ R0) Rf0
  replace Rf1 := k1.looseOut (a := ⟨w.heap.size, 1, none⟩) (.inr hh1) (World.block_lt_of_cell? _ _ R1) Rf1
  replace Rf2 := k1.looseOut (a := ⟨w.heap.size, 2, none⟩) (.inr hh1) (World.block_lt_of_cell? _ _ R2) Rf2
  replace Rf3 := k1.looseOut (a := ⟨w.heap.size, 3, none⟩) (.inr hh1) (World.block_lt_of_cell? _ _ R3) Rf3
  replace Rf4 := k1.looseOut (a := ⟨w.heap.size, 4, none⟩) (.inr hh1) (World.block_lt_of_cell? _ _ R4) Rf4
  replace Rf5 := k1.looseOut (a := ⟨w.heap.size, 5, none⟩) (.inr hh1) (World.block_lt_of_cell? _ _ R5) Rf5
  replace R0 := k1.cellOut (a := ⟨w.heap.size, 0, none⟩) (.inr hh1) R0
  replace R1 := k1.cellOut (a := ⟨w.heap.size, 1, none⟩) (.inr hh1) R1
  replace R2 := k1.cellOut (a := ⟨w.heap.size, 2, none⟩) (.inr hh1) R2
  replace R3 := k1.cellOut (a := ⟨w.heap.size, 3, none⟩) (.inr hh1) R3
  replace R4 := k1.cellOut (a := ⟨w.heap.size, 4, none⟩) (.inr hh1) R4
  replace R5 := k1.cellOut (a := ⟨w.heap.size, 5, none⟩) (.inr hh1) R5
  have D2' := (unhide DD2).keptA k1 (by omega)
  have TL : TabB w1 := fun q hq => k1.cellOut (a := ⟨1, q, none⟩) (.inl t1) (unhide TT q hq)
  have K1 := hide ((unhide K0).any.trans k1)
  have z1' := k1.size
  obtain ⟨aL, dL, hv⟩ := Row.form' rL
  subst hv
  clear hc1 k1 DD2 TT
  have kn := (Kept.refl 0 0 w1).alloc (.cells #[.bool s1, .slice aL z1.length dL, .int .i64 y1] 52)
  have A0 : (w1.alloc (.cells #[.bool s1, .slice aL z1.length dL, .int .i64 y1] 52)).cell? ⟨w1.heap.size, 0, none⟩ = some (.bool s1) := new_cell2 _ _ _ _ _ _ rfl rfl
  have A1 : (w1.alloc (.cells #[.bool s1, .slice aL z1.length dL, .int .i64 y1] 52)).cell? ⟨w1.heap.size, 1, none⟩ = some (.slice aL z1.length dL) := new_cell2 _ _ _ _ _ _ rfl rfl
  have A2 : (w1.alloc (.cells #[.bool s1, .slice aL z1.length dL, .int .i64 y1] 52)).cell? ⟨w1.heap.size, 2, none⟩ = some (.int .i64 y1) := new_cell2 _ _ _ _ _ _ rfl rfl
  have t3 : (w1.alloc (.cells #[.bool s1, .slice aL z1.length dL, .int .i64 y1] 52)).heap.size = w1.heap.size + 1 := by simp
  replace rL := rL.kept kn (.inr (.inr (Nat.le_refl 0)))
  replace Rf0 := kn.loose0 (World.block_lt_of_cell? _ _ R0) Rf0
  replace Rf1 := kn.loose0 (World.block_lt_of_cell? _ _ R1) Rf1
  replace Rf2 := kn.loose0 (World.block_lt_of_cell? _ _ R2) Rf2
  replace Rf3 := kn.loose0 (World.block_lt_of_cell? _ _ R3) Rf3
  replace Rf4 := kn.loose0 (World.block_lt_of_cell? _ _ R4) Rf4
  replace Rf5 := kn.loose0 (World.block_lt_of_cell? _ _ R5) Rf5
  replace R0 := kn.cell0 R0
  replace R1 := kn.cell0 R1
  replace R2 := kn.cell0 R2
  replace R3 := kn.cell0 R3
  replace R4 := kn.cell0 R4
  replace R5 := kn.cell0 R5
  replace K1 := hide ((unhide K1).trans kn.any)
  replace D2' := DwK.kept D2' kn
  replace TL := TL.kept kn
  have hc2 := tellEndK_impl 2 (w1.alloc (.cells #[.bool s1, .slice aL z1.length dL, .int .i64 y1] 52)) D2' (by omega) (unhide OK2) TL
  rw [← unhide HE2, ← unhide HB2] at hc2
  dsimp only at hc2
  clear kn D2' TL OK2 HB2
  cases b1
  · have K7 : Hid (Kept l1 h1 w _) := hide (((((((unhide K1).setNew (p := ⟨w.heap.size, 0, none⟩) (Nat.le_refl _) (.bool false)).setNew (p := ⟨w.heap.size, 1, none⟩) (Nat.le_refl _) (.slice none 0 0)).setNew (p := ⟨w.heap.size, 2, none⟩) (Nat.le_refl _) (.int .i64 0)).setNew (p := ⟨w.heap.size, 3, none⟩) (Nat.le_refl _) (.bool false)).setNew (p := ⟨w.heap.size, 4, none⟩) (Nat.le_refl _) (.slice none 0 0)).setNew (p := ⟨w.heap.size, 5, none⟩) (Nat.le_refl _) (.int .i64 0))
    clear rL K1 hc2
    go_wp2
    exact bodyPost_ret (v := .tuple #[.agg #[.bool false, .slice none 0 0, .int .i64 0, .bool false, .slice none 0 0, .int .i64 0], .bool false]) (by simp [results, Tryz.results111, go_sem, R0, R1, R2, R3, R4, R5]) rfl (hAns_no ((unhide K7).modW.monoH (fun x hx => .inl hx)))
  go_wp2_with fail
  refine hc2.mono ?_
  rintro e w5 ⟨vM, rfl, rM, k5⟩
  obtain ⟨aM, dM, hv⟩ := Row.form' rM
  subst hv
  replace rL := rL.kept k5 (by omega)
  replace Rf0 := k5.looseOut (a := ⟨w.heap.size, 0, none⟩) (.inr hh2) (World.block_lt_of_cell? _ _ R0) Rf0
  replace Rf1 := k5.looseOut (a := ⟨w.heap.size, 1, none⟩) (.inr hh2) (World.block_lt_of_cell? _ _ R1) Rf1
  replace Rf2 := k5.looseOut (a := ⟨w.heap.size, 2, none⟩) (.inr hh2) (World.block_lt_of_cell? _ _ R2) Rf2
  replace Rf3 := k5.looseOut (a := ⟨w.heap.size, 3, none⟩) (.inr hh2) (World.block_lt_of_cell? _ _ R3) Rf3
  replace Rf4 := k5.looseOut (a := ⟨w.heap.size, 4, none⟩) (.inr hh2) (World.block_lt_of_cell? _ _ R4) Rf4
  replace Rf5 := k5.looseOut (a := ⟨w.heap.size, 5, none⟩) (.inr hh2) (World.block_lt_of_cell? _ _ R5) Rf5
  replace R0 := k5.cellOut (a := ⟨w.heap.size, 0, none⟩) (.inr hh2) R0
  replace R1 := k5.cellOut (a := ⟨w.heap.size, 1, none⟩) (.inr hh2) R1
  replace R2 := k5.cellOut (a := ⟨w.heap.size, 2, none⟩) (.inr hh2) R2
  replace R3 := k5.cellOut (a := ⟨w.heap.size, 3, none⟩) (.inr hh2) R3
  replace R4 := k5.cellOut (a := ⟨w.heap.size, 4, none⟩) (.inr hh2) R4
  replace R5 := k5.cellOut (a := ⟨w.heap.size, 5, none⟩) (.inr hh2) R5
  replace A0 := k5.cellOut (a := ⟨w1.heap.size, 0, none⟩) (.inr (by dsimp only; omega)) A0
  replace A1 := k5.cellOut (a := ⟨w1.heap.size, 1, none⟩) (.inr (by dsimp only; omega)) A1
  replace A2 := k5.cellOut (a := ⟨w1.heap.size, 2, none⟩) (.inr (by dsimp only; omega)) A2
  have kn := (Kept.refl 0 0 w5).alloc (.cells #[.bool s2, .slice aM z2.length dM, .int .i64 y2] 52)
  have B0 : (w5.alloc (.cells #[.bool s2, .slice aM z2.length dM, .int .i64 y2] 52)).cell? ⟨w5.heap.size, 0, none⟩ = some (.bool s2) := new_cell2 _ _ _ _ _ _ rfl rfl
  have B1 : (w5.alloc (.cells #[.bool s2, .slice aM z2.length dM, .int .i64 y2] 52)).cell? ⟨w5.heap.size, 1, none⟩ = some (.slice aM z2.length dM) := new_cell2 _ _ _ _ _ _ rfl rfl
  have B2 : (w5.alloc (.cells #[.bool s2, .slice aM z2.length dM, .int .i64 y2] 52)).cell? ⟨w5.heap.size, 2, none⟩ = some (.int .i64 y2) := new_cell2 _ _ _ _ _ _ rfl rfl
  have t7 : (w5.alloc (.cells #[.bool s2, .slice aM z2.length dM, .int .i64 y2] 52)).heap.size = w5.heap.size + 1 := by simp
  replace rL := rL.kept kn (.inr (.inr (Nat.le_refl 0)))
  replace rM := rM.kept kn (.inr (.inr (Nat.le_refl 0)))
  have z5 := k5.size
  replace Rf0 := kn.loose0 (World.block_lt_of_cell? _ _ R0) Rf0
  replace Rf1 := kn.loose0 (World.block_lt_of_cell? _ _ R1) Rf1
  replace Rf2 := kn.loose0 (World.block_lt_of_cell? _ _ R2) Rf2
  replace Rf3 := kn.loose0 (World.block_lt_of_cell? _ _ R3) Rf3
  replace Rf4 := kn.loose0 (World.block_lt_of_cell? _ _ R4) Rf4
  replace Rf5 := kn.loose0 (World.block_lt_of_cell? _ _ R5) Rf5
  replace R0 := kn.cell0 R0
  replace R1 := kn.cell0 R1
  replace R2 := kn.cell0 R2
  replace R3 := kn.cell0 R3
  replace R4 := kn.cell0 R4
  replace R5 := kn.cell0 R5
  replace A0 := kn.cell0 A0
  replace A1 := kn.cell0 A1
  replace A2 := kn.cell0 A2
  have M5 : Hid (Mod (HW l1 h1 l2 h2) w (w5.alloc (.cells #[.bool s2, .slice aM z2.length dM, .int .i64 y2] 52))) := (((unhide K1).modW.monoH (fun x hx => .inl hx)).trans (k5.modW.monoH (fun x hx => .inr hx))).kept kn
  clear hc2 k5 K1 kn

  cases b2
  · have M7 := hide (((((((unhide M5).set (p := ⟨w.heap.size, 0, none⟩) (.inr (Nat.le_refl _)) (.bool false)).set (p := ⟨w.heap.size, 1, none⟩) (.inr (Nat.le_refl _)) (.slice none 0 0)).set (p := ⟨w.heap.size, 2, none⟩) (.inr (Nat.le_refl _)) (.int .i64 0)).set (p := ⟨w.heap.size, 3, none⟩) (.inr (Nat.le_refl _)) (.bool false)).set (p := ⟨w.heap.size, 4, none⟩) (.inr (Nat.le_refl _)) (.slice none 0 0)).set (p := ⟨w.heap.size, 5, none⟩) (.inr (Nat.le_refl _)) (.int .i64 0))
    clear rL rM M5
    go_wp2
    exact bodyPost_ret (v := .tuple #[.agg #[.bool false, .slice none 0 0, .int .i64 0, .bool false, .slice none 0 0, .int .i64 0], .bool false]) (by simp [results, Tryz.results111, go_sem, R0, R1, R2, R3, R4, R5]) rfl (hAns_no (unhide M7))
  have M7 := hide (((((((unhide M5).set (p := ⟨w.heap.size, 0, none⟩) (.inr (Nat.le_refl _)) (.bool s1)).set (p := ⟨w.heap.size, 1, none⟩) (.inr (Nat.le_refl _)) (.slice aL z1.length dL)).set (p := ⟨w.heap.size, 2, none⟩) (.inr (Nat.le_refl _)) (.int .i64 y1)).set (p := ⟨w.heap.size, 3, none⟩) (.inr (Nat.le_refl _)) (.bool s2)).set (p := ⟨w.heap.size, 4, none⟩) (.inr (Nat.le_refl _)) (.slice aM z2.length dM)).set (p := ⟨w.heap.size, 5, none⟩) (.inr (Nat.le_refl _)) (.int .i64 y2))
  have RL := hide ((((((rL.set_other (p := ⟨w.heap.size, 0, none⟩) (.inl (by dsimp only; omega)) (.bool s1)).set_other (p := ⟨w.heap.size, 1, none⟩) (.inl (by dsimp only; omega)) (.slice aL z1.length dL)).set_other (p := ⟨w.heap.size, 2, none⟩) (.inl (by dsimp only; omega)) (.int .i64 y1)).set_other (p := ⟨w.heap.size, 3, none⟩) (.inl (by dsimp only; omega)) (.bool s2)).set_other (p := ⟨w.heap.size, 4, none⟩) (.inl (by dsimp only; omega)) (.slice aM z2.length dM)).set_other (p := ⟨w.heap.size, 5, none⟩) (.inl (by dsimp only; omega)) (.int .i64 y2))
  have RM := hide ((((((rM.set_other (p := ⟨w.heap.size, 0, none⟩) (.inl (by dsimp only; omega)) (.bool s1)).set_other (p := ⟨w.heap.size, 1, none⟩) (.inl (by dsimp only; omega)) (.slice aL z1.length dL)).set_other (p := ⟨w.heap.size, 2, none⟩) (.inl (by dsimp only; omega)) (.int .i64 y1)).set_other (p := ⟨w.heap.size, 3, none⟩) (.inl (by dsimp only; omega)) (.bool s2)).set_other (p := ⟨w.heap.size, 4, none⟩) (.inl (by dsimp only; omega)) (.slice aM z2.length dM)).set_other (p := ⟨w.heap.size, 5, none⟩) (.inl (by dsimp only; omega)) (.int .i64 y2))
  have hz : Hid (w.heap.size ≤ w1.heap.size ∧ w1.heap.size + 1 ≤ (w5.alloc (.cells #[.bool s2, .slice aM z2.length dM, .int .i64 y2] 52)).heap.size) := ⟨by omega, by omega⟩
  clear M5 rL rM
  have e1 : hE (true && true) d1 = (s1, z1, y1) := (unhide HE1).symm
  have e2 : hE (true && true) d2 = (s2, z2, y2) := (unhide HE2).symm
  have E1 := hide e1
  have E2 := hide e2
  clear e1 e2
  go_wp2
  have e1 := unhide E1
  have e2 := unhide E2
  refine bodyPost_ret (v := .tuple #[.agg #[.bool s1, .slice aL z1.length dL, .int .i64 y1, .bool s2, .slice aM z2.length dM, .int .i64 y2], .bool true]) (by simp [results, Tryz.results111, go_sem, R0, R1, R2, R3, R4, R5]) rfl ⟨_, _, w1.heap.size, by rw [e1, e2]; rfl, ?_, ?_, (unhide hz).1, by simp only [size_set]; have := (unhide hz).2; omega, unhide M7⟩
  · rw [e1]; exact (unhide RL).wider (by have := sW; omega) (Nat.le_refl _)
  · rw [e2]; exact (unhide RM).tight.wider (by have := t3; omega) (Nat.le_refl _)

set_option maxHeartbeats 4000000 in
theorem toldHeld1K_impl {l1 h1 l2 h2 g1 g2 : Nat} {d1 d2 : DE} (w : World) (D1 : DwK l1 h1 w g1 d1) (D2 : DwK l2 h2 w g2 d2) (hh1 : h1 ≤ w.heap.size) (hh2 : h2 ≤ w.heap.size) (hd : h1 ≤ l2 ∨ h2 ≤ l1) (ok1 : TelOk d1) (ok2 : TelOk d2) (T : TabB w) (t1 : 1 < l1) :
    Calls Tryz.prog 110 #[.agg #[.pointer (some ⟨g1, 0, none⟩), .pointer (some ⟨g2, 0, none⟩)]] w fun e w' => HAns (hB d1 d2) d1 d2 (HW l1 h1 l2 h2) w e w' := by
  obtain ⟨W, hW⟩ : ∃ W, W = (w.alloc (.cells #[.pointer (some ⟨g1, 0, none⟩), .pointer (some ⟨g2, 0, none⟩)] 79)).alloc (.cells #[.bool false, .slice none 0 0, .int .i64 0, .bool false, .slice none 0 0, .int .i64 0] 102) := ⟨_, rfl⟩
  have k0 : Kept 0 0 w W := by rw [hW]; exact ((Kept.refl 0 0 w).alloc _).alloc _
  have c0 : W.cell? ⟨w.heap.size, 0, none⟩ = some (.pointer (some ⟨g1, 0, none⟩)) := by rw [hW]; exact old_cell _ (new_cell2 _ _ _ _ _ _ rfl rfl)
  have c1 : W.cell? ⟨w.heap.size, 1, none⟩ = some (.pointer (some ⟨g2, 0, none⟩)) := by rw [hW]; exact old_cell _ (new_cell2 _ _ _ _ _ _ rfl rfl)
  have R0 : W.cell? ⟨w.heap.size + 1, 0, none⟩ = some (.bool false) := by rw [hW]; exact new_cell2 _ _ _ _ _ _ (by simp) rfl
  have Rf0 : W.frozen? ⟨w.heap.size + 1, 0, none⟩ = false := by rw [hW]; exact new_loose2 _ _ _ _ _ (by simp)
  have R1 : W.cell? ⟨w.heap.size + 1, 1, none⟩ = some (.slice none 0 0) := by rw [hW]; exact new_cell2 _ _ _ _ _ _ (by simp) rfl
  have Rf1 : W.frozen? ⟨w.heap.size + 1, 1, none⟩ = false := by rw [hW]; exact new_loose2 _ _ _ _ _ (by simp)
  have R2 : W.cell? ⟨w.heap.size + 1, 2, none⟩ = some (.int .i64 0) := by rw [hW]; exact new_cell2 _ _ _ _ _ _ (by simp) rfl
  have Rf2 : W.frozen? ⟨w.heap.size + 1, 2, none⟩ = false := by rw [hW]; exact new_loose2 _ _ _ _ _ (by simp)
  have R3 : W.cell? ⟨w.heap.size + 1, 3, none⟩ = some (.bool false) := by rw [hW]; exact new_cell2 _ _ _ _ _ _ (by simp) rfl
  have Rf3 : W.frozen? ⟨w.heap.size + 1, 3, none⟩ = false := by rw [hW]; exact new_loose2 _ _ _ _ _ (by simp)
  have R4 : W.cell? ⟨w.heap.size + 1, 4, none⟩ = some (.slice none 0 0) := by rw [hW]; exact new_cell2 _ _ _ _ _ _ (by simp) rfl
  have Rf4 : W.frozen? ⟨w.heap.size + 1, 4, none⟩ = false := by rw [hW]; exact new_loose2 _ _ _ _ _ (by simp)
  have R5 : W.cell? ⟨w.heap.size + 1, 5, none⟩ = some (.int .i64 0) := by rw [hW]; exact new_cell2 _ _ _ _ _ _ (by simp) rfl
  have Rf5 : W.frozen? ⟨w.heap.size + 1, 5, none⟩ = false := by rw [hW]; exact new_loose2 _ _ _ _ _ (by simp)
  have sW : W.heap.size = w.heap.size + 2 := by rw [hW]; simp
  have hb := bothEndsK_impl W (DwK.kept D1 k0) (DwK.kept D2 k0) (by omega) (by omega) hd ok1 ok2 (T.kept k0) t1
  obtain ⟨⟨s1, z1, y1⟩, hE1⟩ : ∃ q, q = hE (hB d1 d2) d1 := ⟨_, rfl⟩
  obtain ⟨⟨s2, z2, y2⟩, hE2⟩ : ∃ q, q = hE (hB d1 d2) d2 := ⟨_, rfl⟩
  obtain ⟨bb, hbb⟩ : ∃ q, q = hB d1 d2 := ⟨_, rfl⟩
  unfold HAns at hb ⊢
  rw [← hE1, ← hE2, ← hbb] at hb ⊢
  dsimp only at hb ⊢
  have K0 := hide k0
  have SW := hide sW
  have HW1 := hide (And.intro hh1 hh2)
  rw [hW] at hb c0 c1
  clear D1 D2 ok1 ok2 T hh1 hh2 hd t1 hE1 hE2 hbb k0 sW
  go_enter Tryz.func110, Tryz.ntmps110
  go_wp2_with fail
  rw [← hW] at hb c0 c1 ⊢
  clear hW
  refine hb.mono ?_
  rintro e w1 ⟨v1, v2, mid, rfl, r1, r2, m1, m2, md⟩
  obtain ⟨a1, e1, hv⟩ := Row.form' r1
  subst hv
  obtain ⟨a2, e2, hv⟩ := Row.form' r2
  subst hv
  have sW := unhide SW
  obtain ⟨hh1, hh2⟩ := unhide HW1
  have hno : ¬ HW l1 h1 l2 h2 (w.heap.size + 1) := fun h => by rcases h with h | h <;> omega
  replace Rf0 := md.loose (a := ⟨w.heap.size + 1, 0, none⟩) hno (World.block_lt_of_cell? _ _ R0) Rf0
  replace Rf1 := md.loose (a := ⟨w.heap.size + 1, 1, none⟩) hno (World.block_lt_of_cell? _ _ R1) Rf1
  replace Rf2 := md.loose (a := ⟨w.heap.size + 1, 2, none⟩) hno (World.block_lt_of_cell? _ _ R2) Rf2
  replace Rf3 := md.loose (a := ⟨w.heap.size + 1, 3, none⟩) hno (World.block_lt_of_cell? _ _ R3) Rf3
  replace Rf4 := md.loose (a := ⟨w.heap.size + 1, 4, none⟩) hno (World.block_lt_of_cell? _ _ R4) Rf4
  replace Rf5 := md.loose (a := ⟨w.heap.size + 1, 5, none⟩) hno (World.block_lt_of_cell? _ _ R5) Rf5
  replace R0 := md.cell (a := ⟨w.heap.size + 1, 0, none⟩) hno R0
  replace R1 := md.cell (a := ⟨w.heap.size + 1, 1, none⟩) hno R1
  replace R2 := md.cell (a := ⟨w.heap.size + 1, 2, none⟩) hno R2
  replace R3 := md.cell (a := ⟨w.heap.size + 1, 3, none⟩) hno R3
  replace R4 := md.cell (a := ⟨w.heap.size + 1, 4, none⟩) hno R4
  replace R5 := md.cell (a := ⟨w.heap.size + 1, 5, none⟩) hno R5
  have M7 := hide ((((((((unhide K0).toMod.trans md).set (p := ⟨w.heap.size + 1, 0, none⟩) (.inr (by dsimp only; omega)) (.bool s1)).set (p := ⟨w.heap.size + 1, 1, none⟩) (.inr (by dsimp only; omega)) (.slice a1 z1.length e1)).set (p := ⟨w.heap.size + 1, 2, none⟩) (.inr (by dsimp only; omega)) (.int .i64 y1)).set (p := ⟨w.heap.size + 1, 3, none⟩) (.inr (by dsimp only; omega)) (.bool s2)).set (p := ⟨w.heap.size + 1, 4, none⟩) (.inr (by dsimp only; omega)) (.slice a2 z2.length e2)).set (p := ⟨w.heap.size + 1, 5, none⟩) (.inr (by dsimp only; omega)) (.int .i64 y2))
  have RL := hide ((((((r1.set_other (p := ⟨w.heap.size + 1, 0, none⟩) (.inl (by dsimp only; omega)) (.bool s1)).set_other (p := ⟨w.heap.size + 1, 1, none⟩) (.inl (by dsimp only; omega)) (.slice a1 z1.length e1)).set_other (p := ⟨w.heap.size + 1, 2, none⟩) (.inl (by dsimp only; omega)) (.int .i64 y1)).set_other (p := ⟨w.heap.size + 1, 3, none⟩) (.inl (by dsimp only; omega)) (.bool s2)).set_other (p := ⟨w.heap.size + 1, 4, none⟩) (.inl (by dsimp only; omega)) (.slice a2 z2.length e2)).set_other (p := ⟨w.heap.size + 1, 5, none⟩) (.inl (by dsimp only; omega)) (.int .i64 y2))
  have RM := hide ((((((r2.set_other (p := ⟨w.heap.size + 1, 0, none⟩) (.inl (by dsimp only; omega)) (.bool s1)).set_other (p := ⟨w.heap.size + 1, 1, none⟩) (.inl (by dsimp only; omega)) (.slice a1 z1.length e1)).set_other (p := ⟨w.heap.size + 1, 2, none⟩) (.inl (by dsimp only; omega)) (.int .i64 y1)).set_other (p := ⟨w.heap.size + 1, 3, none⟩) (.inl (by dsimp only; omega)) (.bool s2)).set_other (p := ⟨w.heap.size + 1, 4, none⟩) (.inl (by dsimp only; omega)) (.slice a2 z2.length e2)).set_other (p := ⟨w.heap.size + 1, 5, none⟩) (.inl (by dsimp only; omega)) (.int .i64 y2))
  have hz : Hid (w.heap.size + 2 ≤ mid ∧ mid ≤ w1.heap.size) := ⟨by omega, by omega⟩
  clear hb r1 r2 md m1 m2 K0 hno hh1 hh2 SW HW1
  go_wp2
  exact bodyPost_ret (v := .tuple #[.agg #[.bool s1, .slice a1 z1.length e1, .int .i64 y1, .bool s2, .slice a2 z2.length e2, .int .i64 y2], .bool bb]) (by simp [results, Tryz.results110, go_sem, R0, R1, R2, R3, R4, R5]) rfl ⟨_, _, mid, rfl, (unhide RL).wider (by omega) (Nat.le_refl _), (unhide RM).tight, by have := (unhide hz).1; omega, by simp only [size_set]; exact (unhide hz).2, unhide M7⟩

set_option maxHeartbeats 16000000 in
theorem toldAllK_impl {b0 n lo : Nat} {S : Nat → Prop} {v : Value} {G : Nat → Nat} {F : Nat → DE} (w0 w : World) (hn0 : 0 < n) (hn : n ≤ 100) (nm : NumsK b0 S w0 (2 * n) G F) (kw : Kept 0 0 w0 w) (own : w.ownsRow lo 79 2 v n (ptrs G (2 * n))) (hlo : w0.heap.size ≤ lo) (hF : ∀ p, p < 2 * n → TelOk (F p)) (T : TabB w) (hT : 1 < b0) :
    Calls Tryz.prog 167 #[v, .func (.func 110) #[] #[]] w fun e w' => ∃ v', e = .returned (.tuple #[v', .bool (allB (hBp F) n)]) ∧ IvsO w.heap.size w'.heap.size w' v' (hL F n) (hC F n) ∧ Kept b0 w0.heap.size w w' := by
  obtain ⟨gl, c, hv⟩ := own_someH hn0 own
  subst hv
  obtain ⟨B, hB0⟩ : ∃ B : Nat → Bool, B = hBp F := ⟨_, rfl⟩
  rw [← hB0]
  have HB0 := hide hB0
  obtain ⟨Lw, Hw, nm1, nm2⟩ := nm
  have OW := hide own
  have NM1 := hide nm1
  have NM2 := hide nm2
  have HF := hide hF
  have HT := hide hT
  have TT := hide T
  obtain ⟨s0, hs0⟩ : ∃ s0, s0 = w0.heap.size := ⟨_, rfl⟩
  rw [← hs0] at NM1 hlo ⊢
  have HLO := hide hlo
  have hsw : s0 ≤ w.heap.size := by rw [hs0]; exact kw.size
  have NM3 : Hid (∀ p, p < 2 * n → DwK (Lw p) (Hw p) w (G p) (F p) ∧ b0 ≤ Lw p ∧ Hw p ≤ s0) := fun p hp => by
    obtain ⟨d, q1, q2, -⟩ := unhide NM1 p hp
    exact ⟨d.mod (kw.toMod (S := fun _ => False)) (fun _ _ _ h => h), q1, q2⟩
  obtain ⟨DL, hDL⟩ : ∃ DL, DL = (List.range (2 * n)).map (hEs F) := ⟨_, rfl⟩
  have HDL := hide hDL
  clear hB0 own nm1 hF hT T nm2 hs0 NM1 kw hlo hDL
  obtain ⟨i0, hi0, hz0, hz1, hz2⟩ := info_parts Tryz.infoIv
  have hb0 : i0.bytes * n ≤ 281474976710656 := by rw [hz2]; omega
  have hm0 : n ≤ maxLen := by unfold maxLen; omega
  have HM := hide (show 2 * n ≤ maxLen by unfold maxLen; omega)
  go_enter Tryz.func167, Tryz.ntmps167
  go_wp2_with (at_make; refine wpList_make_full _ rfl _ _ 26 rfl w.heap.size 102 i0 (.agg #[.bool false, .slice none 0 0, .int .i64 0, .bool false, .slice none 0 0, .int .i64 0]) 6 Tryz.underlying26 hi0 hz0 hz1 .i64 .i64 _ _ n rfl rfl rfl rfl hb0 hm0 (Nat.le_refl _) ?_; intro w1 hown hgrow)
  have F0 := made_fill6F (w := w) (ds := DL) hown
  have k1 : Kept 0 0 w w1 := ⟨hgrow.os, hgrow.tape, hgrow.output, hgrow.size, fun i hi _ => hgrow.block i hi (by simp)⟩
  clear hown hgrow hi0 hz0 hz1 hz2 hb0 hm0
  obtain ⟨g, hg⟩ : ∃ g, g = w.heap.size := ⟨_, rfl⟩
  rw [← hg] at F0
  rw [← hg]
  have F1 := hide F0
  have K2 := hide k1
  have HG := hide hg
  clear F0 k1 hg
  go_loopw [16] (fun s16 wr => ∃ j : Nat, s16 = .int .i64 j ∧ j ≤ n ∧ Hid (∀ i, i < j → B i = true) ∧ Hid (Fill 0 g (2 * n) DL (2 * j) wr) ∧ Hid (Kept b0 s0 w wr ∧ ∀ p, 2 * j ≤ p → p < 2 * n → DwK (Lw p) (Hw p) wr (G p) (F p)) ∧ Hid (Mod (fun x => x = g ∨ (b0 ≤ x ∧ x < s0)) w1 wr)) (fun s16 _ => n - (intOf s16).toNat)
  case atStart => exact ⟨0, rfl, Nat.zero_le _, fun i hi => by omega, F1, ⟨(unhide K2).any, fun p _ hp => (unhide NM3 p hp).1.mod ((unhide K2).toMod (S := fun _ => False)) (fun _ _ _ h => h)⟩, Mod.refl _ _⟩
  case round =>
    clear F1 K2
    obtain ⟨j, rfl, hj, hall, hF, k, kg⟩ := hrel
    have hwj : IntKind.i64.wrap ((j : Int) + 1) = ((j + 1 : Nat) : Int) := by rw [IntKind.wrap_i64]; omega
    have hgg := unhide HG
    have HGG := hide hgg
    clear hgg
    by_cases hlt : j < n
    · have hn3 := unhide NM3 (2 * j) (by omega)
      have hn4 := unhide NM3 (2 * j + 1) (by omega)
      have dd1 := (unhide k).2 (2 * j) (Nat.le_refl _) (by omega)
      have dd2 := (unhide k).2 (2 * j + 1) (by omega) (by omega)
      have hTr : TabB wr := fun q hq => by
        have := unhide TT q hq
        exact (unhide k).1.cellOut (a := ⟨1, q, none⟩) (.inl (unhide HT)) this
      have hzr := (unhide k).1.size
      obtain ⟨P1, hP1⟩ : ∃ x, x = G (2 * j) := ⟨_, rfl⟩
      obtain ⟨P2, hP2⟩ : ∃ x, x = G (2 * j + 1) := ⟨_, rfl⟩
      rw [← hP1] at dd1
      rw [← hP2] at dd2
      have kA := (Kept.refl 0 0 wr).alloc (.cells #[.pointer (some ⟨P1, 0, none⟩), .pointer (some ⟨P2, 0, none⟩)] 79)
      have v0 : (wr.alloc (.cells #[.pointer (some ⟨P1, 0, none⟩), .pointer (some ⟨P2, 0, none⟩)] 79)).cell? ⟨wr.heap.size, 0, none⟩ = some (.pointer (some ⟨P1, 0, none⟩)) := new_cell2 _ _ _ _ _ _ rfl rfl
      have v1 : (wr.alloc (.cells #[.pointer (some ⟨P1, 0, none⟩), .pointer (some ⟨P2, 0, none⟩)] 79)).cell? ⟨wr.heap.size, 1, none⟩ = some (.pointer (some ⟨P2, 0, none⟩)) := new_cell2 _ _ _ _ _ _ rfl rfl
      have hzA := kA.size
      have KA := hide kA
      have hc2 := toldHeld1K_impl (wr.alloc (.cells #[.pointer (some ⟨P1, 0, none⟩), .pointer (some ⟨P2, 0, none⟩)] 79)) (DwK.kept dd1 kA) (DwK.kept dd2 kA) (by omega) (by omega) (unhide NM2 (2 * j) (2 * j + 1) (by omega) (by omega) (by omega)) (unhide HF (2 * j) (by omega)) (unhide HF (2 * j + 1) (by omega)) (hTr.kept kA) (by have := unhide HT; omega)
      have hcell : wr.cell? ⟨gl, j * 2, none⟩ = some (.pointer (some ⟨G (2 * j), 0, none⟩)) := by
        have := listCellH (unhide OW) (unhide k).1 (unhide HLO) (show 2 * j < 2 * n by omega)
        rw [show 2 * j = j * 2 by omega] at this ⊢; exact this
      have hcell' : wr.cell? ⟨gl, j * 2 + 1, none⟩ = some (.pointer (some ⟨G (2 * j + 1), 0, none⟩)) := by
        have := listCellH (unhide OW) (unhide k).1 (unhide HLO) (show 2 * j + 1 < 2 * n by omega)
        rw [show 2 * j + 1 = j * 2 + 1 by omega] at this ⊢; exact this
      obtain ⟨⟨s1, z1, y1⟩, hE1⟩ : ∃ q, q = hE (hB (F (2 * j)) (F (2 * j + 1))) (F (2 * j)) := ⟨_, rfl⟩
      obtain ⟨⟨s2, z2, y2⟩, hE2⟩ : ∃ q, q = hE (hB (F (2 * j)) (F (2 * j + 1))) (F (2 * j + 1)) := ⟨_, rfl⟩
      have hBj : hB (F (2 * j)) (F (2 * j + 1)) = B j := by rw [unhide HB0]; rfl
      have HE : Hid (B j = true → DL.getD (2 * j) de0 = (s1, z1, y1) ∧ DL.getD (2 * j + 1) de0 = (s2, z2, y2)) := fun hb => by
        rw [unhide HDL, map_at _ _ _ (show 2 * j < 2 * n by omega), map_at _ _ _ (show 2 * j + 1 < 2 * n by omega), hE1, hE2, hBj, hb]
        exact ⟨rfl, rfl⟩
      unfold HAns at hc2
      rw [← hE1, ← hE2, hBj] at hc2
      dsimp only at hc2
      have W2 := hide (show b0 ≤ Lw (2 * j) ∧ Hw (2 * j) ≤ s0 ∧ b0 ≤ Lw (2 * j + 1) ∧ Hw (2 * j + 1) ≤ s0 from ⟨hn3.2.1, hn3.2.2, hn4.2⟩)
      rw [← hP1] at hcell
      rw [← hP2] at hcell'
      clear dd1 dd2 hTr hE1 hE2 hBj hn3 hn4 hP1 hP2 hzr kA hzA
      go_wp2_with fail
      refine hc2.mono ?_
      rintro e w3 ⟨v3, v4, mid, rfl, r3, r4, hm1, hm2, m3⟩
      obtain ⟨a3, d3, hv3⟩ := Row.form' r3
      subst hv3
      obtain ⟨a4, d4, hv4⟩ := Row.form' r4
      subst hv4
      have hw2 := unhide W2
      have kA := unhide KA
      have hzA : (wr.alloc (.cells #[.pointer (some ⟨P1, 0, none⟩), .pointer (some ⟨P2, 0, none⟩)] 79)).heap.size = wr.heap.size + 1 := by simp
      have k3' : Kept b0 s0 (wr.alloc (.cells #[.pointer (some ⟨P1, 0, none⟩), .pointer (some ⟨P2, 0, none⟩)] 79)) w3 := ⟨m3.os, m3.tape, m3.output, m3.size, fun q hq ho => m3.block q hq (fun h => by rcases h with h | h <;> omega)⟩
      have k3 : Kept b0 s0 wr w3 := kA.any.trans k3'
      have kB := (Kept.refl 0 0 w3).alloc (.cells #[.bool s1, .slice a3 z1.length d3, .int .i64 y1, .bool s2, .slice a4 z2.length d4, .int .i64 y2] 102)
      have k4 : Kept b0 s0 wr (w3.alloc (.cells #[.bool s1, .slice a3 z1.length d3, .int .i64 y1, .bool s2, .slice a4 z2.length d4, .int .i64 y2] 102)) := k3.trans kB.any
      have z34 : (w3.alloc (.cells #[.bool s1, .slice a3 z1.length d3, .int .i64 y1, .bool s2, .slice a4 z2.length d4, .int .i64 y2] 102)).heap.size = w3.heap.size + 1 := by simp
      have q3 := (r3.kept kB (by omega)).wider (lo' := wr.heap.size) (by omega) (Nat.le_refl _)
      have hmA : wr.heap.size ≤ mid := by omega
      have q4 := (r4.kept kB (by omega)).wider (lo' := mid) (hi' := (w3.alloc (.cells #[.bool s1, .slice a3 z1.length d3, .int .i64 y1, .bool s2, .slice a4 z2.length d4, .int .i64 y2] 102)).heap.size) (Nat.le_refl _) (by omega)
      have u0 : (w3.alloc (.cells #[.bool s1, .slice a3 z1.length d3, .int .i64 y1, .bool s2, .slice a4 z2.length d4, .int .i64 y2] 102)).cell? ⟨w3.heap.size, 0, none⟩ = some (.bool s1) := new_cell2 _ _ _ _ _ _ rfl rfl
      have u1 : (w3.alloc (.cells #[.bool s1, .slice a3 z1.length d3, .int .i64 y1, .bool s2, .slice a4 z2.length d4, .int .i64 y2] 102)).cell? ⟨w3.heap.size, 1, none⟩ = some (.slice a3 z1.length d3) := new_cell2 _ _ _ _ _ _ rfl rfl
      have u2 : (w3.alloc (.cells #[.bool s1, .slice a3 z1.length d3, .int .i64 y1, .bool s2, .slice a4 z2.length d4, .int .i64 y2] 102)).cell? ⟨w3.heap.size, 2, none⟩ = some (.int .i64 y1) := new_cell2 _ _ _ _ _ _ rfl rfl
      have u3 : (w3.alloc (.cells #[.bool s1, .slice a3 z1.length d3, .int .i64 y1, .bool s2, .slice a4 z2.length d4, .int .i64 y2] 102)).cell? ⟨w3.heap.size, 3, none⟩ = some (.bool s2) := new_cell2 _ _ _ _ _ _ rfl rfl
      have u4 : (w3.alloc (.cells #[.bool s1, .slice a3 z1.length d3, .int .i64 y1, .bool s2, .slice a4 z2.length d4, .int .i64 y2] 102)).cell? ⟨w3.heap.size, 4, none⟩ = some (.slice a4 z2.length d4) := new_cell2 _ _ _ _ _ _ rfl rfl
      have u5 : (w3.alloc (.cells #[.bool s1, .slice a3 z1.length d3, .int .i64 y1, .bool s2, .slice a4 z2.length d4, .int .i64 y2] 102)).cell? ⟨w3.heap.size, 5, none⟩ = some (.int .i64 y2) := new_cell2 _ _ _ _ _ _ rfl rfl
      have hgg := unhide HGG
      have hFl := (unhide hF).lt
      obtain ⟨x0, hx0⟩ := (unhide hF).cell (j * 6) (by omega)
      have f0 := k4.looseOut (a := ⟨g, j * 6, none⟩) (.inr (by dsimp only; omega)) hFl ((unhide hF).loose (j * 6) (by omega))
      replace hx0 := k4.cellOut (a := ⟨g, j * 6, none⟩) (.inr (by dsimp only; omega)) hx0
      obtain ⟨x1, hx1⟩ := (unhide hF).cell (j * 6 + 1) (by omega)
      have f1 := k4.looseOut (a := ⟨g, j * 6 + 1, none⟩) (.inr (by dsimp only; omega)) hFl ((unhide hF).loose (j * 6 + 1) (by omega))
      replace hx1 := k4.cellOut (a := ⟨g, j * 6 + 1, none⟩) (.inr (by dsimp only; omega)) hx1
      obtain ⟨x2, hx2⟩ := (unhide hF).cell (j * 6 + 2) (by omega)
      have f2 := k4.looseOut (a := ⟨g, j * 6 + 2, none⟩) (.inr (by dsimp only; omega)) hFl ((unhide hF).loose (j * 6 + 2) (by omega))
      replace hx2 := k4.cellOut (a := ⟨g, j * 6 + 2, none⟩) (.inr (by dsimp only; omega)) hx2
      obtain ⟨x3, hx3⟩ := (unhide hF).cell (j * 6 + 3) (by omega)
      have f3 := k4.looseOut (a := ⟨g, j * 6 + 3, none⟩) (.inr (by dsimp only; omega)) hFl ((unhide hF).loose (j * 6 + 3) (by omega))
      replace hx3 := k4.cellOut (a := ⟨g, j * 6 + 3, none⟩) (.inr (by dsimp only; omega)) hx3
      obtain ⟨x4, hx4⟩ := (unhide hF).cell (j * 6 + 4) (by omega)
      have f4 := k4.looseOut (a := ⟨g, j * 6 + 4, none⟩) (.inr (by dsimp only; omega)) hFl ((unhide hF).loose (j * 6 + 4) (by omega))
      replace hx4 := k4.cellOut (a := ⟨g, j * 6 + 4, none⟩) (.inr (by dsimp only; omega)) hx4
      obtain ⟨x5, hx5⟩ := (unhide hF).cell (j * 6 + 5) (by omega)
      have f5 := k4.looseOut (a := ⟨g, j * 6 + 5, none⟩) (.inr (by dsimp only; omega)) hFl ((unhide hF).loose (j * 6 + 5) (by omega))
      replace hx5 := k4.cellOut (a := ⟨g, j * 6 + 5, none⟩) (.inr (by dsimp only; omega)) hx5
      have HF4 : Hid (B j = true → Fill 0 g (2 * n) DL (2 * (j + 1)) (((((((w3.alloc (.cells #[.bool s1, .slice a3 z1.length d3, .int .i64 y1, .bool s2, .slice a4 z2.length d4, .int .i64 y2] 102)).setCell ⟨g, j * 6, none⟩ (.bool s1)).setCell ⟨g, j * 6 + 1, none⟩ (.slice a3 z1.length d3)).setCell ⟨g, j * 6 + 2, none⟩ (.int .i64 y1)).setCell ⟨g, j * 6 + 3, none⟩ (.bool s2)).setCell ⟨g, j * 6 + 4, none⟩ (.slice a4 z2.length d4)).setCell ⟨g, j * 6 + 5, none⟩ (.int .i64 y2))) := fun hb => (unhide hF).twoW hlt k4 (by omega) q3 q4 hmA (by omega) (unhide HE hb).1 (unhide HE hb).2
      have K4 := hide ((unhide k).1.trans k4)
      have D4 : Hid (∀ p, 2 * (j + 1) ≤ p → p < 2 * n → DwK (Lw p) (Hw p) (w3.alloc (.cells #[.bool s1, .slice a3 z1.length d3, .int .i64 y1, .bool s2, .slice a4 z2.length d4, .int .i64 y2] 102)) (G p) (F p)) := fun p hp1 hp2 =>
        ((DwK.kept ((unhide k).2 p (by omega) hp2) kA).mod m3 (fun x hx1 hx2 hx => by
          have e1 := unhide NM2 p (2 * j) hp2 (by omega) (by omega)
          have e2 := unhide NM2 p (2 * j + 1) hp2 (by omega) (by omega)
          rcases hx with hx | hx <;> omega)).kept kB
      have KG4 : Hid (Mod (fun x => x = g ∨ (b0 ≤ x ∧ x < s0)) w1 (w3.alloc (.cells #[.bool s1, .slice a3 z1.length d3, .int .i64 y1, .bool s2, .slice a4 z2.length d4, .int .i64 y2] 102))) := (unhide kg).trans ⟨k4.os, k4.tape, k4.output, k4.size, fun q hq ho => k4.block q hq (by omega)⟩
      clear hgg hw2 m3 W2 hcell hcell' q3 q4 hm1 hm2 z34 hmA kA hzA k3' KA v0 v1
      clear hc2 r3 r4 k3 kB k4 hFl hF k kg
      cases hB : B j
      · have HBN := hide (allB_no hlt hB)
        clear hB HF4 D4 KG4 hx0 hx1 hx2 hx3 hx4 hx5 f0 f1 f2 f3 f4 f5
        go_wp2
        exact bodyPost_ret (v := .tuple #[.slice none 0 0, .bool false]) (by simp [results, Tryz.results167, go_sem]) rfl ⟨.slice none 0 0, by rw [unhide HBN], by rw [(hL_no (by rw [← unhide HB0]; exact unhide HBN)).1, (hL_no (by rw [← unhide HB0]; exact unhide HBN)).2]; exact IvsO.nil _ _ _, unhide K4⟩
      · have HALL : Hid (∀ i, i < j + 1 → B i = true) := fun i hi => by
          rcases Nat.lt_succ_iff_lt_or_eq.1 hi with h | h
          · exact unhide hall i h
          · subst h; exact hB
        have hgg := unhide HGG
        have HF5 := hide (unhide HF4 hB)
        have ks : Kept g (g + 1) (w3.alloc (.cells #[.bool s1, .slice a3 z1.length d3, .int .i64 y1, .bool s2, .slice a4 z2.length d4, .int .i64 y2] 102)) (((((((w3.alloc (.cells #[.bool s1, .slice a3 z1.length d3, .int .i64 y1, .bool s2, .slice a4 z2.length d4, .int .i64 y2] 102)).setCell ⟨g, j * 6, none⟩ (.bool s1)).setCell ⟨g, j * 6 + 1, none⟩ (.slice a3 z1.length d3)).setCell ⟨g, j * 6 + 2, none⟩ (.int .i64 y1)).setCell ⟨g, j * 6 + 3, none⟩ (.bool s2)).setCell ⟨g, j * 6 + 4, none⟩ (.slice a4 z2.length d4)).setCell ⟨g, j * 6 + 5, none⟩ (.int .i64 y2)) := ((((((Kept.refl g (g + 1) _).setCell (p := ⟨g, j * 6, none⟩) (Nat.le_refl _) (Nat.lt_succ_self _) (.bool s1)).setCell (p := ⟨g, j * 6 + 1, none⟩) (Nat.le_refl _) (Nat.lt_succ_self _) (.slice a3 z1.length d3)).setCell (p := ⟨g, j * 6 + 2, none⟩) (Nat.le_refl _) (Nat.lt_succ_self _) (.int .i64 y1)).setCell (p := ⟨g, j * 6 + 3, none⟩) (Nat.le_refl _) (Nat.lt_succ_self _) (.bool s2)).setCell (p := ⟨g, j * 6 + 4, none⟩) (Nat.le_refl _) (Nat.lt_succ_self _) (.slice a4 z2.length d4)).setCell (p := ⟨g, j * 6 + 5, none⟩) (Nat.le_refl _) (Nat.lt_succ_self _) (.int .i64 y2)
        have K5 : Hid (Kept b0 s0 w (((((((w3.alloc (.cells #[.bool s1, .slice a3 z1.length d3, .int .i64 y1, .bool s2, .slice a4 z2.length d4, .int .i64 y2] 102)).setCell ⟨g, j * 6, none⟩ (.bool s1)).setCell ⟨g, j * 6 + 1, none⟩ (.slice a3 z1.length d3)).setCell ⟨g, j * 6 + 2, none⟩ (.int .i64 y1)).setCell ⟨g, j * 6 + 3, none⟩ (.bool s2)).setCell ⟨g, j * 6 + 4, none⟩ (.slice a4 z2.length d4)).setCell ⟨g, j * 6 + 5, none⟩ (.int .i64 y2)) ∧ ∀ p, 2 * (j + 1) ≤ p → p < 2 * n → DwK (Lw p) (Hw p) (((((((w3.alloc (.cells #[.bool s1, .slice a3 z1.length d3, .int .i64 y1, .bool s2, .slice a4 z2.length d4, .int .i64 y2] 102)).setCell ⟨g, j * 6, none⟩ (.bool s1)).setCell ⟨g, j * 6 + 1, none⟩ (.slice a3 z1.length d3)).setCell ⟨g, j * 6 + 2, none⟩ (.int .i64 y1)).setCell ⟨g, j * 6 + 3, none⟩ (.bool s2)).setCell ⟨g, j * 6 + 4, none⟩ (.slice a4 z2.length d4)).setCell ⟨g, j * 6 + 5, none⟩ (.int .i64 y2)) (G p) (F p)) :=
          ⟨⟨ks.os.trans (unhide K4).os, ks.tape.trans (unhide K4).tape, ks.output.trans (unhide K4).output, Nat.le_trans (unhide K4).size ks.size, fun q hq ho => (ks.block q (Nat.lt_of_lt_of_le hq (unhide K4).size) (by omega)).trans ((unhide K4).block q hq ho)⟩, fun p h1 h2 => (unhide D4 p h1 h2).mod ks.modW (fun x hx1 hx2 hx => by have := (unhide NM3 p h2).2; omega)⟩
        have KG5 : Hid (Mod (fun x => x = g ∨ (b0 ≤ x ∧ x < s0)) w1 (((((((w3.alloc (.cells #[.bool s1, .slice a3 z1.length d3, .int .i64 y1, .bool s2, .slice a4 z2.length d4, .int .i64 y2] 102)).setCell ⟨g, j * 6, none⟩ (.bool s1)).setCell ⟨g, j * 6 + 1, none⟩ (.slice a3 z1.length d3)).setCell ⟨g, j * 6 + 2, none⟩ (.int .i64 y1)).setCell ⟨g, j * 6 + 3, none⟩ (.bool s2)).setCell ⟨g, j * 6 + 4, none⟩ (.slice a4 z2.length d4)).setCell ⟨g, j * 6 + 5, none⟩ (.int .i64 y2))) := (unhide KG4).trans ⟨ks.os, ks.tape, ks.output, ks.size, fun q hq ho => ks.block q hq (by omega)⟩
        clear hB ks K4 D4 KG4 hgg HF4
        go_wp2
        go_roundw
        case rel => exact ⟨j + 1, by simp, hlt, HALL, HF5, K5, KG5⟩
        case measure => simp [intOf]; omega
    · have hjn : j = n := by omega
      subst hjn
      have HA := hide (allB_yes (unhide hall))
      have hgg := unhide HGG
      have D := ivsO_done (unhide hF) (by rw [unhide HDL]; simp) (unhide HM)
      have DD := hide (D.wider (lo' := w.heap.size) (hi' := wr.heap.size) (by omega) (by omega))
      have K7 := hide ((unhide k).1)
      clear hF k kg D hgg hall
      go_wp2
      exact bodyPost_ret (v := .tuple #[.slice (some ⟨g, 0, none⟩) j j, .bool true]) (by simp [results, Tryz.results167, go_sem]) rfl ⟨.slice (some ⟨g, 0, none⟩) j j, by rw [unhide HA], by rw [(hL_yes (by rw [← unhide HB0]; exact unhide HA)).1, (hL_yes (by rw [← unhide HB0]; exact unhide HA)).2, ← unhide HDL]; exact unhide DD, unhide K7⟩

set_option maxHeartbeats 4000000 in
theorem toldIvMatK_impl {b0 n lo : Nat} {S : Nat → Prop} {v : Value} {G : Nat → Nat} {F : Nat → DE} (m : Int) (w0 w : World) (hn0 : 0 < n) (hn : n ≤ 100) (nm : NumsK b0 S w0 (2 * n) G F) (kw : Kept 0 0 w0 w) (own : w.ownsRow lo 79 2 v n (ptrs G (2 * n))) (hlo : w0.heap.size ≤ lo) (hF : ∀ p, p < 2 * n → TelOk (F p)) (T : TabB w) (hT : 1 < b0) :
    Calls Tryz.prog 108 #[.int .i64 m, v, .func (.func 110) #[] #[]] w fun e w' => ∃ v', e = .returned (.tuple #[.agg #[.int .i64 (telN (hBp F) n m), v'], .bool (allB (hBp F) n)]) ∧ IvsO w.heap.size w'.heap.size w' v' (hL F n) (hC F n) ∧ Kept b0 w0.heap.size w w' := by
  obtain ⟨W, hW⟩ : ∃ W, W = (w.alloc (.cells #[.int .i64 0, .slice none 0 0] 28)) := ⟨_, rfl⟩
  have k0 : Kept 0 0 w W := by rw [hW]; exact (Kept.refl 0 0 w).alloc _
  have R0 : W.cell? ⟨w.heap.size, 0, none⟩ = some (.int .i64 0) := by rw [hW]; exact new_cell2 _ _ _ _ _ _ rfl rfl
  have R1 : W.cell? ⟨w.heap.size, 1, none⟩ = some (.slice none 0 0) := by rw [hW]; exact new_cell2 _ _ _ _ _ _ rfl rfl
  have Rf0 : W.frozen? ⟨w.heap.size, 0, none⟩ = false := by rw [hW]; exact new_loose2 _ _ _ _ _ rfl
  have Rf1 : W.frozen? ⟨w.heap.size, 1, none⟩ = false := by rw [hW]; exact new_loose2 _ _ _ _ _ rfl
  have sW : W.heap.size = w.heap.size + 1 := by rw [hW]; simp
  have ta := toldAllK_impl w0 W hn0 hn nm (kw.trans k0) (own_kept2 own k0) hlo hF (fun q hq => k0.cell0 (T q hq)) hT
  obtain ⟨X1, hX1⟩ : ∃ x, x = telN (hBp F) n m := ⟨_, rfl⟩
  obtain ⟨X2, hX2⟩ : ∃ x, x = allB (hBp F) n := ⟨_, rfl⟩
  obtain ⟨X3, hX3⟩ : ∃ x, x = hL F n := ⟨_, rfl⟩
  obtain ⟨X4, hX4⟩ : ∃ x, x = hC F n := ⟨_, rfl⟩
  rw [← hX2, ← hX3, ← hX4] at ta
  rw [← hX1, ← hX2, ← hX3, ← hX4]
  have H1 : Hid (X1 = if X2 = true then m else 0) := by show _ = _; rw [hX1, hX2]; rfl
  have H3 : Hid (X2 = false → X3 = [] ∧ X4 = 0) := fun h => by rw [hX2] at h; rw [hX3, hX4]; exact hL_no h
  obtain ⟨a0, c0, hv0⟩ := own_someH hn0 own
  subst hv0
  have SW := hide sW
  have HKW := hide kw.size
  have K0 := hide k0
  clear hX1 hX2 hX3 hX4 sW k0 own nm kw hlo hF T hT hn
  go_enter Tryz.func108, Tryz.ntmps108
  go_wp2_with fail
  rw [← hW]
  clear hW
  refine ta.mono ?_
  rintro e w1 ⟨v1, rfl, d1, k1⟩
  obtain ⟨a1, c1, hv1⟩ := d1.form'
  subst hv1
  have sW := unhide SW
  have z1 := k1.size
  have hs0 : w0.heap.size ≤ w.heap.size := unhide HKW
  have P0 := k1.cellOut (a := ⟨w.heap.size, 0, none⟩) (.inr hs0) R0
  have P1 := k1.cellOut (a := ⟨w.heap.size, 1, none⟩) (.inr hs0) R1
  have Pf0 := k1.looseOut (a := ⟨w.heap.size, 0, none⟩) (.inr hs0) (World.block_lt_of_cell? _ _ R0) Rf0
  have Pf1 := k1.looseOut (a := ⟨w.heap.size, 1, none⟩) (.inr hs0) (World.block_lt_of_cell? _ _ R1) Rf1
  have K1 := hide ((unhide K0).any.trans k1)
  have D1 := hide d1
  clear ta R0 R1 Rf0 Rf1 k1 d1
  cases X2
  · have HB := hide ((unhide H3) rfl)
    have HM := hide (show X1 = 0 from unhide H1)
    have K7 : Hid (Kept b0 w0.heap.size w ((w1.setCell ⟨w.heap.size, 0, none⟩ (.int .i64 0)).setCell ⟨w.heap.size, 1, none⟩ (.slice none 0 0))) := ((unhide K1).setNew (p := ⟨w.heap.size, 0, none⟩) (Nat.le_refl _) (.int .i64 0)).setNew (p := ⟨w.heap.size, 1, none⟩) (Nat.le_refl _) (.slice none 0 0)
    clear H1 H3 D1 K1 K0
    have G0 := cell_off _ _ _ 1 (.slice none 0 0) _ (cell_on _ _ _ (.int .i64 0) _ P0) (show (0 : Nat) ≠ 1 by omega)
    have G1 := cell_on _ _ _ (.slice none 0 0) _ (cell_off _ _ _ 0 (.int .i64 0) _ P1 (show (1 : Nat) ≠ 0 by omega))
    go_wp2
    exact bodyPost_ret (v := .tuple #[.agg #[.int .i64 0, .slice none 0 0], .bool false]) (by simp [results, Tryz.results108, go_sem, G0, G1]) rfl ⟨.slice none 0 0, by rw [unhide HM], by rw [(unhide HB).1, (unhide HB).2]; exact IvsO.nil _ _ _, unhide K7⟩
  · have HM := hide (show X1 = m from unhide H1)
    have ks : Kept w.heap.size (w.heap.size + 1) w1 ((w1.setCell ⟨w.heap.size, 0, none⟩ (.int .i64 m)).setCell ⟨w.heap.size, 1, none⟩ (.slice a1 X4 c1)) :=
      ((Kept.refl _ _ _).setCell (p := ⟨w.heap.size, 0, none⟩) (Nat.le_refl _) (Nat.lt_succ_self _) _).setCell (p := ⟨w.heap.size, 1, none⟩) (Nat.le_refl _) (Nat.lt_succ_self _) _
    have hsz : ((w1.setCell ⟨w.heap.size, 0, none⟩ (.int .i64 m)).setCell ⟨w.heap.size, 1, none⟩ (.slice a1 X4 c1)).heap.size = w1.heap.size := by rw [size_set, size_set]
    have DD := hide (((unhide D1).kept ks (by omega)).wider (lo' := w.heap.size) (hi' := ((w1.setCell ⟨w.heap.size, 0, none⟩ (.int .i64 m)).setCell ⟨w.heap.size, 1, none⟩ (.slice a1 X4 c1)).heap.size) (by omega) (by omega))
    have K7 : Hid (Kept b0 w0.heap.size w ((w1.setCell ⟨w.heap.size, 0, none⟩ (.int .i64 m)).setCell ⟨w.heap.size, 1, none⟩ (.slice a1 X4 c1))) := ((unhide K1).setNew (p := ⟨w.heap.size, 0, none⟩) (Nat.le_refl _) (.int .i64 m)).setNew (p := ⟨w.heap.size, 1, none⟩) (Nat.le_refl _) (.slice a1 X4 c1)
    have G0 := cell_off _ _ _ 1 (.slice a1 X4 c1) _ (cell_on _ _ _ (.int .i64 m) _ P0) (show (0 : Nat) ≠ 1 by omega)
    have G1 := cell_on _ _ _ (.slice a1 X4 c1) _ (cell_off _ _ _ 0 (.int .i64 m) _ P1 (show (1 : Nat) ≠ 0 by omega))
    clear H1 H3 ks hsz D1 K1 K0
    go_wp2
    exact bodyPost_ret (v := .tuple #[.agg #[.int .i64 m, .slice a1 X4 c1], .bool true]) (by simp [results, Tryz.results108, go_sem, G0, G1]) rfl ⟨_, by rw [unhide HM], unhide DD, unhide K7⟩

set_option maxHeartbeats 8000000 in
theorem toldHeldK_impl {S : Nat → Prop} {R n b : Nat} {G : Nat → Nat} {F : Nat → DE} (h0 : 0 < n) (hn : n ≤ 10) (w : World) (s : SqH S w R n n G) (nm : NumsK b S w (2 * (n * n)) G F) (hF : ∀ p, p < 2 * (n * n) → TelOk (F p)) (T : TabB w) (hT : 1 < b) :
    Calls Tryz.prog 54 #[.agg #[.slice (some ⟨R, 0, none⟩) n n]] w fun e w' => ∃ v', e = .returned (.tuple #[.agg #[.int .i64 (telN (hBp F) (n * n) (n : Int)), v'], .bool (allB (hBp F) (n * n))]) ∧ IvsO w.heap.size w'.heap.size w' v' (hL F (n * n)) (hC F (n * n)) ∧ Kept b w.heap.size w w' := by
  obtain ⟨X1, hX1⟩ : ∃ x, x = telN (hBp F) (n * n) (n : Int) := ⟨_, rfl⟩
  obtain ⟨X2, hX2⟩ : ∃ x, x = allB (hBp F) (n * n) := ⟨_, rfl⟩
  obtain ⟨X3, hX3⟩ : ∃ x, x = hL F (n * n) := ⟨_, rfl⟩
  obtain ⟨X4, hX4⟩ : ∃ x, x = hC F (n * n) := ⟨_, rfl⟩
  rw [← hX1, ← hX2, ← hX3, ← hX4]
  have HX1 := hide hX1
  have HX2 := hide hX2
  have HX3 := hide hX3
  have HX4 := hide hX4
  clear hX1 hX2 hX3 hX4
  obtain ⟨W, hW⟩ : ∃ W, W = (w.alloc (.cells #[.slice (some ⟨R, 0, none⟩) n n] 76)).alloc (.cells #[.int .i64 0, .slice none 0 0] 28) := ⟨_, rfl⟩
  have k0 : Kept 0 0 w W := by rw [hW]; exact ((Kept.refl 0 0 w).alloc _).alloc _
  have c0 : W.cell? ⟨w.heap.size, 0, none⟩ = some (.slice (some ⟨R, 0, none⟩) n n) := by rw [hW]; exact old_cell _ (new_cell2 _ _ _ _ _ _ (by simp) rfl)
  have q0 : W.cell? ⟨w.heap.size + 1, 0, none⟩ = some (.int .i64 0) := by rw [hW]; exact new_cell2 _ _ _ _ _ _ (by simp) rfl
  have qf0 : W.frozen? ⟨w.heap.size + 1, 0, none⟩ = false := by rw [hW]; exact new_loose2 _ _ _ _ _ (by simp)
  have q1 : W.cell? ⟨w.heap.size + 1, 1, none⟩ = some (.slice none 0 0) := by rw [hW]; exact new_cell2 _ _ _ _ _ _ (by simp) rfl
  have qf1 : W.frozen? ⟨w.heap.size + 1, 1, none⟩ = false := by rw [hW]; exact new_loose2 _ _ _ _ _ (by simp)
  have sW : W.heap.size = w.heap.size + 2 := by rw [hW]; simp
  have hnn : n * n ≤ 100 := Nat.mul_le_mul hn hn
  have S0 := hide sW
  clear sW
  go_enter Tryz.func54, Tryz.ntmps54
  go_wp2_with fail
  rw [← hW]
  clear hW
  have kd := (Kept.refl 0 0 W).drew
  have hcc := concatH_impl (n := n) h0 (by omega) W.drew (s.kept (k0.trans kd))
  have c0d := kd.cell0 c0
  have K0 := hide (k0.trans kd)
  have HF := hide hF
  have HT := hide hT
  have TT := hide T
  have NM := hide nm
  clear s k0 kd hF hT T nm c0
  refine wp_region_held_drew (S := (fun w' => w'.cell? ⟨w.heap.size, 0, none⟩ = some (.slice (some ⟨R, 0, none⟩) n n))) (by kernel_rfl) ?_ (fun hHeld => ?_)
  · exact c0d
  refine wpAnyH_take (i := 0) (oi := _) (v := .pointer (some ⟨w.heap.size, 0, none⟩)) rfl (by kernel_rfl) (by kernel_rfl) (by kernel_rfl) (fun _ _ _ h => h) (Or.inl ⟨by rfl, ?_⟩) hHeld ?_
  · intro wq hSw
    try dsimp only at hSw
    go_simp
  try simp only [Act.put, List.getElem_toArray, List.getElem_cons_succ, List.getElem_cons_zero, List.setIfInBounds_toArray, List.set_cons_zero, List.set_cons_succ]
  refine wpAnyH_take (i := 1) (oi := _) (v := .slice (some ⟨R, 0, none⟩) n n) rfl (by kernel_rfl) (by kernel_rfl) (by kernel_rfl) (fun _ _ _ h => h) (Or.inl ⟨by rfl, ?_⟩) hHeld ?_
  · intro wq hSw
    try dsimp only at hSw
    go_simp
  try simp only [Act.put, List.getElem_toArray, List.getElem_cons_succ, List.getElem_cons_zero, List.setIfInBounds_toArray, List.set_cons_zero, List.set_cons_succ]
  refine wpAnyH_take (i := 2) (oi := _) (v := .int .i64 (n : Int)) rfl (by kernel_rfl) (by kernel_rfl) (by kernel_rfl) (fun _ _ _ h => h) (Or.inl ⟨by rfl, ?_⟩) hHeld ?_
  · intro wq hSw
    try dsimp only at hSw
    go_simp
  try simp only [Act.put, List.getElem_toArray, List.getElem_cons_succ, List.getElem_cons_zero, List.setIfInBounds_toArray, List.set_cons_zero, List.set_cons_succ]
  refine wpAnyH_take (i := 3) (oi := _) (v := .pointer (some ⟨w.heap.size, 0, none⟩)) rfl (by kernel_rfl) (by kernel_rfl) (by kernel_rfl) (fun _ _ _ h => h) (Or.inl ⟨by rfl, ?_⟩) hHeld ?_
  · intro wq hSw
    try dsimp only at hSw
    go_simp
  try simp only [Act.put, List.getElem_toArray, List.getElem_cons_succ, List.getElem_cons_zero, List.setIfInBounds_toArray, List.set_cons_zero, List.set_cons_succ]
  refine wpAnyH_take (i := 4) (oi := _) (v := .slice (some ⟨R, 0, none⟩) n n) rfl (by kernel_rfl) (by kernel_rfl) (by kernel_rfl) (fun _ _ _ h => h) (Or.inl ⟨by rfl, ?_⟩) hHeld ?_
  · intro wq hSw
    try dsimp only at hSw
    go_simp
  try simp only [Act.put, List.getElem_toArray, List.getElem_cons_succ, List.getElem_cons_zero, List.setIfInBounds_toArray, List.set_cons_zero, List.set_cons_succ]
  refine wpAnyH_ready (rs := [5]) (by kernel_rfl) (by simp) ?_
  refine AllReadyH.cons rfl (fun KK hK => ?_) AllReadyH.nil
  simp only [List.getElem_toArray, List.getElem_cons_succ, List.getElem_cons_zero]
  rw [if_pos (by rfl)]
  refine wps1 109 (.tmp 8) _ rfl in_concatH (.slice (some ⟨R, 0, none⟩) n n) rfl hcc ?_
  rintro e w1 ⟨v1, rfl, o1, k1⟩
  refine ⟨_, rfl, ?_⟩
  have c1d := k1.cell0 c0d
  have hsz1 : W.heap.size ≤ w1.heap.size := k1.size
  have K1 := hide ((unhide K0).trans k1)
  replace qf0 := k1.loose0 (W := W.drew) (World.block_lt_of_cell? W ⟨w.heap.size + 1, 0, none⟩ q0) qf0
  replace qf1 := k1.loose0 (W := W.drew) (World.block_lt_of_cell? W ⟨w.heap.size + 1, 1, none⟩ q1) qf1
  replace q0 := k1.cell0 (W := W.drew) q0
  replace q1 := k1.cell0 (W := W.drew) q1
  have ss := unhide S0
  have hsd : W.drew.heap.size = W.heap.size := rfl
  have htm := toldIvMatK_impl (b0 := b) (n := n * n) (lo := W.drew.heap.size) (G := G) (F := F) (n : Int) w w1 (Nat.mul_pos h0 h0) hnn (unhide NM) (unhide K1) o1 (by rw [hsd, ss]; omega) (unhide HF) (fun q hq => (unhide K1).cell0 (unhide TT q hq)) (unhide HT)
  clear hcc o1 k1 hsd
  clear hHeld
  refine hK.out _ _ ?_ (fun hHeld => ?_)
  · exact c1d
  clear hK KK
  try simp only [Act.put, List.getElem_toArray, List.getElem_cons_succ, List.getElem_cons_zero, List.setIfInBounds_toArray, List.set_cons_zero, List.set_cons_succ]
  refine wpAnyH_ready (rs := [6]) (by kernel_rfl) (by simp) ?_
  refine AllReadyH.cons rfl (fun KK hK => ?_) AllReadyH.nil
  simp only [List.getElem_toArray, List.getElem_cons_succ, List.getElem_cons_zero]
  rw [if_pos (by rfl)]
  rw [← unhide HX1, ← unhide HX2, ← unhide HX3, ← unhide HX4] at htm
  refine wpt3 108 (.tmp 6) (.tmp 9) (.func 110) _ rfl in_toldIvMatH (.int .i64 (n : Int)) v1 (.func (.func 110) #[] #[]) rfl rfl rfl htm ?_
  rintro e w2 ⟨v2, rfl, d2, k2⟩
  refine ⟨_, rfl, ?_⟩
  obtain ⟨a2, e2, hv2⟩ := d2.form'
  subst hv2
  have c2d := k2.cellOut (a := ⟨w.heap.size, 0, none⟩) (.inr (Nat.le_refl _)) c1d
  replace qf0 := k2.looseOut (a := ⟨w.heap.size + 1, 0, none⟩) (.inr (by dsimp only; omega)) (World.block_lt_of_cell? _ _ q0) qf0
  replace qf1 := k2.looseOut (a := ⟨w.heap.size + 1, 1, none⟩) (.inr (by dsimp only; omega)) (World.block_lt_of_cell? _ _ q1) qf1
  replace q0 := k2.cellOut (a := ⟨w.heap.size + 1, 0, none⟩) (.inr (by dsimp only; omega)) q0
  replace q1 := k2.cellOut (a := ⟨w.heap.size + 1, 1, none⟩) (.inr (by dsimp only; omega)) q1
  have K2 := hide ((unhide K1).any.trans k2)
  have D2 := hide d2
  have hsz2 := k2.size
  clear htm k2 d2
  clear hHeld
  refine hK.out _ _ ?_ (fun hHeld => ?_)
  · exact c2d
  clear hK KK
  try simp only [Act.put, List.getElem_toArray, List.getElem_cons_succ, List.getElem_cons_zero, List.setIfInBounds_toArray, List.set_cons_zero, List.set_cons_succ]
  refine wpAnyH_take (i := 7) (oi := _) (v := .agg #[.int .i64 X1, .slice a2 X4 e2]) rfl (by kernel_rfl) (by kernel_rfl) (by kernel_rfl) (fun _ _ _ h => h) (Or.inl ⟨by rfl, ?_⟩) hHeld ?_
  · intro wq hSw
    try dsimp only at hSw
    go_simp
  try simp only [Act.put, List.getElem_toArray, List.getElem_cons_succ, List.getElem_cons_zero, List.setIfInBounds_toArray, List.set_cons_zero, List.set_cons_succ]
  refine wpAnyH_take (i := 8) (oi := _) (v := .bool X2) rfl (by kernel_rfl) (by kernel_rfl) (by kernel_rfl) (fun _ _ _ h => h) (Or.inl ⟨by rfl, ?_⟩) hHeld ?_
  · intro wq hSw
    try dsimp only at hSw
    go_simp
  try simp only [Act.put, List.getElem_toArray, List.getElem_cons_succ, List.getElem_cons_zero, List.setIfInBounds_toArray, List.set_cons_zero, List.set_cons_succ]
  refine wpAnyH_ready (rs := [9]) (by kernel_rfl) (by simp) ?_
  refine AllReadyH.cons rfl (fun KK hK => ?_) AllReadyH.nil
  simp only [List.getElem_toArray, List.getElem_cons_succ, List.getElem_cons_zero]
  rw [if_pos (by rfl)]
  go_simp
  clear hHeld
  refine hK.out _ _ ?_ (fun hHeld => ?_)
  · exact cell_aside _ (by dsimp only; omega) (cell_aside _ (by dsimp only; omega) c2d)
  clear hK KK
  try simp only [Act.put, List.getElem_toArray, List.getElem_cons_succ, List.getElem_cons_zero, List.setIfInBounds_toArray, List.set_cons_zero, List.set_cons_succ]
  refine wpAnyH_take (i := 10) (oi := _) (v := .bool X2) rfl (by kernel_rfl) (by kernel_rfl) (by kernel_rfl) (fun _ _ _ h => h) (Or.inl ⟨by rfl, ?_⟩) hHeld ?_
  · intro wq hSw
    try dsimp only at hSw
    go_simp
  try simp only [Act.put, List.getElem_toArray, List.getElem_cons_succ, List.getElem_cons_zero, List.setIfInBounds_toArray, List.set_cons_zero, List.set_cons_succ]
  refine wpAnyH_done (by kernel_rfl) ?_ _
  clear hHeld
  have ks : Kept (w.heap.size + 1) (w.heap.size + 2) w2 ((w2.setCell ⟨w.heap.size + 1, 0, none⟩ (.int .i64 X1)).setCell ⟨w.heap.size + 1, 1, none⟩ (.slice a2 X4 e2)) := ((Kept.refl _ _ _).setCell (p := ⟨w.heap.size + 1, 0, none⟩) (Nat.le_refl _) (Nat.lt_succ_self _) _).setCell (p := ⟨w.heap.size + 1, 1, none⟩) (Nat.le_refl _) (Nat.lt_succ_self _) _
  have hsz : ((w2.setCell ⟨w.heap.size + 1, 0, none⟩ (.int .i64 X1)).setCell ⟨w.heap.size + 1, 1, none⟩ (.slice a2 X4 e2)).heap.size = w2.heap.size := by rw [size_set, size_set]
  have DD := hide (((unhide D2).kept ks (by omega)).wider (lo' := w.heap.size) (hi' := ((w2.setCell ⟨w.heap.size + 1, 0, none⟩ (.int .i64 X1)).setCell ⟨w.heap.size + 1, 1, none⟩ (.slice a2 X4 e2)).heap.size) (by omega) (by omega))
  have K7 : Hid (Kept b w.heap.size w ((w2.setCell ⟨w.heap.size + 1, 0, none⟩ (.int .i64 X1)).setCell ⟨w.heap.size + 1, 1, none⟩ (.slice a2 X4 e2))) := ⟨ks.os.trans (unhide K2).os, ks.tape.trans (unhide K2).tape, ks.output.trans (unhide K2).output, Nat.le_trans (unhide K2).size ks.size, fun q hq ho => (ks.block q (Nat.lt_of_lt_of_le hq (unhide K2).size) (by omega)).trans ((unhide K2).block q hq ho)⟩
  have G0 := cell_off _ _ _ 1 (.slice a2 X4 e2) _ (cell_on _ _ _ (.int .i64 X1) _ q0) (show (0 : Nat) ≠ 1 by omega)
  have G1 := cell_on _ _ _ (.slice a2 X4 e2) _ (cell_off _ _ _ 0 (.int .i64 X1) _ q1 (show (1 : Nat) ≠ 0 by omega))
  clear ks hsz D2 K2 K1 K0
  go_wp2_with fail
  exact bodyPost_ret (v := .tuple #[.agg #[.int .i64 X1, .slice a2 X4 e2], .bool X2]) (by simp [results, Tryz.results54, go_sem, G0, G1]) rfl ⟨_, rfl, unhide DD, unhide K7⟩

end Go.Proofs.YthahoabkehcgbaaGreatDoor

