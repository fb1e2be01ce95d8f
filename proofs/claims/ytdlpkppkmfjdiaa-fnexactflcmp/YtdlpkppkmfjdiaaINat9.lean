/-
  Contracts of NatCmp, the model's and the program's.
-/
import Derived.Test.YtdlpkppkmfjdiaaINat7
import Derived.Test.YtdlpkppkmfjdiaaBC
import Derived.Deep.RegionHeld3
namespace Go.Proofs.Ytdlpkppkmfjdiaa
open Go.RowKit
set_option linter.unusedVariables false
set_option maxRecDepth 8000
set_option linter.unusedSimpArgs false

/-- What NatCmp tells. -/
def cmpN (xs ys : List Int) : Int := if okB xs = true ∧ okB ys = true then cmpI (val xs) (val ys) else 0
theorem cmpN_bad1 {xs ys : List Int} (h : okB xs = false) : cmpN xs ys = 0 := by unfold cmpN; rw [if_neg (fun e => by rw [h] at e; cases e.1)]
theorem cmpN_bad2 {xs ys : List Int} (h : okB ys = false) : cmpN xs ys = 0 := by unfold cmpN; rw [if_neg (fun e => by rw [h] at e; cases e.2)]
theorem cmpN_ok {xs ys : List Int} (h1 : okB xs = true) (h2 : okB ys = true) : cmpN xs ys = cmpI (val xs) (val ys) := by unfold cmpN; rw [if_pos ⟨h1, h2⟩]

theorem compare_two {w0 W : World} {g1 g2 : Nat} {xs ys : List Int} (h : ∃ u1 u2, Two w0 W g1 g2 u1 u2 xs ys) (hx : Nrm xs) (hy : Nrm ys) :
    Calls Try.prog 54 #[.pointer (some ⟨g1, 0, none⟩), .pointer (some ⟨g2, 0, none⟩)] W fun e w' => e = .returned (.int .i64 (cmpI (val xs) (val ys))) ∧ (∃ u1 u2, Two w0 w' g1 g2 u1 u2 xs ys) := by
  obtain ⟨u1, u2, t⟩ := h
  refine (compare_impl W t.n1 t.n2 hx hy).mono ?_
  rintro e w' ⟨rfl, k⟩
  exact ⟨rfl, u1, u2, t.n1.kept k, t.n2.kept k, t.ne, t.o12, t.o21, t.oo, t.k.trans k, t.b1, t.b2⟩

set_option maxHeartbeats 1000000 in
theorem natCmp_impl {b1 b2 : Bool} {l1 h1 l2 h2 : Nat} {v1 v2 : Value} {xs ys : List Int} (w : World) (r1 : Row .i64 b1 l1 h1 w v1 xs) (r2 : Row .i64 b2 l2 h2 w v2 ys) :
    Calls Try.prog 20 #[.agg #[v1], .agg #[v2]] w fun e w' => e = .returned (.int .i64 (cmpN xs ys)) ∧ Kept 0 0 w w' := by
  have k0 := ((Kept.refl 0 0 w).alloc (.cells #[v1] 26)).alloc (.cells #[v2] 26)
  have q1 := r1.kept k0 (by omega)
  have q2 := r2.kept k0 (by omega)
  have c1 : ((w.alloc (.cells #[v1] 26)).alloc (.cells #[v2] 26)).cell? ⟨w.heap.size, 0, none⟩ = some v1 := old_cell _ (new_cell_at _ _ _ _ rfl)
  have c2 : ((w.alloc (.cells #[v1] 26)).alloc (.cells #[v2] 26)).cell? ⟨w.heap.size + 1, 0, none⟩ = some v2 := new_cell_at _ _ _ _ (by simp)
  obtain ⟨a1, d1, rfl⟩ := Row.form' r1
  obtain ⟨a2, d2, rfl⟩ := Row.form' r2
  clear r1 r2
  go_enter Try.func20, Try.ntmps20
  go_wp2_with fail
  generalize (w.alloc (.cells #[.slice a1 xs.length d1] 26)).alloc (.cells #[.slice a2 ys.length d2] 26) = W at *
  refine (ok_impl _ q1).mono ?_
  rintro e w1 ⟨rfl, k1⟩
  replace c1 := k1.cell0 c1
  replace c2 := k1.cell0 c2
  replace q1 := q1.kept k1 (by omega)
  replace q2 := q2.kept k1 (by omega)
  have K := hide (k0.trans k1)
  clear k0 k1
  cases hok1 : okB xs
  · have HK := hide hok1
    clear q1 q2 hok1
    go_wp2_with fail
    go_ret
    exact ⟨by rw [cmpN_bad1 (unhide HK)]; rfl, unhide K⟩
  have HK1 := hide hok1
  clear hok1
  go_wp2_with fail
  refine (ok_impl _ q2).mono ?_
  rintro e w2 ⟨rfl, k2⟩
  replace c1 := k2.cell0 c1
  replace c2 := k2.cell0 c2
  replace q1 := q1.kept k2 (by omega)
  replace q2 := q2.kept k2 (by omega)
  replace K := hide ((unhide K).trans k2)
  clear k2
  cases hok2 : okB ys
  · have HK := hide hok2
    clear q1 q2 hok2
    go_wp2_with fail
    go_ret
    exact ⟨by rw [cmpN_bad2 (unhide HK)]; rfl, unhide K⟩
  have HK2 := hide hok2
  clear hok2
  have hx1 : xs.length ≤ 1000000 := by have := ((okB_iff xs).1 (unhide HK1)).1; omega
  have hx2 : ys.length ≤ 1000000 := by have := ((okB_iff ys).1 (unhide HK2)).1; omega
  go_wp2_with fail
  have b1' : w.heap.size < w2.heap.size := World.block_lt_of_cell? _ _ c1
  have b2' : w.heap.size + 1 < w2.heap.size := World.block_lt_of_cell? _ _ c2
  go_region_held3 (fun w' => w'.cell? ⟨w.heap.size, 0, none⟩ = some (.slice a1 xs.length d1) ∧ w'.cell? ⟨w.heap.size + 1, 0, none⟩ = some (.slice a2 ys.length d2) ∧ Kept 0 0 w2 w')
    (repeat (first
      | exact h4
      | exact h3
      | exact ⟨c1, c2, Kept.refl 0 0 _⟩
      | exact ⟨c1, c2, (Kept.refl 0 0 _).drew⟩
      | refine hold_alloc _ ?_
      | refine hold_drew ?_
      | refine hold_set _ ?_ b1' b2' (by simp <;> omega)))
    ((first
      | (go_at_call_of 50 (Value.agg #[Value.slice a1 xs.length d1])
         refine (limbsOf_kept q1 hx1 ?_).mono ?_
         · exact And.right (And.right (by assumption))
         rintro e w3 ⟨v3, rfl, o3, k3⟩
         have s3 := hold_size (by assumption) k3
         have h3 := hold_kept (by assumption) k3
         try
           have x3 := k3.cell0 (drew_cell (new_cell_at _ _ _ _ rfl))
           have fx3 := k3.loose0 (by simp <;> omega) (drew_loose (new_loose _ _ _ _ rfl))
           have lx3 := World.block_lt_of_cell? _ _ x3
           try simp only [World.size_alloc, heap_drew] at x3 fx3 lx3
           have nx3 := Nat.ne_of_lt lx3
           have mx3 := Nat.ne_of_gt lx3
         try
           have y3 := k3.cell0 (drew_cell (old_cell _ (new_cell_at _ _ _ _ rfl)))
           have fy3 := k3.loose0 (by simp <;> omega) (drew_loose (loose_old (by simp <;> omega) (new_loose _ _ _ _ rfl)))
           have ly3 := World.block_lt_of_cell? _ _ y3
           try simp only [World.size_alloc, heap_drew] at y3 fy3 ly3
           have ny3 := Nat.ne_of_lt ly3
           have my3 := Nat.ne_of_gt ly3
         obtain ⟨a3, d3, rfl⟩ := own_slice o3)
      | (go_at_call_of 50 (Value.agg #[Value.slice a2 ys.length d2])
         refine (limbsOf_kept q2 hx2 ?_).mono ?_
         · exact And.right (And.right (by assumption))
         rintro e w4 ⟨v4, rfl, o4, k4⟩
         have s4 := hold_size (by assumption) k4
         have h4 := hold_kept (by assumption) k4
         try
           have x4 := k4.cell0 (new_cell_at _ _ _ _ rfl)
           have fx4 := k4.loose0 (by simp <;> omega) (new_loose _ _ _ _ rfl)
           have lx4 := World.block_lt_of_cell? _ _ x4
           try simp only [World.size_alloc, heap_drew] at x4 fx4 lx4
           have nx4 := Nat.ne_of_lt lx4
           have mx4 := Nat.ne_of_gt lx4
         try
           have y4 := k4.cell0 (old_cell _ (new_cell_at _ _ _ _ rfl))
           have fy4 := k4.loose0 (by simp <;> omega) (loose_old (by simp <;> omega) (new_loose _ _ _ _ rfl))
           have ly4 := World.block_lt_of_cell? _ _ y4
           try simp only [World.size_alloc, heap_drew] at y4 fy4 ly4
           have ny4 := Nat.ne_of_lt ly4
           have my4 := Nat.ne_of_gt ly4
         try
           have gx3 := k4.cell0 (x3)
           have px3 := k4.loose0 (by simp <;> omega) (fx3)
           have qx3 := Nat.ne_of_lt (World.block_lt_of_cell? _ _ gx3)
           have rx3 := Nat.ne_of_gt (World.block_lt_of_cell? _ _ gx3)
           have lgx3 := World.block_lt_of_cell? _ _ gx3
           dsimp only at qx3 rx3 lgx3
         try
           have gx3 := k4.cell0 (old_cell _ x3)
           have px3 := k4.loose0 (by simp <;> omega) (loose_old (Nat.lt_of_lt_of_le lx3 (Nat.le_refl _)) fx3)
           have qx3 := Nat.ne_of_lt (World.block_lt_of_cell? _ _ gx3)
           have rx3 := Nat.ne_of_gt (World.block_lt_of_cell? _ _ gx3)
           have lgx3 := World.block_lt_of_cell? _ _ gx3
           dsimp only at qx3 rx3 lgx3
         try
           have gx3 := k4.cell0 (old_cell _ (old_cell _ x3))
           have px3 := k4.loose0 (by simp <;> omega) (loose_old (by simp <;> omega) (loose_old (Nat.lt_of_lt_of_le lx3 (Nat.le_refl _)) fx3))
           have qx3 := Nat.ne_of_lt (World.block_lt_of_cell? _ _ gx3)
           have rx3 := Nat.ne_of_gt (World.block_lt_of_cell? _ _ gx3)
           have lgx3 := World.block_lt_of_cell? _ _ gx3
           dsimp only at qx3 rx3 lgx3
         try
           have gy3 := k4.cell0 (y3)
           have py3 := k4.loose0 (by simp <;> omega) (fy3)
           have qy3 := Nat.ne_of_lt (World.block_lt_of_cell? _ _ gy3)
           have ry3 := Nat.ne_of_gt (World.block_lt_of_cell? _ _ gy3)
           have lgy3 := World.block_lt_of_cell? _ _ gy3
           dsimp only at qy3 ry3 lgy3
         try
           have gy3 := k4.cell0 (old_cell _ y3)
           have py3 := k4.loose0 (by simp <;> omega) (loose_old (Nat.lt_of_lt_of_le ly3 (Nat.le_refl _)) fy3)
           have qy3 := Nat.ne_of_lt (World.block_lt_of_cell? _ _ gy3)
           have ry3 := Nat.ne_of_gt (World.block_lt_of_cell? _ _ gy3)
           have lgy3 := World.block_lt_of_cell? _ _ gy3
           dsimp only at qy3 ry3 lgy3
         try
           have gy3 := k4.cell0 (old_cell _ (old_cell _ y3))
           have py3 := k4.loose0 (by simp <;> omega) (loose_old (by simp <;> omega) (loose_old (Nat.lt_of_lt_of_le ly3 (Nat.le_refl _)) fy3))
           have qy3 := Nat.ne_of_lt (World.block_lt_of_cell? _ _ gy3)
           have ry3 := Nat.ne_of_gt (World.block_lt_of_cell? _ _ gy3)
           have lgy3 := World.block_lt_of_cell? _ _ gy3
           dsimp only at qy3 ry3 lgy3
         obtain ⟨a4, d4, rfl⟩ := own_slice o4)))
  all_goals
    have O1 : w4.ownsRow w2.heap.size 3 1 (.slice a3 xs.length d3) xs.length (xs.map (Value.int .i64)) := by
      first
        | exact own_less (own_kept o3 k4) s3.1
        | exact own_less (own_kept o3 (((Kept.refl 0 0 _).alloc _).trans k4)) s3.1
        | exact own_less (own_kept o3 ((((Kept.refl 0 0 _).alloc _).alloc _).trans k4)) s3.1
    try simp only [World.size_alloc, heap_drew] at s3
    try simp only [World.size_alloc, heap_drew] at s4
    have r3 := o3.lt
    have r4 := o4.lt
    try simp only [World.size_alloc, heap_drew] at r3
    try simp only [World.size_alloc, heap_drew] at r4
    have h12 : ∀ k, (Value.slice a3 xs.length d3).ownBlock = some k → (Value.slice a4 ys.length d4).ownBlock ≠ some k := fun k e1 e2 => by have := r3 k e1; have := r4 k e2; omega
    have hk24 := h4.2.2
    clear h3 h4 k3 k4
    have hn1 := ((okB_iff xs).1 (unhide HK1)).2
    have hn2 := ((okB_iff ys).1 (unhide HK2)).2
    go_wp2_with fail
    refine (compare_two (w0 := w2) ?_ hn1 hn2).mono ?_
    · first
        | exact ⟨_, _, two_both hk24 O1 o4 _ _ (by (try simp) <;> omega) (by (try simp) <;> omega) h12⟩
        | exact ⟨_, _, (two_both hk24 o4 O1 _ _ (by (try simp) <;> omega) (by (try simp) <;> omega) (fun k e1 e2 => h12 k e2 e1)).swap⟩
        | exact ⟨_, _, two_new hk24 O1 o4 (by assumption) (by assumption) _ (by omega) (by (try simp) <;> omega) (by (try simp) <;> omega) (fun e => by have := r3 _ e; omega) (fun e => by have := r4 _ e; omega) h12⟩
        | exact ⟨_, _, (two_new hk24 o4 O1 (by assumption) (by assumption) _ (by omega) (by (try simp) <;> omega) (by (try simp) <;> omega) (fun e => by have := r4 _ e; omega) (fun e => by have := r3 _ e; omega) (fun k e1 e2 => h12 k e2 e1)).swap⟩
        | exact ⟨_, _, two_set hk24 O1 o4 (by assumption) (by assumption) (by assumption) (by assumption) (by omega) (by omega) (by omega) (by (try simp) <;> omega) (by (try simp) <;> omega) (fun e => by have := r3 _ e; omega) (fun e => by have := r3 _ e; omega) (fun e => by have := r4 _ e; omega) (fun e => by have := r4 _ e; omega) h12⟩
    rintro e w6 ⟨rfl, u1, u2, two⟩
    have K6 := hide ((unhide K).trans two.k)
    clear two O1 o3 o4 r3 r4 h12 hk24 q1 q2 hn1 hn2
    go_wp2_with fail
    go_ret
    exact ⟨by rw [cmpN_ok (unhide HK1) (unhide HK2)]; rfl, unhide K6⟩

end Go.Proofs.Ytdlpkppkmfjdiaa
