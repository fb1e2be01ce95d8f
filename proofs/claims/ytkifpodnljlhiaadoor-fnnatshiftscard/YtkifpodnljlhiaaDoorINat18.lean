/-
  The contract of the program's NatMul.
-/
import Derived.Test.YtkifpodnljlhiaaDoorBF
import Derived.Test.YtkifpodnljlhiaaDoorINat13
import Derived.Deep.DeepCutAuto
namespace Go.Proofs.YtkifpodnljlhiaaDoor
open Go.RowKit
set_option linter.unusedVariables false
set_option maxRecDepth 8000
set_option linter.unusedSimpArgs false

set_option maxHeartbeats 8000000 in
theorem natMul_impl {b1 b2 : Bool} {l1 h1 l2 h2 : Nat} {v1 v2 : Value} {xs ys : List Int} (w : World) (r1 : Row .i64 b1 l1 h1 w v1 xs) (r2 : Row .i64 b2 l2 h2 w v2 ys) :
    Calls Tryd.prog 13 #[.agg #[v1], .agg #[v2]] w fun e w' => ∃ v', e = .returned (.tuple #[.agg #[v'], .bool (ansB (okB xs && okB ys) (val xs * val ys).toNat)]) ∧ Row .i64 true w.heap.size w'.heap.size w' v' (ansL (okB xs && okB ys) (val xs * val ys).toNat) ∧ Kept 0 0 w w' := by
  have k0 := (((Kept.refl 0 0 w).alloc (.cells #[v1] 25)).alloc (.cells #[v2] 25)).alloc (.cells #[.slice none 0 0] 25)
  have q1 := r1.kept k0 (by omega)
  have q2 := r2.kept k0 (by omega)
  have c1 : (((w.alloc (.cells #[v1] 25)).alloc (.cells #[v2] 25)).alloc (.cells #[.slice none 0 0] 25)).cell? ⟨w.heap.size, 0, none⟩ = some (v1) := old_cell _ (old_cell _ (new_cell_at _ _ _ _ (by simp)))
  have c2 : (((w.alloc (.cells #[v1] 25)).alloc (.cells #[v2] 25)).alloc (.cells #[.slice none 0 0] 25)).cell? ⟨w.heap.size + 1, 0, none⟩ = some (v2) := old_cell _ (new_cell_at _ _ _ _ (by simp))
  have c3 : (((w.alloc (.cells #[v1] 25)).alloc (.cells #[v2] 25)).alloc (.cells #[.slice none 0 0] 25)).cell? ⟨w.heap.size + 2, 0, none⟩ = some (.slice none 0 0) := new_cell_at _ _ _ _ (by simp)
  have f3 : (((w.alloc (.cells #[v1] 25)).alloc (.cells #[v2] 25)).alloc (.cells #[.slice none 0 0] 25)).frozen? ⟨w.heap.size + 2, 0, none⟩ = false := new_loose _ _ _ _ (by simp)
  obtain ⟨a1, d1, rfl⟩ := Row.form' r1
  obtain ⟨a2, d2, rfl⟩ := Row.form' r2
  clear r1 r2
  go_enter Tryd.func13, Tryd.ntmps13
  go_wp2_with fail
  generalize ((w.alloc (.cells #[.slice a1 xs.length d1] 25)).alloc (.cells #[.slice a2 ys.length d2] 25)).alloc (.cells #[.slice none 0 0] 25) = W at *
  refine (ok_impl _ q1).mono ?_
  rintro e w1 ⟨rfl, k1⟩
  replace c1 := k1.cell0 c1
  replace c2 := k1.cell0 c2
  replace f3 := k1.loose0 (World.block_lt_of_cell? _ _ c3) f3
  replace c3 := k1.cell0 c3
  replace q1 := q1.kept k1 (by omega)
  replace q2 := q2.kept k1 (by omega)
  have K := hide (k0.trans k1)
  clear k0 k1
  cases hok1 : okB xs
  · have HK := hide hok1
    clear q1 q2 hok1
    have K' := hide ((unhide K).setNew (p := ⟨w.heap.size + 2, 0, none⟩) (by simp) (.slice none 0 0))
    go_wp2_with fail
    have e0 : (okB xs && okB ys) = false := by simp [unhide HK]
    exact bodyPost_ret (v := .tuple #[.agg #[.slice none 0 0], .bool false]) (by simp [results, Tryd.results13, go_sem, c3]) rfl ⟨_, by rw [ansB_no e0], by rw [ansL_no e0]; exact Row.nil _ _ _ _ _, unhide K'⟩
  have HK1 := hide hok1
  clear hok1
  go_wp2_with fail
  refine (ok_impl _ q2).mono ?_
  rintro e w2 ⟨rfl, k2⟩
  replace c1 := k2.cell0 c1
  replace c2 := k2.cell0 c2
  replace f3 := k2.loose0 (World.block_lt_of_cell? _ _ c3) f3
  replace c3 := k2.cell0 c3
  replace q1 := q1.kept k2 (by omega)
  replace q2 := q2.kept k2 (by omega)
  replace K := hide ((unhide K).trans k2)
  clear k2
  cases hok2 : okB ys
  · have HK := hide hok2
    clear q1 q2 hok2
    have K' := hide ((unhide K).setNew (p := ⟨w.heap.size + 2, 0, none⟩) (by simp) (.slice none 0 0))
    go_wp2_with fail
    have e0 : (okB xs && okB ys) = false := by simp [unhide HK]
    exact bodyPost_ret (v := .tuple #[.agg #[.slice none 0 0], .bool false]) (by simp [results, Tryd.results13, go_sem, c3]) rfl ⟨_, by rw [ansB_no e0], by rw [ansL_no e0]; exact Row.nil _ _ _ _ _, unhide K'⟩
  have HK2 := hide hok2
  clear hok2
  have hx1 : xs.length ≤ 1000000 := by have := ((okB_iff xs).1 (unhide HK1)).1; omega
  have hx2 : ys.length ≤ 1000000 := by have := ((okB_iff ys).1 (unhide HK2)).1; omega
  go_upto_region 3 with fail
  go_cut [6, 7] (fun p q wx => ∃ X Y u1 u2, p = .pointer (some ⟨X, 0, none⟩) ∧ q = .pointer (some ⟨Y, 0, none⟩) ∧ Two w2 wx X Y u1 u2 xs ys)
  case first =>
    have b1' : w.heap.size < w2.heap.size := World.block_lt_of_cell? _ _ c1
    have b2' : w.heap.size + 1 < w2.heap.size := World.block_lt_of_cell? _ _ c2
    go_region_held3 (fun w' => w'.cell? ⟨w.heap.size, 0, none⟩ = some (.slice a1 xs.length d1) ∧ w'.cell? ⟨w.heap.size + 1, 0, none⟩ = some (.slice a2 ys.length d2) ∧ Kept 0 0 w2 w')
      (repeat (first
        | exact h4
        | exact h3
        | exact ⟨c1, c2, Kept.refl 0 0 _⟩
        | exact ⟨c1, c2, (Kept.refl 0 0 _).drew⟩
        | refine hold_alloc _ ?_
        | refine hold_drew ?_
        | refine hold_set _ ?_ b1' b2' (by simp <;> omega)))
      ((first
        | (go_at_call_of 20 (Value.agg #[Value.slice a1 xs.length d1])
           refine (limbsOf_kept q1 hx1 ?_).mono ?_
           · exact And.right (And.right (by assumption))
           rintro e w3 ⟨v3, rfl, o3, k3⟩
           have s3 := hold_size (by assumption) k3
           have h3 := hold_kept (by assumption) k3
           try
             have x3 := k3.cell0 (drew_cell (new_cell_at _ _ _ _ rfl))
             have fx3 := k3.loose0 (by simp <;> omega) (drew_loose (new_loose _ _ _ _ rfl))
             have lx3 := World.block_lt_of_cell? _ _ x3
             try simp only [World.size_alloc, heap_drew] at x3 fx3 lx3
             have nx3 := Nat.ne_of_lt lx3
             have mx3 := Nat.ne_of_gt lx3
           try
             have y3 := k3.cell0 (drew_cell (old_cell _ (new_cell_at _ _ _ _ rfl)))
             have fy3 := k3.loose0 (by simp <;> omega) (drew_loose (loose_old (by simp <;> omega) (new_loose _ _ _ _ rfl)))
             have ly3 := World.block_lt_of_cell? _ _ y3
             try simp only [World.size_alloc, heap_drew] at y3 fy3 ly3
             have ny3 := Nat.ne_of_lt ly3
             have my3 := Nat.ne_of_gt ly3
           obtain ⟨a3, d3, rfl⟩ := own_slice o3)
        | (go_at_call_of 20 (Value.agg #[Value.slice a2 ys.length d2])
           refine (limbsOf_kept q2 hx2 ?_).mono ?_
           · exact And.right (And.right (by assumption))
           rintro e w4 ⟨v4, rfl, o4, k4⟩
           have s4 := hold_size (by assumption) k4
           have h4 := hold_kept (by assumption) k4
           try
             have x4 := k4.cell0 (new_cell_at _ _ _ _ rfl)
             have fx4 := k4.loose0 (by simp <;> omega) (new_loose _ _ _ _ rfl)
             have lx4 := World.block_lt_of_cell? _ _ x4
             try simp only [World.size_alloc, heap_drew] at x4 fx4 lx4
             have nx4 := Nat.ne_of_lt lx4
             have mx4 := Nat.ne_of_gt lx4
           try
             have y4 := k4.cell0 (old_cell _ (new_cell_at _ _ _ _ rfl))
             have fy4 := k4.loose0 (by simp <;> omega) (loose_old (by simp <;> omega) (new_loose _ _ _ _ rfl))
             have ly4 := World.block_lt_of_cell? _ _ y4
             try simp only [World.size_alloc, heap_drew] at y4 fy4 ly4
             have ny4 := Nat.ne_of_lt ly4
             have my4 := Nat.ne_of_gt ly4
           try
             have gx3 := k4.cell0 (x3)
             have px3 := k4.loose0 (by simp <;> omega) (fx3)
             have qx3 := Nat.ne_of_lt (World.block_lt_of_cell? _ _ gx3)
             have rx3 := Nat.ne_of_gt (World.block_lt_of_cell? _ _ gx3)
             have lgx3 := World.block_lt_of_cell? _ _ gx3
             dsimp only at qx3 rx3 lgx3
           try
             have gx3 := k4.cell0 (old_cell _ x3)
             have px3 := k4.loose0 (by simp <;> omega) (loose_old (Nat.lt_of_lt_of_le lx3 (Nat.le_refl _)) fx3)
             have qx3 := Nat.ne_of_lt (World.block_lt_of_cell? _ _ gx3)
             have rx3 := Nat.ne_of_gt (World.block_lt_of_cell? _ _ gx3)
             have lgx3 := World.block_lt_of_cell? _ _ gx3
             dsimp only at qx3 rx3 lgx3
           try
             have gx3 := k4.cell0 (old_cell _ (old_cell _ x3))
             have px3 := k4.loose0 (by simp <;> omega) (loose_old (by simp <;> omega) (loose_old (Nat.lt_of_lt_of_le lx3 (Nat.le_refl _)) fx3))
             have qx3 := Nat.ne_of_lt (World.block_lt_of_cell? _ _ gx3)
             have rx3 := Nat.ne_of_gt (World.block_lt_of_cell? _ _ gx3)
             have lgx3 := World.block_lt_of_cell? _ _ gx3
             dsimp only at qx3 rx3 lgx3
           try
             have gy3 := k4.cell0 (y3)
             have py3 := k4.loose0 (by simp <;> omega) (fy3)
             have qy3 := Nat.ne_of_lt (World.block_lt_of_cell? _ _ gy3)
             have ry3 := Nat.ne_of_gt (World.block_lt_of_cell? _ _ gy3)
             have lgy3 := World.block_lt_of_cell? _ _ gy3
             dsimp only at qy3 ry3 lgy3
           try
             have gy3 := k4.cell0 (old_cell _ y3)
             have py3 := k4.loose0 (by simp <;> omega) (loose_old (Nat.lt_of_lt_of_le ly3 (Nat.le_refl _)) fy3)
             have qy3 := Nat.ne_of_lt (World.block_lt_of_cell? _ _ gy3)
             have ry3 := Nat.ne_of_gt (World.block_lt_of_cell? _ _ gy3)
             have lgy3 := World.block_lt_of_cell? _ _ gy3
             dsimp only at qy3 ry3 lgy3
           try
             have gy3 := k4.cell0 (old_cell _ (old_cell _ y3))
             have py3 := k4.loose0 (by simp <;> omega) (loose_old (by simp <;> omega) (loose_old (Nat.lt_of_lt_of_le ly3 (Nat.le_refl _)) fy3))
             have qy3 := Nat.ne_of_lt (World.block_lt_of_cell? _ _ gy3)
             have ry3 := Nat.ne_of_gt (World.block_lt_of_cell? _ _ gy3)
             have lgy3 := World.block_lt_of_cell? _ _ gy3
             dsimp only at qy3 ry3 lgy3
           obtain ⟨a4, d4, rfl⟩ := own_slice o4)))
    all_goals
      have O1 : w4.ownsRow w2.heap.size 3 1 (.slice a3 xs.length d3) xs.length (xs.map (Value.int .i64)) := by
        first
          | exact own_less (own_kept o3 k4) s3.1
          | exact own_less (own_kept o3 (((Kept.refl 0 0 _).alloc _).trans k4)) s3.1
          | exact own_less (own_kept o3 ((((Kept.refl 0 0 _).alloc _).alloc _).trans k4)) s3.1
      try simp only [World.size_alloc, heap_drew] at s3
      try simp only [World.size_alloc, heap_drew] at s4
      have r3 := o3.lt
      have r4 := o4.lt
      try simp only [World.size_alloc, heap_drew] at r3
      try simp only [World.size_alloc, heap_drew] at r4
      have h12 : ∀ k, (Value.slice a3 xs.length d3).ownBlock = some k → (Value.slice a4 ys.length d4).ownBlock ≠ some k := fun k e1 e2 => by have := r3 k e1; have := r4 k e2; omega
      have hk24 := h4.2.2
      clear h3 h4 k3 k4
      go_wp2_with fail
      go_meet
      first
          | exact ⟨_, _, _, _, rfl, rfl, two_both hk24 O1 o4 _ _ (by (try simp) <;> omega) (by (try simp) <;> omega) h12⟩
          | exact ⟨_, _, _, _, rfl, rfl, (two_both hk24 o4 O1 _ _ (by (try simp) <;> omega) (by (try simp) <;> omega) (fun k e1 e2 => h12 k e2 e1)).swap⟩
          | exact ⟨_, _, _, _, rfl, rfl, two_new hk24 O1 o4 (by assumption) (by assumption) _ (by omega) (by (try simp) <;> omega) (by (try simp) <;> omega) (fun e => by have := r3 _ e; omega) (fun e => by have := r4 _ e; omega) h12⟩
          | exact ⟨_, _, _, _, rfl, rfl, (two_new hk24 o4 O1 (by assumption) (by assumption) _ (by omega) (by (try simp) <;> omega) (by (try simp) <;> omega) (fun e => by have := r4 _ e; omega) (fun e => by have := r3 _ e; omega) (fun k e1 e2 => h12 k e2 e1)).swap⟩
          | exact ⟨_, _, _, _, rfl, rfl, two_set hk24 O1 o4 (by assumption) (by assumption) (by assumption) (by assumption) (by omega) (by omega) (by omega) (by (try simp) <;> omega) (by (try simp) <;> omega) (fun e => by have := r3 _ e; omega) (fun e => by have := r3 _ e; omega) (fun e => by have := r4 _ e; omega) (fun e => by have := r4 _ e; omega) h12⟩
  case rest =>
    obtain ⟨X, Y, u1, u2, rfl, rfl, two⟩ := hcut
    have hn1 := ((okB_iff xs).1 (unhide HK1)).2
    have hn2 := ((okB_iff ys).1 (unhide HK2)).2
    have hl1 : xs.length ≤ 100000 := by have := ((okB_iff xs).1 (unhide HK1)).1; omega
    have hl2 : ys.length ≤ 100000 := by have := ((okB_iff ys).1 (unhide HK2)).1; omega
    clear q1 q2
    go_wp2_with fail
    refine (multiply_impl _ two.n1 two.n2 hn1.1 hn2.1 hl1 hl2).mono ?_
    rintro e w6 ⟨⟨r6, rfl⟩, u6, n6, m6⟩
    have k6 := two.k.mod m6 (fun i e => by rw [e]; exact two.b1)
    clear two m6 hn1 hn2
    have c3' := k6.cell0 c3
    have f3' := k6.loose0 (World.block_lt_of_cell? _ _ c3) f3
    have K6 := hide ((unhide K).trans k6)
    clear k6
    go_wp2_with fail
    refine (told_impl _ n6).mono ?_
    rintro e w7 ⟨v7, rfl, r7, k7⟩
    generalize hzz : tell (limbs (val xs * val ys).toNat) = zz at *
    generalize hbb : decide ((limbs (val xs * val ys).toNat).length ≤ 100) = bb at *
    have HZ : Hid (ansL (okB xs && okB ys) (val xs * val ys).toNat = zz) := by show _ = _; rw [ansL_yes (by simp [unhide HK1, unhide HK2]), hzz]
    have HB : Hid (ansB (okB xs && okB ys) (val xs * val ys).toNat = bb) := by show _ = _; rw [ansB_yes (by simp [unhide HK1, unhide HK2]), hbb]
    have b6 := World.block_lt_of_cell? _ _ c3'
    dsimp only at b6
    replace f3' := k7.loose0 b6 f3'
    replace c3' := k7.cell0 c3'
    obtain ⟨a7, d7, rfl⟩ := Row.form' r7
    have R := hide ((r7.set_other (p := ⟨w.heap.size + 2, 0, none⟩) (.inl b6) (.slice a7 zz.length d7)).tight.wider (lo' := w.heap.size) (by omega) (Nat.le_refl _))
    have K7 := hide (((unhide K6).trans k7).setNew (p := ⟨w.heap.size + 2, 0, none⟩) (by simp) (.slice a7 zz.length d7))
    clear r7 k7 n6 hzz hbb
    go_wp2_with fail
    exact bodyPost_ret (v := .tuple #[.agg #[.slice a7 zz.length d7], .bool bb]) (by simp [results, Tryd.results13, go_sem, c3']) rfl ⟨_, by rw [unhide HB], by rw [unhide HZ]; exact unhide R, unhide K7⟩

end Go.Proofs.YtkifpodnljlhiaaDoor
