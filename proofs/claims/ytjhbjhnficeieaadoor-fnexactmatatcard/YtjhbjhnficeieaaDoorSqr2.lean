/-
  The program's squareOf: a matrix as rows of numbers that are worked on.
-/
import Derived.Test.YtjhbjhnficeieaaDoorSqr
import Derived.Test.YtjhbjhnficeieaaDoorMat1
namespace Go.Proofs.YtjhbjhnficeieaaDoor
open Go.RowKit
set_option linter.unusedVariables false
set_option maxRecDepth 8000
set_option linter.unusedSimpArgs false

theorem in_squareOf1 : ∀ (w : World) (args : Array Value), (callFunc 64 args).run Tryd.prog w = .ok (.enter 64 args) w := enters Tryd.func64 (by decide) (fun h => by cases h)

theorem place_lt {i j n : Nat} (hi : i < n) (hj : j < n) : i * n + j < n * n := by
  have h1 : (i + 1) * n ≤ n * n := Nat.mul_le_mul_right n hi
  have h2 : (i + 1) * n = i * n + n := Nat.succ_mul i n
  omega

set_option maxHeartbeats 4000000 in
theorem squareOf1_impl {lo hi B n i j : Nat} {v : Value} {ds : List DE} (w : World) (hn : n ≤ 1000) (hi' : i < n) (hj : j < n) (hl : ds.length = n * n) (hz : ∀ k, k < ds.length → (ds.getD k de0).2.1.length ≤ 1000000)
    (c0 : w.cell? ⟨B, 0, none⟩ = some (.int .i64 (n : Int))) (c1 : w.cell? ⟨B, 1, none⟩ = some v) (r : Dys lo hi w v ds) :
    Calls Tryd.prog 64 #[.int .i64 (i : Int), .int .i64 (j : Int), .pointer (some ⟨B, 0, none⟩)] w fun e w' => ∃ g, e = .returned (.pointer (some ⟨g, 0, none⟩)) ∧ DyP (fun x => x < w.heap.size) w' g (ds.getD (i * n + j) de0) ∧ Kept 0 0 w w' := by
  have hp := place_lt hi' hj
  have hnn : n * n ≤ 1000000 := Nat.mul_le_mul hn hn
  have hin : i * n ≤ n * n := by omega
  obtain ⟨p, hpp⟩ : ∃ p, p = i * n + j := ⟨_, rfl⟩
  have hpl : p < ds.length := by omega
  obtain ⟨a, c, rfl, -, -⟩ := r.form
  obtain ⟨g, off, ln, rfl, -, -, -, b, kk, e0, e1, e2, hln, rr⟩ := r.at (i := p) hpl
  have hzl := hz p hpl
  obtain ⟨s0, hs0'⟩ : ∃ q, q = (ds.getD p de0).1 := ⟨_, rfl⟩
  obtain ⟨y0, hy0⟩ : ∃ q, q = (ds.getD p de0).2.2 := ⟨_, rfl⟩
  obtain ⟨z0, hz0⟩ : ∃ q, q = (ds.getD p de0).2.1 := ⟨_, rfl⟩
  rw [← hs0'] at e0
  rw [← hy0] at e2
  rw [← hz0] at hln rr hzl
  have hE : Hid (ds.getD p de0 = (s0, z0, y0)) := by show _ = _; rw [hs0', hy0, hz0]
  rw [← hpp]
  have hd := dyadicOf_impl s0 y0 w rr hzl
  have hw1 : IntKind.i64.wrap ((i : Int) * (n : Int)) = (((i * n : Nat)) : Int) := by rw [IntKind.wrap_i64, ← Int.natCast_mul]; omega
  have hw2 : IntKind.i64.wrap ((((i * n : Nat)) : Int) + (j : Int)) = (p : Int) := by rw [IntKind.wrap_i64, hpp]; omega
  obtain ⟨im, him⟩ : ∃ im : Nat, i * n = im := ⟨_, rfl⟩
  rw [him] at hw1 hw2
  obtain ⟨m, hm⟩ : ∃ m, m = ds.length := ⟨_, rfl⟩
  rw [← hm] at hpl c1
  clear hs0' hy0 hz0 hln rr hzl hpp him hp hnn hin hl hz r hm
  go_enter Tryd.func64, Tryd.ntmps64
  go_wp2_with fail
  refine hd.mono ?_
  rintro e w1 ⟨v1, rfl, o1, k1⟩
  obtain ⟨a1, d1, hv1⟩ := own_slice o1
  subst hv1
  obtain ⟨n1, s1, x1⟩ := new_dya s0 y0 62 o1
  have ks := k1.size
  have D : Hid (DyP (fun x => x < w.heap.size) (w1.alloc (.cells #[.slice a1 z0.length d1, .bool s0, .int .i64 y0] 62)) w1.heap.size (ds.getD p de0)) := by
    show DyP _ _ _ _
    rw [unhide hE]
    exact ⟨_, n1.less (Nat.zero_le _), s1, x1, by omega, fun q hq => by have := (o1.lt q hq).1; omega⟩
  have K1 := hide (k1.alloc (.cells #[.slice a1 z0.length d1, .bool s0, .int .i64 y0] 62))
  clear hd n1 s1 x1 o1 k1 e0 e1 e2 c0 c1 hE
  go_wp2
  go_ret
  exact ⟨_, rfl, unhide D, unhide K1⟩

theorem SqF.lessY {Y Y' : Nat → Prop} {w : World} {R n m : Nat} {F : Nat → Nat → DE} (h : SqF Y w R n m F) (hY : ∀ x, Y' x → Y x) : SqF Y' w R n m F := by
  obtain ⟨h1, h2⟩ := h
  refine ⟨h1, fun i hi => ?_⟩
  obtain ⟨r, c, q0, q1, q2, q3, q4⟩ := h2 i hi
  refine ⟨r, c, fun h => q0 (hY _ h), q1, q2, q3, fun j hj => ?_⟩
  obtain ⟨g, c', d⟩ := q4 j hj
  exact ⟨g, c', d.less (fun x hx _ => hx.elim (fun h => .inl (hY _ h)) .inr)⟩

set_option maxHeartbeats 4000000 in
theorem squareOf_impl {lo hi n : Nat} {v : Value} {ds : List DE} (w : World) (hn : n ≤ 1000) (hl : ds.length = n * n) (hz : ∀ k, k < ds.length → (ds.getD k de0).2.1.length ≤ 1000000) (r : Dys lo hi w v ds) :
    Calls Tryd.prog 37 #[.agg #[.int .i64 (n : Int), v]] w fun e w' => ∃ R, e = .returned (.agg #[.slice (some ⟨R, 0, none⟩) n n]) ∧ SqF (fun x => x < w.heap.size) w' R n n (fun i j => ds.getD (i * n + j) de0) ∧ w.heap.size + 2 ≤ R ∧ Kept 0 0 w w' := by
  obtain ⟨W, hW⟩ : ∃ W, W = (w.alloc (.cells #[.int .i64 (n : Int), v] 24)).alloc (.cells #[.slice none 0 0] 53) := ⟨_, rfl⟩
  have k0 : Kept 0 0 w W := by rw [hW]; exact ((Kept.refl 0 0 w).alloc _).alloc _
  have c0 : W.cell? ⟨w.heap.size, 0, none⟩ = some (.int .i64 (n : Int)) := by rw [hW]; exact old_cell _ (new_cell2 _ _ _ _ _ _ (by simp) rfl)
  have c1 : W.cell? ⟨w.heap.size, 1, none⟩ = some v := by rw [hW]; exact old_cell _ (new_cell2 _ _ _ _ _ _ (by simp) rfl)
  have q0 : W.cell? ⟨w.heap.size + 1, 0, none⟩ = some (.slice none 0 0) := by rw [hW]; exact new_cell2 _ _ _ _ _ _ (by simp) rfl
  have qf : W.frozen? ⟨w.heap.size + 1, 0, none⟩ = false := by rw [hW]; exact new_loose2 _ _ _ _ _ (by simp)
  have sW : W.heap.size = w.heap.size + 2 := by rw [hW]; simp
  have r0 := r.kept k0 (by omega)
  have hm := makeSquare_impl (n := n) hn 64 in_squareOf1 #[.pointer (some ⟨w.heap.size, 0, none⟩)] (fun x => x < W.heap.size) (fun i j => ds.getD (i * n + j) de0) W (fun x h => h) (fun i j w' hi hj k => by
    refine (squareOf1_impl (B := w.heap.size) w' hn hi hj hl hz (k.cell0 c0) (k.cell0 c1) (r0.kept k (by omega))).mono ?_
    rintro e w'' ⟨g, rfl, d, k'⟩
    exact ⟨g, rfl, d.less (fun x hx _ => by have := k.size; omega), k'⟩)
  obtain ⟨a, c, rfl, -, -⟩ := r.form
  rw [hW] at hm c0 c1
  have SW := hide sW
  clear r r0 hz sW hl
  go_enter Tryd.func37, Tryd.ntmps37
  go_wp2_with fail
  refine hm.mono ?_
  rw [← hW]
  rintro e w1 ⟨R, rfl, sq, hR, k1⟩
  have q1 := k1.cell0 q0
  have qf1 := k1.loose0 (World.block_lt_of_cell? _ _ q0) qf
  have sW := unhide SW
  have E1 := cell_on w1 (w.heap.size + 1) 0 (.slice (some ⟨R, 0, none⟩) n n) _ q1
  have ks : Kept (w.heap.size + 1) (w.heap.size + 2) w1 (w1.setCell ⟨w.heap.size + 1, 0, none⟩ (.slice (some ⟨R, 0, none⟩) n n)) := (Kept.refl _ _ _).setCell (p := ⟨w.heap.size + 1, 0, none⟩) (Nat.le_refl _) (Nat.lt_succ_self _) _
  have SQ := sq.keptY ks (fun x h1 h2 => by omega) (by omega)
  have S2 : Hid (SqF (fun x => x < w.heap.size) (w1.setCell ⟨w.heap.size + 1, 0, none⟩ (.slice (some ⟨R, 0, none⟩) n n)) R n n (fun i j => ds.getD (i * n + j) de0)) := SQ.lessY (fun x h => by omega)
  have K2 := hide ((k0.trans k1).wide ks (by omega))
  have HR2 : Hid (w.heap.size + 2 ≤ R) := by show _ ≤ _; omega
  clear hm sq hR k1 ks SQ sW q0 qf c0 c1
  go_wp2
  exact bodyPost_ret (v := .agg #[.slice (some ⟨R, 0, none⟩) n n]) (by simp [results, Tryd.results37, go_sem, E1]) rfl ⟨R, rfl, unhide S2, unhide HR2, unhide K2⟩

end Go.Proofs.YtjhbjhnficeieaaDoor
