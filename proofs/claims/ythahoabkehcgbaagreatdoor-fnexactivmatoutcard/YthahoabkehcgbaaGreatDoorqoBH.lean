/-
  Contracts that the proofs of this seat share: ISide, INat22, IWh1.
-/
import Derived.Test.YthahoabkehcgbaaGreatDoorqoBC
import Derived.Test.YthahoabkehcgbaaGreatDoorqoBE
import Derived.Lib.Strings
import Derived.Lib.Slices
import Derived.Lib.Small
import Derived.Lib.Walk
import Derived.Lib.BitFns
import Derived.Deep.QuietTactic
import Derived.BigQuiet
import Derived.Deep.RegionHeld3
import Derived.BigRegion
import Derived.Test.YthahoabkehcgbaaGreatDoorqoBB
import Derived.Deep.RegionLaw
namespace Go.Proofs.YthahoabkehcgbaaGreatDoor
open Go.RowKit
set_option linter.unusedVariables false
set_option maxRecDepth 8000

end Go.Proofs.YthahoabkehcgbaaGreatDoor

namespace Go.Proofs.YthahoabkehcgbaaGreatDoor
open Go.RowKit
set_option linter.unusedVariables false
set_option maxRecDepth 8000

theorem Num.at {b g : Nat} {w : World} {v : Value} {zs : List Int} (h : Num b w g v zs) : ∀ j, j < zs.length → ∃ g1 c, v = .slice (some ⟨g1, 0, none⟩) zs.length c ∧ w.cell? ⟨g1, j, none⟩ = some (.int .i64 (zs.getD j 0)) ∧ w.frozen? ⟨g1, j, none⟩ = false ∧ g1 ≠ g := by
  intro j hj
  obtain ⟨g1, cap, hv, -⟩ := own_form h.own (by omega)
  subst hv
  have := own_cell h.own j hj
  exact ⟨g1, cap, rfl, this.1, this.2, fun e => h.apart (by simp [Value.ownBlock, e])⟩

set_option maxHeartbeats 1000000 in
theorem at_impl {b g : Nat} {v : Value} {zs : List Int} (w : World) (h : Num b w g v zs) (i : Nat) (hi : (i : Int) ≤ 9223372036854775807) :
    Calls Tryz.prog 204 #[.pointer (some ⟨g, 0, none⟩), .int .i64 i] w fun e w' => e = .returned (.int .i64 (zs.getD i 0)) ∧ w' = w := by
  have hc := h.cell
  have hm := h.row.len
  unfold maxLen at hm
  by_cases hlt : i < zs.length
  · obtain ⟨g1, c', rfl, hx, -, -⟩ := h.at i hlt
    have hlt' : (i : Int) < (zs.length : Int) := by omega
    generalize zs.getD i 0 = z at *
    clear h
    go_enter Tryz.func204, Tryz.ntmps204
    go_wp2
    go_ret
    exact ⟨rfl, rfl⟩
  · have e0 : zs.getD i 0 = 0 := by simp [List.getD, List.getElem?_eq_none (Nat.le_of_not_lt hlt)]
    rw [e0]
    have hlt' : ¬ (i : Int) < (zs.length : Int) := by omega
    obtain ⟨a1, c1, rfl⟩ := h.form
    clear h
    go_enter Tryz.func204, Tryz.ntmps204
    go_wp2
    go_ret
    exact ⟨rfl, rfl⟩

/-- The bit i of a number. -/
def bitAt (n : Nat) (i : Int) : Int := if i < 0 then 0 else ((n / 2 ^ i.toNat % 2 : Nat) : Int)

end Go.Proofs.YthahoabkehcgbaaGreatDoor

namespace Go.Proofs.YthahoabkehcgbaaGreatDoor
open Go.RowKit
set_option linter.unusedVariables false
set_option maxRecDepth 8000

set_option maxHeartbeats 1000000 in
theorem cmp_impl (a b : Int) (w : World) :
    Calls Tryz.prog 231 #[.int .i64 a, .int .i64 b] w fun e w' => e = .returned (.int .i64 (cmpI a b)) ∧ w' = w := by
  have ha : (a != a) = false := by simp
  have hb : (b != b) = false := by simp
  by_cases h1 : a < b
  · rw [cmpI_lt h1]
    go_enter Tryz.func231, Tryz.ntmps231
    go_wp2
    go_ret
    exact ⟨rfl, rfl⟩
  by_cases h2 : b < a
  · rw [cmpI_gt h2]
    go_enter Tryz.func231, Tryz.ntmps231
    go_wp2
    go_ret
    exact ⟨rfl, rfl⟩
  · rw [cmpI_eq (by omega)]
    go_enter Tryz.func231, Tryz.ntmps231
    go_wp2
    go_ret
    exact ⟨rfl, rfl⟩

set_option maxHeartbeats 2000000 in
theorem compare_impl {b1 b2 g1 g2 : Nat} {v1 v2 : Value} {xs ys : List Int} (w : World) (n1 : Num b1 w g1 v1 xs) (n2 : Num b2 w g2 v2 ys) (hx : Nrm xs) (hy : Nrm ys) :
    Calls Tryz.prog 218 #[.pointer (some ⟨g1, 0, none⟩), .pointer (some ⟨g2, 0, none⟩)] w fun e w' => e = .returned (.int .i64 (cmpI (val xs) (val ys))) ∧ Kept 0 0 w w' := by
  obtain ⟨M, hM⟩ : ∃ M, M = xs.length := ⟨_, rfl⟩
  obtain ⟨N, hN⟩ : ∃ N, N = ys.length := ⟨_, rfl⟩
  have hc1 := n1.cell
  have hc2 := n2.cell
  have m1 := n1.row.len
  have m2 := n2.row.len
  unfold maxLen at m1 m2
  rw [← hM] at m1
  rw [← hN] at m2
  by_cases hlen : M = N
  · subst hlen
    generalize hR : cmpI (val xs) (val ys) = R
    have HR := hide hR
    clear hR
    have hat1 := n1.at
    have hat2 := n2.at
    obtain ⟨a1, c1, rfl⟩ := n1.form
    obtain ⟨a2, c2, rfl⟩ := n2.form
    rw [← hM] at hc1 hat1
    rw [← hN] at hc2 hat2
    have hbe : ((M : Int) != (M : Int)) = false := by simp
    have HM := hide hM
    have HN := hide hN
    clear n1 n2 hM hN
    go_enter Tryz.func218, Tryz.ntmps218
    go_wp2
    go_quiet (fail)
    go_wp2
    go_loopw [5] (fun i wr => ∃ k n : Nat, k ≤ M ∧ i = .int .i64 ((k : Int) - 1) ∧ Hid (val (xs.drop k) = val (ys.drop k)) ∧ wr = w.drewN n) (fun i _ => (intOf i + 1).toNat)
    case atStart => exact ⟨M, _, Nat.le_refl _, rfl, by
      have h1 := unhide HM
      have h2 := unhide HN
      show _ = _
      rw [List.drop_of_length_le (by omega), List.drop_of_length_le (by omega)], rfl⟩
    case round =>
      obtain ⟨k, n, hk, rfl, heq, rfl⟩ := hrel
      by_cases h0 : k = 0
      · subst h0
        have hR := unhide HR
        rw [cmpI_eq (by simpa using unhide heq)] at hR
        subst hR
        clear hat1 hat2
        go_wp2
        go_ret
        exact ⟨rfl, (Kept.refl 0 0 w).drewN n⟩
      · obtain ⟨j, rfl⟩ : ∃ j, k = j + 1 := ⟨k - 1, by omega⟩
        obtain ⟨y1, d1, e1, x1, -, -⟩ := hat1 j (by omega)
        obtain ⟨y2, d2, e2, x2, -, -⟩ := hat2 j (by omega)
        cases e1
        cases e2
        have e1 : ((j + 1 : Nat) : Int) - 1 = j := by omega
        rw [e1]
        have hd1 := val_drop xs j
        have hd2 := val_drop ys j
        have heq' := unhide heq
        have hlen : xs.length = ys.length := by rw [← unhide HM, ← unhide HN]
        have hlt := val_lt_of_drop hx.1 hy.1 hlen j (by have := unhide HM; omega)
        have hgt := val_lt_of_drop hy.1 hx.1 hlen.symm j (by have := unhide HN; omega)
        generalize hz1 : xs.getD j 0 = z1 at *
        generalize hz2 : ys.getD j 0 = z2 at *
        have hj1 : (j : Int) < (M : Int) := by omega
        clear hlen hat1 hat2 heq hz1 hz2
        by_cases ce : z1 = z2
        · have HE : Hid (val (xs.drop j) = val (ys.drop j)) := by show _ = _; omega
          have hne : (z1 != z2) = false := by simp [ce]
          clear hd1 hd2 hlt hgt heq' ce
          go_wp2
          go_quiet (fail)
          go_wp2
          go_roundw
          case rel => exact ⟨j, _, by omega, by go_num, HE, rfl⟩
          case measure => simp [intOf]
        · have hne : (z1 != z2) = true := by simp [ce]
          have hRz : cmpI z1 z2 = R := by
            rw [← unhide HR]
            by_cases hc : z1 < z2
            · rw [cmpI_lt hc, cmpI_lt (hlt (by omega))]
            · rw [cmpI_gt (by omega), cmpI_gt (hgt (by omega))]
          have HRZ := hide hRz
          have hcl := fun w => cmp_impl z1 z2 w
          have HC := hide hcl
          clear hd1 hd2 hlt hgt heq' ce hRz hcl
          go_wp2
          go_quiet (fail)
          go_wp2
          go_quiet ((go_at_call 231; exact (unhide HC _).mono (fun e w' h => ⟨h.1, _, h.2⟩)))
          go_wp2
          go_ret
          exact ⟨by rw [← unhide HRZ]; rfl, (((Kept.refl 0 0 w).drewN _).drewN _).drewN _⟩
  · have hne : ((M : Int) != (N : Int)) = true := by simp; omega
    have hR : cmpI (M : Int) (N : Int) = cmpI (val xs) (val ys) := by
      by_cases hlt : M < N
      · rw [cmpI_lt (val_lt_of_len hx.1 hy (by omega)), cmpI_lt (by omega)]
      · rw [cmpI_gt (val_lt_of_len hy.1 hx (by omega)), cmpI_gt (by omega)]
    obtain ⟨a1, c1, rfl⟩ := n1.form
    obtain ⟨a2, c2, rfl⟩ := n2.form
    rw [← hM] at hc1
    rw [← hN] at hc2
    rw [← hR]
    have hcl := fun w => cmp_impl (M : Int) (N : Int) w
    have HC := hide hcl
    clear n1 n2 hM hN hcl hR hlen
    go_enter Tryz.func218, Tryz.ntmps218
    go_wp2
    go_quiet (fail)
    go_wp2
    go_quiet ((go_at_call 231; exact (unhide HC _).mono (fun e w' h => ⟨h.1, _, h.2⟩)))
    go_wp2
    go_ret
    exact ⟨rfl, ((Kept.refl 0 0 w).drewN _).drewN _⟩

end Go.Proofs.YthahoabkehcgbaaGreatDoor

namespace Go.Proofs.YthahoabkehcgbaaGreatDoor
open Go.RowKit
set_option linter.unusedVariables false
set_option maxRecDepth 8000
set_option linter.unusedSimpArgs false

end Go.Proofs.YthahoabkehcgbaaGreatDoor

namespace Go.Proofs.YthahoabkehcgbaaGreatDoor
open Go.RowKit
set_option linter.unusedVariables false
set_option maxRecDepth 8000

theorem nrm_of_le {zs : List Int} (h : Lim zs) (hv : zs = [] ∨ (65536 : Int) ^ (zs.length - 1) ≤ val zs) : Nrm zs := by
  refine ⟨h, fun z hz e => ?_⟩
  subst e
  rcases hv with rfl | hv
  · simp at hz
  · have hne : zs ≠ [] := by intro e; subst e; simp at hz
    have hl : 0 < zs.length := List.length_pos_iff.2 hne
    have e1 := val_take_succ zs (zs.length - 1) (by omega)
    rw [show zs.length - 1 + 1 = zs.length by omega, List.take_length] at e1
    have e2 : zs.getD (zs.length - 1) 0 = 0 := by
      rw [List.getLast?_eq_getElem?] at hz
      simp [List.getD, hz]
    have e3 := val_lt (h.take (zs.length - 1))
    rw [List.length_take, Nat.min_eq_left (by omega)] at e3
    rw [e2, Int.mul_zero] at e1
    omega
theorem limbs_of_le {zs : List Int} (h : Lim zs) (hv : zs = [] ∨ (65536 : Int) ^ (zs.length - 1) ≤ val zs) : zs = limbs (val zs).toNat := nrm_limbs (nrm_of_le h hv)
theorem drop_pos {ys : List Int} (hy : Nrm ys) (j : Nat) (hj : j < ys.length) : 1 ≤ val (ys.drop j) := by
  have hl : Nrm (ys.drop j) := ⟨hy.1.drop j, fun z hz => hy.2 z (by rw [List.getLast?_drop, if_neg (by omega)] at hz; exact hz)⟩
  rcases Int.lt_or_le 0 (val (ys.drop j)) with h | h
  · omega
  · have h0 : val (ys.drop j) = 0 := by have := val_nonneg hl.1; omega
    have := congrArg List.length (nrm_nil hl h0)
    simp at this
    omega

theorem Two.kept {w0 W w' : World} {g1 g2 : Nat} {u1 u2 : Value} {xs ys : List Int} (t : Two w0 W g1 g2 u1 u2 xs ys) (k : Kept 0 0 W w') : Two w0 w' g1 g2 u1 u2 xs ys :=
  ⟨t.n1.kept k, t.n2.kept k, t.ne, t.o12, t.o21, t.oo, t.k.trans k, t.b1, t.b2⟩
theorem Two.put {w0 wr : World} {g1 g2 gb cap j : Nat} {u2 : Value} {zs ys : List Int} {n : Nat} (t : Two w0 wr g1 g2 (.slice (some ⟨gb, 0, none⟩) n cap) u2 zs ys) (hn : zs.length = n) (z : Int) :
    Two w0 (wr.setCell ⟨gb, j, none⟩ (.int .i64 z)) g1 g2 (.slice (some ⟨gb, 0, none⟩) n cap) u2 (zs.set j z) ys := by
  subst hn
  have n1 : gb ≠ g1 := fun e => t.n1.apart (by simp [Value.ownBlock, e])
  have n2 : gb ≠ g2 := fun e => t.o12 (by simp [Value.ownBlock, e])
  have n3 : u2.ownBlock ≠ some gb := t.oo gb rfl
  have hb := (t.n1.own.lt gb rfl).1
  refine ⟨⟨cell_aside _ (p := ⟨g1, 0, none⟩) (r := ⟨gb, j, none⟩) n1 t.n1.cell, by rw [frozen_set]; exact t.n1.loose, own_set t.n1.own j z, t.n1.apart⟩,
    ⟨cell_aside _ (p := ⟨g2, 0, none⟩) (r := ⟨gb, j, none⟩) n2 t.n2.cell, by rw [frozen_set]; exact t.n2.loose, own_apart t.n2.own (p := ⟨gb, j, none⟩) n3 _, t.n2.apart⟩,
    t.ne, t.o12, t.o21, t.oo, t.k.setNew (p := ⟨gb, j, none⟩) hb _, t.b1, t.b2⟩
theorem Two.snoc {w0 w w' : World} {g1 g2 : Nat} {v v' u2 : Value} {zs ys qs : List Int} (t : Two w0 w g1 g2 v u2 zs ys) (o : Obj) (hg : (w.alloc o).grownBy w' v.ownBlock) (hat : v'.ownBlock = v.ownBlock ∨ v'.ownBlock = some (w.heap.size + 1))
    (hown : w'.ownsRow w0.heap.size 3 1 v' qs.length (qs.map (Value.int .i64))) :
    w'.cell? ⟨g1, 0, none⟩ = some v ∧ w'.frozen? ⟨g1, 0, none⟩ = false ∧ Two w0 (w'.setCell ⟨g1, 0, none⟩ v') g1 g2 v' u2 qs ys := by
  obtain ⟨d1, d2, d3, d4⟩ := t.n1.snoc o hg hat hown
  have hlt := t.n2.lt
  have hS2 : ¬ Own1 g1 v g2 := fun e => e.elim (fun e => t.ne e.symm) t.o12
  have hSo : ∀ i, u2.ownBlock = some i → ¬ Own1 g1 v i := fun i hi e => e.elim (fun e => t.o21 (by rw [hi, e])) (fun e => t.oo i e hi)
  refine ⟨d1, d2, d3, t.n2.mod d4 hS2 hSo, t.ne, ?_, t.o21, ?_, t.k.mod d4 (fun i hi => hi.elim (fun e => by rw [e]; exact t.b1) (fun e => (t.n1.own.lt i e).1)), t.b1, t.b2⟩
  · rcases hat with e | e
    · rw [e]; exact t.o12
    · rw [e]; simp; omega
  · intro k hk
    rcases hat with e | e
    · exact t.oo k (by rw [← e]; exact hk)
    · rw [e] at hk
      simp at hk
      intro e2
      have := (t.n2.own.lt k e2).2
      omega

theorem add_put (zs ys : List Int) (i : Nat) (hi : i < zs.length) (c S z y : Int) (hz : zs.getD i 0 = z) (hy : val (ys.drop i) = y + 65536 * val (ys.drop (i + 1))) (h : val zs + 65536 ^ i * (c + val (ys.drop i)) = S) :
    val (zs.set i ((z + y + c) % 65536)) + 65536 ^ (i + 1) * ((z + y + c) / 65536 + val (ys.drop (i + 1))) = S := by
  rw [val_set _ _ _ hi, hz, ← h, Int.pow_succ, hy]
  have e : (z + y + c) % 65536 - z + 65536 * ((z + y + c) / 65536 + val (ys.drop (i + 1))) = c + (y + 65536 * val (ys.drop (i + 1))) := by omega
  have key : ∀ P A B : Int, P * A + P * 65536 * B = P * (A + 65536 * B) := fun P A B => by rw [Int.mul_add, Int.mul_assoc]
  rw [← e, ← key, Int.add_assoc]

end Go.Proofs.YthahoabkehcgbaaGreatDoor

namespace Go.Proofs.YthahoabkehcgbaaGreatDoor
open Go.RowKit
set_option linter.unusedVariables false
set_option maxRecDepth 8000

theorem Num.cut {b g gb cap : Nat} {w : World} {zs : List Int} {n : Nat} (h : Num b w g (.slice (some ⟨gb, 0, none⟩) n cap) zs) (hn : n = zs.length) (j : Nat) (hj : j ≤ zs.length) :
    Num b (w.setCell ⟨g, 0, none⟩ (.slice (some ⟨gb, 0, none⟩) j cap)) g (.slice (some ⟨gb, 0, none⟩) j cap) (zs.take j) := by
  subst hn
  exact ⟨cell_on _ _ _ _ _ h.cell, by rw [frozen_set]; exact h.loose, own_apart (own_take h.own j hj) (p := ⟨g, 0, none⟩) (fun e => h.apart e) _, fun e => h.apart e⟩

/-- How long the list is that the cell g holds. -/
def lenAt (w : World) (g : Nat) : Nat := match w.cell? ⟨g, 0, none⟩ with
  | some (.slice _ n _) => n
  | _ => 0
theorem lenAt_of {w : World} {g : Nat} {a : Option Addr} {n c : Nat} (h : w.cell? ⟨g, 0, none⟩ = some (.slice a n c)) : lenAt w g = n := by unfold lenAt; rw [h]

end Go.Proofs.YthahoabkehcgbaaGreatDoor

namespace Go.Proofs.YthahoabkehcgbaaGreatDoor
open Go.RowKit
set_option linter.unusedVariables false
set_option maxRecDepth 8000

end Go.Proofs.YthahoabkehcgbaaGreatDoor

namespace Go.Proofs.YthahoabkehcgbaaGreatDoor
open Go.RowKit
set_option linter.unusedVariables false
set_option maxRecDepth 8000

/-- A list of the call's own, newer than w; nothing that was there has changed. -/
structure Fresh (w wr : World) (v : Value) (zs : List Int) : Prop where
  own : wr.ownsRow w.heap.size 3 1 v zs.length (zs.map (Value.int .i64))
  k : Kept 0 0 w wr

theorem Fresh.drewN {w wr : World} {v : Value} {zs : List Int} (h : Fresh w wr v zs) (n : Nat) : Fresh w (wr.drewN n) v zs := ⟨own_kept h.own ((Kept.refl 0 0 wr).drewN n), h.k.drewN n⟩
theorem Fresh.put {w wr : World} {g n c : Nat} {zs : List Int} (h : Fresh w wr (.slice (some ⟨g, 0, none⟩) n c) zs) (hn : n = zs.length) (j : Nat) (z : Int) : Fresh w (wr.setCell ⟨g, j, none⟩ (.int .i64 z)) (.slice (some ⟨g, 0, none⟩) n c) (zs.set j z) := by
  subst hn
  exact ⟨own_set h.own j z, h.k.setNew (p := ⟨g, j, none⟩) (h.own.lt g rfl).1 _⟩
theorem Fresh.at {w wr : World} {g n c : Nat} {zs : List Int} (h : Fresh w wr (.slice (some ⟨g, 0, none⟩) n c) zs) (hn : n = zs.length) (j : Nat) (hj : j < n) :
    wr.cell? ⟨g, j, none⟩ = some (.int .i64 (zs.getD j 0)) ∧ wr.frozen? ⟨g, j, none⟩ = false := by
  subst hn
  exact own_cell h.own j hj
theorem made_fresh {w wr w' : World} {n : Nat} (k : Kept 0 0 w wr) (hown : w'.ownsRow w.heap.size 3 1 (.slice (some ⟨wr.heap.size, 0, none⟩) n n) n (madeCells (Value.int .i64 0).cells (n * 1)).toList) (hgrow : wr.grownBy w' none) : Fresh w w' (.slice (some ⟨wr.heap.size, 0, none⟩) n n) (List.replicate n 0) := by
  rw [made_zero] at hown
  exact ⟨by simpa using hown, k.trans ⟨hgrow.os, hgrow.tape, hgrow.output, hgrow.size, fun i hi _ => hgrow.block i hi (by simp)⟩⟩

end Go.Proofs.YthahoabkehcgbaaGreatDoor


namespace Go.Proofs.YthahoabkehcgbaaGreatDoor
open Go.RowKit
set_option linter.unusedVariables false
set_option maxRecDepth 8000

/-- Behind its first cell block g is as it was. -/
def SameSide (g : Nat) (w w' : World) : Prop := ∀ o, 1 ≤ o → w'.cell? ⟨g, o, none⟩ = w.cell? ⟨g, o, none⟩ ∧ w'.frozen? ⟨g, o, none⟩ = w.frozen? ⟨g, o, none⟩
theorem SameSide.refl (g : Nat) (w : World) : SameSide g w w := fun _ _ => ⟨rfl, rfl⟩
theorem SameSide.trans {g : Nat} {a b c : World} (h : SameSide g a b) (k : SameSide g b c) : SameSide g a c := fun o ho => ⟨(k o ho).1.trans (h o ho).1, (k o ho).2.trans (h o ho).2⟩
theorem SameSide.drewN {g : Nat} {a w : World} (h : SameSide g a w) (n : Nat) : SameSide g a (w.drewN n) := h
theorem side_setAt (w : World) (g p o : Nat) (u : Value) (ho : p ≠ o) : (w.setCell ⟨g, p, none⟩ u).cell? ⟨g, o, none⟩ = w.cell? ⟨g, o, none⟩ := by
  unfold World.cell? World.setCell
  simp only [Array.getElem?_modify]
  cases hb : w.heap[g]? with
  | none => simp
  | some b => cases b <;> simp [ho]
theorem side_set (w : World) (g : Nat) (u : Value) : (w.setCell ⟨g, 0, none⟩ u).cell? ⟨g, 1, none⟩ = w.cell? ⟨g, 1, none⟩ := side_setAt w g 0 1 u (by decide)
theorem SameSide.set0 {g : Nat} {a w : World} (h : SameSide g a w) (u : Value) : SameSide g a (w.setCell ⟨g, 0, none⟩ u) :=
  fun o ho => ⟨(side_setAt w g 0 o u (by omega)).trans (h o ho).1, (frozen_set w g 0 _ u).trans (h o ho).2⟩
theorem SameSide.far {g : Nat} {a w : World} (h : SameSide g a w) {p o : Nat} (hp : p ≠ g) (u : Value) : SameSide g a (w.setCell ⟨p, o, none⟩ u) :=
  fun q hq => ⟨(World.cell?_of_block (w := w) (a := ⟨g, q, none⟩) (Below.heap_setCell _ _ _ _ (fun e => hp e.symm))).trans (h q hq).1, (frozen_set w p o _ u).trans (h q hq).2⟩
theorem SameSide.ofBlock {g : Nat} {w w' : World} (h : w'.heap[g]? = w.heap[g]?) : SameSide g w w' :=
  fun q hq => ⟨World.cell?_of_block (w := w) (a := ⟨g, q, none⟩) h, World.frozen?_of_block (w := w) (a := ⟨g, q, none⟩) h⟩
theorem Kept.side {g : Nat} {w w' : World} (k : Kept 0 0 w w') (hg : g < w.heap.size) : SameSide g w w' := SameSide.ofBlock (k.block g hg (by omega))
theorem Mod.side {S : Nat → Prop} {g : Nat} {w w' : World} (k : Mod S w w') (hg : g < w.heap.size) (hS : ¬ S g) : SameSide g w w' := SameSide.ofBlock (k.block g hg hS)

/-- Behind its first two cells block g is as it was. -/
def SameTail (g : Nat) (w w' : World) : Prop := ∀ o, 2 ≤ o → w'.cell? ⟨g, o, none⟩ = w.cell? ⟨g, o, none⟩ ∧ w'.frozen? ⟨g, o, none⟩ = w.frozen? ⟨g, o, none⟩
theorem SameTail.refl (g : Nat) (w : World) : SameTail g w w := fun _ _ => ⟨rfl, rfl⟩
theorem SameTail.trans {g : Nat} {a b c : World} (h : SameTail g a b) (k : SameTail g b c) : SameTail g a c := fun o ho => ⟨(k o ho).1.trans (h o ho).1, (k o ho).2.trans (h o ho).2⟩
theorem SameTail.drew {g : Nat} {a w : World} (h : SameTail g a w) : SameTail g a w.drew := h
theorem SameTail.drewN {g : Nat} {a w : World} (h : SameTail g a w) (n : Nat) : SameTail g a (w.drewN n) := h
theorem SameSide.tail {g : Nat} {w w' : World} (h : SameSide g w w') : SameTail g w w' := fun o ho => h o (by omega)
theorem SameTail.set1 {g : Nat} {a w : World} (h : SameTail g a w) (u : Value) : SameTail g a (w.setCell ⟨g, 1, none⟩ u) :=
  fun o ho => ⟨(side_setAt w g 1 o u (by omega)).trans (h o ho).1, (frozen_set w g 1 _ u).trans (h o ho).2⟩

set_option maxHeartbeats 4000000 in
theorem trim_side {b g : Nat} {v : Value} {zs : List Int} (w : World) (h : Num b w g v zs) (hl : Lim zs) :
    Calls Tryz.prog 215 #[.pointer (some ⟨g, 0, none⟩)] w fun e w' => (∃ r, e = .returned r) ∧ ∃ u, Num b w' g u (limbs (val zs).toNat) ∧ u.ownBlock = v.ownBlock ∧ Mod (fun i => i = g) w w' ∧ SameSide g w w' := by
  have hm := h.row.len
  unfold maxLen at hm
  have HL := hide hl
  clear hl
  go_enter Tryz.func215, Tryz.ntmps215
  go_wp2
  go_loopw [] (fun wr => ∃ (m : Nat) (u : Value), m ≤ zs.length ∧ Hid (∀ i, m ≤ i → i < zs.length → zs.getD i 0 = 0) ∧ Num b wr g u (zs.take m) ∧ Hid (u.ownBlock = v.ownBlock) ∧ Mod (fun i => i = g) w wr ∧ SameSide g w wr) (fun wr => lenAt wr g)
  case atStart => exact ⟨zs.length, v, Nat.le_refl _, hide (fun i h1 h2 => by omega), by rw [List.take_length]; exact h, hide rfl, Mod.refl _ _, SameSide.refl _ _⟩
  case round =>
    clear h
    obtain ⟨m, u, hmz, hz, n, ho, hmod, hsd⟩ := hrel
    have SS := hide hsd
    clear hsd
    have hlen : (zs.take m).length = m := by simp; omega
    have hlo := n.loose
    by_cases h0 : m = 0
    · subst h0
      obtain ⟨a1, c1, hv⟩ := n.form
      rw [hlen] at hv
      subst hv
      have hce := n.cell
      have e1 := take_limbs zs (unhide HL) 0 (by omega) (unhide hz) (.inl rfl)
      rw [e1] at n
      have NN := hide n
      have MM := hide hmod
      have hd : decide ((0 : Int) < ((0 : Nat) : Int)) = false := rfl
      clear e1 n hmod hlen hz
      go_wp2
      go_quiet (fail)
      go_wp2
      exact bodyPost_end (v := .tuple #[]) (by simp [results, Tryz.results215, go_sem]) rfl ⟨⟨_, rfl⟩, _, (unhide NN).kept ((Kept.refl 0 0 _).drewN _), unhide ho, (unhide MM).drewN _, (unhide SS).drewN _⟩
    · obtain ⟨gb, cap, hv, hxz, hfz, hgb⟩ := n.at (m - 1) (by omega)
      rw [hlen] at hv
      subst hv
      have hce := n.cell
      have hz1 : (zs.take m).getD (m - 1) 0 = zs.getD (m - 1) 0 := by
        simp only [List.getD, List.getElem?_take]
        rw [if_pos (by omega)]
      rw [hz1] at hxz
      have hpos : (0 : Int) < (m : Int) := by omega
      have hposN : 0 < m := by omega
      have h1m : (1 : Int) ≤ (m : Int) := by omega
      have hcap : (m : Int) - 1 ≤ (cap : Int) := by
        have h5 := n.own
        rw [hlen] at h5
        obtain ⟨g5, cap5, e5, -, h6, -⟩ := own_form h5 (by omega)
        cases e5
        omega
      have ew : IntKind.i64.wrap ((m : Int) - 1) = (m : Int) - 1 := wrap_small _ (by omega) (by omega)
      have et : ((m : Int) - 1).toNat = m - 1 := by omega
      have hi0 : (0 : Int) ≤ (m : Int) - 1 := by omega
      have hi1 : (m : Int) - 1 < (m : Int) := by omega
      have hz1' : ∀ z, zs.getD (m - 1) 0 = z → (z = 0 → ∀ i, m - 1 ≤ i → i < zs.length → zs.getD i 0 = 0) ∧ (z ≠ 0 → zs.take m = limbs (val zs).toNat) := by
        intro z e
        refine ⟨fun e0 i h1 h2 => ?_, fun e0 => take_limbs zs (unhide HL) m (by omega) (unhide hz) (.inr (by rw [e]; exact e0))⟩
        by_cases h3 : i = m - 1
        · rw [h3, e, e0]
        · exact unhide hz i (by omega) h2
      generalize zs.getD (m - 1) 0 = zl at *
      obtain ⟨hza, hzb⟩ := hz1' zl rfl
      clear hz1' hz
      by_cases hzz : zl = 0
      · subst hzz
        have HZ := hide (hza rfl)
        have NC := hide (fun k => (n.kept ((Kept.refl 0 0 _).drewN k)).cut hlen.symm (m - 1) (by omega))
        have MC := hide (fun k => (hmod.drewN k).set (p := ⟨g, 0, none⟩) (.inl rfl) (.slice (some ⟨gb, 0, none⟩) (m - 1) cap))
        have e1 : (zs.take m).take (m - 1) = zs.take (m - 1) := by rw [List.take_take, Nat.min_eq_left (by omega)]
        have E1 := hide e1
        clear hza hzb n hmod hlen e1
        go_wp2
        go_quiet (fail)
        go_wp2
        go_region
        go_wp2
        go_roundw
        case rel => exact ⟨m - 1, .slice (some ⟨gb, 0, none⟩) (m - 1) cap, by omega, HZ, by rw [← unhide E1]; exact unhide NC _, hide (unhide ho), unhide MC _, ((unhide SS).drewN _).set0 _⟩
        case measure => rw [lenAt_of hce, lenAt_of (unhide NC _).cell]; omega
      · have e1 := hzb hzz
        rw [e1] at n
        have NN := hide n
        have MM := hide hmod
        have hb : (zl == 0) = false := beq_eq_false_iff_ne.2 hzz
        clear e1 n hmod hlen hza hzb
        go_wp2
        go_quiet (fail)
        go_wp2
        exact bodyPost_end (v := .tuple #[]) (by simp [results, Tryz.results215, go_sem]) rfl ⟨⟨_, rfl⟩, _, (unhide NN).kept ((Kept.refl 0 0 _).drewN _), unhide ho, (unhide MM).drewN _, (unhide SS).drewN _⟩

/-- Two numbers that lie apart, newer than w0; since wb only the first one's blocks have turned, and of its cell's block only the first cell. -/
structure TwoS (wb : World) (u0 : Value) (w0 wx : World) (g1 g2 : Nat) (u1 u2 : Value) (xs ys : List Int) : Prop where
  two : Two w0 wx g1 g2 u1 u2 xs ys
  d1 : SameSide g1 wb wx
  m : Mod (Own1 g1 u0) wb wx
  ob : ∀ i, u1.ownBlock = some i → u0.ownBlock = some i ∨ wb.heap.size ≤ i

section
variable {wb w0 wx w w' W : World} {g1 g2 : Nat} {u0 u1 u1' u2 v v' : Value} {xs ys zs qs : List Int}
theorem TwoS.n1 (t : TwoS wb u0 w0 wx g1 g2 u1 u2 xs ys) : Num w0.heap.size wx g1 u1 xs := t.two.n1
theorem TwoS.n2 (t : TwoS wb u0 w0 wx g1 g2 u1 u2 xs ys) : Num w0.heap.size wx g2 u2 ys := t.two.n2
theorem TwoS.k (t : TwoS wb u0 w0 wx g1 g2 u1 u2 xs ys) : Kept 0 0 w0 wx := t.two.k
theorem TwoS.kept (t : TwoS wb u0 w0 W g1 g2 u1 u2 xs ys) (k : Kept 0 0 W w') : TwoS wb u0 w0 w' g1 g2 u1 u2 xs ys := ⟨t.two.kept k, t.d1.trans (k.side t.n1.lt), t.m.kept k, t.ob⟩
theorem TwoS.put {gb cap j n : Nat} (t : TwoS wb u0 w0 w g1 g2 (.slice (some ⟨gb, 0, none⟩) n cap) u2 zs ys) (hn : zs.length = n) (z : Int) :
    TwoS wb u0 w0 (w.setCell ⟨gb, j, none⟩ (.int .i64 z)) g1 g2 (.slice (some ⟨gb, 0, none⟩) n cap) u2 (zs.set j z) ys :=
  ⟨t.two.put hn z, t.d1.far (fun e => t.n1.apart (by simp [Value.ownBlock, e])) _, t.m.set (p := ⟨gb, j, none⟩) ((t.ob gb rfl).imp (fun h => .inr h) id) _, t.ob⟩
theorem TwoS.snoc (t : TwoS wb u0 w0 w g1 g2 v u2 zs ys) (o : Obj) (hg : (w.alloc o).grownBy w' v.ownBlock) (hat : v'.ownBlock = v.ownBlock ∨ v'.ownBlock = some (w.heap.size + 1))
    (hown : w'.ownsRow w0.heap.size 3 1 v' qs.length (qs.map (Value.int .i64))) :
    w'.cell? ⟨g1, 0, none⟩ = some v ∧ w'.frozen? ⟨g1, 0, none⟩ = false ∧ TwoS wb u0 w0 (w'.setCell ⟨g1, 0, none⟩ v') g1 g2 v' u2 qs ys := by
  obtain ⟨e1, e2, t2⟩ := t.two.snoc o hg hat hown
  have k := (Kept.refl 0 0 w).alloc o
  have l1 := t.n1.lt
  have s1 : SameSide g1 (w.alloc o) w' := SameSide.ofBlock (hg.block g1 (by simp; omega) (fun e => t.n1.apart e.symm))
  have hm := ((t.m.kept k).grow hg (fun i hi => (t.ob i hi).imp (fun h => .inr h) id)).set (p := ⟨g1, 0, none⟩) (.inl (.inl rfl)) v'
  refine ⟨e1, e2, t2, ((t.d1.trans (k.side l1)).trans s1).set0 _, hm, fun i hi => ?_⟩
  rcases hat with e | e
  · exact t.ob i (by rw [← e]; exact hi)
  · rw [e] at hi
    simp at hi
    have := t.m.size
    exact .inr (by omega)
end

end Go.Proofs.YthahoabkehcgbaaGreatDoor

namespace Go.Proofs.YthahoabkehcgbaaGreatDoor
open Go.RowKit
set_option linter.unusedVariables false
set_option maxRecDepth 8000

set_option maxHeartbeats 1000000 in
theorem isZero_impl {b g : Nat} {v : Value} {zs : List Int} (w : World) (h : Num b w g v zs) :
    Calls Tryz.prog 185 #[.pointer (some ⟨g, 0, none⟩)] w fun e w' => e = .returned (.bool (decide (zs.length = 0))) ∧ w' = w := by
  have hc := h.cell
  obtain ⟨a1, c1, rfl⟩ := h.form
  clear h
  go_enter Tryz.func185, Tryz.ntmps185
  go_wp2
  go_ret
  refine ⟨?_, rfl⟩
  cases zs with
  | nil => simp
  | cons z t => simp; omega

set_option maxHeartbeats 1000000 in
theorem shiftUp_zero {b g : Nat} {v : Value} (w : World) (h : Num b w g v []) (k : Int) :
    Calls Tryz.prog 205 #[.pointer (some ⟨g, 0, none⟩), .int .i64 k] w fun e w' => (∃ r, e = .returned r) ∧ w' = w := by
  have hz := isZero_impl w h
  have e : (decide (([] : List Int).length = 0)) = true := rfl
  rw [e] at hz
  have HZ := hide hz
  clear hz h e
  go_enter Tryz.func205, Tryz.ntmps205
  go_wp2_with (go_at_call 185; refine (unhide HZ).mono ?_; rintro e w' ⟨rfl, rfl⟩)
  exact bodyPost_ret (v := .tuple #[]) (by simp [results, Tryz.results205, go_sem]) rfl ⟨⟨_, rfl⟩, rfl⟩

end Go.Proofs.YthahoabkehcgbaaGreatDoor

namespace Go.Proofs.YthahoabkehcgbaaGreatDoor
open Go.RowKit
set_option linter.unusedVariables false
set_option maxRecDepth 8000
set_option linter.unusedSimpArgs false

/-- The second cell of block g tells the sign s, and may be written. -/
def Sd (w : World) (g : Nat) (s : Bool) : Prop := w.cell? ⟨g, 1, none⟩ = some (.bool s) ∧ w.frozen? ⟨g, 1, none⟩ = false
theorem Sd.same {w w' : World} {g : Nat} {s : Bool} (h : Sd w g s) (k : SameSide g w w') : Sd w' g s := ⟨(k 1 (Nat.le_refl 1)).1.trans h.1, (k 1 (Nat.le_refl 1)).2.trans h.2⟩
theorem Sd.lt {w : World} {g : Nat} {s : Bool} (h : Sd w g s) : g < w.heap.size := World.block_lt_of_cell? _ ⟨g, 1, none⟩ h.1
theorem Sd.kept {w w' : World} {g : Nat} {s : Bool} (h : Sd w g s) (k : Kept 0 0 w w') : Sd w' g s := h.same (k.side h.lt)

set_option maxHeartbeats 1000000 in
theorem wok_impl {bw : Bool} {lo hi : Nat} {v : Value} {zs : List Int} (b : Bool) (w : World) (r : Row .i64 bw lo hi w v zs) :
    Calls Tryz.prog 127 #[.agg #[.bool b, v]] w fun e w' => e = .returned (.bool (wokB b zs)) ∧ Kept 0 0 w w' := by
  have k0 := (Kept.refl 0 0 w).alloc (.cells #[.bool b, v] 50)
  have q := r.kept k0 (by omega)
  have c0 : (w.alloc (.cells #[.bool b, v] 50)).cell? ⟨w.heap.size, 0, none⟩ = some (.bool b) := new_cell2 _ _ _ _ _ _ rfl rfl
  have c1 : (w.alloc (.cells #[.bool b, v] 50)).cell? ⟨w.heap.size, 1, none⟩ = some v := new_cell2 _ _ _ _ _ _ rfl rfl
  obtain ⟨a, c, rfl⟩ := Row.form' r
  clear r
  go_enter Tryz.func127, Tryz.ntmps127
  go_wp2_with fail
  generalize w.alloc (.cells #[.bool b, .slice a zs.length c] 50) = W at *
  refine (ok_impl _ q).mono ?_
  rintro e w1 ⟨rfl, k1⟩
  replace c0 := k1.cell0 c0
  replace c1 := k1.cell0 c1
  have K := hide (k0.trans k1)
  clear k0 k1 q
  cases hok : okB zs
  · have HK := hide (wokB_bad (b := b) hok)
    clear hok
    go_wp2
    go_ret
    exact ⟨by rw [unhide HK]; rfl, unhide K⟩
  · have HK : Hid (wokB b zs = (!b || decide (0 < (zs.length : Int)))) := by show _ = _; unfold wokB; rw [hok]; rfl
    clear hok
    cases b
    · go_wp2
      go_ret
      exact ⟨by rw [unhide HK]; rfl, unhide K⟩
    · go_wp2
      go_ret
      exact ⟨by rw [unhide HK]; simp, unhide K⟩

theorem in_limbsOf : ∀ (w : World) (args : Array Value), (callFunc 213 args).run Tryz.prog w = .ok (.enter 213 args) w := enters Tryz.func213 (by decide) (fun h => by cases h)

set_option maxHeartbeats 1000000 in
theorem signedOf_impl {bw : Bool} {lo hi : Nat} {v : Value} {zs : List Int} (b : Bool) (w : World) (r : Row .i64 bw lo hi w v zs) (hl : zs.length ≤ 1000000) :
    Calls Tryz.prog 183 #[.agg #[.bool b, v]] w fun e w' => ∃ v', e = .returned (.agg #[v', .bool b]) ∧ w'.ownsRow w.heap.size 3 1 v' zs.length (zs.map (Value.int .i64)) ∧ Kept 0 0 w w' := by
  have k0 : Kept 0 0 w ((w.alloc (.cells #[.bool b, v] 50)).alloc (.cells #[.slice none 0 0, .bool false] 147)) := (((Kept.refl 0 0 w).alloc (.cells #[.bool b, v] 50)).alloc (.cells #[.slice none 0 0, .bool false] 147))
  have p0 : ((w.alloc (.cells #[.bool b, v] 50)).alloc (.cells #[.slice none 0 0, .bool false] 147)).cell? ⟨w.heap.size, 0, none⟩ = some (.bool b) := old_cell _ (new_cell2 _ _ _ _ _ _ (by simp) rfl)
  have p1 : ((w.alloc (.cells #[.bool b, v] 50)).alloc (.cells #[.slice none 0 0, .bool false] 147)).cell? ⟨w.heap.size, 1, none⟩ = some (v) := old_cell _ (new_cell2 _ _ _ _ _ _ (by simp) rfl)
  have q0 : ((w.alloc (.cells #[.bool b, v] 50)).alloc (.cells #[.slice none 0 0, .bool false] 147)).cell? ⟨w.heap.size + 1, 0, none⟩ = some (.slice none 0 0) := new_cell2 _ _ _ _ _ _ (by simp) rfl
  have qf0 : ((w.alloc (.cells #[.bool b, v] 50)).alloc (.cells #[.slice none 0 0, .bool false] 147)).frozen? ⟨w.heap.size + 1, 0, none⟩ = false := new_loose2 _ _ _ _ _ (by simp)
  have q1 : ((w.alloc (.cells #[.bool b, v] 50)).alloc (.cells #[.slice none 0 0, .bool false] 147)).cell? ⟨w.heap.size + 1, 1, none⟩ = some (.bool false) := new_cell2 _ _ _ _ _ _ (by simp) rfl
  have qf1 : ((w.alloc (.cells #[.bool b, v] 50)).alloc (.cells #[.slice none 0 0, .bool false] 147)).frozen? ⟨w.heap.size + 1, 1, none⟩ = false := new_loose2 _ _ _ _ _ (by simp)
  replace r := r.kept k0 (by omega)
  have s0 : ((w.alloc (.cells #[.bool b, v] 50)).alloc (.cells #[.slice none 0 0, .bool false] 147)).heap.size = w.heap.size + 2 := by simp
  obtain ⟨a, c, hv⟩ := Row.form' r
  subst hv
  have K := hide (k0)
  clear k0
  have S0 := hide s0
  clear s0
  go_enter Tryz.func183, Tryz.ntmps183
  go_wp2_with fail
  generalize ((w.alloc (.cells #[.bool b, .slice a zs.length c] 50)).alloc (.cells #[.slice none 0 0, .bool false] 147)) = W at *
  have kd := (Kept.refl 0 0 W).drew
  replace r := r.kept kd (by omega)
  replace qf0 := kd.loose0 (World.block_lt_of_cell? _ _ q0) qf0
  replace qf1 := kd.loose0 (World.block_lt_of_cell? _ _ q1) qf1
  replace p0 := kd.cell0 p0
  replace p1 := kd.cell0 p1
  replace q0 := kd.cell0 q0
  replace q1 := kd.cell0 q1
  replace K := hide ((unhide K).trans kd)
  have z1 := kd.size
  clear kd
  refine wp_region_held_drew (S := (fun w' => w'.cell? ⟨w.heap.size, 0, none⟩ = some (.bool b) ∧ w'.cell? ⟨w.heap.size, 1, none⟩ = some (.slice a zs.length c))) (by kernel_rfl) ?_ (fun hHeld => ?_)
  · exact ⟨p0, p1⟩
  refine wpAnyH_take (i := 0) (oi := _) (v := .pointer (some ⟨w.heap.size, 1, none⟩)) rfl (by kernel_rfl) (by kernel_rfl) (by kernel_rfl) (fun _ _ _ h => h) (Or.inl ⟨by rfl, ?_⟩) hHeld ?_
  · intro wq hSw
    try dsimp only at hSw
    go_simp
  try simp only [Act.put, List.getElem_toArray, List.getElem_cons_succ, List.getElem_cons_zero, List.setIfInBounds_toArray, List.set_cons_zero, List.set_cons_succ]
  refine wpAnyH_take (i := 1) (oi := _) (v := .agg #[.slice a zs.length c]) rfl (by kernel_rfl) (by kernel_rfl) (by kernel_rfl) (fun _ _ _ h => h) (Or.inl ⟨by rfl, ?_⟩) hHeld ?_
  · intro wq hSw
    try dsimp only at hSw
    go_simp
  try simp only [Act.put, List.getElem_toArray, List.getElem_cons_succ, List.getElem_cons_zero, List.setIfInBounds_toArray, List.set_cons_zero, List.set_cons_succ]
  refine wpAnyH_take (i := 3) (oi := _) (v := .pointer (some ⟨w.heap.size, 0, none⟩)) rfl (by kernel_rfl) (by kernel_rfl) (by kernel_rfl) (fun _ _ _ h => h) (Or.inl ⟨by rfl, ?_⟩) hHeld ?_
  · intro wq hSw
    try dsimp only at hSw
    go_simp
  try simp only [Act.put, List.getElem_toArray, List.getElem_cons_succ, List.getElem_cons_zero, List.setIfInBounds_toArray, List.set_cons_zero, List.set_cons_succ]
  refine wpAnyH_take (i := 4) (oi := _) (v := .bool b) rfl (by kernel_rfl) (by kernel_rfl) (by kernel_rfl) (fun _ _ _ h => h) (Or.inl ⟨by rfl, ?_⟩) hHeld ?_
  · intro wq hSw
    try dsimp only at hSw
    go_simp
  try simp only [Act.put, List.getElem_toArray, List.getElem_cons_succ, List.getElem_cons_zero, List.setIfInBounds_toArray, List.set_cons_zero, List.set_cons_succ]
  refine wpAnyH_ready (rs := [2]) (by kernel_rfl) (by simp) ?_
  refine AllReadyH.cons rfl (fun KK hK => ?_) AllReadyH.nil
  simp only [List.getElem_toArray, List.getElem_cons_succ, List.getElem_cons_zero]
  rw [if_pos (by rfl)]
  refine wps1 213 (.tmp 4) _ rfl in_limbsOf (.agg #[.slice a zs.length c]) rfl (limbsOf_impl _ r hl) ?_
  rintro e w2 ⟨v3, rfl, o3, k2⟩
  refine ⟨_, rfl, ?_⟩
  replace r := r.kept k2 (by omega)
  replace qf0 := k2.loose0 (World.block_lt_of_cell? _ _ q0) qf0
  replace qf1 := k2.loose0 (World.block_lt_of_cell? _ _ q1) qf1
  replace p0 := k2.cell0 p0
  replace p1 := k2.cell0 p1
  replace q0 := k2.cell0 q0
  replace q1 := k2.cell0 q1
  replace K := hide ((unhide K).trans k2)
  have z3 := k2.size
  clear k2
  clear hHeld
  refine hK.out _ _ ?_ (fun hHeld => ?_)
  · exact ⟨p0, p1⟩
  clear hK KK
  try simp only [Act.put, List.getElem_toArray, List.getElem_cons_succ, List.getElem_cons_zero, List.setIfInBounds_toArray, List.set_cons_zero, List.set_cons_succ]
  obtain ⟨a3, c3, hv⟩ := own_slice o3
  subst hv
  refine wpAnyH_take (i := 5) (oi := _) (v := .agg #[.slice a3 zs.length c3, .bool b]) rfl (by kernel_rfl) (by kernel_rfl) (by kernel_rfl) (fun _ _ _ h => h) (Or.inl ⟨by rfl, ?_⟩) hHeld ?_
  · intro wq hSw
    try dsimp only at hSw
    go_simp
  try simp only [Act.put, List.getElem_toArray, List.getElem_cons_succ, List.getElem_cons_zero, List.setIfInBounds_toArray, List.set_cons_zero, List.set_cons_succ]
  refine wpAnyH_ready (rs := [6]) (by kernel_rfl) (by simp) ?_
  refine AllReadyH.cons rfl (fun KK hK => ?_) AllReadyH.nil
  simp only [List.getElem_toArray, List.getElem_cons_succ, List.getElem_cons_zero]
  rw [if_pos (by rfl)]
  go_simp
  clear hHeld
  refine hK.out _ _ ?_ (fun hHeld => ?_)
  · exact ⟨(cell_aside _ (by have := unhide S0; dsimp only; omega) (cell_aside _ (by have := unhide S0; dsimp only; omega) p0)), (cell_aside _ (by have := unhide S0; dsimp only; omega) (cell_aside _ (by have := unhide S0; dsimp only; omega) p1))⟩
  clear hK KK
  try simp only [Act.put, List.getElem_toArray, List.getElem_cons_succ, List.getElem_cons_zero, List.setIfInBounds_toArray, List.set_cons_zero, List.set_cons_succ]
  refine wpAnyH_done (by kernel_rfl) ?_ _
  clear hHeld
  have o3l := o3.lt
  have o3l := o3.lt
  have O := hide (own_less (own_apart (own_apart o3 (p := ⟨w.heap.size + 1, 0, none⟩) (fun e => by have := (o3l _ e).1; have := unhide S0; dsimp only at *; omega) (.slice a3 zs.length c3)) (p := ⟨w.heap.size + 1, 1, none⟩) (fun e => by have := (o3l _ e).1; have := unhide S0; dsimp only at *; omega) (.bool b)) (base' := w.heap.size) (by have := unhide S0; omega))
  have K7 := hide (((unhide K).setNew (p := ⟨w.heap.size + 1, 0, none⟩) (by simp) (.slice a3 zs.length c3)).setNew (p := ⟨w.heap.size + 1, 1, none⟩) (by simp) (.bool b))
  clear o3 o3l r K
  go_wp2_with fail
  exact bodyPost_ret (v := .agg #[.slice a3 zs.length c3, .bool b]) (by simp [results, Tryz.results183, go_sem, q0, q1]) rfl ⟨_, rfl, unhide O, unhide K7⟩

set_option maxHeartbeats 1000000 in
theorem isBelow_impl {b g : Nat} {v : Value} {zs : List Int} {s : Bool} (w : World) (h : Num b w g v zs) (d : Sd w g s) :
    Calls Tryz.prog 189 #[.pointer (some ⟨g, 0, none⟩)] w fun e w' => e = .returned (.bool (s && decide (0 < zs.length))) ∧ w' = w := by
  have hc := h.cell
  have hd := d.1
  have hz := isZero_impl w h
  obtain ⟨a1, c1, rfl⟩ := h.form
  have HZ := hide hz
  clear hz h d
  cases s
  · go_enter Tryz.func189, Tryz.ntmps189
    go_wp2
    go_ret
    exact ⟨rfl, rfl⟩
  · go_enter Tryz.func189, Tryz.ntmps189
    go_wp2_with (go_at_call 185; refine (unhide HZ).mono ?_; rintro e w' ⟨rfl, rfl⟩)
    go_ret
    refine ⟨?_, rfl⟩
    cases zs <;> simp

theorem in_isBelow : ∀ (w : World) (args : Array Value), (callFunc 189 args).run Tryz.prog w = .ok (.enter 189 args) w := enters Tryz.func189 (by decide) (fun h => by cases h)

end Go.Proofs.YthahoabkehcgbaaGreatDoor

