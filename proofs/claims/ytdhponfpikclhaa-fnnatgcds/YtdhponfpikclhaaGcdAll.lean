/-
  Gcd1, Gcd2, Gcd3, in one text.
-/
import Derived.Test.YtdhponfpikclhaaDivS
import Derived.Deep.DeepCutAuto
import Derived.Test.YtdhponfpikclhaaDivI
import Derived.Test.YtdhponfpikclhaaPair
import Derived.Test.YtdhponfpikclhaaStep
namespace Go.Proofs.Ytdhponfpikclhaa
open Go.RowKit
set_option linter.unusedVariables false
set_option maxRecDepth 8000
set_option linter.unusedSimpArgs false

/-- The integers of a slice, read from memory. -/
def readL (w : World) (v : Value) : List Int := match v with
  | .slice (some a) n _ => (List.range n).map fun j => match w.cell? ⟨a.block, a.off + j, none⟩ with
    | some (.int _ z) => z
    | _ => 0
  | _ => []
theorem readL_of {bw : Bool} {lo hi : Nat} {w : World} {v : Value} {zs : List Int} (r : Row .i64 bw lo hi w v zs) : readL w v = zs := by
  obtain ⟨a, c, rfl⟩ := Row.form' r
  have hc := (row_cell r).2.2.2
  cases a with
  | none =>
    cases zs with
    | nil => rfl
    | cons z t => obtain ⟨g, off, e, -⟩ := hc 0 (by simp); cases e
  | some ad =>
    have : ∀ j, j < zs.length → w.cell? ⟨ad.block, ad.off + j, none⟩ = some (.int .i64 (zs.getD j 0)) := by
      intro j hj
      obtain ⟨g, off, e, h⟩ := hc j hj
      cases e
      exact h
    unfold readL
    apply List.ext_getElem
    · simp
    · intro j h1 h2
      rw [List.getElem_map, List.getElem_range, this j h2]
      simp [List.getD, h2]
/-- The number whose limbs the cell g's list holds. -/
def valAt (w : World) (g : Nat) : Nat := match w.cell? ⟨g, 0, none⟩ with
  | some v => (val (readL w v)).toNat
  | none => 0
theorem valAt_of {bw : Bool} {lo hi g : Nat} {w : World} {v : Value} {zs : List Int} (hc : w.cell? ⟨g, 0, none⟩ = some v) (r : Row .i64 bw lo hi w v zs) : valAt w g = (val zs).toNat := by
  unfold valAt
  rw [hc]
  show (val (readL w v)).toNat = _
  rw [readL_of r]
theorem gcd_step {X Y : Int} (hX : 0 ≤ X) (hY : 0 < Y) : Nat.gcd Y.toNat (X % Y).toNat = Nat.gcd X.toNat Y.toNat := by
  obtain ⟨x, rfl⟩ : ∃ x : Nat, X = (x : Int) := ⟨X.toNat, by omega⟩
  obtain ⟨y, rfl⟩ : ∃ y : Nat, Y = (y : Int) := ⟨Y.toNat, by omega⟩
  rw [← Int.natCast_emod, Int.toNat_natCast, Int.toNat_natCast, Int.toNat_natCast, Nat.gcd_comm y, ← Nat.gcd_rec, Nat.gcd_comm]
/-- A list that lies outside three blocks. -/
def RowOut (R : Nat) (w : World) (v : Value) (zs : List Int) : Prop := ∃ l h, (h ≤ R ∨ R + 3 ≤ l) ∧ Row .i64 false l h w v zs
/-- What the common divisor's rounds keep. -/
structure Gcd (R : Nat) (w wr : World) (G : Nat) (u1 u2 : Value) (zs ts : List Int) : Prop where
  c1 : wr.cell? ⟨R, 0, none⟩ = some u1
  f1 : wr.frozen? ⟨R, 0, none⟩ = false
  c2 : wr.cell? ⟨R + 1, 0, none⟩ = some u2
  f2 : wr.frozen? ⟨R + 1, 0, none⟩ = false
  c3 : wr.cell? ⟨R + 2, 0, none⟩ = some (.slice none 0 0)
  f3 : wr.frozen? ⟨R + 2, 0, none⟩ = false
  r1 : RowOut R wr u1 zs
  r2 : RowOut R wr u2 ts
  n1 : Nrm zs
  n2 : Nrm ts
  l1 : zs.length ≤ 50000
  l2 : ts.length ≤ 50000
  g : Nat.gcd (val zs).toNat (val ts).toNat = G
  k : Kept 0 0 w wr

set_option maxHeartbeats 4000000 in
theorem gcd_spec {b1 b2 : Bool} {l1 h1 l2 h2 : Nat} {v1 v2 : Value} {xs ys : List Int} (w : World) (r1 : Row .i64 b1 l1 h1 w v1 xs) (r2 : Row .i64 b2 l2 h2 w v2 ys) (hx : Nrm xs) (hy : Nrm ys) (nx : xs.length ≤ 50000) (ny : ys.length ≤ 50000) :
    Calls Try.prog 124 #[.agg #[v1], .agg #[v2]] w fun e w' => ∃ v', e = .returned (.agg #[v']) ∧ Row .i64 true w.heap.size w'.heap.size w' v' (limbs (Nat.gcd (val xs).toNat (val ys).toNat)) ∧ Kept 0 0 w w' := by
  replace r1 := r1.read.tight
  replace r2 := r2.read.tight
  obtain ⟨G, hG⟩ : ∃ G, Nat.gcd (val xs).toNat (val ys).toNat = G := ⟨_, rfl⟩
  rw [hG]
  have k0 : Kept 0 0 w (((w.alloc (.cells #[v1] 26)).alloc (.cells #[v2] 26)).alloc (.cells #[.slice none 0 0] 26)) := ((((Kept.refl 0 0 w).alloc (.cells #[v1] 26)).alloc (.cells #[v2] 26)).alloc (.cells #[.slice none 0 0] 26))
  have p0 : (((w.alloc (.cells #[v1] 26)).alloc (.cells #[v2] 26)).alloc (.cells #[.slice none 0 0] 26)).cell? ⟨w.heap.size, 0, none⟩ = some (v1) := old_cell _ (old_cell _ (new_cell2 _ _ _ _ _ _ (by simp) rfl))
  have pf0 : (((w.alloc (.cells #[v1] 26)).alloc (.cells #[v2] 26)).alloc (.cells #[.slice none 0 0] 26)).frozen? ⟨w.heap.size, 0, none⟩ = false := loose_old (by simp <;> omega) (loose_old (by simp <;> omega) (new_loose2 _ _ _ _ _ (by simp)))
  have t0 : (((w.alloc (.cells #[v1] 26)).alloc (.cells #[v2] 26)).alloc (.cells #[.slice none 0 0] 26)).cell? ⟨w.heap.size + 1, 0, none⟩ = some (v2) := old_cell _ (new_cell2 _ _ _ _ _ _ (by simp) rfl)
  have tf0 : (((w.alloc (.cells #[v1] 26)).alloc (.cells #[v2] 26)).alloc (.cells #[.slice none 0 0] 26)).frozen? ⟨w.heap.size + 1, 0, none⟩ = false := loose_old (by simp <;> omega) (new_loose2 _ _ _ _ _ (by simp))
  have q0 : (((w.alloc (.cells #[v1] 26)).alloc (.cells #[v2] 26)).alloc (.cells #[.slice none 0 0] 26)).cell? ⟨w.heap.size + 2, 0, none⟩ = some (.slice none 0 0) := new_cell2 _ _ _ _ _ _ (by simp) rfl
  have qf0 : (((w.alloc (.cells #[v1] 26)).alloc (.cells #[v2] 26)).alloc (.cells #[.slice none 0 0] 26)).frozen? ⟨w.heap.size + 2, 0, none⟩ = false := new_loose2 _ _ _ _ _ (by simp)
  replace r1 := r1.kept k0 (by omega)
  replace r2 := r2.kept k0 (by omega)
  have s0 : (((w.alloc (.cells #[v1] 26)).alloc (.cells #[v2] 26)).alloc (.cells #[.slice none 0 0] 26)).heap.size = w.heap.size + 3 := by simp
  obtain ⟨a1, c1, hv⟩ := Row.form' r1
  subst hv
  obtain ⟨a2, c2, hv⟩ := Row.form' r2
  subst hv
  have K := hide (k0)
  clear k0
  have S0 := hide s0
  clear s0
  have G0 : Hid (Gcd w.heap.size w (((w.alloc (.cells #[.slice a1 xs.length c1] 26)).alloc (.cells #[.slice a2 ys.length c2] 26)).alloc (.cells #[.slice none 0 0] 26)) G (.slice a1 xs.length c1) (.slice a2 ys.length c2) xs ys) := Gcd.mk p0 pf0 t0 tf0 q0 qf0 ⟨_, _, .inl (Nat.le_refl _), r1⟩ ⟨_, _, .inl (Nat.le_refl _), r2⟩ hx hy nx ny hG (unhide K)
  clear hG
  go_enter Try.func124, Try.ntmps124
  go_wp2_with fail
  generalize (((w.alloc (.cells #[.slice a1 xs.length c1] 26)).alloc (.cells #[.slice a2 ys.length c2] 26)).alloc (.cells #[.slice none 0 0] 26)) = W at *
  clear r1 r2 p0 pf0 t0 tf0 q0 qf0 K
  go_loopw [] (fun wr => ∃ u1 u2 zs ts, Gcd w.heap.size w wr G u1 u2 zs ts ∧ w.heap.size + 3 ≤ wr.heap.size) (fun wr => valAt wr (w.heap.size + 1))
  case atStart => exact ⟨_, _, _, _, unhide G0, by have := unhide S0; omega⟩
  case round =>
    clear G0
    obtain ⟨u1, u2, zs, ts, gc, hsz⟩ := hrel
    obtain ⟨p0, pf0, t0, tf0, q0, qf0, ⟨l1, h1, o1, r1⟩, ⟨l2, h2, o2, r2⟩, n1, n2, m1, m2, hg, k0⟩ := gc
    have K := hide k0
    clear k0
    have hv := valAt_of t0 r2
    have HV := hide hv
    clear hv
    have hg0 := hide hg
    clear hg
    obtain ⟨a1', c1', hv⟩ := Row.form' r1
    subst hv
    obtain ⟨a2', c2', hv⟩ := Row.form' r2
    subst hv
    by_cases hl0 : 0 < ts.length
    · have hli : (0 : Int) < (ts.length : Int) := by omega
      have h0 : 0 < val ts := by
        have e1 := nrm_pow n2 (List.length_pos_iff.1 hl0)
        have : (0 : Int) < 65536 ^ (ts.length - 1) := Int.pow_pos (by decide)
        omega
      have hx0 := val_nonneg n1.1
      have hm0 := Int.emod_nonneg (val zs) (show val ts ≠ 0 by omega)
      have hm1 := Int.emod_lt_of_pos (val zs) h0
      have hgs := hide (gcd_step hx0 h0)
      have nr := limbs_nrm (val zs % val ts).toNat
      have vr := limbs_val (val zs % val ts).toNat
      have lr : (limbs (val zs % val ts).toNat).length ≤ 50000 := by
        have e : (val zs % val ts).toNat ≤ (val ts).toNat := by omega
        have := limbs_len_mono e
        rw [← nrm_limbs n2] at this
        omega
      obtain ⟨rr, hrr⟩ : ∃ rr, limbs (val zs % val ts).toNat = rr := ⟨_, rfl⟩
      obtain ⟨qq, hqq⟩ : ∃ qq, limbs (val zs / val ts).toNat = qq := ⟨_, rfl⟩
      rw [hrr] at nr vr lr
      have HR := hide hrr
      have HQ := hide hqq
      clear hrr hqq
      go_wp2_with fail
      have mk := div_spec wr r1 r2 n1.1 n2 m1 m2 h0
      rw [unhide HR, unhide HQ] at mk
      refine (mk).mono ?_
      rintro e w1 ⟨v3, v4, rfl, r3, r4, k1⟩
      replace r1 := r1.kept k1 (by omega)
      replace r2 := r2.kept k1 (by omega)
      replace pf0 := k1.loose0 (World.block_lt_of_cell? _ _ p0) pf0
      replace tf0 := k1.loose0 (World.block_lt_of_cell? _ _ t0) tf0
      replace qf0 := k1.loose0 (World.block_lt_of_cell? _ _ q0) qf0
      replace p0 := k1.cell0 p0
      replace t0 := k1.cell0 t0
      replace q0 := k1.cell0 q0
      replace K := hide ((unhide K).trans k1)
      have z2 := k1.size
      clear k1
      clear mk
      obtain ⟨a3, c3, hv⟩ := Row.form' r3
      subst hv
      obtain ⟨a4, c4, hv⟩ := Row.form' r4
      subst hv
      clear r3 r1
      have kn := (Kept.refl 0 0 w1).alloc (.cells #[.slice a3 qq.length c3] 26)
      have m0 : (w1.alloc (.cells #[.slice a3 qq.length c3] 26)).cell? ⟨w1.heap.size, 0, none⟩ = some (.slice a3 qq.length c3) := new_cell2 _ _ _ _ _ _ (by simp) rfl
      have sz3 : w1.heap.size + 1 = (w1.alloc (.cells #[.slice a3 qq.length c3] 26)).heap.size := by simp
      have SZ3 := hide sz3
      replace sz3 := Nat.le_of_eq sz3
      replace r2 := r2.kept kn (by omega)
      replace r4 := r4.kept kn (by omega)
      replace pf0 := kn.loose0 (World.block_lt_of_cell? _ _ p0) pf0
      replace tf0 := kn.loose0 (World.block_lt_of_cell? _ _ t0) tf0
      replace qf0 := kn.loose0 (World.block_lt_of_cell? _ _ q0) qf0
      replace p0 := kn.cell0 p0
      replace t0 := kn.cell0 t0
      replace q0 := kn.cell0 q0
      replace K := hide ((unhide K).trans kn)
      have z4 := kn.size
      clear kn
      have kn := (Kept.refl 0 0 (w1.alloc (.cells #[.slice a3 qq.length c3] 26))).alloc (.cells #[.slice a4 rr.length c4] 26)
      have n0 : ((w1.alloc (.cells #[.slice a3 qq.length c3] 26)).alloc (.cells #[.slice a4 rr.length c4] 26)).cell? ⟨w1.heap.size + 1, 0, none⟩ = some (.slice a4 rr.length c4) := new_cell2 _ _ _ _ _ _ (by simp) rfl
      have sz5 : (w1.alloc (.cells #[.slice a3 qq.length c3] 26)).heap.size + 1 = ((w1.alloc (.cells #[.slice a3 qq.length c3] 26)).alloc (.cells #[.slice a4 rr.length c4] 26)).heap.size := by simp
      have SZ5 := hide sz5
      replace sz5 := Nat.le_of_eq sz5
      replace r2 := r2.kept kn (by omega)
      replace r4 := r4.kept kn (by omega)
      replace pf0 := kn.loose0 (World.block_lt_of_cell? _ _ p0) pf0
      replace tf0 := kn.loose0 (World.block_lt_of_cell? _ _ t0) tf0
      replace qf0 := kn.loose0 (World.block_lt_of_cell? _ _ q0) qf0
      replace p0 := kn.cell0 p0
      replace t0 := kn.cell0 t0
      replace q0 := kn.cell0 q0
      replace m0 := kn.cell0 m0
      replace K := hide ((unhide K).trans kn)
      have z6 := kn.size
      clear kn
      have hn1 : ¬ w1.heap.size + 1 = w.heap.size := by omega
      have hn2 : ¬ w1.heap.size = w.heap.size := by omega
      have hn3 : ¬ w.heap.size = w1.heap.size + 1 := by omega
      go_wp2_with fail
      generalize ((w1.alloc (.cells #[.slice a3 qq.length c3] 26)).alloc (.cells #[.slice a4 rr.length c4] 26)) = wn7 at *
      have sS0 := unhide S0
      replace r2 := r2.set_other (p := ⟨w.heap.size, 0, none⟩) (by dsimp only; omega) (.slice a2' ts.length c2')
      replace r4 := r4.set_other (p := ⟨w.heap.size, 0, none⟩) (by dsimp only; omega) (.slice a2' ts.length c2')
      replace t0 := cell_aside (.slice a2' ts.length c2') (r := ⟨w.heap.size, 0, none⟩) (by dsimp only; omega) t0
      replace q0 := cell_aside (.slice a2' ts.length c2') (r := ⟨w.heap.size, 0, none⟩) (by dsimp only; omega) q0
      replace m0 := cell_aside (.slice a2' ts.length c2') (r := ⟨w.heap.size, 0, none⟩) (by dsimp only; omega) m0
      replace n0 := cell_aside (.slice a2' ts.length c2') (r := ⟨w.heap.size, 0, none⟩) (by dsimp only; omega) n0
      replace pf0 : (wn7.setCell ⟨w.heap.size, 0, none⟩ (.slice a2' ts.length c2')).frozen? _ = false := (frozen_set _ _ _ _ _).trans pf0
      replace tf0 : (wn7.setCell ⟨w.heap.size, 0, none⟩ (.slice a2' ts.length c2')).frozen? _ = false := (frozen_set _ _ _ _ _).trans tf0
      replace qf0 : (wn7.setCell ⟨w.heap.size, 0, none⟩ (.slice a2' ts.length c2')).frozen? _ = false := (frozen_set _ _ _ _ _).trans qf0
      replace p0 : (wn7.setCell ⟨w.heap.size, 0, none⟩ (.slice a2' ts.length c2')).cell? ⟨w.heap.size, 0, none⟩ = some (.slice a2' ts.length c2') := cell_on _ _ _ _ _ p0
      replace K := hide ((unhide K).setNew (p := ⟨w.heap.size, 0, none⟩) (by dsimp only; omega) (.slice a2' ts.length c2'))
      have zs8 : (wn7.setCell ⟨w.heap.size, 0, none⟩ (.slice a2' ts.length c2')).heap.size = wn7.heap.size := by simp [World.setCell]
      clear sS0
      generalize wn7.setCell ⟨w.heap.size, 0, none⟩ (.slice a2' ts.length c2') = ws8 at *
      have sS0 := unhide S0
      replace r2 := r2.set_other (p := ⟨w.heap.size + 1, 0, none⟩) (by dsimp only; omega) (.slice a4 rr.length c4)
      replace r4 := r4.set_other (p := ⟨w.heap.size + 1, 0, none⟩) (by dsimp only; omega) (.slice a4 rr.length c4)
      replace p0 := cell_aside (.slice a4 rr.length c4) (r := ⟨w.heap.size + 1, 0, none⟩) (by dsimp only; omega) p0
      replace q0 := cell_aside (.slice a4 rr.length c4) (r := ⟨w.heap.size + 1, 0, none⟩) (by dsimp only; omega) q0
      replace m0 := cell_aside (.slice a4 rr.length c4) (r := ⟨w.heap.size + 1, 0, none⟩) (by dsimp only; omega) m0
      replace n0 := cell_aside (.slice a4 rr.length c4) (r := ⟨w.heap.size + 1, 0, none⟩) (by dsimp only; omega) n0
      replace pf0 : (ws8.setCell ⟨w.heap.size + 1, 0, none⟩ (.slice a4 rr.length c4)).frozen? _ = false := (frozen_set _ _ _ _ _).trans pf0
      replace tf0 : (ws8.setCell ⟨w.heap.size + 1, 0, none⟩ (.slice a4 rr.length c4)).frozen? _ = false := (frozen_set _ _ _ _ _).trans tf0
      replace qf0 : (ws8.setCell ⟨w.heap.size + 1, 0, none⟩ (.slice a4 rr.length c4)).frozen? _ = false := (frozen_set _ _ _ _ _).trans qf0
      replace t0 : (ws8.setCell ⟨w.heap.size + 1, 0, none⟩ (.slice a4 rr.length c4)).cell? ⟨w.heap.size + 1, 0, none⟩ = some (.slice a4 rr.length c4) := cell_on _ _ _ _ _ t0
      replace K := hide ((unhide K).setNew (p := ⟨w.heap.size + 1, 0, none⟩) (by dsimp only; omega) (.slice a4 rr.length c4))
      have zs9 : (ws8.setCell ⟨w.heap.size + 1, 0, none⟩ (.slice a4 rr.length c4)).heap.size = ws8.heap.size := by simp [World.setCell]
      clear sS0
      generalize ws8.setCell ⟨w.heap.size + 1, 0, none⟩ (.slice a4 rr.length c4) = ws9 at *
      refine ⟨⟨_, _, ts, rr, ⟨p0, pf0, t0, tf0, q0, qf0, ⟨_, _, o2, r2⟩, ⟨_, _, .inr hsz, r4.read⟩, n2, nr, m2, lr, by rw [vr, Int.toNat_natCast, unhide hgs]; exact unhide hg0, unhide K⟩, by omega⟩, ?_⟩
      rw [valAt_of t0 r4, unhide HV, vr]
      omega
    · have hli : ¬ (0 : Int) < (ts.length : Int) := by omega
      have ht : ts = [] := List.length_eq_zero_iff.1 (by omega)
      have hGv : Hid (limbs (val zs).toNat = limbs G) := by
        show _ = _
        have := unhide hg0
        rw [ht] at this
        rw [← this, show (val []).toNat = 0 from rfl, Nat.gcd_zero_right]
      clear ht
      go_wp2_with fail
      have mk := norm_spec wr r1 n1.1 (by omega)
      rw [unhide hGv] at mk
      refine (mk).mono ?_
      rintro e w1 ⟨v3, rfl, r3, k1⟩
      replace r1 := r1.kept k1 (by omega)
      replace r2 := r2.kept k1 (by omega)
      replace pf0 := k1.loose0 (World.block_lt_of_cell? _ _ p0) pf0
      replace tf0 := k1.loose0 (World.block_lt_of_cell? _ _ t0) tf0
      replace qf0 := k1.loose0 (World.block_lt_of_cell? _ _ q0) qf0
      replace p0 := k1.cell0 p0
      replace t0 := k1.cell0 t0
      replace q0 := k1.cell0 q0
      replace K := hide ((unhide K).trans k1)
      have z2 := k1.size
      clear k1
      clear mk
      obtain ⟨zg, hzg⟩ : ∃ zg, limbs G = zg := ⟨_, rfl⟩
      rw [hzg] at r3
      have HG := hide hzg
      clear hzg
      obtain ⟨a3, c3, hv⟩ := Row.form' r3
      subst hv
      have R := hide (((r3.set_other (p := ⟨w.heap.size + 2, 0, none⟩) (.inl (by dsimp only; omega)) (.slice a3 zg.length c3))).tight.wider (lo' := w.heap.size) (by omega) (Nat.le_refl _))
      have K7 := hide ((unhide K).setNew (p := ⟨w.heap.size + 2, 0, none⟩) (by simp) (.slice a3 zg.length c3))
      clear r1 r2 r3 K
      go_wp2_with fail
      exact bodyPost_ret (v := .agg #[.slice a3 zg.length c3]) (by simp [results, Try.results124, go_sem, q0]) rfl ⟨_, rfl, by rw [unhide HG]; exact unhide R, unhide K7⟩

end Go.Proofs.Ytdhponfpikclhaa

namespace Go.Proofs.Ytdhponfpikclhaa
open Go.RowKit
set_option linter.unusedVariables false
set_option maxRecDepth 8000
set_option linter.unusedSimpArgs false

/-- What is told as the greatest common divisor. -/
def gcdL (xs ys : List Int) : List Int := if (okB xs && okB ys) = true then limbs (Nat.gcd (val xs).toNat (val ys).toNat) else []
theorem gcdL_no {xs ys : List Int} (h : (okB xs && okB ys) = false) : gcdL xs ys = [] := by unfold gcdL; rw [h]; rfl
theorem gcdL_yes {xs ys : List Int} (h1 : okB xs = true) (h2 : okB ys = true) : gcdL xs ys = limbs (Nat.gcd (val xs).toNat (val ys).toNat) := by unfold gcdL; rw [h1, h2]; rfl
theorem gcdL_len (xs ys : List Int) : (gcdL xs ys).length ≤ 100 := by
  unfold gcdL
  split
  · rename_i h
    simp only [Bool.and_eq_true] at h
    obtain ⟨l1, n1⟩ := (okB_iff xs).1 h.1
    obtain ⟨l2, n2⟩ := (okB_iff ys).1 h.2
    have e1 : (limbs (val xs).toNat).length ≤ 100 := by rw [← nrm_limbs n1]; exact l1
    have e2 : (limbs (val ys).toNat).length ≤ 100 := by rw [← nrm_limbs n2]; exact l2
    rcases Nat.eq_zero_or_pos (val xs).toNat with h0 | h0
    · rw [h0, Nat.gcd_zero_left]; exact e2
    · exact Nat.le_trans (limbs_len_mono (Nat.gcd_le_left _ h0)) e1
  · simp

set_option maxHeartbeats 2000000 in
theorem natGcd_spec {b1 b2 : Bool} {l1 h1 l2 h2 : Nat} {v1 v2 : Value} {xs ys : List Int} (w : World) (r1 : Row .i64 b1 l1 h1 w v1 xs) (r2 : Row .i64 b2 l2 h2 w v2 ys) :
    Calls Try.prog 64 #[.agg #[v1], .agg #[v2]] w fun e w' => ∃ v', e = .returned (.agg #[v']) ∧ Row .i64 true w.heap.size w'.heap.size w' v' (gcdL xs ys) ∧ Kept 0 0 w w' := by
  have k0 : Kept 0 0 w (((w.alloc (.cells #[v1] 26)).alloc (.cells #[v2] 26)).alloc (.cells #[.slice none 0 0] 26)) := ((((Kept.refl 0 0 w).alloc (.cells #[v1] 26)).alloc (.cells #[v2] 26)).alloc (.cells #[.slice none 0 0] 26))
  have p0 : (((w.alloc (.cells #[v1] 26)).alloc (.cells #[v2] 26)).alloc (.cells #[.slice none 0 0] 26)).cell? ⟨w.heap.size, 0, none⟩ = some (v1) := old_cell _ (old_cell _ (new_cell2 _ _ _ _ _ _ (by simp) rfl))
  have t0 : (((w.alloc (.cells #[v1] 26)).alloc (.cells #[v2] 26)).alloc (.cells #[.slice none 0 0] 26)).cell? ⟨w.heap.size + 1, 0, none⟩ = some (v2) := old_cell _ (new_cell2 _ _ _ _ _ _ (by simp) rfl)
  have q0 : (((w.alloc (.cells #[v1] 26)).alloc (.cells #[v2] 26)).alloc (.cells #[.slice none 0 0] 26)).cell? ⟨w.heap.size + 2, 0, none⟩ = some (.slice none 0 0) := new_cell2 _ _ _ _ _ _ (by simp) rfl
  have qf0 : (((w.alloc (.cells #[v1] 26)).alloc (.cells #[v2] 26)).alloc (.cells #[.slice none 0 0] 26)).frozen? ⟨w.heap.size + 2, 0, none⟩ = false := new_loose2 _ _ _ _ _ (by simp)
  replace r1 := r1.kept k0 (by omega)
  replace r2 := r2.kept k0 (by omega)
  have s0 : (((w.alloc (.cells #[v1] 26)).alloc (.cells #[v2] 26)).alloc (.cells #[.slice none 0 0] 26)).heap.size = w.heap.size + 3 := by simp
  obtain ⟨a1, c1, hv⟩ := Row.form' r1
  subst hv
  obtain ⟨a2, c2, hv⟩ := Row.form' r2
  subst hv
  have K := hide (k0)
  clear k0
  have S0 := hide s0
  clear s0
  go_enter Try.func64, Try.ntmps64
  go_wp2_with fail
  generalize (((w.alloc (.cells #[.slice a1 xs.length c1] 26)).alloc (.cells #[.slice a2 ys.length c2] 26)).alloc (.cells #[.slice none 0 0] 26)) = W at *
  refine (ok_spec _ r1).mono ?_
  rintro e w1 ⟨rfl, k1⟩
  replace r1 := r1.kept k1 (by omega)
  replace r2 := r2.kept k1 (by omega)
  replace qf0 := k1.loose0 (World.block_lt_of_cell? _ _ q0) qf0
  replace p0 := k1.cell0 p0
  replace t0 := k1.cell0 t0
  replace q0 := k1.cell0 q0
  replace K := hide ((unhide K).trans k1)
  have z2 := k1.size
  clear k1
  cases ho1 : okB xs
  · have HO := hide ho1
    clear ho1
    have e0 : Hid ((okB xs && okB ys) = false) := by show _ = _; simp [unhide HO]
    have K' := hide ((unhide K).setNew (p := ⟨w.heap.size + 2, 0, none⟩) (by simp) (.slice none 0 0))
    clear r1 r2 K
    go_wp2_with fail
    exact bodyPost_ret (v := .agg #[.slice none 0 0]) (by simp [results, Try.results64, go_sem, q0]) rfl ⟨_, rfl, by rw [gcdL_no (unhide e0)]; exact Row.nil _ _ _ _ _, unhide K'⟩
  have HO1 := hide ho1
  clear ho1
  go_wp2_with fail
  refine (ok_spec _ r2).mono ?_
  rintro e w3 ⟨rfl, k3⟩
  replace r1 := r1.kept k3 (by omega)
  replace r2 := r2.kept k3 (by omega)
  replace qf0 := k3.loose0 (World.block_lt_of_cell? _ _ q0) qf0
  replace p0 := k3.cell0 p0
  replace t0 := k3.cell0 t0
  replace q0 := k3.cell0 q0
  replace K := hide ((unhide K).trans k3)
  have z4 := k3.size
  clear k3
  cases ho2 : okB ys
  · have HO := hide ho2
    clear ho2
    have e0 : Hid ((okB xs && okB ys) = false) := by show _ = _; simp [unhide HO]
    have K' := hide ((unhide K).setNew (p := ⟨w.heap.size + 2, 0, none⟩) (by simp) (.slice none 0 0))
    clear r1 r2 K
    go_wp2_with fail
    exact bodyPost_ret (v := .agg #[.slice none 0 0]) (by simp [results, Try.results64, go_sem, q0]) rfl ⟨_, rfl, by rw [gcdL_no (unhide e0)]; exact Row.nil _ _ _ _ _, unhide K'⟩
  have HO2 := hide ho2
  clear ho2
  obtain ⟨lx, hx⟩ := (okB_iff xs).1 (unhide HO1)
  obtain ⟨ly, hy⟩ := (okB_iff ys).1 (unhide HO2)
  obtain ⟨zg, hzg⟩ : ∃ z, gcdL xs ys = z := ⟨_, rfl⟩
  have lg := gcdL_len xs ys
  rw [hzg] at lg
  have EG : Hid (limbs (Nat.gcd (val xs).toNat (val ys).toNat) = zg) := by show _ = _; rw [← hzg, gcdL_yes (unhide HO1) (unhide HO2)]
  have HZ := hide hzg
  clear hzg
  go_wp2_with fail
  have mk := gcd_spec w3 r1 r2 hx hy (by omega) (by omega)
  rw [unhide EG] at mk
  refine (mk).mono ?_
  rintro e w5 ⟨v3, rfl, r3, k5⟩
  replace r1 := r1.kept k5 (by omega)
  replace r2 := r2.kept k5 (by omega)
  replace qf0 := k5.loose0 (World.block_lt_of_cell? _ _ q0) qf0
  replace p0 := k5.cell0 p0
  replace t0 := k5.cell0 t0
  replace q0 := k5.cell0 q0
  replace K := hide ((unhide K).trans k5)
  have z6 := k5.size
  clear k5
  clear mk
  obtain ⟨a3, c3, hv⟩ := Row.form' r3
  subst hv
  have R := hide (((r3.set_other (p := ⟨w.heap.size + 2, 0, none⟩) (.inl (by have := unhide S0; dsimp only; omega)) (.slice a3 zg.length c3))).tight.wider (lo' := w.heap.size) (by have := unhide S0; omega) (Nat.le_refl _))
  have K7 := hide ((unhide K).setNew (p := ⟨w.heap.size + 2, 0, none⟩) (by simp) (.slice a3 zg.length c3))
  clear r1 r2 r3 K
  go_wp2_with fail
  exact bodyPost_ret (v := .agg #[.slice a3 zg.length c3]) (by simp [results, Try.results64, go_sem, q0]) rfl ⟨_, rfl, by rw [unhide HZ]; exact unhide R, unhide K7⟩

/-- What the rounds of the program's commonDivisor keep. -/
structure GcdI (S : Nat → Prop) (wb w0 wr : World) (A C R G : Nat) (u1 u2 : Value) (zs ts : List Int) : Prop where
  two : Two w0 wr A C u1 u2 zs ts
  cR : wr.cell? ⟨R, 0, none⟩ = some (.slice none 0 0)
  fR : wr.frozen? ⟨R, 0, none⟩ = false
  oR1 : u1.ownBlock ≠ some R
  oR2 : u2.ownBlock ≠ some R
  n1 : Nrm zs
  n2 : Nrm ts
  l1 : zs.length ≤ 40000
  l2 : ts.length ≤ 40000
  g : Nat.gcd (val zs).toNat (val ts).toNat = G
  md : Mod S wb wr
  s1 : ∀ k, u1.ownBlock = some k → S k ∨ wb.heap.size ≤ k
  s2 : ∀ k, u2.ownBlock = some k → S k ∨ wb.heap.size ≤ k

theorem GcdI.step {S : Nat → Prop} {wb w0 wr w' : World} {A C R G : Nat} {u1 u2 vq : Value} {zs ts qs : List Int} (h : GcdI S wb w0 wr A C R G u1 u2 zs ts) (hRA : R ≠ A) (hRC : R ≠ C) (h0 : 0 < val ts) (hA : wb.heap.size ≤ A) (hC : wb.heap.size ≤ C)
    (d : Divd w0.heap.size wr w' A u1 vq qs (limbs (val zs % val ts).toNat)) : ∃ u, w'.cell? ⟨A, 0, none⟩ = some u ∧ w'.frozen? ⟨A, 0, none⟩ = false ∧ w'.cell? ⟨C, 0, none⟩ = some u2 ∧ w'.frozen? ⟨C, 0, none⟩ = false ∧ (∃ a n c, u = .slice a n c) ∧
      GcdI S wb w0 ((w'.setCell ⟨A, 0, none⟩ u2).setCell ⟨C, 0, none⟩ u) A C R G u2 u ts (limbs (val zs % val ts).toNat) ∧ valAt ((w'.setCell ⟨A, 0, none⟩ u2).setCell ⟨C, 0, none⟩ u) C < valAt wr C := by
  obtain ⟨t, cR, fR, oR1, oR2, n1, n2, l1, l2, g, mS, s1, s2⟩ := h
  obtain ⟨dq, ⟨u, nu, -, ou⟩, md⟩ := d
  have lC := t.n2.lt
  have lA := t.n1.lt
  have nC := t.n2.mod md (fun e => e.elim (fun h => t.ne h.symm) (fun h => t.o12 h)) (fun i e e' => e'.elim (fun h => t.o21 (by rw [e, h])) (fun h => t.oo i h e))
  have lR := World.block_lt_of_cell? _ _ cR
  have nR : ¬ Own1 A u1 R := fun e => e.elim hRA oR1
  have k6 := t.k.mod md (fun i e => e.elim (fun h => by rw [h]; exact t.b1) (fun h => (t.n1.own.lt i h).1))
  have hm0 := Int.emod_nonneg (val zs) (show val ts ≠ 0 by omega)
  have hm1 := Int.emod_lt_of_pos (val zs) h0
  have huC : u.ownBlock ≠ some C := fun e => (ou C e).elim t.o12 (fun h => by omega)
  have huR : u.ownBlock ≠ some R := fun e => (ou R e).elim oR1 (fun h => by dsimp only at lR; omega)
  have hoo : ∀ k, u2.ownBlock = some k → u.ownBlock ≠ some k := fun k e1 e2 => (ou k e2).elim (fun h => t.oo k h e1) (fun h => by have := (t.n2.own.lt k e1).2; omega)
  have T := two_set k6 nC.own nu.own nu.cell nu.loose nC.cell nC.loose t.ne t.b1 t.b2 (Nat.le_refl _) (Nat.le_refl _) t.o21 nC.apart nu.apart huC hoo
  have vr := limbs_val (val zs % val ts).toNat
  refine ⟨u, nu.cell, nu.loose, nC.cell, nC.loose, (by obtain ⟨a, c, e⟩ := nu.form; exact ⟨a, _, c, e⟩), ⟨T, ?_, ?_, oR2, huR, n2, limbs_nrm _, l2, ?_, ?_, ((mS.then md (fun i e => e.elim (fun h => .inr (by omega)) (s1 i))).set (p := ⟨A, 0, none⟩) (.inr hA) _).set (p := ⟨C, 0, none⟩) (.inr hC) _, s2, fun k e => (ou k e).elim (s1 k) (fun h => .inr (by have := mS.size; omega))⟩, ?_⟩
  · exact cell_aside _ (fun e => hRC e.symm) (cell_aside _ (fun e => hRA e.symm) (md.cellAt nR cR))
  · rw [frozen_set, frozen_set]; exact md.looseAt nR lR fR
  · have e : (val zs % val ts).toNat ≤ (val ts).toNat := by omega
    have := limbs_len_mono e
    rw [← nrm_limbs n2] at this
    omega
  · rw [vr, Int.toNat_natCast, gcd_step (val_nonneg n1.1) h0]
    exact g
  · rw [valAt_of T.n2.cell T.n2.row, valAt_of t.n2.cell t.n2.row, vr]
    omega

set_option maxHeartbeats 4000000 in
theorem commonDivisor_impl {b1 b2 : Nat} {v1 v2 : Value} {xs ys : List Int} {w0 : World} (w : World) (k0 : Kept 0 0 w0 w) (O1 : w.ownsRow b1 3 1 v1 xs.length (xs.map (Value.int .i64))) (O2 : w.ownsRow b2 3 1 v2 ys.length (ys.map (Value.int .i64))) (hb1 : w0.heap.size ≤ b1) (hb2 : w0.heap.size ≤ b2)
    (hoo : ∀ k, v1.ownBlock = some k → v2.ownBlock ≠ some k) (hx : Nrm xs) (hy : Nrm ys) (nx : xs.length ≤ 40000) (ny : ys.length ≤ 40000) :
    Calls Try.prog 103 #[.agg #[v1], .agg #[v2]] w fun e w' => ∃ v', e = .returned (.agg #[v']) ∧ w'.ownsRow w0.heap.size 3 1 v' (limbs (Nat.gcd (val xs).toNat (val ys).toNat)).length ((limbs (Nat.gcd (val xs).toNat (val ys).toNat)).map (Value.int .i64)) ∧ (∀ k, v'.ownBlock = some k → (v1.ownBlock = some k ∨ v2.ownBlock = some k) ∨ w.heap.size ≤ k) ∧ Mod (fun i => v1.ownBlock = some i ∨ v2.ownBlock = some i) w w' := by
  have k1 := (((Kept.refl 0 0 w).alloc (.cells #[v1] 76)).alloc (.cells #[v2] 76)).alloc (.cells #[.slice none 0 0] 76)
  have t0 := (two_both k0 O1 O2 76 76 hb1 hb2 hoo).kept ((Kept.refl 0 0 _).alloc (.cells #[.slice none 0 0] 76))
  have q0 : (((w.alloc (.cells #[v1] 76)).alloc (.cells #[v2] 76)).alloc (.cells #[.slice none 0 0] 76)).cell? ⟨w.heap.size + 2, 0, none⟩ = some (.slice none 0 0) := new_cell2 _ _ _ _ _ _ (by simp) rfl
  have f0 : (((w.alloc (.cells #[v1] 76)).alloc (.cells #[v2] 76)).alloc (.cells #[.slice none 0 0] 76)).frozen? ⟨w.heap.size + 2, 0, none⟩ = false := new_loose2 _ _ _ _ _ (by simp)
  have hs1 := k0.size
  have g0 : Hid (GcdI (fun i => v1.ownBlock = some i ∨ v2.ownBlock = some i) w w0 (((w.alloc (.cells #[v1] 76)).alloc (.cells #[v2] 76)).alloc (.cells #[.slice none 0 0] 76)) w.heap.size (w.heap.size + 1) (w.heap.size + 2) (Nat.gcd (val xs).toNat (val ys).toNat) v1 v2 xs ys) := GcdI.mk t0 q0 f0 (fun e => by have := (O1.lt _ e).2; omega) (fun e => by have := (O2.lt _ e).2; omega) hx hy nx ny rfl k1.toMod (fun k e => .inl (.inl e)) (fun k e => .inl (.inr e))
  obtain ⟨a1, c1, hv⟩ := own_slice O1
  subst hv
  obtain ⟨a2, c2, hv⟩ := own_slice O2
  subst hv
  clear t0 q0 f0 k1
  generalize Nat.gcd (val xs).toNat (val ys).toNat = G at *
  go_enter Try.func103, Try.ntmps103
  go_wp2_with fail
  generalize ((w.alloc (.cells #[.slice a1 xs.length c1] 76)).alloc (.cells #[.slice a2 ys.length c2] 76)).alloc (.cells #[.slice none 0 0] 76) = W at *
  go_loopw [] (fun wr => ∃ u1 u2 zs ts, GcdI (fun i => (Value.slice a1 xs.length c1).ownBlock = some i ∨ (Value.slice a2 ys.length c2).ownBlock = some i) w w0 wr w.heap.size (w.heap.size + 1) (w.heap.size + 2) G u1 u2 zs ts) (fun wr => valAt wr (w.heap.size + 1))
  case atStart => exact ⟨_, _, _, _, unhide g0⟩
  case round =>
    clear g0
    obtain ⟨u1, u2, zs, ts, gc⟩ := hrel
    have hz := isZero_impl _ gc.two.n2
    by_cases hl : ts.length = 0
    · rw [decide_eq_true hl] at hz
      have ht : ts = [] := List.length_eq_zero_iff.1 hl
      have hG := gc.g
      rw [ht, show (val []).toNat = 0 from rfl, Nat.gcd_zero_right] at hG
      have hzl := nrm_limbs gc.n1
      rw [hG] at hzl
      have n1 := gc.two.n1
      have cA := n1.cell
      have cR := gc.cR
      have fR := gc.fR
      have O := hide (own_apart n1.own (p := ⟨w.heap.size + 2, 0, none⟩) gc.oR1 u1)
      have SS := hide gc.s1
      have MD := hide (gc.md.set (p := ⟨w.heap.size + 2, 0, none⟩) (.inr (by dsimp only; omega)) u1)
      rw [hzl] at O
      obtain ⟨a3, c3, hv⟩ := n1.form
      subst hv
      have HZ := hide hz
      clear n1 gc hz ht hG hl hzl
      go_wp2_with (go_at_call 149; refine (unhide HZ).mono ?_; rintro e w' ⟨rfl, rfl⟩)
      exact bodyPost_ret (v := .agg #[.slice a3 zs.length c3]) (by simp [results, Try.results103, go_sem, cR]) rfl ⟨_, rfl, unhide O, unhide SS, unhide MD⟩
    · rw [decide_eq_false hl] at hz
      have hts : ts ≠ [] := fun e => hl (by rw [e]; rfl)
      have h0 : 0 < val ts := by
        have e1 := nrm_pow gc.n2 hts
        have : (0 : Int) < 65536 ^ (ts.length - 1) := Int.pow_pos (by decide)
        omega
      have hdv := divide_impl _ gc.two.n1 gc.two.n2 gc.two.k.size gc.n1 gc.n2 hts gc.l1 gc.l2
      have GC := hide gc
      have HZ := hide hz
      clear gc hz
      go_wp2_with (go_at_call 149; refine (unhide HZ).mono ?_; rintro e w' ⟨rfl, rfl⟩)
      refine hdv.mono ?_
      rintro e w3 ⟨vq, rfl, d⟩
      obtain ⟨u, cA, fA, cC, fC, ⟨a5, n5, c5, hu⟩, gs, hms⟩ := (unhide GC).step (by omega) (by omega) h0 (by omega) (by omega) d
      subst hu
      obtain ⟨a6, c6, hu⟩ := (unhide GC).two.n2.form
      subst hu
      have GS := hide gs
      have HMS := hide hms
      clear gs hms d hdv
      go_wp2_with fail
      go_roundw
      case rel => exact ⟨_, _, _, _, unhide GS⟩
      case measure => exact unhide HMS

end Go.Proofs.Ytdhponfpikclhaa

namespace Go.Proofs.Ytdhponfpikclhaa
open Go.RowKit
set_option linter.unusedVariables false
set_option maxRecDepth 8000
set_option linter.unusedSimpArgs false

theorem in_limbsOf' : ∀ (w : World) (args : Array Value), (callFunc 87 args).run Try.prog w = .ok (.enter 87 args) w := enters Try.func87 (by decide) (fun h => by cases h)

theorem in_commonDivisor : ∀ (w : World) (args : Array Value), (callFunc 103 args).run Try.prog w = .ok (.enter 103 args) w := enters Try.func103 (by decide) (fun h => by cases h)

set_option maxHeartbeats 8000000 in
theorem natGcd_impl {b1 b2 : Bool} {l1 h1 l2 h2 : Nat} {v1 v2 : Value} {xs ys : List Int} (w : World) (r1 : Row .i64 b1 l1 h1 w v1 xs) (r2 : Row .i64 b2 l2 h2 w v2 ys) :
    Calls Try.prog 40 #[.agg #[v1], .agg #[v2]] w fun e w' => ∃ v', e = .returned (.agg #[v']) ∧ Row .i64 true w.heap.size w'.heap.size w' v' (gcdL xs ys) ∧ Kept 0 0 w w' := by
  have k0 : Kept 0 0 w (((w.alloc (.cells #[v1] 26)).alloc (.cells #[v2] 26)).alloc (.cells #[.slice none 0 0] 26)) := ((((Kept.refl 0 0 w).alloc (.cells #[v1] 26)).alloc (.cells #[v2] 26)).alloc (.cells #[.slice none 0 0] 26))
  have p0 : (((w.alloc (.cells #[v1] 26)).alloc (.cells #[v2] 26)).alloc (.cells #[.slice none 0 0] 26)).cell? ⟨w.heap.size, 0, none⟩ = some (v1) := old_cell _ (old_cell _ (new_cell2 _ _ _ _ _ _ (by simp) rfl))
  have t0 : (((w.alloc (.cells #[v1] 26)).alloc (.cells #[v2] 26)).alloc (.cells #[.slice none 0 0] 26)).cell? ⟨w.heap.size + 1, 0, none⟩ = some (v2) := old_cell _ (new_cell2 _ _ _ _ _ _ (by simp) rfl)
  have q0 : (((w.alloc (.cells #[v1] 26)).alloc (.cells #[v2] 26)).alloc (.cells #[.slice none 0 0] 26)).cell? ⟨w.heap.size + 2, 0, none⟩ = some (.slice none 0 0) := new_cell2 _ _ _ _ _ _ (by simp) rfl
  have qf0 : (((w.alloc (.cells #[v1] 26)).alloc (.cells #[v2] 26)).alloc (.cells #[.slice none 0 0] 26)).frozen? ⟨w.heap.size + 2, 0, none⟩ = false := new_loose2 _ _ _ _ _ (by simp)
  replace r1 := r1.kept k0 (by omega)
  replace r2 := r2.kept k0 (by omega)
  have s0 : (((w.alloc (.cells #[v1] 26)).alloc (.cells #[v2] 26)).alloc (.cells #[.slice none 0 0] 26)).heap.size = w.heap.size + 3 := by simp
  obtain ⟨a1, c1, hv⟩ := Row.form' r1
  subst hv
  obtain ⟨a2, c2, hv⟩ := Row.form' r2
  subst hv
  have K := hide (k0)
  clear k0
  have S0 := hide s0
  clear s0
  go_enter Try.func40, Try.ntmps40
  go_wp2_with fail
  generalize (((w.alloc (.cells #[.slice a1 xs.length c1] 26)).alloc (.cells #[.slice a2 ys.length c2] 26)).alloc (.cells #[.slice none 0 0] 26)) = W at *
  refine (ok_impl _ r1).mono ?_
  rintro e w1 ⟨rfl, k1⟩
  replace r1 := r1.kept k1 (by omega)
  replace r2 := r2.kept k1 (by omega)
  replace qf0 := k1.loose0 (World.block_lt_of_cell? _ _ q0) qf0
  replace p0 := k1.cell0 p0
  replace t0 := k1.cell0 t0
  replace q0 := k1.cell0 q0
  replace K := hide ((unhide K).trans k1)
  have z2 := k1.size
  clear k1
  cases ho1 : okB xs
  · have HO := hide ho1
    clear ho1
    have e0 : Hid ((okB xs && okB ys) = false) := by show _ = _; simp [unhide HO]
    have K' := hide ((unhide K).setNew (p := ⟨w.heap.size + 2, 0, none⟩) (by simp) (.slice none 0 0))
    clear r1 r2 K
    go_wp2_with fail
    exact bodyPost_ret (v := .agg #[.slice none 0 0]) (by simp [results, Try.results40, go_sem, q0]) rfl ⟨_, rfl, by rw [gcdL_no (unhide e0)]; exact Row.nil _ _ _ _ _, unhide K'⟩
  have HO1 := hide ho1
  clear ho1
  go_wp2_with fail
  refine (ok_impl _ r2).mono ?_
  rintro e w3 ⟨rfl, k3⟩
  replace r1 := r1.kept k3 (by omega)
  replace r2 := r2.kept k3 (by omega)
  replace qf0 := k3.loose0 (World.block_lt_of_cell? _ _ q0) qf0
  replace p0 := k3.cell0 p0
  replace t0 := k3.cell0 t0
  replace q0 := k3.cell0 q0
  replace K := hide ((unhide K).trans k3)
  have z4 := k3.size
  clear k3
  cases ho2 : okB ys
  · have HO := hide ho2
    clear ho2
    have e0 : Hid ((okB xs && okB ys) = false) := by show _ = _; simp [unhide HO]
    have K' := hide ((unhide K).setNew (p := ⟨w.heap.size + 2, 0, none⟩) (by simp) (.slice none 0 0))
    clear r1 r2 K
    go_wp2_with fail
    exact bodyPost_ret (v := .agg #[.slice none 0 0]) (by simp [results, Try.results40, go_sem, q0]) rfl ⟨_, rfl, by rw [gcdL_no (unhide e0)]; exact Row.nil _ _ _ _ _, unhide K'⟩
  have HO2 := hide ho2
  clear ho2
  obtain ⟨lx, hx⟩ := (okB_iff xs).1 (unhide HO1)
  obtain ⟨ly, hy⟩ := (okB_iff ys).1 (unhide HO2)
  obtain ⟨zg, hzg⟩ : ∃ z, gcdL xs ys = z := ⟨_, rfl⟩
  have lg := gcdL_len xs ys
  rw [hzg] at lg
  have EG : Hid (limbs (Nat.gcd (val xs).toNat (val ys).toNat) = zg) := by show _ = _; rw [← hzg, gcdL_yes (unhide HO1) (unhide HO2)]
  have HZ := hide hzg
  clear hzg
  have mx : xs.length ≤ 1000000 := by omega
  have my : ys.length ≤ 1000000 := by omega
  go_wp2_with fail
  have kd := (Kept.refl 0 0 w3).drew
  replace r1 := r1.kept kd (by omega)
  replace r2 := r2.kept kd (by omega)
  replace qf0 := kd.loose0 (World.block_lt_of_cell? _ _ q0) qf0
  replace p0 := kd.cell0 p0
  replace t0 := kd.cell0 t0
  replace q0 := kd.cell0 q0
  replace K := hide ((unhide K).trans kd)
  have z5 := kd.size
  clear kd
  refine wp_region_held_drew (S := (fun w' => w'.cell? ⟨w.heap.size, 0, none⟩ = some (.slice a1 xs.length c1) ∧ w'.cell? ⟨w.heap.size + 1, 0, none⟩ = some (.slice a2 ys.length c2))) (by kernel_rfl) ?_ (fun hHeld => ?_)
  · exact ⟨p0, t0⟩
  generalize w3.drew = wd at *
  have kw := Kept.refl 0 0 wd
  have K0 := K
  refine wpAnyH_take (i := 0) (oi := _) (v := .agg #[.slice a1 xs.length c1]) rfl (by kernel_rfl) (by kernel_rfl) (by kernel_rfl) (fun _ _ _ h => h) (Or.inl ⟨by rfl, ?_⟩) hHeld ?_
  · intro wq hSw
    try dsimp only at hSw
    go_simp
  try simp only [Act.put, List.getElem_toArray, List.getElem_cons_succ, List.getElem_cons_zero, List.setIfInBounds_toArray, List.set_cons_zero, List.set_cons_succ]
  refine wpAnyH_take (i := 2) (oi := _) (v := .agg #[.slice a2 ys.length c2]) rfl (by kernel_rfl) (by kernel_rfl) (by kernel_rfl) (fun _ _ _ h => h) (Or.inl ⟨by rfl, ?_⟩) hHeld ?_
  · intro wq hSw
    try dsimp only at hSw
    go_simp
  try simp only [Act.put, List.getElem_toArray, List.getElem_cons_succ, List.getElem_cons_zero, List.setIfInBounds_toArray, List.set_cons_zero, List.set_cons_succ]
  refine wpAnyH_ready (rs := [1, 5]) (by kernel_rfl) (by simp) ?_
  refine AllReadyH.cons rfl (fun KK hK => ?_) (AllReadyH.cons rfl (fun KK hK => ?_) AllReadyH.nil)
  · simp only [List.getElem_toArray, List.getElem_cons_succ, List.getElem_cons_zero]
    rw [if_pos (by rfl)]
    refine wps1 87 (.tmp 17) _ rfl in_limbsOf' (.agg #[.slice a1 xs.length c1]) rfl (limbsOf_impl _ r1 mx) ?_
    rintro e w6 ⟨v3, rfl, o3, k6⟩
    refine ⟨_, rfl, ?_⟩
    replace r1 := r1.kept k6 (by omega)
    replace r2 := r2.kept k6 (by omega)
    replace kw := kw.trans k6
    replace qf0 := k6.loose0 (World.block_lt_of_cell? _ _ q0) qf0
    replace p0 := k6.cell0 p0
    replace t0 := k6.cell0 t0
    replace q0 := k6.cell0 q0
    replace K := hide ((unhide K).trans k6)
    have z7 := k6.size
    clear k6
    have l3 := o3.lt
    clear hHeld
    refine hK.out _ _ ?_ (fun hHeld => ?_)
    · exact ⟨p0, t0⟩
    clear hK KK
    try simp only [Act.put, List.getElem_toArray, List.getElem_cons_succ, List.getElem_cons_zero, List.setIfInBounds_toArray, List.set_cons_zero, List.set_cons_succ]
    refine wpAnyH_ready (rs := [3, 5]) (by kernel_rfl) (by simp) ?_
    refine AllReadyH.cons rfl (fun KK hK => ?_) (AllReadyH.cons rfl (fun KK hK => ?_) AllReadyH.nil)
    · simp only [List.getElem_toArray, List.getElem_cons_succ, List.getElem_cons_zero]
      rw [if_pos (by rfl)]
      refine wps1 87 (.tmp 19) _ rfl in_limbsOf' (.agg #[.slice a2 ys.length c2]) rfl (limbsOf_impl _ r2 my) ?_
      rintro e w8 ⟨v4, rfl, o4, k8⟩
      refine ⟨_, rfl, ?_⟩
      replace r1 := r1.kept k8 (by omega)
      replace r2 := r2.kept k8 (by omega)
      replace kw := kw.trans k8
      replace o3 := own_kept o3 k8
      replace qf0 := k8.loose0 (World.block_lt_of_cell? _ _ q0) qf0
      replace p0 := k8.cell0 p0
      replace t0 := k8.cell0 t0
      replace q0 := k8.cell0 q0
      replace K := hide ((unhide K).trans k8)
      have z9 := k8.size
      clear k8
      have l4 := o4.lt
      clear hHeld
      refine hK.out _ _ ?_ (fun hHeld => ?_)
      · exact ⟨p0, t0⟩
      clear hK KK
      try simp only [Act.put, List.getElem_toArray, List.getElem_cons_succ, List.getElem_cons_zero, List.setIfInBounds_toArray, List.set_cons_zero, List.set_cons_succ]
      refine wpAnyH_ready (rs := [4, 5]) (by kernel_rfl) (by simp) ?_
      refine AllReadyH.cons rfl (fun KK hK => ?_) (AllReadyH.cons rfl (fun KK hK => ?_) AllReadyH.nil)
      · simp only [List.getElem_toArray, List.getElem_cons_succ, List.getElem_cons_zero]
        rw [if_pos (by rfl)]
        have mk := commonDivisor_impl (w0 := wd) _ kw o3 o4 (by omega) (by omega) (fun k e1 e2 => by have := l3 _ e1; have := l4 _ e2; omega) hx hy (by omega) (by omega)
        rw [unhide EG] at mk
        refine wps2 103 (.tmp 18) (.tmp 20) _ rfl in_commonDivisor (.agg #[v3]) (.agg #[v4]) rfl rfl mk ?_
        rintro e w10 ⟨v5, rfl, o5, g5, m5⟩
        refine ⟨_, rfl, ?_⟩
        clear mk
        obtain ⟨a5, c5, hv⟩ := own_slice o5
        subst hv
        replace qf0 := m5.looseAt (g := w.heap.size + 2) (o := 0) (fun e => by have := unhide S0; rcases e with e | e <;> first | (have := l3 _ e; omega) | (have := l4 _ e; omega)) (World.block_lt_of_cell? _ _ q0) qf0
        replace p0 := m5.cellAt (g := w.heap.size) (o := 0) (fun e => by have := unhide S0; rcases e with e | e <;> first | (have := l3 _ e; omega) | (have := l4 _ e; omega)) p0
        replace t0 := m5.cellAt (g := w.heap.size + 1) (o := 0) (fun e => by have := unhide S0; rcases e with e | e <;> first | (have := l3 _ e; omega) | (have := l4 _ e; omega)) t0
        replace q0 := m5.cellAt (g := w.heap.size + 2) (o := 0) (fun e => by have := unhide S0; rcases e with e | e <;> first | (have := l3 _ e; omega) | (have := l4 _ e; omega)) q0
        replace r1 := r1
        have kw' := kw.mod m5 (fun i e => by rcases e with e | e <;> first | (have := l3 _ e; omega) | (have := l4 _ e; omega))
        clear kw
        have kw := kw'
        clear kw'
        have z10 := m5.size
        have l5 := o5.lt
        clear m5 g5 o3 o4 r1 r2
        have r1 : True := trivial
        have r2 : True := trivial
        have o3 : True := trivial
        have o4 : True := trivial
        replace K := hide ((unhide K0).trans kw)
        clear hHeld
        refine hK.out _ _ ?_ (fun hHeld => ?_)
        · exact ⟨p0, t0⟩
        clear hK KK
        try simp only [Act.put, List.getElem_toArray, List.getElem_cons_succ, List.getElem_cons_zero, List.setIfInBounds_toArray, List.set_cons_zero, List.set_cons_succ]
        refine wpAnyH_ready (rs := [5]) (by kernel_rfl) (by simp) ?_
        refine AllReadyH.cons rfl (fun KK hK => ?_) AllReadyH.nil
        simp only [List.getElem_toArray, List.getElem_cons_succ, List.getElem_cons_zero]
        rw [if_pos (by rfl)]
        go_simp
        have kn := (Kept.refl 0 0 w10).alloc (.cells #[.slice none 0 0] 76)
        replace kw := kw.trans kn
        replace o5 := own_kept o5 kn
        replace qf0 := kn.loose0 (World.block_lt_of_cell? _ _ q0) qf0
        replace p0 := kn.cell0 p0
        replace t0 := kn.cell0 t0
        replace q0 := kn.cell0 q0
        replace K := hide ((unhide K).trans kn)
        have z12 := kn.size
        clear kn
        have szx : w10.heap.size < (w10.alloc (.cells #[.slice none 0 0] 76)).heap.size := by simp
        have x0 : (w10.alloc (.cells #[.slice none 0 0] 76)).cell? ⟨w10.heap.size, 0, none⟩ = some (.slice none 0 0) := new_cell2 _ _ _ _ _ _ rfl rfl
        have xf0 : (w10.alloc (.cells #[.slice none 0 0] 76)).frozen? ⟨w10.heap.size, 0, none⟩ = false := new_loose2 _ _ _ _ _ rfl
        clear hHeld
        refine hK.out _ _ ?_ (fun hHeld => ?_)
        · exact ⟨p0, t0⟩
        clear hK KK
        try simp only [Act.put, List.getElem_toArray, List.getElem_cons_succ, List.getElem_cons_zero, List.setIfInBounds_toArray, List.set_cons_zero, List.set_cons_succ]
        generalize w10.alloc (.cells #[.slice none 0 0] 76) = w11 at *
        have h5 : (Value.slice a5 zg.length c5).ownBlock ≠ some (w10.heap.size) := fun e => by have := l5 _ e; omega
        refine wpAnyH_ready (rs := [6]) (by kernel_rfl) (by simp) ?_
        refine AllReadyH.cons rfl (fun KK hK => ?_) AllReadyH.nil
        simp only [List.getElem_toArray, List.getElem_cons_succ, List.getElem_cons_zero]
        rw [if_pos (by rfl)]
        go_simp
        clear hHeld
        refine hK.out _ _ ?_ (fun hHeld => ?_)
        · exact ⟨cell_aside _ (by have := unhide S0; dsimp only; omega) p0, cell_aside _ (by have := unhide S0; dsimp only; omega) t0⟩
        clear hK KK
        try simp only [Act.put, List.getElem_toArray, List.getElem_cons_succ, List.getElem_cons_zero, List.setIfInBounds_toArray, List.set_cons_zero, List.set_cons_succ]
        refine wpAnyH_done (by kernel_rfl) ?_ _
        clear hHeld r1 r2
        have mX : Mod (fun i => i = w10.heap.size) w11 (w11.setCell ⟨w10.heap.size, 0, none⟩ (.slice a5 zg.length c5)) := Mod.set (S := fun i => i = w10.heap.size) (Mod.refl _ _) (p := ⟨w10.heap.size, 0, none⟩) (.inl rfl) _
        have nX : Num wd.heap.size (w11.setCell ⟨w10.heap.size, 0, none⟩ (.slice a5 zg.length c5)) w10.heap.size (.slice a5 zg.length c5) zg := ⟨cell_on _ _ _ _ _ x0, by rw [frozen_set]; exact xf0, own_apart o5 (p := ⟨w10.heap.size, 0, none⟩) h5 _, h5⟩
        have q0' := mX.cellAt (g := w.heap.size + 2) (o := 0) (fun e => by have := unhide S0; omega) q0
        have qf0' := mX.looseAt (g := w.heap.size + 2) (o := 0) (fun e => by have := unhide S0; omega) (World.block_lt_of_cell? _ _ q0) qf0
        replace K := hide ((unhide K0).trans (kw.mod mX (fun i e => by omega)))
        have zX := mX.size
        clear p0 t0 q0 qf0 x0 xf0 o5 mX kw K0 h5 o3 o4
        have q0 := q0'
        have qf0 := qf0'
        clear q0' qf0'
        go_wp2_with fail
        generalize w11.setCell ⟨w10.heap.size, 0, none⟩ (.slice a5 zg.length c5) = wx at *
        refine (told_impl _ nX).mono ?_
        rintro e w13 ⟨v3', rfl, r3, k13⟩
        replace nX := nX.kept k13
        replace qf0 := k13.loose0 (World.block_lt_of_cell? _ _ q0) qf0
        replace q0 := k13.cell0 q0
        replace K := hide ((unhide K).trans k13)
        have z14 := k13.size
        clear k13
        clear nX
        have tq : tell zg = zg := by unfold tell; rw [if_pos lg]
        rw [tq] at r3
        rw [decide_eq_true lg]
        clear tq
        obtain ⟨a3', c3', hv⟩ := Row.form' r3
        subst hv
        have kn := (Kept.refl 0 0 w13).alloc (.cells #[.slice a3' zg.length c3'] 26)
        have m0 : (w13.alloc (.cells #[.slice a3' zg.length c3'] 26)).cell? ⟨w13.heap.size, 0, none⟩ = some (.slice a3' zg.length c3') := new_cell2 _ _ _ _ _ _ (by simp) rfl
        have sz15 : w13.heap.size + 1 = (w13.alloc (.cells #[.slice a3' zg.length c3'] 26)).heap.size := by simp
        have SZ15 := hide sz15
        replace sz15 := Nat.le_of_eq sz15
        replace r3 := r3.kept kn (by omega)
        replace qf0 := kn.loose0 (World.block_lt_of_cell? _ _ q0) qf0
        replace q0 := kn.cell0 q0
        replace K := hide ((unhide K).trans kn)
        have z16 := kn.size
        clear kn
        go_wp2_with fail
        generalize (w13.alloc (.cells #[.slice a3' zg.length c3'] 26)) = wn17 at *
        have hm1 : w.heap.size + 3 ≤ wx.heap.size := by have := unhide S0; omega
        have R := hide (((r3.set_other (p := ⟨w.heap.size + 2, 0, none⟩) (.inl (by have := unhide S0; dsimp only; omega)) (.slice a3' zg.length c3'))).tight.wider (lo' := w.heap.size) (by have := unhide S0; omega) (Nat.le_refl _))
        have K7 := hide ((unhide K).setNew (p := ⟨w.heap.size + 2, 0, none⟩) (by simp) (.slice a3' zg.length c3'))
        clear r3 K
        go_wp2_with fail
        exact bodyPost_ret (v := .agg #[.slice a3' zg.length c3']) (by simp [results, Try.results40, go_sem, q0]) rfl ⟨_, rfl, by rw [unhide HZ]; exact unhide R, unhide K7⟩
      · simp only [List.getElem_toArray, List.getElem_cons_succ, List.getElem_cons_zero]
        rw [if_pos (by rfl)]
        go_simp
        have kn := (Kept.refl 0 0 w8).alloc (.cells #[.slice none 0 0] 76)
        replace r1 := r1.kept kn (by omega)
        replace r2 := r2.kept kn (by omega)
        replace kw := kw.trans kn
        replace o3 := own_kept o3 kn
        replace o4 := own_kept o4 kn
        replace qf0 := kn.loose0 (World.block_lt_of_cell? _ _ q0) qf0
        replace p0 := kn.cell0 p0
        replace t0 := kn.cell0 t0
        replace q0 := kn.cell0 q0
        replace K := hide ((unhide K).trans kn)
        have z11 := kn.size
        clear kn
        have szx : w8.heap.size < (w8.alloc (.cells #[.slice none 0 0] 76)).heap.size := by simp
        have x0 : (w8.alloc (.cells #[.slice none 0 0] 76)).cell? ⟨w8.heap.size, 0, none⟩ = some (.slice none 0 0) := new_cell2 _ _ _ _ _ _ rfl rfl
        have xf0 : (w8.alloc (.cells #[.slice none 0 0] 76)).frozen? ⟨w8.heap.size, 0, none⟩ = false := new_loose2 _ _ _ _ _ rfl
        clear hHeld
        refine hK.out _ _ ?_ (fun hHeld => ?_)
        · exact ⟨p0, t0⟩
        clear hK KK
        try simp only [Act.put, List.getElem_toArray, List.getElem_cons_succ, List.getElem_cons_zero, List.setIfInBounds_toArray, List.set_cons_zero, List.set_cons_succ]
        generalize w8.alloc (.cells #[.slice none 0 0] 76) = w10 at *
        refine wpAnyH_ready (rs := [4]) (by kernel_rfl) (by simp) ?_
        refine AllReadyH.cons rfl (fun KK hK => ?_) AllReadyH.nil
        simp only [List.getElem_toArray, List.getElem_cons_succ, List.getElem_cons_zero]
        rw [if_pos (by rfl)]
        have mk := commonDivisor_impl (w0 := wd) _ kw o3 o4 (by omega) (by omega) (fun k e1 e2 => by have := l3 _ e1; have := l4 _ e2; omega) hx hy (by omega) (by omega)
        rw [unhide EG] at mk
        refine wps2 103 (.tmp 18) (.tmp 20) _ rfl in_commonDivisor (.agg #[v3]) (.agg #[v4]) rfl rfl mk ?_
        rintro e w12 ⟨v5, rfl, o5, g5, m5⟩
        refine ⟨_, rfl, ?_⟩
        clear mk
        obtain ⟨a5, c5, hv⟩ := own_slice o5
        subst hv
        replace qf0 := m5.looseAt (g := w.heap.size + 2) (o := 0) (fun e => by have := unhide S0; rcases e with e | e <;> first | (have := l3 _ e; omega) | (have := l4 _ e; omega)) (World.block_lt_of_cell? _ _ q0) qf0
        replace xf0 := m5.looseAt (g := w8.heap.size) (o := 0) (fun e => by have := unhide S0; rcases e with e | e <;> first | (have := l3 _ e; omega) | (have := l4 _ e; omega)) (World.block_lt_of_cell? _ _ x0) xf0
        replace p0 := m5.cellAt (g := w.heap.size) (o := 0) (fun e => by have := unhide S0; rcases e with e | e <;> first | (have := l3 _ e; omega) | (have := l4 _ e; omega)) p0
        replace t0 := m5.cellAt (g := w.heap.size + 1) (o := 0) (fun e => by have := unhide S0; rcases e with e | e <;> first | (have := l3 _ e; omega) | (have := l4 _ e; omega)) t0
        replace q0 := m5.cellAt (g := w.heap.size + 2) (o := 0) (fun e => by have := unhide S0; rcases e with e | e <;> first | (have := l3 _ e; omega) | (have := l4 _ e; omega)) q0
        replace x0 := m5.cellAt (g := w8.heap.size) (o := 0) (fun e => by have := unhide S0; rcases e with e | e <;> first | (have := l3 _ e; omega) | (have := l4 _ e; omega)) x0
        replace r1 := r1
        have kw' := kw.mod m5 (fun i e => by rcases e with e | e <;> first | (have := l3 _ e; omega) | (have := l4 _ e; omega))
        clear kw
        have kw := kw'
        clear kw'
        have z12 := m5.size
        have h5 : (Value.slice a5 zg.length c5).ownBlock ≠ some (w8.heap.size) := fun e => by rcases g5 _ e with (h | h) | h <;> first | omega | (have := l3 _ h; omega) | (have := l4 _ h; omega)
        have l5 := o5.lt
        clear m5 g5 o3 o4 r1 r2
        have r1 : True := trivial
        have r2 : True := trivial
        have o3 : True := trivial
        have o4 : True := trivial
        replace K := hide ((unhide K0).trans kw)
        clear hHeld
        refine hK.out _ _ ?_ (fun hHeld => ?_)
        · exact ⟨p0, t0⟩
        clear hK KK
        try simp only [Act.put, List.getElem_toArray, List.getElem_cons_succ, List.getElem_cons_zero, List.setIfInBounds_toArray, List.set_cons_zero, List.set_cons_succ]
        refine wpAnyH_ready (rs := [6]) (by kernel_rfl) (by simp) ?_
        refine AllReadyH.cons rfl (fun KK hK => ?_) AllReadyH.nil
        simp only [List.getElem_toArray, List.getElem_cons_succ, List.getElem_cons_zero]
        rw [if_pos (by rfl)]
        go_simp
        clear hHeld
        refine hK.out _ _ ?_ (fun hHeld => ?_)
        · exact ⟨cell_aside _ (by have := unhide S0; dsimp only; omega) p0, cell_aside _ (by have := unhide S0; dsimp only; omega) t0⟩
        clear hK KK
        try simp only [Act.put, List.getElem_toArray, List.getElem_cons_succ, List.getElem_cons_zero, List.setIfInBounds_toArray, List.set_cons_zero, List.set_cons_succ]
        refine wpAnyH_done (by kernel_rfl) ?_ _
        clear hHeld r1 r2
        have mX : Mod (fun i => i = w8.heap.size) w12 (w12.setCell ⟨w8.heap.size, 0, none⟩ (.slice a5 zg.length c5)) := Mod.set (S := fun i => i = w8.heap.size) (Mod.refl _ _) (p := ⟨w8.heap.size, 0, none⟩) (.inl rfl) _
        have nX : Num wd.heap.size (w12.setCell ⟨w8.heap.size, 0, none⟩ (.slice a5 zg.length c5)) w8.heap.size (.slice a5 zg.length c5) zg := ⟨cell_on _ _ _ _ _ x0, by rw [frozen_set]; exact xf0, own_apart o5 (p := ⟨w8.heap.size, 0, none⟩) h5 _, h5⟩
        have q0' := mX.cellAt (g := w.heap.size + 2) (o := 0) (fun e => by have := unhide S0; omega) q0
        have qf0' := mX.looseAt (g := w.heap.size + 2) (o := 0) (fun e => by have := unhide S0; omega) (World.block_lt_of_cell? _ _ q0) qf0
        replace K := hide ((unhide K0).trans (kw.mod mX (fun i e => by omega)))
        have zX := mX.size
        clear p0 t0 q0 qf0 x0 xf0 o5 mX kw K0 h5 o3 o4
        have q0 := q0'
        have qf0 := qf0'
        clear q0' qf0'
        go_wp2_with fail
        generalize w12.setCell ⟨w8.heap.size, 0, none⟩ (.slice a5 zg.length c5) = wx at *
        refine (told_impl _ nX).mono ?_
        rintro e w13 ⟨v3', rfl, r3, k13⟩
        replace nX := nX.kept k13
        replace qf0 := k13.loose0 (World.block_lt_of_cell? _ _ q0) qf0
        replace q0 := k13.cell0 q0
        replace K := hide ((unhide K).trans k13)
        have z14 := k13.size
        clear k13
        clear nX
        have tq : tell zg = zg := by unfold tell; rw [if_pos lg]
        rw [tq] at r3
        rw [decide_eq_true lg]
        clear tq
        obtain ⟨a3', c3', hv⟩ := Row.form' r3
        subst hv
        have kn := (Kept.refl 0 0 w13).alloc (.cells #[.slice a3' zg.length c3'] 26)
        have m0 : (w13.alloc (.cells #[.slice a3' zg.length c3'] 26)).cell? ⟨w13.heap.size, 0, none⟩ = some (.slice a3' zg.length c3') := new_cell2 _ _ _ _ _ _ (by simp) rfl
        have sz15 : w13.heap.size + 1 = (w13.alloc (.cells #[.slice a3' zg.length c3'] 26)).heap.size := by simp
        have SZ15 := hide sz15
        replace sz15 := Nat.le_of_eq sz15
        replace r3 := r3.kept kn (by omega)
        replace qf0 := kn.loose0 (World.block_lt_of_cell? _ _ q0) qf0
        replace q0 := kn.cell0 q0
        replace K := hide ((unhide K).trans kn)
        have z16 := kn.size
        clear kn
        go_wp2_with fail
        generalize (w13.alloc (.cells #[.slice a3' zg.length c3'] 26)) = wn17 at *
        have hm1 : w.heap.size + 3 ≤ wx.heap.size := by have := unhide S0; omega
        have R := hide (((r3.set_other (p := ⟨w.heap.size + 2, 0, none⟩) (.inl (by have := unhide S0; dsimp only; omega)) (.slice a3' zg.length c3'))).tight.wider (lo' := w.heap.size) (by have := unhide S0; omega) (Nat.le_refl _))
        have K7 := hide ((unhide K).setNew (p := ⟨w.heap.size + 2, 0, none⟩) (by simp) (.slice a3' zg.length c3'))
        clear r3 K
        go_wp2_with fail
        exact bodyPost_ret (v := .agg #[.slice a3' zg.length c3']) (by simp [results, Try.results40, go_sem, q0]) rfl ⟨_, rfl, by rw [unhide HZ]; exact unhide R, unhide K7⟩
    · simp only [List.getElem_toArray, List.getElem_cons_succ, List.getElem_cons_zero]
      rw [if_pos (by rfl)]
      go_simp
      have kn := (Kept.refl 0 0 w6).alloc (.cells #[.slice none 0 0] 76)
      replace r1 := r1.kept kn (by omega)
      replace r2 := r2.kept kn (by omega)
      replace kw := kw.trans kn
      replace o3 := own_kept o3 kn
      replace qf0 := kn.loose0 (World.block_lt_of_cell? _ _ q0) qf0
      replace p0 := kn.cell0 p0
      replace t0 := kn.cell0 t0
      replace q0 := kn.cell0 q0
      replace K := hide ((unhide K).trans kn)
      have z9 := kn.size
      clear kn
      have szx : w6.heap.size < (w6.alloc (.cells #[.slice none 0 0] 76)).heap.size := by simp
      have x0 : (w6.alloc (.cells #[.slice none 0 0] 76)).cell? ⟨w6.heap.size, 0, none⟩ = some (.slice none 0 0) := new_cell2 _ _ _ _ _ _ rfl rfl
      have xf0 : (w6.alloc (.cells #[.slice none 0 0] 76)).frozen? ⟨w6.heap.size, 0, none⟩ = false := new_loose2 _ _ _ _ _ rfl
      clear hHeld
      refine hK.out _ _ ?_ (fun hHeld => ?_)
      · exact ⟨p0, t0⟩
      clear hK KK
      try simp only [Act.put, List.getElem_toArray, List.getElem_cons_succ, List.getElem_cons_zero, List.setIfInBounds_toArray, List.set_cons_zero, List.set_cons_succ]
      generalize w6.alloc (.cells #[.slice none 0 0] 76) = w8 at *
      refine wpAnyH_ready (rs := [3]) (by kernel_rfl) (by simp) ?_
      refine AllReadyH.cons rfl (fun KK hK => ?_) AllReadyH.nil
      simp only [List.getElem_toArray, List.getElem_cons_succ, List.getElem_cons_zero]
      rw [if_pos (by rfl)]
      refine wps1 87 (.tmp 19) _ rfl in_limbsOf' (.agg #[.slice a2 ys.length c2]) rfl (limbsOf_impl _ r2 my) ?_
      rintro e w10 ⟨v4, rfl, o4, k10⟩
      refine ⟨_, rfl, ?_⟩
      replace r1 := r1.kept k10 (by omega)
      replace r2 := r2.kept k10 (by omega)
      replace kw := kw.trans k10
      replace o3 := own_kept o3 k10
      replace qf0 := k10.loose0 (World.block_lt_of_cell? _ _ q0) qf0
      replace xf0 := k10.loose0 (World.block_lt_of_cell? _ _ x0) xf0
      replace p0 := k10.cell0 p0
      replace t0 := k10.cell0 t0
      replace q0 := k10.cell0 q0
      replace x0 := k10.cell0 x0
      replace K := hide ((unhide K).trans k10)
      have z11 := k10.size
      clear k10
      have l4 := o4.lt
      clear hHeld
      refine hK.out _ _ ?_ (fun hHeld => ?_)
      · exact ⟨p0, t0⟩
      clear hK KK
      try simp only [Act.put, List.getElem_toArray, List.getElem_cons_succ, List.getElem_cons_zero, List.setIfInBounds_toArray, List.set_cons_zero, List.set_cons_succ]
      refine wpAnyH_ready (rs := [4]) (by kernel_rfl) (by simp) ?_
      refine AllReadyH.cons rfl (fun KK hK => ?_) AllReadyH.nil
      simp only [List.getElem_toArray, List.getElem_cons_succ, List.getElem_cons_zero]
      rw [if_pos (by rfl)]
      have mk := commonDivisor_impl (w0 := wd) _ kw o3 o4 (by omega) (by omega) (fun k e1 e2 => by have := l3 _ e1; have := l4 _ e2; omega) hx hy (by omega) (by omega)
      rw [unhide EG] at mk
      refine wps2 103 (.tmp 18) (.tmp 20) _ rfl in_commonDivisor (.agg #[v3]) (.agg #[v4]) rfl rfl mk ?_
      rintro e w12 ⟨v5, rfl, o5, g5, m5⟩
      refine ⟨_, rfl, ?_⟩
      clear mk
      obtain ⟨a5, c5, hv⟩ := own_slice o5
      subst hv
      replace qf0 := m5.looseAt (g := w.heap.size + 2) (o := 0) (fun e => by have := unhide S0; rcases e with e | e <;> first | (have := l3 _ e; omega) | (have := l4 _ e; omega)) (World.block_lt_of_cell? _ _ q0) qf0
      replace xf0 := m5.looseAt (g := w6.heap.size) (o := 0) (fun e => by have := unhide S0; rcases e with e | e <;> first | (have := l3 _ e; omega) | (have := l4 _ e; omega)) (World.block_lt_of_cell? _ _ x0) xf0
      replace p0 := m5.cellAt (g := w.heap.size) (o := 0) (fun e => by have := unhide S0; rcases e with e | e <;> first | (have := l3 _ e; omega) | (have := l4 _ e; omega)) p0
      replace t0 := m5.cellAt (g := w.heap.size + 1) (o := 0) (fun e => by have := unhide S0; rcases e with e | e <;> first | (have := l3 _ e; omega) | (have := l4 _ e; omega)) t0
      replace q0 := m5.cellAt (g := w.heap.size + 2) (o := 0) (fun e => by have := unhide S0; rcases e with e | e <;> first | (have := l3 _ e; omega) | (have := l4 _ e; omega)) q0
      replace x0 := m5.cellAt (g := w6.heap.size) (o := 0) (fun e => by have := unhide S0; rcases e with e | e <;> first | (have := l3 _ e; omega) | (have := l4 _ e; omega)) x0
      replace r1 := r1
      have kw' := kw.mod m5 (fun i e => by rcases e with e | e <;> first | (have := l3 _ e; omega) | (have := l4 _ e; omega))
      clear kw
      have kw := kw'
      clear kw'
      have z12 := m5.size
      have h5 : (Value.slice a5 zg.length c5).ownBlock ≠ some (w6.heap.size) := fun e => by rcases g5 _ e with (h | h) | h <;> first | omega | (have := l3 _ h; omega) | (have := l4 _ h; omega)
      have l5 := o5.lt
      clear m5 g5 o3 o4 r1 r2
      have r1 : True := trivial
      have r2 : True := trivial
      have o3 : True := trivial
      have o4 : True := trivial
      replace K := hide ((unhide K0).trans kw)
      clear hHeld
      refine hK.out _ _ ?_ (fun hHeld => ?_)
      · exact ⟨p0, t0⟩
      clear hK KK
      try simp only [Act.put, List.getElem_toArray, List.getElem_cons_succ, List.getElem_cons_zero, List.setIfInBounds_toArray, List.set_cons_zero, List.set_cons_succ]
      refine wpAnyH_ready (rs := [6]) (by kernel_rfl) (by simp) ?_
      refine AllReadyH.cons rfl (fun KK hK => ?_) AllReadyH.nil
      simp only [List.getElem_toArray, List.getElem_cons_succ, List.getElem_cons_zero]
      rw [if_pos (by rfl)]
      go_simp
      clear hHeld
      refine hK.out _ _ ?_ (fun hHeld => ?_)
      · exact ⟨cell_aside _ (by have := unhide S0; dsimp only; omega) p0, cell_aside _ (by have := unhide S0; dsimp only; omega) t0⟩
      clear hK KK
      try simp only [Act.put, List.getElem_toArray, List.getElem_cons_succ, List.getElem_cons_zero, List.setIfInBounds_toArray, List.set_cons_zero, List.set_cons_succ]
      refine wpAnyH_done (by kernel_rfl) ?_ _
      clear hHeld r1 r2
      have mX : Mod (fun i => i = w6.heap.size) w12 (w12.setCell ⟨w6.heap.size, 0, none⟩ (.slice a5 zg.length c5)) := Mod.set (S := fun i => i = w6.heap.size) (Mod.refl _ _) (p := ⟨w6.heap.size, 0, none⟩) (.inl rfl) _
      have nX : Num wd.heap.size (w12.setCell ⟨w6.heap.size, 0, none⟩ (.slice a5 zg.length c5)) w6.heap.size (.slice a5 zg.length c5) zg := ⟨cell_on _ _ _ _ _ x0, by rw [frozen_set]; exact xf0, own_apart o5 (p := ⟨w6.heap.size, 0, none⟩) h5 _, h5⟩
      have q0' := mX.cellAt (g := w.heap.size + 2) (o := 0) (fun e => by have := unhide S0; omega) q0
      have qf0' := mX.looseAt (g := w.heap.size + 2) (o := 0) (fun e => by have := unhide S0; omega) (World.block_lt_of_cell? _ _ q0) qf0
      replace K := hide ((unhide K0).trans (kw.mod mX (fun i e => by omega)))
      have zX := mX.size
      clear p0 t0 q0 qf0 x0 xf0 o5 mX kw K0 h5 o3 o4
      have q0 := q0'
      have qf0 := qf0'
      clear q0' qf0'
      go_wp2_with fail
      generalize w12.setCell ⟨w6.heap.size, 0, none⟩ (.slice a5 zg.length c5) = wx at *
      refine (told_impl _ nX).mono ?_
      rintro e w13 ⟨v3', rfl, r3, k13⟩
      replace nX := nX.kept k13
      replace qf0 := k13.loose0 (World.block_lt_of_cell? _ _ q0) qf0
      replace q0 := k13.cell0 q0
      replace K := hide ((unhide K).trans k13)
      have z14 := k13.size
      clear k13
      clear nX
      have tq : tell zg = zg := by unfold tell; rw [if_pos lg]
      rw [tq] at r3
      rw [decide_eq_true lg]
      clear tq
      obtain ⟨a3', c3', hv⟩ := Row.form' r3
      subst hv
      have kn := (Kept.refl 0 0 w13).alloc (.cells #[.slice a3' zg.length c3'] 26)
      have m0 : (w13.alloc (.cells #[.slice a3' zg.length c3'] 26)).cell? ⟨w13.heap.size, 0, none⟩ = some (.slice a3' zg.length c3') := new_cell2 _ _ _ _ _ _ (by simp) rfl
      have sz15 : w13.heap.size + 1 = (w13.alloc (.cells #[.slice a3' zg.length c3'] 26)).heap.size := by simp
      have SZ15 := hide sz15
      replace sz15 := Nat.le_of_eq sz15
      replace r3 := r3.kept kn (by omega)
      replace qf0 := kn.loose0 (World.block_lt_of_cell? _ _ q0) qf0
      replace q0 := kn.cell0 q0
      replace K := hide ((unhide K).trans kn)
      have z16 := kn.size
      clear kn
      go_wp2_with fail
      generalize (w13.alloc (.cells #[.slice a3' zg.length c3'] 26)) = wn17 at *
      have hm1 : w.heap.size + 3 ≤ wx.heap.size := by have := unhide S0; omega
      have R := hide (((r3.set_other (p := ⟨w.heap.size + 2, 0, none⟩) (.inl (by have := unhide S0; dsimp only; omega)) (.slice a3' zg.length c3'))).tight.wider (lo' := w.heap.size) (by have := unhide S0; omega) (Nat.le_refl _))
      have K7 := hide ((unhide K).setNew (p := ⟨w.heap.size + 2, 0, none⟩) (by simp) (.slice a3' zg.length c3'))
      clear r3 K
      go_wp2_with fail
      exact bodyPost_ret (v := .agg #[.slice a3' zg.length c3']) (by simp [results, Try.results40, go_sem, q0]) rfl ⟨_, rfl, by rw [unhide HZ]; exact unhide R, unhide K7⟩
  · simp only [List.getElem_toArray, List.getElem_cons_succ, List.getElem_cons_zero]
    rw [if_pos (by rfl)]
    go_simp
    have kn := (Kept.refl 0 0 wd).alloc (.cells #[.slice none 0 0] 76)
    replace r1 := r1.kept kn (by omega)
    replace r2 := r2.kept kn (by omega)
    replace kw := kw.trans kn
    replace qf0 := kn.loose0 (World.block_lt_of_cell? _ _ q0) qf0
    replace p0 := kn.cell0 p0
    replace t0 := kn.cell0 t0
    replace q0 := kn.cell0 q0
    replace K := hide ((unhide K).trans kn)
    have z7 := kn.size
    clear kn
    have szx : wd.heap.size < (wd.alloc (.cells #[.slice none 0 0] 76)).heap.size := by simp
    have x0 : (wd.alloc (.cells #[.slice none 0 0] 76)).cell? ⟨wd.heap.size, 0, none⟩ = some (.slice none 0 0) := new_cell2 _ _ _ _ _ _ rfl rfl
    have xf0 : (wd.alloc (.cells #[.slice none 0 0] 76)).frozen? ⟨wd.heap.size, 0, none⟩ = false := new_loose2 _ _ _ _ _ rfl
    clear hHeld
    refine hK.out _ _ ?_ (fun hHeld => ?_)
    · exact ⟨p0, t0⟩
    clear hK KK
    try simp only [Act.put, List.getElem_toArray, List.getElem_cons_succ, List.getElem_cons_zero, List.setIfInBounds_toArray, List.set_cons_zero, List.set_cons_succ]
    generalize wd.alloc (.cells #[.slice none 0 0] 76) = w6 at *
    refine wpAnyH_ready (rs := [1]) (by kernel_rfl) (by simp) ?_
    refine AllReadyH.cons rfl (fun KK hK => ?_) AllReadyH.nil
    simp only [List.getElem_toArray, List.getElem_cons_succ, List.getElem_cons_zero]
    rw [if_pos (by rfl)]
    refine wps1 87 (.tmp 17) _ rfl in_limbsOf' (.agg #[.slice a1 xs.length c1]) rfl (limbsOf_impl _ r1 mx) ?_
    rintro e w8 ⟨v3, rfl, o3, k8⟩
    refine ⟨_, rfl, ?_⟩
    replace r1 := r1.kept k8 (by omega)
    replace r2 := r2.kept k8 (by omega)
    replace kw := kw.trans k8
    replace qf0 := k8.loose0 (World.block_lt_of_cell? _ _ q0) qf0
    replace xf0 := k8.loose0 (World.block_lt_of_cell? _ _ x0) xf0
    replace p0 := k8.cell0 p0
    replace t0 := k8.cell0 t0
    replace q0 := k8.cell0 q0
    replace x0 := k8.cell0 x0
    replace K := hide ((unhide K).trans k8)
    have z9 := k8.size
    clear k8
    have l3 := o3.lt
    clear hHeld
    refine hK.out _ _ ?_ (fun hHeld => ?_)
    · exact ⟨p0, t0⟩
    clear hK KK
    try simp only [Act.put, List.getElem_toArray, List.getElem_cons_succ, List.getElem_cons_zero, List.setIfInBounds_toArray, List.set_cons_zero, List.set_cons_succ]
    refine wpAnyH_ready (rs := [3]) (by kernel_rfl) (by simp) ?_
    refine AllReadyH.cons rfl (fun KK hK => ?_) AllReadyH.nil
    simp only [List.getElem_toArray, List.getElem_cons_succ, List.getElem_cons_zero]
    rw [if_pos (by rfl)]
    refine wps1 87 (.tmp 19) _ rfl in_limbsOf' (.agg #[.slice a2 ys.length c2]) rfl (limbsOf_impl _ r2 my) ?_
    rintro e w10 ⟨v4, rfl, o4, k10⟩
    refine ⟨_, rfl, ?_⟩
    replace r1 := r1.kept k10 (by omega)
    replace r2 := r2.kept k10 (by omega)
    replace kw := kw.trans k10
    replace o3 := own_kept o3 k10
    replace qf0 := k10.loose0 (World.block_lt_of_cell? _ _ q0) qf0
    replace xf0 := k10.loose0 (World.block_lt_of_cell? _ _ x0) xf0
    replace p0 := k10.cell0 p0
    replace t0 := k10.cell0 t0
    replace q0 := k10.cell0 q0
    replace x0 := k10.cell0 x0
    replace K := hide ((unhide K).trans k10)
    have z11 := k10.size
    clear k10
    have l4 := o4.lt
    clear hHeld
    refine hK.out _ _ ?_ (fun hHeld => ?_)
    · exact ⟨p0, t0⟩
    clear hK KK
    try simp only [Act.put, List.getElem_toArray, List.getElem_cons_succ, List.getElem_cons_zero, List.setIfInBounds_toArray, List.set_cons_zero, List.set_cons_succ]
    refine wpAnyH_ready (rs := [4]) (by kernel_rfl) (by simp) ?_
    refine AllReadyH.cons rfl (fun KK hK => ?_) AllReadyH.nil
    simp only [List.getElem_toArray, List.getElem_cons_succ, List.getElem_cons_zero]
    rw [if_pos (by rfl)]
    have mk := commonDivisor_impl (w0 := wd) _ kw o3 o4 (by omega) (by omega) (fun k e1 e2 => by have := l3 _ e1; have := l4 _ e2; omega) hx hy (by omega) (by omega)
    rw [unhide EG] at mk
    refine wps2 103 (.tmp 18) (.tmp 20) _ rfl in_commonDivisor (.agg #[v3]) (.agg #[v4]) rfl rfl mk ?_
    rintro e w12 ⟨v5, rfl, o5, g5, m5⟩
    refine ⟨_, rfl, ?_⟩
    clear mk
    obtain ⟨a5, c5, hv⟩ := own_slice o5
    subst hv
    replace qf0 := m5.looseAt (g := w.heap.size + 2) (o := 0) (fun e => by have := unhide S0; rcases e with e | e <;> first | (have := l3 _ e; omega) | (have := l4 _ e; omega)) (World.block_lt_of_cell? _ _ q0) qf0
    replace xf0 := m5.looseAt (g := wd.heap.size) (o := 0) (fun e => by have := unhide S0; rcases e with e | e <;> first | (have := l3 _ e; omega) | (have := l4 _ e; omega)) (World.block_lt_of_cell? _ _ x0) xf0
    replace p0 := m5.cellAt (g := w.heap.size) (o := 0) (fun e => by have := unhide S0; rcases e with e | e <;> first | (have := l3 _ e; omega) | (have := l4 _ e; omega)) p0
    replace t0 := m5.cellAt (g := w.heap.size + 1) (o := 0) (fun e => by have := unhide S0; rcases e with e | e <;> first | (have := l3 _ e; omega) | (have := l4 _ e; omega)) t0
    replace q0 := m5.cellAt (g := w.heap.size + 2) (o := 0) (fun e => by have := unhide S0; rcases e with e | e <;> first | (have := l3 _ e; omega) | (have := l4 _ e; omega)) q0
    replace x0 := m5.cellAt (g := wd.heap.size) (o := 0) (fun e => by have := unhide S0; rcases e with e | e <;> first | (have := l3 _ e; omega) | (have := l4 _ e; omega)) x0
    replace r1 := r1
    have kw' := kw.mod m5 (fun i e => by rcases e with e | e <;> first | (have := l3 _ e; omega) | (have := l4 _ e; omega))
    clear kw
    have kw := kw'
    clear kw'
    have z12 := m5.size
    have h5 : (Value.slice a5 zg.length c5).ownBlock ≠ some (wd.heap.size) := fun e => by rcases g5 _ e with (h | h) | h <;> first | omega | (have := l3 _ h; omega) | (have := l4 _ h; omega)
    have l5 := o5.lt
    clear m5 g5 o3 o4 r1 r2
    have r1 : True := trivial
    have r2 : True := trivial
    have o3 : True := trivial
    have o4 : True := trivial
    replace K := hide ((unhide K0).trans kw)
    clear hHeld
    refine hK.out _ _ ?_ (fun hHeld => ?_)
    · exact ⟨p0, t0⟩
    clear hK KK
    try simp only [Act.put, List.getElem_toArray, List.getElem_cons_succ, List.getElem_cons_zero, List.setIfInBounds_toArray, List.set_cons_zero, List.set_cons_succ]
    refine wpAnyH_ready (rs := [6]) (by kernel_rfl) (by simp) ?_
    refine AllReadyH.cons rfl (fun KK hK => ?_) AllReadyH.nil
    simp only [List.getElem_toArray, List.getElem_cons_succ, List.getElem_cons_zero]
    rw [if_pos (by rfl)]
    go_simp
    clear hHeld
    refine hK.out _ _ ?_ (fun hHeld => ?_)
    · exact ⟨cell_aside _ (by have := unhide S0; dsimp only; omega) p0, cell_aside _ (by have := unhide S0; dsimp only; omega) t0⟩
    clear hK KK
    try simp only [Act.put, List.getElem_toArray, List.getElem_cons_succ, List.getElem_cons_zero, List.setIfInBounds_toArray, List.set_cons_zero, List.set_cons_succ]
    refine wpAnyH_done (by kernel_rfl) ?_ _
    clear hHeld r1 r2
    have mX : Mod (fun i => i = wd.heap.size) w12 (w12.setCell ⟨wd.heap.size, 0, none⟩ (.slice a5 zg.length c5)) := Mod.set (S := fun i => i = wd.heap.size) (Mod.refl _ _) (p := ⟨wd.heap.size, 0, none⟩) (.inl rfl) _
    have nX : Num wd.heap.size (w12.setCell ⟨wd.heap.size, 0, none⟩ (.slice a5 zg.length c5)) wd.heap.size (.slice a5 zg.length c5) zg := ⟨cell_on _ _ _ _ _ x0, by rw [frozen_set]; exact xf0, own_apart o5 (p := ⟨wd.heap.size, 0, none⟩) h5 _, h5⟩
    have q0' := mX.cellAt (g := w.heap.size + 2) (o := 0) (fun e => by have := unhide S0; omega) q0
    have qf0' := mX.looseAt (g := w.heap.size + 2) (o := 0) (fun e => by have := unhide S0; omega) (World.block_lt_of_cell? _ _ q0) qf0
    replace K := hide ((unhide K0).trans (kw.mod mX (fun i e => by omega)))
    have zX := mX.size
    clear p0 t0 q0 qf0 x0 xf0 o5 mX kw K0 h5 o3 o4
    have q0 := q0'
    have qf0 := qf0'
    clear q0' qf0'
    go_wp2_with fail
    generalize w12.setCell ⟨wd.heap.size, 0, none⟩ (.slice a5 zg.length c5) = wx at *
    refine (told_impl _ nX).mono ?_
    rintro e w13 ⟨v3', rfl, r3, k13⟩
    replace nX := nX.kept k13
    replace qf0 := k13.loose0 (World.block_lt_of_cell? _ _ q0) qf0
    replace q0 := k13.cell0 q0
    replace K := hide ((unhide K).trans k13)
    have z14 := k13.size
    clear k13
    clear nX
    have tq : tell zg = zg := by unfold tell; rw [if_pos lg]
    rw [tq] at r3
    rw [decide_eq_true lg]
    clear tq
    obtain ⟨a3', c3', hv⟩ := Row.form' r3
    subst hv
    have kn := (Kept.refl 0 0 w13).alloc (.cells #[.slice a3' zg.length c3'] 26)
    have m0 : (w13.alloc (.cells #[.slice a3' zg.length c3'] 26)).cell? ⟨w13.heap.size, 0, none⟩ = some (.slice a3' zg.length c3') := new_cell2 _ _ _ _ _ _ (by simp) rfl
    have sz15 : w13.heap.size + 1 = (w13.alloc (.cells #[.slice a3' zg.length c3'] 26)).heap.size := by simp
    have SZ15 := hide sz15
    replace sz15 := Nat.le_of_eq sz15
    replace r3 := r3.kept kn (by omega)
    replace qf0 := kn.loose0 (World.block_lt_of_cell? _ _ q0) qf0
    replace q0 := kn.cell0 q0
    replace K := hide ((unhide K).trans kn)
    have z16 := kn.size
    clear kn
    go_wp2_with fail
    generalize (w13.alloc (.cells #[.slice a3' zg.length c3'] 26)) = wn17 at *
    have hm1 : w.heap.size + 3 ≤ wx.heap.size := by have := unhide S0; omega
    have R := hide (((r3.set_other (p := ⟨w.heap.size + 2, 0, none⟩) (.inl (by have := unhide S0; dsimp only; omega)) (.slice a3' zg.length c3'))).tight.wider (lo' := w.heap.size) (by have := unhide S0; omega) (Nat.le_refl _))
    have K7 := hide ((unhide K).setNew (p := ⟨w.heap.size + 2, 0, none⟩) (by simp) (.slice a3' zg.length c3'))
    clear r3 K
    go_wp2_with fail
    exact bodyPost_ret (v := .agg #[.slice a3' zg.length c3']) (by simp [results, Try.results40, go_sem, q0]) rfl ⟨_, rfl, by rw [unhide HZ]; exact unhide R, unhide K7⟩

end Go.Proofs.Ytdhponfpikclhaa
