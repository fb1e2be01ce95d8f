/-
  Gcd1, Root1, Root2, Root3, in one text.
-/
import Derived.Test.YtdhponfpikclhaaDivS
import Derived.Deep.DeepCutAuto
import Derived.Test.YtdhponfpikclhaaNat12
import Derived.Test.YtdhponfpikclhaaNat13
import Derived.Test.YtdhponfpikclhaaPowNum
import Derived.Test.YtdhponfpikclhaaStep
import Derived.Test.YtdhponfpikclhaaDivI
import Derived.Test.YtdhponfpikclhaaPair
import Derived.Test.YtdhponfpikclhaaINat11
import Derived.Test.YtdhponfpikclhaaINat7
import Derived.Test.YtdhponfpikclhaaINat3
namespace Go.Proofs.Ytdhponfpikclhaa
open Go.RowKit
set_option linter.unusedVariables false
set_option maxRecDepth 8000
set_option linter.unusedSimpArgs false

/-- The integers of a slice, read from memory. -/
def readL (w : World) (v : Value) : List Int := match v with
  | .slice (some a) n _ => (List.range n).map fun j => match w.cell? ⟨a.block, a.off + j, none⟩ with
    | some (.int _ z) => z
    | _ => 0
  | _ => []
theorem readL_of {bw : Bool} {lo hi : Nat} {w : World} {v : Value} {zs : List Int} (r : Row .i64 bw lo hi w v zs) : readL w v = zs := by
  obtain ⟨a, c, rfl⟩ := Row.form' r
  have hc := (row_cell r).2.2.2
  cases a with
  | none =>
    cases zs with
    | nil => rfl
    | cons z t => obtain ⟨g, off, e, -⟩ := hc 0 (by simp); cases e
  | some ad =>
    have : ∀ j, j < zs.length → w.cell? ⟨ad.block, ad.off + j, none⟩ = some (.int .i64 (zs.getD j 0)) := by
      intro j hj
      obtain ⟨g, off, e, h⟩ := hc j hj
      cases e
      exact h
    unfold readL
    apply List.ext_getElem
    · simp
    · intro j h1 h2
      rw [List.getElem_map, List.getElem_range, this j h2]
      simp [List.getD, h2]
/-- The number whose limbs the cell g's list holds. -/
def valAt (w : World) (g : Nat) : Nat := match w.cell? ⟨g, 0, none⟩ with
  | some v => (val (readL w v)).toNat
  | none => 0
theorem valAt_of {bw : Bool} {lo hi g : Nat} {w : World} {v : Value} {zs : List Int} (hc : w.cell? ⟨g, 0, none⟩ = some v) (r : Row .i64 bw lo hi w v zs) : valAt w g = (val zs).toNat := by
  unfold valAt
  rw [hc]
  show (val (readL w v)).toNat = _
  rw [readL_of r]
theorem gcd_step {X Y : Int} (hX : 0 ≤ X) (hY : 0 < Y) : Nat.gcd Y.toNat (X % Y).toNat = Nat.gcd X.toNat Y.toNat := by
  obtain ⟨x, rfl⟩ : ∃ x : Nat, X = (x : Int) := ⟨X.toNat, by omega⟩
  obtain ⟨y, rfl⟩ : ∃ y : Nat, Y = (y : Int) := ⟨Y.toNat, by omega⟩
  rw [← Int.natCast_emod, Int.toNat_natCast, Int.toNat_natCast, Int.toNat_natCast, Nat.gcd_comm y, ← Nat.gcd_rec, Nat.gcd_comm]
/-- A list that lies outside three blocks. -/
def RowOut (R : Nat) (w : World) (v : Value) (zs : List Int) : Prop := ∃ l h, (h ≤ R ∨ R + 3 ≤ l) ∧ Row .i64 false l h w v zs
/-- What the common divisor's rounds keep. -/
structure Gcd (R : Nat) (w wr : World) (G : Nat) (u1 u2 : Value) (zs ts : List Int) : Prop where
  c1 : wr.cell? ⟨R, 0, none⟩ = some u1
  f1 : wr.frozen? ⟨R, 0, none⟩ = false
  c2 : wr.cell? ⟨R + 1, 0, none⟩ = some u2
  f2 : wr.frozen? ⟨R + 1, 0, none⟩ = false
  c3 : wr.cell? ⟨R + 2, 0, none⟩ = some (.slice none 0 0)
  f3 : wr.frozen? ⟨R + 2, 0, none⟩ = false
  r1 : RowOut R wr u1 zs
  r2 : RowOut R wr u2 ts
  n1 : Nrm zs
  n2 : Nrm ts
  l1 : zs.length ≤ 50000
  l2 : ts.length ≤ 50000
  g : Nat.gcd (val zs).toNat (val ts).toNat = G
  k : Kept 0 0 w wr

set_option maxHeartbeats 4000000 in
theorem gcd_spec {b1 b2 : Bool} {l1 h1 l2 h2 : Nat} {v1 v2 : Value} {xs ys : List Int} (w : World) (r1 : Row .i64 b1 l1 h1 w v1 xs) (r2 : Row .i64 b2 l2 h2 w v2 ys) (hx : Nrm xs) (hy : Nrm ys) (nx : xs.length ≤ 50000) (ny : ys.length ≤ 50000) :
    Calls Try.prog 124 #[.agg #[v1], .agg #[v2]] w fun e w' => ∃ v', e = .returned (.agg #[v']) ∧ Row .i64 true w.heap.size w'.heap.size w' v' (limbs (Nat.gcd (val xs).toNat (val ys).toNat)) ∧ Kept 0 0 w w' := by
  replace r1 := r1.read.tight
  replace r2 := r2.read.tight
  obtain ⟨G, hG⟩ : ∃ G, Nat.gcd (val xs).toNat (val ys).toNat = G := ⟨_, rfl⟩
  rw [hG]
  have k0 : Kept 0 0 w (((w.alloc (.cells #[v1] 26)).alloc (.cells #[v2] 26)).alloc (.cells #[.slice none 0 0] 26)) := ((((Kept.refl 0 0 w).alloc (.cells #[v1] 26)).alloc (.cells #[v2] 26)).alloc (.cells #[.slice none 0 0] 26))
  have p0 : (((w.alloc (.cells #[v1] 26)).alloc (.cells #[v2] 26)).alloc (.cells #[.slice none 0 0] 26)).cell? ⟨w.heap.size, 0, none⟩ = some (v1) := old_cell _ (old_cell _ (new_cell2 _ _ _ _ _ _ (by simp) rfl))
  have pf0 : (((w.alloc (.cells #[v1] 26)).alloc (.cells #[v2] 26)).alloc (.cells #[.slice none 0 0] 26)).frozen? ⟨w.heap.size, 0, none⟩ = false := loose_old (by simp <;> omega) (loose_old (by simp <;> omega) (new_loose2 _ _ _ _ _ (by simp)))
  have t0 : (((w.alloc (.cells #[v1] 26)).alloc (.cells #[v2] 26)).alloc (.cells #[.slice none 0 0] 26)).cell? ⟨w.heap.size + 1, 0, none⟩ = some (v2) := old_cell _ (new_cell2 _ _ _ _ _ _ (by simp) rfl)
  have tf0 : (((w.alloc (.cells #[v1] 26)).alloc (.cells #[v2] 26)).alloc (.cells #[.slice none 0 0] 26)).frozen? ⟨w.heap.size + 1, 0, none⟩ = false := loose_old (by simp <;> omega) (new_loose2 _ _ _ _ _ (by simp))
  have q0 : (((w.alloc (.cells #[v1] 26)).alloc (.cells #[v2] 26)).alloc (.cells #[.slice none 0 0] 26)).cell? ⟨w.heap.size + 2, 0, none⟩ = some (.slice none 0 0) := new_cell2 _ _ _ _ _ _ (by simp) rfl
  have qf0 : (((w.alloc (.cells #[v1] 26)).alloc (.cells #[v2] 26)).alloc (.cells #[.slice none 0 0] 26)).frozen? ⟨w.heap.size + 2, 0, none⟩ = false := new_loose2 _ _ _ _ _ (by simp)
  replace r1 := r1.kept k0 (by omega)
  replace r2 := r2.kept k0 (by omega)
  have s0 : (((w.alloc (.cells #[v1] 26)).alloc (.cells #[v2] 26)).alloc (.cells #[.slice none 0 0] 26)).heap.size = w.heap.size + 3 := by simp
  obtain ⟨a1, c1, hv⟩ := Row.form' r1
  subst hv
  obtain ⟨a2, c2, hv⟩ := Row.form' r2
  subst hv
  have K := hide (k0)
  clear k0
  have S0 := hide s0
  clear s0
  have G0 : Hid (Gcd w.heap.size w (((w.alloc (.cells #[.slice a1 xs.length c1] 26)).alloc (.cells #[.slice a2 ys.length c2] 26)).alloc (.cells #[.slice none 0 0] 26)) G (.slice a1 xs.length c1) (.slice a2 ys.length c2) xs ys) := Gcd.mk p0 pf0 t0 tf0 q0 qf0 ⟨_, _, .inl (Nat.le_refl _), r1⟩ ⟨_, _, .inl (Nat.le_refl _), r2⟩ hx hy nx ny hG (unhide K)
  clear hG
  go_enter Try.func124, Try.ntmps124
  go_wp2_with fail
  generalize (((w.alloc (.cells #[.slice a1 xs.length c1] 26)).alloc (.cells #[.slice a2 ys.length c2] 26)).alloc (.cells #[.slice none 0 0] 26)) = W at *
  clear r1 r2 p0 pf0 t0 tf0 q0 qf0 K
  go_loopw [] (fun wr => ∃ u1 u2 zs ts, Gcd w.heap.size w wr G u1 u2 zs ts ∧ w.heap.size + 3 ≤ wr.heap.size) (fun wr => valAt wr (w.heap.size + 1))
  case atStart => exact ⟨_, _, _, _, unhide G0, by have := unhide S0; omega⟩
  case round =>
    clear G0
    obtain ⟨u1, u2, zs, ts, gc, hsz⟩ := hrel
    obtain ⟨p0, pf0, t0, tf0, q0, qf0, ⟨l1, h1, o1, r1⟩, ⟨l2, h2, o2, r2⟩, n1, n2, m1, m2, hg, k0⟩ := gc
    have K := hide k0
    clear k0
    have hv := valAt_of t0 r2
    have HV := hide hv
    clear hv
    have hg0 := hide hg
    clear hg
    obtain ⟨a1', c1', hv⟩ := Row.form' r1
    subst hv
    obtain ⟨a2', c2', hv⟩ := Row.form' r2
    subst hv
    by_cases hl0 : 0 < ts.length
    · have hli : (0 : Int) < (ts.length : Int) := by omega
      have h0 : 0 < val ts := by
        have e1 := nrm_pow n2 (List.length_pos_iff.1 hl0)
        have : (0 : Int) < 65536 ^ (ts.length - 1) := Int.pow_pos (by decide)
        omega
      have hx0 := val_nonneg n1.1
      have hm0 := Int.emod_nonneg (val zs) (show val ts ≠ 0 by omega)
      have hm1 := Int.emod_lt_of_pos (val zs) h0
      have hgs := hide (gcd_step hx0 h0)
      have nr := limbs_nrm (val zs % val ts).toNat
      have vr := limbs_val (val zs % val ts).toNat
      have lr : (limbs (val zs % val ts).toNat).length ≤ 50000 := by
        have e : (val zs % val ts).toNat ≤ (val ts).toNat := by omega
        have := limbs_len_mono e
        rw [← nrm_limbs n2] at this
        omega
      obtain ⟨rr, hrr⟩ : ∃ rr, limbs (val zs % val ts).toNat = rr := ⟨_, rfl⟩
      obtain ⟨qq, hqq⟩ : ∃ qq, limbs (val zs / val ts).toNat = qq := ⟨_, rfl⟩
      rw [hrr] at nr vr lr
      have HR := hide hrr
      have HQ := hide hqq
      clear hrr hqq
      go_wp2_with fail
      have mk := div_spec wr r1 r2 n1.1 n2 m1 m2 h0
      rw [unhide HR, unhide HQ] at mk
      refine (mk).mono ?_
      rintro e w1 ⟨v3, v4, rfl, r3, r4, k1⟩
      replace r1 := r1.kept k1 (by omega)
      replace r2 := r2.kept k1 (by omega)
      replace pf0 := k1.loose0 (World.block_lt_of_cell? _ _ p0) pf0
      replace tf0 := k1.loose0 (World.block_lt_of_cell? _ _ t0) tf0
      replace qf0 := k1.loose0 (World.block_lt_of_cell? _ _ q0) qf0
      replace p0 := k1.cell0 p0
      replace t0 := k1.cell0 t0
      replace q0 := k1.cell0 q0
      replace K := hide ((unhide K).trans k1)
      have z2 := k1.size
      clear k1
      clear mk
      obtain ⟨a3, c3, hv⟩ := Row.form' r3
      subst hv
      obtain ⟨a4, c4, hv⟩ := Row.form' r4
      subst hv
      clear r3 r1
      have kn := (Kept.refl 0 0 w1).alloc (.cells #[.slice a3 qq.length c3] 26)
      have m0 : (w1.alloc (.cells #[.slice a3 qq.length c3] 26)).cell? ⟨w1.heap.size, 0, none⟩ = some (.slice a3 qq.length c3) := new_cell2 _ _ _ _ _ _ (by simp) rfl
      have sz3 : w1.heap.size + 1 = (w1.alloc (.cells #[.slice a3 qq.length c3] 26)).heap.size := by simp
      have SZ3 := hide sz3
      replace sz3 := Nat.le_of_eq sz3
      replace r2 := r2.kept kn (by omega)
      replace r4 := r4.kept kn (by omega)
      replace pf0 := kn.loose0 (World.block_lt_of_cell? _ _ p0) pf0
      replace tf0 := kn.loose0 (World.block_lt_of_cell? _ _ t0) tf0
      replace qf0 := kn.loose0 (World.block_lt_of_cell? _ _ q0) qf0
      replace p0 := kn.cell0 p0
      replace t0 := kn.cell0 t0
      replace q0 := kn.cell0 q0
      replace K := hide ((unhide K).trans kn)
      have z4 := kn.size
      clear kn
      have kn := (Kept.refl 0 0 (w1.alloc (.cells #[.slice a3 qq.length c3] 26))).alloc (.cells #[.slice a4 rr.length c4] 26)
      have n0 : ((w1.alloc (.cells #[.slice a3 qq.length c3] 26)).alloc (.cells #[.slice a4 rr.length c4] 26)).cell? ⟨w1.heap.size + 1, 0, none⟩ = some (.slice a4 rr.length c4) := new_cell2 _ _ _ _ _ _ (by simp) rfl
      have sz5 : (w1.alloc (.cells #[.slice a3 qq.length c3] 26)).heap.size + 1 = ((w1.alloc (.cells #[.slice a3 qq.length c3] 26)).alloc (.cells #[.slice a4 rr.length c4] 26)).heap.size := by simp
      have SZ5 := hide sz5
      replace sz5 := Nat.le_of_eq sz5
      replace r2 := r2.kept kn (by omega)
      replace r4 := r4.kept kn (by omega)
      replace pf0 := kn.loose0 (World.block_lt_of_cell? _ _ p0) pf0
      replace tf0 := kn.loose0 (World.block_lt_of_cell? _ _ t0) tf0
      replace qf0 := kn.loose0 (World.block_lt_of_cell? _ _ q0) qf0
      replace p0 := kn.cell0 p0
      replace t0 := kn.cell0 t0
      replace q0 := kn.cell0 q0
      replace m0 := kn.cell0 m0
      replace K := hide ((unhide K).trans kn)
      have z6 := kn.size
      clear kn
      have hn1 : ¬ w1.heap.size + 1 = w.heap.size := by omega
      have hn2 : ¬ w1.heap.size = w.heap.size := by omega
      have hn3 : ¬ w.heap.size = w1.heap.size + 1 := by omega
      go_wp2_with fail
      generalize ((w1.alloc (.cells #[.slice a3 qq.length c3] 26)).alloc (.cells #[.slice a4 rr.length c4] 26)) = wn7 at *
      have sS0 := unhide S0
      replace r2 := r2.set_other (p := ⟨w.heap.size, 0, none⟩) (by dsimp only; omega) (.slice a2' ts.length c2')
      replace r4 := r4.set_other (p := ⟨w.heap.size, 0, none⟩) (by dsimp only; omega) (.slice a2' ts.length c2')
      replace t0 := cell_aside (.slice a2' ts.length c2') (r := ⟨w.heap.size, 0, none⟩) (by dsimp only; omega) t0
      replace q0 := cell_aside (.slice a2' ts.length c2') (r := ⟨w.heap.size, 0, none⟩) (by dsimp only; omega) q0
      replace m0 := cell_aside (.slice a2' ts.length c2') (r := ⟨w.heap.size, 0, none⟩) (by dsimp only; omega) m0
      replace n0 := cell_aside (.slice a2' ts.length c2') (r := ⟨w.heap.size, 0, none⟩) (by dsimp only; omega) n0
      replace pf0 : (wn7.setCell ⟨w.heap.size, 0, none⟩ (.slice a2' ts.length c2')).frozen? _ = false := (frozen_set _ _ _ _ _).trans pf0
      replace tf0 : (wn7.setCell ⟨w.heap.size, 0, none⟩ (.slice a2' ts.length c2')).frozen? _ = false := (frozen_set _ _ _ _ _).trans tf0
      replace qf0 : (wn7.setCell ⟨w.heap.size, 0, none⟩ (.slice a2' ts.length c2')).frozen? _ = false := (frozen_set _ _ _ _ _).trans qf0
      replace p0 : (wn7.setCell ⟨w.heap.size, 0, none⟩ (.slice a2' ts.length c2')).cell? ⟨w.heap.size, 0, none⟩ = some (.slice a2' ts.length c2') := cell_on _ _ _ _ _ p0
      replace K := hide ((unhide K).setNew (p := ⟨w.heap.size, 0, none⟩) (by dsimp only; omega) (.slice a2' ts.length c2'))
      have zs8 : (wn7.setCell ⟨w.heap.size, 0, none⟩ (.slice a2' ts.length c2')).heap.size = wn7.heap.size := by simp [World.setCell]
      clear sS0
      generalize wn7.setCell ⟨w.heap.size, 0, none⟩ (.slice a2' ts.length c2') = ws8 at *
      have sS0 := unhide S0
      replace r2 := r2.set_other (p := ⟨w.heap.size + 1, 0, none⟩) (by dsimp only; omega) (.slice a4 rr.length c4)
      replace r4 := r4.set_other (p := ⟨w.heap.size + 1, 0, none⟩) (by dsimp only; omega) (.slice a4 rr.length c4)
      replace p0 := cell_aside (.slice a4 rr.length c4) (r := ⟨w.heap.size + 1, 0, none⟩) (by dsimp only; omega) p0
      replace q0 := cell_aside (.slice a4 rr.length c4) (r := ⟨w.heap.size + 1, 0, none⟩) (by dsimp only; omega) q0
      replace m0 := cell_aside (.slice a4 rr.length c4) (r := ⟨w.heap.size + 1, 0, none⟩) (by dsimp only; omega) m0
      replace n0 := cell_aside (.slice a4 rr.length c4) (r := ⟨w.heap.size + 1, 0, none⟩) (by dsimp only; omega) n0
      replace pf0 : (ws8.setCell ⟨w.heap.size + 1, 0, none⟩ (.slice a4 rr.length c4)).frozen? _ = false := (frozen_set _ _ _ _ _).trans pf0
      replace tf0 : (ws8.setCell ⟨w.heap.size + 1, 0, none⟩ (.slice a4 rr.length c4)).frozen? _ = false := (frozen_set _ _ _ _ _).trans tf0
      replace qf0 : (ws8.setCell ⟨w.heap.size + 1, 0, none⟩ (.slice a4 rr.length c4)).frozen? _ = false := (frozen_set _ _ _ _ _).trans qf0
      replace t0 : (ws8.setCell ⟨w.heap.size + 1, 0, none⟩ (.slice a4 rr.length c4)).cell? ⟨w.heap.size + 1, 0, none⟩ = some (.slice a4 rr.length c4) := cell_on _ _ _ _ _ t0
      replace K := hide ((unhide K).setNew (p := ⟨w.heap.size + 1, 0, none⟩) (by dsimp only; omega) (.slice a4 rr.length c4))
      have zs9 : (ws8.setCell ⟨w.heap.size + 1, 0, none⟩ (.slice a4 rr.length c4)).heap.size = ws8.heap.size := by simp [World.setCell]
      clear sS0
      generalize ws8.setCell ⟨w.heap.size + 1, 0, none⟩ (.slice a4 rr.length c4) = ws9 at *
      refine ⟨⟨_, _, ts, rr, ⟨p0, pf0, t0, tf0, q0, qf0, ⟨_, _, o2, r2⟩, ⟨_, _, .inr hsz, r4.read⟩, n2, nr, m2, lr, by rw [vr, Int.toNat_natCast, unhide hgs]; exact unhide hg0, unhide K⟩, by omega⟩, ?_⟩
      rw [valAt_of t0 r4, unhide HV, vr]
      omega
    · have hli : ¬ (0 : Int) < (ts.length : Int) := by omega
      have ht : ts = [] := List.length_eq_zero_iff.1 (by omega)
      have hGv : Hid (limbs (val zs).toNat = limbs G) := by
        show _ = _
        have := unhide hg0
        rw [ht] at this
        rw [← this, show (val []).toNat = 0 from rfl, Nat.gcd_zero_right]
      clear ht
      go_wp2_with fail
      have mk := norm_spec wr r1 n1.1 (by omega)
      rw [unhide hGv] at mk
      refine (mk).mono ?_
      rintro e w1 ⟨v3, rfl, r3, k1⟩
      replace r1 := r1.kept k1 (by omega)
      replace r2 := r2.kept k1 (by omega)
      replace pf0 := k1.loose0 (World.block_lt_of_cell? _ _ p0) pf0
      replace tf0 := k1.loose0 (World.block_lt_of_cell? _ _ t0) tf0
      replace qf0 := k1.loose0 (World.block_lt_of_cell? _ _ q0) qf0
      replace p0 := k1.cell0 p0
      replace t0 := k1.cell0 t0
      replace q0 := k1.cell0 q0
      replace K := hide ((unhide K).trans k1)
      have z2 := k1.size
      clear k1
      clear mk
      obtain ⟨zg, hzg⟩ : ∃ zg, limbs G = zg := ⟨_, rfl⟩
      rw [hzg] at r3
      have HG := hide hzg
      clear hzg
      obtain ⟨a3, c3, hv⟩ := Row.form' r3
      subst hv
      have R := hide (((r3.set_other (p := ⟨w.heap.size + 2, 0, none⟩) (.inl (by dsimp only; omega)) (.slice a3 zg.length c3))).tight.wider (lo' := w.heap.size) (by omega) (Nat.le_refl _))
      have K7 := hide ((unhide K).setNew (p := ⟨w.heap.size + 2, 0, none⟩) (by simp) (.slice a3 zg.length c3))
      clear r1 r2 r3 K
      go_wp2_with fail
      exact bodyPost_ret (v := .agg #[.slice a3 zg.length c3]) (by simp [results, Try.results124, go_sem, q0]) rfl ⟨_, rfl, by rw [unhide HG]; exact unhide R, unhide K7⟩

end Go.Proofs.Ytdhponfpikclhaa

namespace Go.Proofs.Ytdhponfpikclhaa
open Go.RowKit
set_option linter.unusedVariables false
set_option maxRecDepth 8000
set_option linter.unusedSimpArgs false

/-- The root's rounds: down from x as long as it goes down. -/
def newt (N x : Nat) : Nat := if h : (x + N / x) / 2 < x then newt N ((x + N / x) / 2) else x
  termination_by x
theorem newt_less {N x : Nat} (h : (x + N / x) / 2 < x) : newt N x = newt N ((x + N / x) / 2) := by
  rw [newt, dif_pos h]
theorem newt_stay {N x : Nat} (h : ¬ (x + N / x) / 2 < x) : newt N x = x := by
  rw [newt, dif_neg h]
theorem newt_le (N : Nat) : ∀ x : Nat, newt N x ≤ x := by
  intro x
  induction x using Nat.strongRecOn with
  | _ x ih =>
    by_cases h : (x + N / x) / 2 < x
    · rw [newt_less h]
      exact Nat.le_trans (ih _ h) (Nat.le_of_lt h)
    · rw [newt_stay h]
      exact Nat.le_refl _
theorem newt_next {N x : Nat} (hN : 0 < N) (hx : 0 < x) : 0 < (x + N / x) / 2 := by
  rcases Nat.lt_or_ge x 2 with h | h
  · have : x = 1 := by omega
    subst this
    rw [Nat.div_one]
    omega
  · generalize N / x = d
    omega
/-- Where the rounds begin. -/
def above (N : Nat) : Nat := 2 ^ ((bitsN N + 1) / 2)
def rootN (N : Nat) : Nat := if N = 0 then 0 else newt N (above N)
theorem above_len {N K : Nat} (h : bitsN N ≤ 16 * K) (hK : 0 < K) : (limbs (above N)).length ≤ K := by
  refine (limbs_len_two _ _).2 ?_
  unfold above
  exact Nat.pow_lt_pow_right (by decide) (by omega)
theorem rootN_len {N K : Nat} (h : bitsN N ≤ 16 * K) (hK : 0 < K) : (limbs (rootN N)).length ≤ K := by
  unfold rootN
  split
  · rw [limbs_zero]; simp
  · exact Nat.le_trans (limbs_len_mono (newt_le N _)) (above_len h hK)
theorem nrm_bits {xs : List Int} {K : Nat} (hx : Nrm xs) (l : xs.length ≤ K) : bitsN (val xs).toNat ≤ 16 * K := by
  refine (bitsN_le _ _).2 ?_
  exact (limbs_len_two (val xs).toNat K).1 (by rw [← nrm_limbs hx]; exact l)
theorem sum_len {a b K : Nat} (h1 : (limbs a).length ≤ K) (h2 : (limbs b).length ≤ K) : (limbs (a + b)).length ≤ K + 1 := by
  have e1 := (limbs_len_two _ _).1 h1
  have e2 := (limbs_len_two _ _).1 h2
  refine (limbs_len_two _ _).2 ?_
  have e : 2 ^ (16 * (K + 1)) = 2 ^ (16 * K) * 65536 := by rw [Nat.mul_add, Nat.pow_add]
  rw [e]
  generalize 2 ^ (16 * K) = T at *
  omega
/-- A list that lies outside the block X. -/
def RowOff (R X : Nat) (w : World) (v : Value) (zs : List Int) : Prop := ∃ l h, (X < l ∨ h ≤ X) ∧ R ≤ l ∧ Row .i64 true l h w v zs

theorem in_l2bits : ∀ (w : World) (args : Array Value), (callFunc 162 args).run Try.prog w = .ok (.enter 162 args) w := enters Try.func162 (by decide) (fun h => by cases h)

theorem in_l2shl : ∀ (w : World) (args : Array Value), (callFunc 161 args).run Try.prog w = .ok (.enter 161 args) w := enters Try.func161 (by decide) (fun h => by cases h)

theorem limbs_int_length' (n : Int) (hn : n ≤ 9223372036854775807) : (limbs n.toNat).length ≤ 4 := (limbs_length_le _ _).2 (by
    have : (65536 : Int) ^ 4 = 18446744073709551616 := by decide
    omega)

set_option maxHeartbeats 8000000 in
theorem root_spec {b1 : Bool} {l1 h1 : Nat} {v1 : Value} {xs : List Int} (w : World) (r1 : Row .i64 b1 l1 h1 w v1 xs) (hx : Nrm xs) (nx : xs.length ≤ 100) :
    Calls Try.prog 125 #[.agg #[v1]] w fun e w' => ∃ v', e = .returned (.agg #[v']) ∧ Row .i64 true w.heap.size w'.heap.size w' v' (limbs (rootN (val xs).toNat)) ∧ Kept 0 0 w w' := by
  replace r1 := r1.read.tight
  obtain ⟨N, hN⟩ : ∃ N : Nat, N = (val xs).toNat := ⟨_, rfl⟩
  rw [← hN]
  have hb := nrm_bits hx nx
  rw [← hN] at hb
  have hv0 := val_nonneg hx.1
  have k0 : Kept 0 0 w ((w.alloc (.cells #[v1] 26)).alloc (.cells #[.slice none 0 0] 26)) := (((Kept.refl 0 0 w).alloc (.cells #[v1] 26)).alloc (.cells #[.slice none 0 0] 26))
  have p0 : ((w.alloc (.cells #[v1] 26)).alloc (.cells #[.slice none 0 0] 26)).cell? ⟨w.heap.size, 0, none⟩ = some (v1) := old_cell _ (new_cell2 _ _ _ _ _ _ (by simp) rfl)
  have q0 : ((w.alloc (.cells #[v1] 26)).alloc (.cells #[.slice none 0 0] 26)).cell? ⟨w.heap.size + 1, 0, none⟩ = some (.slice none 0 0) := new_cell2 _ _ _ _ _ _ (by simp) rfl
  have qf0 : ((w.alloc (.cells #[v1] 26)).alloc (.cells #[.slice none 0 0] 26)).frozen? ⟨w.heap.size + 1, 0, none⟩ = false := new_loose2 _ _ _ _ _ (by simp)
  replace r1 := r1.kept k0 (by omega)
  have s0 : ((w.alloc (.cells #[v1] 26)).alloc (.cells #[.slice none 0 0] 26)).heap.size = w.heap.size + 2 := by simp
  obtain ⟨a1, c1, hv⟩ := Row.form' r1
  subst hv
  have K := hide (k0)
  clear k0
  have S0 := hide s0
  clear s0
  have HN := hide hN
  clear hN
  by_cases hl0 : xs.length = 0
  · have hl1 : ((xs.length : Int) == 0) = true := by simp [hl0]
    have e0 : Hid (rootN N = 0) := by
      show _ = _
      have : N = 0 := by rw [unhide HN, List.length_eq_zero_iff.1 hl0]; rfl
      rw [this]
      rfl
    clear r1 hl0
    go_enter Try.func125, Try.ntmps125
    go_wp2_with fail
    generalize ((w.alloc (.cells #[.slice a1 xs.length c1] 26)).alloc (.cells #[.slice none 0 0] 26)) = W at *
    exact bodyPost_ret (v := .agg #[.slice none 0 0]) (by simp [results, Try.results125, go_sem, q0]) rfl ⟨_, rfl, by rw [unhide e0, limbs_zero]; exact Row.nil _ _ _ _ _, unhide K⟩
  have hl1 : ((xs.length : Int) == 0) = false := beq_eq_false_iff_ne.2 (by omega)
  have hNp : 0 < N := by
    have e1 := nrm_pow hx (List.length_pos_iff.1 (show 0 < xs.length by omega))
    have : (0 : Int) < 65536 ^ (xs.length - 1) := Int.pow_pos (by decide)
    have := unhide HN
    omega
  have hRt : Hid (rootN N = newt N (above N)) := by show _ = _; unfold rootN; rw [if_neg (by omega)]
  obtain ⟨S, hS⟩ : ∃ S : Nat, S = (bitsN N + 1) / 2 := ⟨_, rfl⟩
  obtain ⟨b, hbb⟩ : ∃ b : Nat, b = bitsN N := ⟨_, rfl⟩
  rw [← hbb] at hS hb
  have hSb : S ≤ 800 := by omega
  have eS : IntKind.i64.wrap ((b : Int) + 1) = (b : Int) + 1 := wrap_small _ (by omega) (by omega)
  have eS2 : ((b : Int) + 1).tdiv 2 = (S : Int) := by rw [Int.tdiv_eq_ediv_of_nonneg (by omega)]; omega
  have eA : Hid (limbs ((val (limbs (1 : Int).toNat)).toNat * 2 ^ S) = limbs (above N)) := by
    show _ = _
    rw [limbs_val, hS, hbb]
    unfold above
    simp
  have eS3 : IntKind.i64.wrap (S : Int) = (S : Int) := wrap_small _ (by omega) (by omega)
  have HB := hide hbb
  clear hbb hS
  obtain ⟨za, hza⟩ : ∃ za, limbs (above N) = za := ⟨_, rfl⟩
  have HA := hide hza
  have lza := above_len (N := N) (K := 100) (by have := unhide HB; omega) (by decide)
  rw [hza] at lza
  clear hza
  rw [unhide HA] at eA
  have l1e : (limbs (1 : Int).toNat).length ≤ 50000 := by have := limbs_int_length' 1 (by decide); omega
  go_enter Try.func125, Try.ntmps125
  go_upto_region 3 with fail
  generalize ((w.alloc (.cells #[.slice a1 xs.length c1] 26)).alloc (.cells #[.slice none 0 0] 26)) = W at *
  go_cut [3] (fun p wx => ∃ X v, p = .pointer (some ⟨X, 0, none⟩) ∧ wx.cell? ⟨X, 0, none⟩ = some v ∧ wx.frozen? ⟨X, 0, none⟩ = false ∧ RowOff W.heap.size X wx v za ∧ W.heap.size ≤ X ∧ X < wx.heap.size ∧ Kept 0 0 W wx)
  case first =>
    have kw := Kept.refl 0 0 W
    have kd := (Kept.refl 0 0 W).drew
    replace r1 := r1.kept kd (by omega)
    replace kw := kw.trans kd
    replace qf0 := kd.loose0 (World.block_lt_of_cell? _ _ q0) qf0
    replace p0 := kd.cell0 p0
    replace q0 := kd.cell0 q0
    replace K := hide ((unhide K).trans kd)
    have z1 := kd.size
    clear kd
    refine wp_region_held_drew (S := (fun w' => w'.cell? ⟨w.heap.size, 0, none⟩ = some (.slice a1 xs.length c1))) (by kernel_rfl) ?_ (fun hHeld => ?_)
    · exact p0
    generalize W.drew = wd2 at *
    refine wpAnyH_take (i := 1) (oi := _) (v := .agg #[.slice a1 xs.length c1]) rfl (by kernel_rfl) (by kernel_rfl) (by kernel_rfl) (fun _ _ _ h => h) (Or.inl ⟨by rfl, ?_⟩) hHeld ?_
    · intro wq hSw
      try dsimp only at hSw
      go_simp
    try simp only [Act.put, List.getElem_toArray, List.getElem_cons_succ, List.getElem_cons_zero, List.setIfInBounds_toArray, List.set_cons_zero, List.set_cons_succ]
    refine wpAnyH_ready (rs := [0, 6]) (by kernel_rfl) (by simp) ?_
    refine AllReadyH.cons rfl (fun KK hK => ?_) (AllReadyH.cons rfl (fun KK hK => ?_) AllReadyH.nil)
    · simp only [List.getElem_toArray, List.getElem_cons_succ, List.getElem_cons_zero]
      rw [if_pos (by rfl)]
      refine wps1 101 (.const (.int .i64 1)) _ rfl in_l2of (.int .i64 1) rfl (of_spec _ 1 (by decide)) ?_
      rintro e w3 ⟨v2, rfl, r2, k3⟩
      refine ⟨_, rfl, ?_⟩
      replace r1 := r1.kept k3 (by omega)
      replace kw := kw.trans k3
      replace qf0 := k3.loose0 (World.block_lt_of_cell? _ _ q0) qf0
      replace p0 := k3.cell0 p0
      replace q0 := k3.cell0 q0
      replace K := hide ((unhide K).trans k3)
      have z4 := k3.size
      clear k3
      clear hHeld
      refine hK.out _ _ ?_ (fun hHeld => ?_)
      · exact p0
      clear hK KK
      try simp only [Act.put, List.getElem_toArray, List.getElem_cons_succ, List.getElem_cons_zero, List.setIfInBounds_toArray, List.set_cons_zero, List.set_cons_succ]
      refine wpAnyH_ready (rs := [2, 6]) (by kernel_rfl) (by simp) ?_
      refine AllReadyH.cons rfl (fun KK hK => ?_) (AllReadyH.cons rfl (fun KK hK => ?_) AllReadyH.nil)
      · simp only [List.getElem_toArray, List.getElem_cons_succ, List.getElem_cons_zero]
        rw [if_pos (by rfl)]
        refine wps1 162 (.tmp 13) _ rfl in_l2bits (.agg #[.slice a1 xs.length c1]) rfl (bits_spec _ r1 hx (by omega)) ?_
        rintro e w5 ⟨rfl, k5⟩
        refine ⟨_, rfl, ?_⟩
        replace r1 := r1.kept k5 (by omega)
        replace r2 := r2.kept k5 (by omega)
        replace kw := kw.trans k5
        replace qf0 := k5.loose0 (World.block_lt_of_cell? _ _ q0) qf0
        replace p0 := k5.cell0 p0
        replace q0 := k5.cell0 q0
        replace K := hide ((unhide K).trans k5)
        have z6 := k5.size
        clear k5
        rw [← unhide HN, ← unhide HB]
        clear hHeld
        refine hK.out _ _ ?_ (fun hHeld => ?_)
        · exact p0
        clear hK KK
        try simp only [Act.put, List.getElem_toArray, List.getElem_cons_succ, List.getElem_cons_zero, List.setIfInBounds_toArray, List.set_cons_zero, List.set_cons_succ]
        refine wpAnyH_take (i := 3) (oi := _) (v := .int .i64 ((b : Int) + 1)) rfl (by kernel_rfl) (by kernel_rfl) (by kernel_rfl) (fun _ _ _ h => h) (Or.inl ⟨by rfl, ?_⟩) hHeld ?_
        · intro wq hSw
          try dsimp only at hSw
          go_simp
        try simp only [Act.put, List.getElem_toArray, List.getElem_cons_succ, List.getElem_cons_zero, List.setIfInBounds_toArray, List.set_cons_zero, List.set_cons_succ]
        refine wpAnyH_take (i := 4) (oi := _) (v := .int .i64 (S : Int)) rfl (by kernel_rfl) (by kernel_rfl) (by kernel_rfl) (fun _ _ _ h => h) (Or.inl ⟨by rfl, ?_⟩) hHeld ?_
        · intro wq hSw
          try dsimp only at hSw
          go_simp
        try simp only [Act.put, List.getElem_toArray, List.getElem_cons_succ, List.getElem_cons_zero, List.setIfInBounds_toArray, List.set_cons_zero, List.set_cons_succ]
        refine wpAnyH_ready (rs := [5, 6]) (by kernel_rfl) (by simp) ?_
        refine AllReadyH.cons rfl (fun KK hK => ?_) (AllReadyH.cons rfl (fun KK hK => ?_) AllReadyH.nil)
        · simp only [List.getElem_toArray, List.getElem_cons_succ, List.getElem_cons_zero]
          rw [if_pos (by rfl)]
          refine wps2 161 (.tmp 12) (.tmp 16) _ rfl in_l2shl (.agg #[v2]) (.int .i64 (S : Int)) rfl rfl (shl_spec _ r2 (limbs_lim _) l1e S (.inr (by omega)) (by omega)) ?_
          rintro e w7 ⟨v3, rfl, r3, k7⟩
          refine ⟨_, rfl, ?_⟩
          replace r1 := r1.kept k7 (by omega)
          replace r2 := r2.kept k7 (by omega)
          replace kw := kw.trans k7
          replace qf0 := k7.loose0 (World.block_lt_of_cell? _ _ q0) qf0
          replace p0 := k7.cell0 p0
          replace q0 := k7.cell0 q0
          replace K := hide ((unhide K).trans k7)
          have z8 := k7.size
          clear k7
          rw [unhide eA] at r3
          obtain ⟨a3, c3, hv⟩ := Row.form' r3
          subst hv
          clear hHeld
          refine hK.out _ _ ?_ (fun hHeld => ?_)
          · exact p0
          clear hK KK
          try simp only [Act.put, List.getElem_toArray, List.getElem_cons_succ, List.getElem_cons_zero, List.setIfInBounds_toArray, List.set_cons_zero, List.set_cons_succ]
          refine wpAnyH_ready (rs := [6]) (by kernel_rfl) (by simp) ?_
          refine AllReadyH.cons rfl (fun KK hK => ?_) AllReadyH.nil
          simp only [List.getElem_toArray, List.getElem_cons_succ, List.getElem_cons_zero]
          rw [if_pos (by rfl)]
          go_simp
          have kn := (Kept.refl 0 0 w7).alloc (.cells #[.slice none 0 0] 26)
          replace r1 := r1.kept kn (by omega)
          replace r2 := r2.kept kn (by omega)
          replace r3 := r3.kept kn (by omega)
          replace kw := kw.trans kn
          replace qf0 := kn.loose0 (World.block_lt_of_cell? _ _ q0) qf0
          replace p0 := kn.cell0 p0
          replace q0 := kn.cell0 q0
          replace K := hide ((unhide K).trans kn)
          have z10 := kn.size
          clear kn
          have szx : w7.heap.size < (w7.alloc (.cells #[.slice none 0 0] 26)).heap.size := by simp
          have x0 : (w7.alloc (.cells #[.slice none 0 0] 26)).cell? ⟨w7.heap.size, 0, none⟩ = some (.slice none 0 0) := new_cell2 _ _ _ _ _ _ rfl rfl
          have xf0 : (w7.alloc (.cells #[.slice none 0 0] 26)).frozen? ⟨w7.heap.size, 0, none⟩ = false := new_loose2 _ _ _ _ _ rfl
          clear hHeld
          refine hK.out _ _ ?_ (fun hHeld => ?_)
          · exact p0
          clear hK KK
          try simp only [Act.put, List.getElem_toArray, List.getElem_cons_succ, List.getElem_cons_zero, List.setIfInBounds_toArray, List.set_cons_zero, List.set_cons_succ]
          generalize w7.alloc (.cells #[.slice none 0 0] 26) = w9 at *
          refine wpAnyH_ready (rs := [7]) (by kernel_rfl) (by simp) ?_
          refine AllReadyH.cons rfl (fun KK hK => ?_) AllReadyH.nil
          simp only [List.getElem_toArray, List.getElem_cons_succ, List.getElem_cons_zero]
          rw [if_pos (by rfl)]
          go_simp
          clear hHeld
          refine hK.out _ _ ?_ (fun hHeld => ?_)
          · exact cell_aside _ (by have := unhide S0; dsimp only; omega) p0
          clear hK KK
          try simp only [Act.put, List.getElem_toArray, List.getElem_cons_succ, List.getElem_cons_zero, List.setIfInBounds_toArray, List.set_cons_zero, List.set_cons_succ]
          refine wpAnyH_done (by kernel_rfl) ?_ _
          clear hHeld
          go_wp2_with fail
          go_meet
          exact ⟨_, _, rfl, cell_on _ _ _ _ _ x0, by rw [frozen_set]; exact xf0, ⟨_, _, by omega, by omega, (r3.set_other (p := ⟨w7.heap.size, 0, none⟩) (by dsimp only; omega) _)⟩, by omega, by rw [size_set]; exact World.block_lt_of_cell? _ _ x0, kw.setNew (p := ⟨w7.heap.size, 0, none⟩) (by dsimp only; omega) _⟩
        · simp only [List.getElem_toArray, List.getElem_cons_succ, List.getElem_cons_zero]
          rw [if_pos (by rfl)]
          go_simp
          have kn := (Kept.refl 0 0 w5).alloc (.cells #[.slice none 0 0] 26)
          replace r1 := r1.kept kn (by omega)
          replace r2 := r2.kept kn (by omega)
          replace kw := kw.trans kn
          replace qf0 := kn.loose0 (World.block_lt_of_cell? _ _ q0) qf0
          replace p0 := kn.cell0 p0
          replace q0 := kn.cell0 q0
          replace K := hide ((unhide K).trans kn)
          have z8 := kn.size
          clear kn
          have szx : w5.heap.size < (w5.alloc (.cells #[.slice none 0 0] 26)).heap.size := by simp
          have x0 : (w5.alloc (.cells #[.slice none 0 0] 26)).cell? ⟨w5.heap.size, 0, none⟩ = some (.slice none 0 0) := new_cell2 _ _ _ _ _ _ rfl rfl
          have xf0 : (w5.alloc (.cells #[.slice none 0 0] 26)).frozen? ⟨w5.heap.size, 0, none⟩ = false := new_loose2 _ _ _ _ _ rfl
          clear hHeld
          refine hK.out _ _ ?_ (fun hHeld => ?_)
          · exact p0
          clear hK KK
          try simp only [Act.put, List.getElem_toArray, List.getElem_cons_succ, List.getElem_cons_zero, List.setIfInBounds_toArray, List.set_cons_zero, List.set_cons_succ]
          generalize w5.alloc (.cells #[.slice none 0 0] 26) = w7 at *
          refine wpAnyH_ready (rs := [5]) (by kernel_rfl) (by simp) ?_
          refine AllReadyH.cons rfl (fun KK hK => ?_) AllReadyH.nil
          simp only [List.getElem_toArray, List.getElem_cons_succ, List.getElem_cons_zero]
          rw [if_pos (by rfl)]
          refine wps2 161 (.tmp 12) (.tmp 16) _ rfl in_l2shl (.agg #[v2]) (.int .i64 (S : Int)) rfl rfl (shl_spec _ r2 (limbs_lim _) l1e S (.inr (by omega)) (by omega)) ?_
          rintro e w9 ⟨v3, rfl, r3, k9⟩
          refine ⟨_, rfl, ?_⟩
          replace r1 := r1.kept k9 (by omega)
          replace r2 := r2.kept k9 (by omega)
          replace kw := kw.trans k9
          replace qf0 := k9.loose0 (World.block_lt_of_cell? _ _ q0) qf0
          replace xf0 := k9.loose0 (World.block_lt_of_cell? _ _ x0) xf0
          replace p0 := k9.cell0 p0
          replace q0 := k9.cell0 q0
          replace x0 := k9.cell0 x0
          replace K := hide ((unhide K).trans k9)
          have z10 := k9.size
          clear k9
          rw [unhide eA] at r3
          obtain ⟨a3, c3, hv⟩ := Row.form' r3
          subst hv
          clear hHeld
          refine hK.out _ _ ?_ (fun hHeld => ?_)
          · exact p0
          clear hK KK
          try simp only [Act.put, List.getElem_toArray, List.getElem_cons_succ, List.getElem_cons_zero, List.setIfInBounds_toArray, List.set_cons_zero, List.set_cons_succ]
          refine wpAnyH_ready (rs := [7]) (by kernel_rfl) (by simp) ?_
          refine AllReadyH.cons rfl (fun KK hK => ?_) AllReadyH.nil
          simp only [List.getElem_toArray, List.getElem_cons_succ, List.getElem_cons_zero]
          rw [if_pos (by rfl)]
          go_simp
          clear hHeld
          refine hK.out _ _ ?_ (fun hHeld => ?_)
          · exact cell_aside _ (by have := unhide S0; dsimp only; omega) p0
          clear hK KK
          try simp only [Act.put, List.getElem_toArray, List.getElem_cons_succ, List.getElem_cons_zero, List.setIfInBounds_toArray, List.set_cons_zero, List.set_cons_succ]
          refine wpAnyH_done (by kernel_rfl) ?_ _
          clear hHeld
          go_wp2_with fail
          go_meet
          exact ⟨_, _, rfl, cell_on _ _ _ _ _ x0, by rw [frozen_set]; exact xf0, ⟨_, _, by omega, by omega, (r3.set_other (p := ⟨w5.heap.size, 0, none⟩) (by dsimp only; omega) _)⟩, by omega, by rw [size_set]; exact World.block_lt_of_cell? _ _ x0, kw.setNew (p := ⟨w5.heap.size, 0, none⟩) (by dsimp only; omega) _⟩
      · simp only [List.getElem_toArray, List.getElem_cons_succ, List.getElem_cons_zero]
        rw [if_pos (by rfl)]
        go_simp
        have kn := (Kept.refl 0 0 w3).alloc (.cells #[.slice none 0 0] 26)
        replace r1 := r1.kept kn (by omega)
        replace r2 := r2.kept kn (by omega)
        replace kw := kw.trans kn
        replace qf0 := kn.loose0 (World.block_lt_of_cell? _ _ q0) qf0
        replace p0 := kn.cell0 p0
        replace q0 := kn.cell0 q0
        replace K := hide ((unhide K).trans kn)
        have z6 := kn.size
        clear kn
        have szx : w3.heap.size < (w3.alloc (.cells #[.slice none 0 0] 26)).heap.size := by simp
        have x0 : (w3.alloc (.cells #[.slice none 0 0] 26)).cell? ⟨w3.heap.size, 0, none⟩ = some (.slice none 0 0) := new_cell2 _ _ _ _ _ _ rfl rfl
        have xf0 : (w3.alloc (.cells #[.slice none 0 0] 26)).frozen? ⟨w3.heap.size, 0, none⟩ = false := new_loose2 _ _ _ _ _ rfl
        clear hHeld
        refine hK.out _ _ ?_ (fun hHeld => ?_)
        · exact p0
        clear hK KK
        try simp only [Act.put, List.getElem_toArray, List.getElem_cons_succ, List.getElem_cons_zero, List.setIfInBounds_toArray, List.set_cons_zero, List.set_cons_succ]
        generalize w3.alloc (.cells #[.slice none 0 0] 26) = w5 at *
        refine wpAnyH_ready (rs := [2]) (by kernel_rfl) (by simp) ?_
        refine AllReadyH.cons rfl (fun KK hK => ?_) AllReadyH.nil
        simp only [List.getElem_toArray, List.getElem_cons_succ, List.getElem_cons_zero]
        rw [if_pos (by rfl)]
        refine wps1 162 (.tmp 13) _ rfl in_l2bits (.agg #[.slice a1 xs.length c1]) rfl (bits_spec _ r1 hx (by omega)) ?_
        rintro e w7 ⟨rfl, k7⟩
        refine ⟨_, rfl, ?_⟩
        replace r1 := r1.kept k7 (by omega)
        replace r2 := r2.kept k7 (by omega)
        replace kw := kw.trans k7
        replace qf0 := k7.loose0 (World.block_lt_of_cell? _ _ q0) qf0
        replace xf0 := k7.loose0 (World.block_lt_of_cell? _ _ x0) xf0
        replace p0 := k7.cell0 p0
        replace q0 := k7.cell0 q0
        replace x0 := k7.cell0 x0
        replace K := hide ((unhide K).trans k7)
        have z8 := k7.size
        clear k7
        rw [← unhide HN, ← unhide HB]
        clear hHeld
        refine hK.out _ _ ?_ (fun hHeld => ?_)
        · exact p0
        clear hK KK
        try simp only [Act.put, List.getElem_toArray, List.getElem_cons_succ, List.getElem_cons_zero, List.setIfInBounds_toArray, List.set_cons_zero, List.set_cons_succ]
        refine wpAnyH_take (i := 3) (oi := _) (v := .int .i64 ((b : Int) + 1)) rfl (by kernel_rfl) (by kernel_rfl) (by kernel_rfl) (fun _ _ _ h => h) (Or.inl ⟨by rfl, ?_⟩) hHeld ?_
        · intro wq hSw
          try dsimp only at hSw
          go_simp
        try simp only [Act.put, List.getElem_toArray, List.getElem_cons_succ, List.getElem_cons_zero, List.setIfInBounds_toArray, List.set_cons_zero, List.set_cons_succ]
        refine wpAnyH_take (i := 4) (oi := _) (v := .int .i64 (S : Int)) rfl (by kernel_rfl) (by kernel_rfl) (by kernel_rfl) (fun _ _ _ h => h) (Or.inl ⟨by rfl, ?_⟩) hHeld ?_
        · intro wq hSw
          try dsimp only at hSw
          go_simp
        try simp only [Act.put, List.getElem_toArray, List.getElem_cons_succ, List.getElem_cons_zero, List.setIfInBounds_toArray, List.set_cons_zero, List.set_cons_succ]
        refine wpAnyH_ready (rs := [5]) (by kernel_rfl) (by simp) ?_
        refine AllReadyH.cons rfl (fun KK hK => ?_) AllReadyH.nil
        simp only [List.getElem_toArray, List.getElem_cons_succ, List.getElem_cons_zero]
        rw [if_pos (by rfl)]
        refine wps2 161 (.tmp 12) (.tmp 16) _ rfl in_l2shl (.agg #[v2]) (.int .i64 (S : Int)) rfl rfl (shl_spec _ r2 (limbs_lim _) l1e S (.inr (by omega)) (by omega)) ?_
        rintro e w9 ⟨v3, rfl, r3, k9⟩
        refine ⟨_, rfl, ?_⟩
        replace r1 := r1.kept k9 (by omega)
        replace r2 := r2.kept k9 (by omega)
        replace kw := kw.trans k9
        replace qf0 := k9.loose0 (World.block_lt_of_cell? _ _ q0) qf0
        replace xf0 := k9.loose0 (World.block_lt_of_cell? _ _ x0) xf0
        replace p0 := k9.cell0 p0
        replace q0 := k9.cell0 q0
        replace x0 := k9.cell0 x0
        replace K := hide ((unhide K).trans k9)
        have z10 := k9.size
        clear k9
        rw [unhide eA] at r3
        obtain ⟨a3, c3, hv⟩ := Row.form' r3
        subst hv
        clear hHeld
        refine hK.out _ _ ?_ (fun hHeld => ?_)
        · exact p0
        clear hK KK
        try simp only [Act.put, List.getElem_toArray, List.getElem_cons_succ, List.getElem_cons_zero, List.setIfInBounds_toArray, List.set_cons_zero, List.set_cons_succ]
        refine wpAnyH_ready (rs := [7]) (by kernel_rfl) (by simp) ?_
        refine AllReadyH.cons rfl (fun KK hK => ?_) AllReadyH.nil
        simp only [List.getElem_toArray, List.getElem_cons_succ, List.getElem_cons_zero]
        rw [if_pos (by rfl)]
        go_simp
        clear hHeld
        refine hK.out _ _ ?_ (fun hHeld => ?_)
        · exact cell_aside _ (by have := unhide S0; dsimp only; omega) p0
        clear hK KK
        try simp only [Act.put, List.getElem_toArray, List.getElem_cons_succ, List.getElem_cons_zero, List.setIfInBounds_toArray, List.set_cons_zero, List.set_cons_succ]
        refine wpAnyH_done (by kernel_rfl) ?_ _
        clear hHeld
        go_wp2_with fail
        go_meet
        exact ⟨_, _, rfl, cell_on _ _ _ _ _ x0, by rw [frozen_set]; exact xf0, ⟨_, _, by omega, by omega, (r3.set_other (p := ⟨w3.heap.size, 0, none⟩) (by dsimp only; omega) _)⟩, by omega, by rw [size_set]; exact World.block_lt_of_cell? _ _ x0, kw.setNew (p := ⟨w3.heap.size, 0, none⟩) (by dsimp only; omega) _⟩
    · simp only [List.getElem_toArray, List.getElem_cons_succ, List.getElem_cons_zero]
      rw [if_pos (by rfl)]
      go_simp
      have kn := (Kept.refl 0 0 wd2).alloc (.cells #[.slice none 0 0] 26)
      replace r1 := r1.kept kn (by omega)
      replace kw := kw.trans kn
      replace qf0 := kn.loose0 (World.block_lt_of_cell? _ _ q0) qf0
      replace p0 := kn.cell0 p0
      replace q0 := kn.cell0 q0
      replace K := hide ((unhide K).trans kn)
      have z4 := kn.size
      clear kn
      have szx : wd2.heap.size < (wd2.alloc (.cells #[.slice none 0 0] 26)).heap.size := by simp
      have x0 : (wd2.alloc (.cells #[.slice none 0 0] 26)).cell? ⟨wd2.heap.size, 0, none⟩ = some (.slice none 0 0) := new_cell2 _ _ _ _ _ _ rfl rfl
      have xf0 : (wd2.alloc (.cells #[.slice none 0 0] 26)).frozen? ⟨wd2.heap.size, 0, none⟩ = false := new_loose2 _ _ _ _ _ rfl
      clear hHeld
      refine hK.out _ _ ?_ (fun hHeld => ?_)
      · exact p0
      clear hK KK
      try simp only [Act.put, List.getElem_toArray, List.getElem_cons_succ, List.getElem_cons_zero, List.setIfInBounds_toArray, List.set_cons_zero, List.set_cons_succ]
      generalize wd2.alloc (.cells #[.slice none 0 0] 26) = w3 at *
      refine wpAnyH_ready (rs := [0]) (by kernel_rfl) (by simp) ?_
      refine AllReadyH.cons rfl (fun KK hK => ?_) AllReadyH.nil
      simp only [List.getElem_toArray, List.getElem_cons_succ, List.getElem_cons_zero]
      rw [if_pos (by rfl)]
      refine wps1 101 (.const (.int .i64 1)) _ rfl in_l2of (.int .i64 1) rfl (of_spec _ 1 (by decide)) ?_
      rintro e w5 ⟨v2, rfl, r2, k5⟩
      refine ⟨_, rfl, ?_⟩
      replace r1 := r1.kept k5 (by omega)
      replace kw := kw.trans k5
      replace qf0 := k5.loose0 (World.block_lt_of_cell? _ _ q0) qf0
      replace xf0 := k5.loose0 (World.block_lt_of_cell? _ _ x0) xf0
      replace p0 := k5.cell0 p0
      replace q0 := k5.cell0 q0
      replace x0 := k5.cell0 x0
      replace K := hide ((unhide K).trans k5)
      have z6 := k5.size
      clear k5
      clear hHeld
      refine hK.out _ _ ?_ (fun hHeld => ?_)
      · exact p0
      clear hK KK
      try simp only [Act.put, List.getElem_toArray, List.getElem_cons_succ, List.getElem_cons_zero, List.setIfInBounds_toArray, List.set_cons_zero, List.set_cons_succ]
      refine wpAnyH_ready (rs := [2]) (by kernel_rfl) (by simp) ?_
      refine AllReadyH.cons rfl (fun KK hK => ?_) AllReadyH.nil
      simp only [List.getElem_toArray, List.getElem_cons_succ, List.getElem_cons_zero]
      rw [if_pos (by rfl)]
      refine wps1 162 (.tmp 13) _ rfl in_l2bits (.agg #[.slice a1 xs.length c1]) rfl (bits_spec _ r1 hx (by omega)) ?_
      rintro e w7 ⟨rfl, k7⟩
      refine ⟨_, rfl, ?_⟩
      replace r1 := r1.kept k7 (by omega)
      replace r2 := r2.kept k7 (by omega)
      replace kw := kw.trans k7
      replace qf0 := k7.loose0 (World.block_lt_of_cell? _ _ q0) qf0
      replace xf0 := k7.loose0 (World.block_lt_of_cell? _ _ x0) xf0
      replace p0 := k7.cell0 p0
      replace q0 := k7.cell0 q0
      replace x0 := k7.cell0 x0
      replace K := hide ((unhide K).trans k7)
      have z8 := k7.size
      clear k7
      rw [← unhide HN, ← unhide HB]
      clear hHeld
      refine hK.out _ _ ?_ (fun hHeld => ?_)
      · exact p0
      clear hK KK
      try simp only [Act.put, List.getElem_toArray, List.getElem_cons_succ, List.getElem_cons_zero, List.setIfInBounds_toArray, List.set_cons_zero, List.set_cons_succ]
      refine wpAnyH_take (i := 3) (oi := _) (v := .int .i64 ((b : Int) + 1)) rfl (by kernel_rfl) (by kernel_rfl) (by kernel_rfl) (fun _ _ _ h => h) (Or.inl ⟨by rfl, ?_⟩) hHeld ?_
      · intro wq hSw
        try dsimp only at hSw
        go_simp
      try simp only [Act.put, List.getElem_toArray, List.getElem_cons_succ, List.getElem_cons_zero, List.setIfInBounds_toArray, List.set_cons_zero, List.set_cons_succ]
      refine wpAnyH_take (i := 4) (oi := _) (v := .int .i64 (S : Int)) rfl (by kernel_rfl) (by kernel_rfl) (by kernel_rfl) (fun _ _ _ h => h) (Or.inl ⟨by rfl, ?_⟩) hHeld ?_
      · intro wq hSw
        try dsimp only at hSw
        go_simp
      try simp only [Act.put, List.getElem_toArray, List.getElem_cons_succ, List.getElem_cons_zero, List.setIfInBounds_toArray, List.set_cons_zero, List.set_cons_succ]
      refine wpAnyH_ready (rs := [5]) (by kernel_rfl) (by simp) ?_
      refine AllReadyH.cons rfl (fun KK hK => ?_) AllReadyH.nil
      simp only [List.getElem_toArray, List.getElem_cons_succ, List.getElem_cons_zero]
      rw [if_pos (by rfl)]
      refine wps2 161 (.tmp 12) (.tmp 16) _ rfl in_l2shl (.agg #[v2]) (.int .i64 (S : Int)) rfl rfl (shl_spec _ r2 (limbs_lim _) l1e S (.inr (by omega)) (by omega)) ?_
      rintro e w9 ⟨v3, rfl, r3, k9⟩
      refine ⟨_, rfl, ?_⟩
      replace r1 := r1.kept k9 (by omega)
      replace r2 := r2.kept k9 (by omega)
      replace kw := kw.trans k9
      replace qf0 := k9.loose0 (World.block_lt_of_cell? _ _ q0) qf0
      replace xf0 := k9.loose0 (World.block_lt_of_cell? _ _ x0) xf0
      replace p0 := k9.cell0 p0
      replace q0 := k9.cell0 q0
      replace x0 := k9.cell0 x0
      replace K := hide ((unhide K).trans k9)
      have z10 := k9.size
      clear k9
      rw [unhide eA] at r3
      obtain ⟨a3, c3, hv⟩ := Row.form' r3
      subst hv
      clear hHeld
      refine hK.out _ _ ?_ (fun hHeld => ?_)
      · exact p0
      clear hK KK
      try simp only [Act.put, List.getElem_toArray, List.getElem_cons_succ, List.getElem_cons_zero, List.setIfInBounds_toArray, List.set_cons_zero, List.set_cons_succ]
      refine wpAnyH_ready (rs := [7]) (by kernel_rfl) (by simp) ?_
      refine AllReadyH.cons rfl (fun KK hK => ?_) AllReadyH.nil
      simp only [List.getElem_toArray, List.getElem_cons_succ, List.getElem_cons_zero]
      rw [if_pos (by rfl)]
      go_simp
      clear hHeld
      refine hK.out _ _ ?_ (fun hHeld => ?_)
      · exact cell_aside _ (by have := unhide S0; dsimp only; omega) p0
      clear hK KK
      try simp only [Act.put, List.getElem_toArray, List.getElem_cons_succ, List.getElem_cons_zero, List.setIfInBounds_toArray, List.set_cons_zero, List.set_cons_succ]
      refine wpAnyH_done (by kernel_rfl) ?_ _
      clear hHeld
      go_wp2_with fail
      go_meet
      exact ⟨_, _, rfl, cell_on _ _ _ _ _ x0, by rw [frozen_set]; exact xf0, ⟨_, _, by omega, by omega, (r3.set_other (p := ⟨wd2.heap.size, 0, none⟩) (by dsimp only; omega) _)⟩, by omega, by rw [size_set]; exact World.block_lt_of_cell? _ _ x0, kw.setNew (p := ⟨wd2.heap.size, 0, none⟩) (by dsimp only; omega) _⟩
  case rest =>
    obtain ⟨X, u0, rfl, cX, fX, rX, hX, hXs, kk⟩ := hcut
    replace r1 := r1.kept kk (by omega)
    replace qf0 := kk.loose0 (World.block_lt_of_cell? _ _ q0) qf0
    replace p0 := kk.cell0 p0
    replace q0 := kk.cell0 q0
    replace K := hide ((unhide K).trans kk)
    have z1 := kk.size
    clear kk
    have nza : Nrm za := by rw [← unhide HA]; exact limbs_nrm _
    have vza : val za = (above N : Int) := by rw [← unhide HA]; exact limbs_val _
    have pza : 0 < above N := Nat.pow_pos (by decide)
    have hW := unhide S0
    have I0 := hide (show newt N (val za).toNat = newt N (above N) by rw [vza, Int.toNat_natCast])
    rw [hW] at rX hX
    clear hl1 eS eS2 eS3 eA l1e hSb hW
    go_wp2_with fail
    go_loopw [] (fun wr => ∃ u zs, wr.cell? ⟨X, 0, none⟩ = some u ∧ wr.frozen? ⟨X, 0, none⟩ = false ∧ RowOff (w.heap.size + 2) X wr u zs ∧ Nrm zs ∧ 0 < val zs ∧ zs.length ≤ 100 ∧ Hid (newt N (val zs).toNat = newt N (above N)) ∧ wr.cell? ⟨w.heap.size, 0, none⟩ = some (.slice a1 xs.length c1) ∧ wr.cell? ⟨w.heap.size + 1, 0, none⟩ = some (.slice none 0 0) ∧ wr.frozen? ⟨w.heap.size + 1, 0, none⟩ = false ∧ Row .i64 false l1 w.heap.size wr (.slice a1 xs.length c1) xs ∧ Kept 0 0 w wr ∧ X < wr.heap.size) (fun wr => valAt wr X)
    case atStart => exact ⟨_, _, cX, fX, rX, nza, by omega, lza, I0, p0, q0, qf0, r1, unhide K, hXs⟩
    case round =>
      clear cX fX rX p0 q0 qf0 r1 K hXs I0 nza vza
      obtain ⟨u, zs, cX, fX, ⟨lX, hX', oX, bX, rX⟩, hz, hz0, lz, hI, p0, q0, qf0, r1, k0, hXs⟩ := hrel
      have K := hide k0
      clear k0
      have HV := hide (valAt_of cX rX)
      obtain ⟨a2, c2, hv⟩ := Row.form' rX
      subst hv
      obtain ⟨x, hx1⟩ : ∃ x : Nat, x = (val zs).toNat := ⟨_, rfl⟩
      have hxi : val zs = (x : Int) := by omega
      have hNi : val xs = (N : Int) := by have := unhide HN; omega
      rw [← hx1] at hI HV
      have hq : Hid ((val xs / val zs).toNat = N / x) := by show _ = _; rw [hxi, hNi, ← Int.natCast_ediv, Int.toNat_natCast]
      have e5 : Hid ((val zs + val (limbs (N / x))).toNat = x + N / x) := by show _ = _; rw [limbs_val, hxi]; generalize N / x = d; omega
      have e6 : Hid ((val (limbs (x + N / x))).toNat / 2 ^ 1 = (x + N / x) / 2) := by show _ = _; rw [limbs_val, Int.toNat_natCast]
      have lq : (limbs (N / x)).length ≤ 100 := by
        have e := limbs_len_mono (Nat.div_le_self N x)
        have e2 := nrm_limbs hx
        rw [← unhide HN] at e2
        rw [← e2] at e
        omega
      have ls : (limbs (x + N / x)).length ≤ 101 := sum_len (K := 100) (by rw [hx1, ← nrm_limbs hz]; exact lz) lq
      have hyp := newt_next (x := x) hNp (by omega)
      obtain ⟨y, hy⟩ : ∃ y, y = (x + N / x) / 2 := ⟨_, rfl⟩
      rw [← hy] at e6 hyp
      have HY := hide hy
      clear hy
      obtain ⟨qq, hqq⟩ : ∃ l, limbs (N / x) = l := ⟨_, rfl⟩
      obtain ⟨ss, hss⟩ : ∃ l, limbs (x + N / x) = l := ⟨_, rfl⟩
      obtain ⟨yy, hyy⟩ : ∃ l, limbs y = l := ⟨_, rfl⟩
      obtain ⟨mm, hmm⟩ : ∃ l, limbs (val xs % val zs).toNat = l := ⟨_, rfl⟩
      have nyy : Nrm yy := by rw [← hyy]; exact limbs_nrm _
      have vyy : val yy = (y : Int) := by rw [← hyy]; exact limbs_val _
      have qlim : Lim qq := by rw [← hqq]; exact limbs_lim _
      have slim : Lim ss := by rw [← hss]; exact limbs_lim _
      rw [hqq] at lq e5
      rw [hss] at ls e6
      have EQQ := hide hqq
      have ESS := hide hss
      have EYY := hide hyy
      have EMM := hide hmm
      clear hqq hss hyy hmm hx1
      have mk := div_spec wr r1 rX hx.1 hz (by omega) (by omega) hz0
      rw [unhide hq, unhide EQQ, unhide EMM] at mk
      skip
      obtain ⟨c, hc⟩ : ∃ c, cmpI (val yy) (val zs) = c := ⟨_, rfl⟩
      have HC := hide hc
      have hcc : (y < x → c = -1) ∧ (¬ y < x → 0 ≤ c) := by
        rw [← hc, vyy, hxi]
        unfold cmpI
        refine ⟨fun h => ?_, fun h => ?_⟩
        · rw [if_pos (by omega)]
        · rw [if_neg (by omega)]; split <;> decide
      clear hc
      go_wp2_with fail
      refine (mk).mono ?_
      rintro e w2 ⟨v3, v4, rfl, r3, r4, k2⟩
      replace r1 := r1.kept k2 (by omega)
      replace rX := rX.kept k2 (by omega)
      replace qf0 := k2.loose0 (World.block_lt_of_cell? _ _ q0) qf0
      replace fX := k2.loose0 (World.block_lt_of_cell? _ _ cX) fX
      replace p0 := k2.cell0 p0
      replace q0 := k2.cell0 q0
      replace cX := k2.cell0 cX
      replace K := hide ((unhide K).trans k2)
      have z3 := k2.size
      clear k2
      clear mk
      obtain ⟨a3, c3, hv⟩ := Row.form' r3
      subst hv
      obtain ⟨a4, c4, hv⟩ := Row.form' r4
      subst hv
      clear r4
      have kn := (Kept.refl 0 0 w2).alloc (.cells #[.slice a3 qq.length c3] 26)
      have m0 : (w2.alloc (.cells #[.slice a3 qq.length c3] 26)).cell? ⟨w2.heap.size, 0, none⟩ = some (.slice a3 qq.length c3) := new_cell2 _ _ _ _ _ _ (by simp) rfl
      have sz4 : w2.heap.size + 1 = (w2.alloc (.cells #[.slice a3 qq.length c3] 26)).heap.size := by simp
      have SZ4 := hide sz4
      replace sz4 := Nat.le_of_eq sz4
      replace r1 := r1.kept kn (by omega)
      replace rX := rX.kept kn (by omega)
      replace r3 := r3.kept kn (by omega)
      replace qf0 := kn.loose0 (World.block_lt_of_cell? _ _ q0) qf0
      replace fX := kn.loose0 (World.block_lt_of_cell? _ _ cX) fX
      replace p0 := kn.cell0 p0
      replace q0 := kn.cell0 q0
      replace cX := kn.cell0 cX
      replace K := hide ((unhide K).trans kn)
      have z5 := kn.size
      clear kn
      have kn := (Kept.refl 0 0 (w2.alloc (.cells #[.slice a3 qq.length c3] 26))).alloc (.cells #[.slice a4 mm.length c4] 26)
      have n0 : ((w2.alloc (.cells #[.slice a3 qq.length c3] 26)).alloc (.cells #[.slice a4 mm.length c4] 26)).cell? ⟨w2.heap.size + 1, 0, none⟩ = some (.slice a4 mm.length c4) := new_cell2 _ _ _ _ _ _ (by simp) rfl
      have sz6 : (w2.alloc (.cells #[.slice a3 qq.length c3] 26)).heap.size + 1 = ((w2.alloc (.cells #[.slice a3 qq.length c3] 26)).alloc (.cells #[.slice a4 mm.length c4] 26)).heap.size := by simp
      have SZ6 := hide sz6
      replace sz6 := Nat.le_of_eq sz6
      replace r1 := r1.kept kn (by omega)
      replace rX := rX.kept kn (by omega)
      replace r3 := r3.kept kn (by omega)
      replace qf0 := kn.loose0 (World.block_lt_of_cell? _ _ q0) qf0
      replace fX := kn.loose0 (World.block_lt_of_cell? _ _ cX) fX
      replace p0 := kn.cell0 p0
      replace q0 := kn.cell0 q0
      replace cX := kn.cell0 cX
      replace m0 := kn.cell0 m0
      replace K := hide ((unhide K).trans kn)
      have z7 := kn.size
      clear kn
      clear n0
      go_wp2_with fail
      generalize ((w2.alloc (.cells #[.slice a3 qq.length c3] 26)).alloc (.cells #[.slice a4 mm.length c4] 26)) = wn8 at *
      have mk := add_spec wn8 rX r3 hz.1 qlim (by omega) (by omega)
      rw [unhide e5, unhide ESS] at mk
      refine (mk).mono ?_
      rintro e w9 ⟨v5, rfl, r5, k9⟩
      replace r1 := r1.kept k9 (by omega)
      replace rX := rX.kept k9 (by omega)
      replace r3 := r3.kept k9 (by omega)
      replace qf0 := k9.loose0 (World.block_lt_of_cell? _ _ q0) qf0
      replace fX := k9.loose0 (World.block_lt_of_cell? _ _ cX) fX
      replace p0 := k9.cell0 p0
      replace q0 := k9.cell0 q0
      replace cX := k9.cell0 cX
      replace m0 := k9.cell0 m0
      replace K := hide ((unhide K).trans k9)
      have z10 := k9.size
      clear k9
      clear mk
      clear r3
      go_wp2_with fail
      have mk := shr_spec w9 r5 slim (by omega) 1 (by decide)
      rw [unhide e6, unhide EYY] at mk
      refine (mk).mono ?_
      rintro e w11 ⟨v6, rfl, r6, k11⟩
      replace r1 := r1.kept k11 (by omega)
      replace rX := rX.kept k11 (by omega)
      replace r5 := r5.kept k11 (by omega)
      replace qf0 := k11.loose0 (World.block_lt_of_cell? _ _ q0) qf0
      replace fX := k11.loose0 (World.block_lt_of_cell? _ _ cX) fX
      replace p0 := k11.cell0 p0
      replace q0 := k11.cell0 q0
      replace cX := k11.cell0 cX
      replace m0 := k11.cell0 m0
      replace K := hide ((unhide K).trans k11)
      have z12 := k11.size
      clear k11
      clear mk
      obtain ⟨a6, c6, hv⟩ := Row.form' r6
      subst hv
      clear r5
      have kn := (Kept.refl 0 0 w11).alloc (.cells #[.slice a6 yy.length c6] 26)
      have s0 : (w11.alloc (.cells #[.slice a6 yy.length c6] 26)).cell? ⟨w11.heap.size, 0, none⟩ = some (.slice a6 yy.length c6) := new_cell2 _ _ _ _ _ _ (by simp) rfl
      have sz13 : w11.heap.size + 1 = (w11.alloc (.cells #[.slice a6 yy.length c6] 26)).heap.size := by simp
      have SZ13 := hide sz13
      replace sz13 := Nat.le_of_eq sz13
      replace r1 := r1.kept kn (by omega)
      replace rX := rX.kept kn (by omega)
      replace r6 := r6.kept kn (by omega)
      replace qf0 := kn.loose0 (World.block_lt_of_cell? _ _ q0) qf0
      replace fX := kn.loose0 (World.block_lt_of_cell? _ _ cX) fX
      replace p0 := kn.cell0 p0
      replace q0 := kn.cell0 q0
      replace cX := kn.cell0 cX
      replace m0 := kn.cell0 m0
      replace K := hide ((unhide K).trans kn)
      have z14 := kn.size
      clear kn
      go_wp2_with fail
      generalize (w11.alloc (.cells #[.slice a6 yy.length c6] 26)) = wn15 at *
      have mk := cmp_spec wn15 r6 rX nyy hz
      rw [unhide HC] at mk
      refine (mk).mono ?_
      rintro e w16 ⟨rfl, k16⟩
      replace r1 := r1.kept k16 (by omega)
      replace rX := rX.kept k16 (by omega)
      replace r6 := r6.kept k16 (by omega)
      replace qf0 := k16.loose0 (World.block_lt_of_cell? _ _ q0) qf0
      replace fX := k16.loose0 (World.block_lt_of_cell? _ _ cX) fX
      replace p0 := k16.cell0 p0
      replace q0 := k16.cell0 q0
      replace cX := k16.cell0 cX
      replace m0 := k16.cell0 m0
      replace s0 := k16.cell0 s0
      replace K := hide ((unhide K).trans k16)
      have z17 := k16.size
      clear k16
      clear mk
      by_cases hlt : y < x
      · have hc0 : c = -1 := hcc.1 hlt
        subst hc0
        clear hcc
        go_wp2_with fail
        have sS0 := unhide S0
        replace r1 := r1.set_other (p := ⟨X, 0, none⟩) (by dsimp only; omega) (.slice a6 yy.length c6)
        replace rX := rX.set_other (p := ⟨X, 0, none⟩) (by dsimp only; omega) (.slice a6 yy.length c6)
        replace r6 := r6.set_other (p := ⟨X, 0, none⟩) (by dsimp only; omega) (.slice a6 yy.length c6)
        replace p0 := cell_aside (.slice a6 yy.length c6) (r := ⟨X, 0, none⟩) (by dsimp only; omega) p0
        replace q0 := cell_aside (.slice a6 yy.length c6) (r := ⟨X, 0, none⟩) (by dsimp only; omega) q0
        replace m0 := cell_aside (.slice a6 yy.length c6) (r := ⟨X, 0, none⟩) (by dsimp only; omega) m0
        replace s0 := cell_aside (.slice a6 yy.length c6) (r := ⟨X, 0, none⟩) (by dsimp only; omega) s0
        replace qf0 : (w16.setCell ⟨X, 0, none⟩ (.slice a6 yy.length c6)).frozen? _ = false := (frozen_set _ _ _ _ _).trans qf0
        replace fX : (w16.setCell ⟨X, 0, none⟩ (.slice a6 yy.length c6)).frozen? _ = false := (frozen_set _ _ _ _ _).trans fX
        replace cX : (w16.setCell ⟨X, 0, none⟩ (.slice a6 yy.length c6)).cell? ⟨X, 0, none⟩ = some (.slice a6 yy.length c6) := cell_on _ _ _ _ _ cX
        replace K := hide ((unhide K).setNew (p := ⟨X, 0, none⟩) (by dsimp only; omega) (.slice a6 yy.length c6))
        have zs18 : (w16.setCell ⟨X, 0, none⟩ (.slice a6 yy.length c6)).heap.size = w16.heap.size := by simp [World.setCell]
        clear sS0
        generalize w16.setCell ⟨X, 0, none⟩ (.slice a6 yy.length c6) = ws18 at *
        refine ⟨⟨_, yy, cX, fX, ⟨_, _, .inl (by omega), by omega, r6⟩, nyy, by omega, ?_, ?_, p0, q0, qf0, r1, unhide K, by omega⟩, ?_⟩
        · have e := limbs_len_mono (Nat.le_of_lt hlt)
          rw [unhide EYY] at e
          have e2 := nrm_limbs hz
          rw [hxi, Int.toNat_natCast] at e2
          rw [← e2] at e
          omega
        · show _ = _
          have hl := unhide HY
          rw [vyy, Int.toNat_natCast, ← unhide hI]
          have e := newt_less (N := N) (x := x) (by rw [← hl]; exact hlt)
          rw [← hl] at e
          exact e.symm
        · rw [valAt_of cX r6, unhide HV, vyy]
          omega
      · have hc0 : 0 ≤ c := hcc.2 hlt
        clear hcc
        have hRR : Hid (zs = limbs (rootN N)) := by
          show _ = _
          have hl := unhide HY
          have e2 := nrm_limbs hz
          rw [hxi, Int.toNat_natCast] at e2
          rw [unhide hRt, ← unhide hI, newt_stay (by rw [← hl]; exact hlt)]
          exact e2
        have R := hide (((rX.set_other (p := ⟨w.heap.size + 1, 0, none⟩) (.inl (by dsimp only; omega)) (.slice a2 zs.length c2))).tight.wider (lo' := w.heap.size) (by omega) (Nat.le_refl _))
        have K7 := hide ((unhide K).setNew (p := ⟨w.heap.size + 1, 0, none⟩) (by simp) (.slice a2 zs.length c2))
        clear r1 rX r6 K
        go_wp2_with fail
        exact bodyPost_ret (v := .agg #[.slice a2 zs.length c2]) (by simp [results, Try.results125, go_sem, q0]) rfl ⟨_, rfl, by rw [← unhide hRR]; exact unhide R, unhide K7⟩

/-- What is told as the root. -/
def rootL (xs : List Int) : List Int := if okB xs = true then limbs (rootN (val xs).toNat) else []
theorem rootL_no {xs : List Int} (h : okB xs = false) : rootL xs = [] := by unfold rootL; rw [h]; rfl
theorem rootL_yes {xs : List Int} (h : okB xs = true) : rootL xs = limbs (rootN (val xs).toNat) := by unfold rootL; rw [h]; rfl
theorem rootL_len (xs : List Int) : (rootL xs).length ≤ 100 := by
  unfold rootL
  split
  · rename_i h
    obtain ⟨l1, n1⟩ := (okB_iff xs).1 h
    exact rootN_len (nrm_bits n1 l1) (by decide)
  · simp

set_option maxHeartbeats 2000000 in
theorem natRoot_spec {b1 : Bool} {l1 h1 : Nat} {v1 : Value} {xs : List Int} (w : World) (r1 : Row .i64 b1 l1 h1 w v1 xs) :
    Calls Try.prog 65 #[.agg #[v1]] w fun e w' => ∃ v', e = .returned (.agg #[v']) ∧ Row .i64 true w.heap.size w'.heap.size w' v' (rootL xs) ∧ Kept 0 0 w w' := by
  have k0 : Kept 0 0 w ((w.alloc (.cells #[v1] 26)).alloc (.cells #[.slice none 0 0] 26)) := (((Kept.refl 0 0 w).alloc (.cells #[v1] 26)).alloc (.cells #[.slice none 0 0] 26))
  have p0 : ((w.alloc (.cells #[v1] 26)).alloc (.cells #[.slice none 0 0] 26)).cell? ⟨w.heap.size, 0, none⟩ = some (v1) := old_cell _ (new_cell2 _ _ _ _ _ _ (by simp) rfl)
  have q0 : ((w.alloc (.cells #[v1] 26)).alloc (.cells #[.slice none 0 0] 26)).cell? ⟨w.heap.size + 1, 0, none⟩ = some (.slice none 0 0) := new_cell2 _ _ _ _ _ _ (by simp) rfl
  have qf0 : ((w.alloc (.cells #[v1] 26)).alloc (.cells #[.slice none 0 0] 26)).frozen? ⟨w.heap.size + 1, 0, none⟩ = false := new_loose2 _ _ _ _ _ (by simp)
  replace r1 := r1.kept k0 (by omega)
  have s0 : ((w.alloc (.cells #[v1] 26)).alloc (.cells #[.slice none 0 0] 26)).heap.size = w.heap.size + 2 := by simp
  obtain ⟨a1, c1, hv⟩ := Row.form' r1
  subst hv
  have K := hide (k0)
  clear k0
  have S0 := hide s0
  clear s0
  go_enter Try.func65, Try.ntmps65
  go_wp2_with fail
  generalize ((w.alloc (.cells #[.slice a1 xs.length c1] 26)).alloc (.cells #[.slice none 0 0] 26)) = W at *
  refine (ok_spec _ r1).mono ?_
  rintro e w1 ⟨rfl, k1⟩
  replace r1 := r1.kept k1 (by omega)
  replace qf0 := k1.loose0 (World.block_lt_of_cell? _ _ q0) qf0
  replace p0 := k1.cell0 p0
  replace q0 := k1.cell0 q0
  replace K := hide ((unhide K).trans k1)
  have z2 := k1.size
  clear k1
  cases ho1 : okB xs
  · have e0 := hide ho1
    clear ho1
    have K' := hide ((unhide K).setNew (p := ⟨w.heap.size + 1, 0, none⟩) (by simp) (.slice none 0 0))
    clear r1 K
    go_wp2_with fail
    exact bodyPost_ret (v := .agg #[.slice none 0 0]) (by simp [results, Try.results65, go_sem, q0]) rfl ⟨_, rfl, by rw [rootL_no (unhide e0)]; exact Row.nil _ _ _ _ _, unhide K'⟩
  have HO1 := hide ho1
  clear ho1
  obtain ⟨lx, hx⟩ := (okB_iff xs).1 (unhide HO1)
  obtain ⟨zg, hzg⟩ : ∃ z, rootL xs = z := ⟨_, rfl⟩
  have lg := rootL_len xs
  rw [hzg] at lg
  have EG : Hid (limbs (rootN (val xs).toNat) = zg) := by show _ = _; rw [← hzg, rootL_yes (unhide HO1)]
  have HZ := hide hzg
  clear hzg
  go_wp2_with fail
  have mk := root_spec w1 r1 hx lx
  rw [unhide EG] at mk
  refine (mk).mono ?_
  rintro e w3 ⟨v3, rfl, r3, k3⟩
  replace r1 := r1.kept k3 (by omega)
  replace qf0 := k3.loose0 (World.block_lt_of_cell? _ _ q0) qf0
  replace p0 := k3.cell0 p0
  replace q0 := k3.cell0 q0
  replace K := hide ((unhide K).trans k3)
  have z4 := k3.size
  clear k3
  clear mk
  obtain ⟨a3, c3, hv⟩ := Row.form' r3
  subst hv
  have R := hide (((r3.set_other (p := ⟨w.heap.size + 1, 0, none⟩) (.inl (by have := unhide S0; dsimp only; omega)) (.slice a3 zg.length c3))).tight.wider (lo' := w.heap.size) (by have := unhide S0; omega) (Nat.le_refl _))
  have K7 := hide ((unhide K).setNew (p := ⟨w.heap.size + 1, 0, none⟩) (by simp) (.slice a3 zg.length c3))
  clear r1 r3 K
  go_wp2_with fail
  exact bodyPost_ret (v := .agg #[.slice a3 zg.length c3]) (by simp [results, Try.results65, go_sem, q0]) rfl ⟨_, rfl, by rw [unhide HZ]; exact unhide R, unhide K7⟩

end Go.Proofs.Ytdhponfpikclhaa

namespace Go.Proofs.Ytdhponfpikclhaa
open Go.RowKit
set_option linter.unusedVariables false
set_option maxRecDepth 8000
set_option linter.unusedSimpArgs false

theorem Num.setTo {b b' g : Nat} {w : World} {v v' : Value} {zs ys : List Int} (h : Num b w g v zs) (o : w.ownsRow b' 3 1 v' ys.length (ys.map (Value.int .i64))) (ha : v'.ownBlock ≠ some g) : Num b' (w.setCell ⟨g, 0, none⟩ v') g v' ys :=
  ⟨cell_on _ _ _ _ _ h.cell, by rw [frozen_set]; exact h.loose, own_apart o (p := ⟨g, 0, none⟩) ha _, ha⟩

set_option maxHeartbeats 8000000 in
theorem root_impl {b g : Nat} {v : Value} {xs : List Int} (w : World) (n0 : Num b w g v xs) (hx : Nrm xs) (nx : xs.length ≤ 100) :
    Calls Try.prog 99 #[.pointer (some ⟨g, 0, none⟩)] w fun e w' => ∃ v', e = .returned (.agg #[v']) ∧ w'.ownsRow w.heap.size 3 1 v' (limbs (rootN (val xs).toNat)).length ((limbs (rootN (val xs).toNat)).map (Value.int .i64)) ∧ Kept 0 0 w w' := by
  obtain ⟨N, hN⟩ : ∃ N : Nat, N = (val xs).toNat := ⟨_, rfl⟩
  rw [← hN]
  have hb := nrm_bits hx nx
  rw [← hN] at hb
  have hv0 := val_nonneg hx.1
  have HN := hide hN
  clear hN
  have k0 : Kept 0 0 w (w.alloc (.cells #[.slice none 0 0] 76)) := (Kept.refl 0 0 w).alloc _
  have cR : (w.alloc (.cells #[.slice none 0 0] 76)).cell? ⟨w.heap.size, 0, none⟩ = some (.slice none 0 0) := new_cell_at _ _ _ _ rfl
  have fR : (w.alloc (.cells #[.slice none 0 0] 76)).frozen? ⟨w.heap.size, 0, none⟩ = false := new_loose _ _ _ _ rfl
  have hsz : (w.alloc (.cells #[.slice none 0 0] 76)).heap.size = w.heap.size + 1 := by simp
  have HS := hide hsz
  clear hsz
  have n := n0.kept k0
  have hz := isZero_impl _ n
  have hlt := n0.lt
  clear n0
  go_enter Try.func99, Try.ntmps99
  by_cases hl0 : xs.length = 0
  · rw [decide_eq_true hl0] at hz
    have HZ := hide hz
    have e0 : Hid (rootN N = 0) := by
      show _ = _
      have : N = 0 := by rw [unhide HN, List.length_eq_zero_iff.1 hl0]; rfl
      rw [this]
      rfl
    have K := hide k0
    clear hz n k0 hl0
    go_wp2_with (go_at_call 149; refine (unhide HZ).mono ?_; rintro e w' ⟨rfl, rfl⟩)
    exact bodyPost_ret (v := .agg #[.slice none 0 0]) (by simp [results, Try.results99, go_sem, cR]) rfl ⟨_, rfl, by rw [unhide e0, limbs_zero]; exact World.ownsRow_nil _ _ _ _, unhide K⟩
  rw [decide_eq_false hl0] at hz
  have HZ := hide hz
  clear hz
  have hNp : 0 < N := by
    have e1 := nrm_pow hx (List.length_pos_iff.1 (show 0 < xs.length by omega))
    have : (0 : Int) < 65536 ^ (xs.length - 1) := Int.pow_pos (by decide)
    have := unhide HN
    omega
  have hRt : Hid (rootN N = newt N (above N)) := by show _ = _; unfold rootN; rw [if_neg (by omega)]
  obtain ⟨S, hS⟩ : ∃ S : Nat, S = (bitsN N + 1) / 2 := ⟨_, rfl⟩
  obtain ⟨B, hbb⟩ : ∃ B : Nat, B = bitsN N := ⟨_, rfl⟩
  rw [← hbb] at hS hb
  have hSb : S ≤ 800 := by omega
  have eS : IntKind.i64.wrap ((B : Int) + 1) = (B : Int) + 1 := wrap_small _ (by omega) (by omega)
  have eS2 : ((B : Int) + 1).tdiv 2 = (S : Int) := by rw [Int.tdiv_eq_ediv_of_nonneg (by omega)]; omega
  have eS3 : IntKind.i64.wrap (S : Int) = (S : Int) := wrap_small _ (by omega) (by omega)
  have eA : Hid (limbs ((val (limbs (1 : Int).toNat)).toNat * 2 ^ S) = limbs (above N)) := by
    show _ = _
    rw [limbs_val, hS, hbb]
    unfold above
    simp
  have HB := hide hbb
  clear hbb hS
  obtain ⟨za, hza⟩ : ∃ za, limbs (above N) = za := ⟨_, rfl⟩
  have HA := hide hza
  have lza := above_len (N := N) (K := 100) (by have := unhide HB; omega) (by decide)
  rw [hza] at lza
  clear hza
  rw [unhide HA] at eA
  have l1e : (limbs (1 : Int).toNat).length ≤ 50000 := by have := limbs_int_length' 1 (by decide); omega
  have l1n : limbs (1 : Int).toNat ≠ [] := fun e => by have := limbs_eq_nil.1 e; simp at this
  obtain ⟨L1, hL1⟩ : ∃ L, limbs (1 : Int).toNat = L := ⟨_, rfl⟩
  have lim1 : Lim L1 := by rw [← hL1]; exact limbs_lim _
  rw [hL1] at eA l1e l1n
  have HL1 := hide hL1
  clear hL1
  have hN1 := hide n
  have hK0 := hide k0
  have hR0 := hide (And.intro cR fR)
  clear k0 cR fR hl0
  go_wp2_with (go_at_call 149; refine (unhide HZ).mono ?_; rintro e w' ⟨rfl, rfl⟩)
  generalize w.alloc (.cells #[.slice none 0 0] 76) = W1 at *
  have mk := limbsOfInt_impl W1 1 (by decide)
  rw [unhide HL1] at mk
  refine mk.mono ?_
  clear mk
  rintro e w2 ⟨v2, rfl, o2, k2⟩
  obtain ⟨a2, c2, hv⟩ := own_slice o2
  subst hv
  have kX := (Kept.refl 0 0 w2).alloc (.cells #[.slice a2 L1.length c2] 76)
  have nX := (Num.new 76 o2)
  have k1 := k2.trans kX
  have hX := k2.size
  clear kX o2 k2 n HZ
  go_wp2_with fail
  generalize w2.alloc (.cells #[.slice a2 L1.length c2] 76) = w3 at *
  generalize w2.heap.size = X at *
  refine (bitsM_impl _ ((unhide hN1).kept k1) hx (by omega)).mono ?_
  rintro e w4 ⟨rfl, k4⟩
  rw [← unhide HN, ← unhide HB]
  replace k1 := k1.trans k4
  replace nX := nX.kept k4
  clear k4
  go_wp2_with fail
  refine (shiftUp_impl _ nX lim1 l1n l1e S (by omega)).mono ?_
  rintro e w5 ⟨⟨r5, rfl⟩, u5, n5, m5⟩
  have nX0 : W1.heap.size ≤ w4.heap.size := by have := nX.lt; omega
  rw [unhide eA] at n5
  replace k1 := k1.mod m5 (fun i e => by omega)
  replace n5 := n5.less (b' := W1.heap.size) (by have := nX0; omega)
  have nza : Nrm za := by rw [← unhide HA]; exact limbs_nrm _
  have vza : val za = (above N : Int) := by rw [← unhide HA]; exact limbs_val _
  have pza : 0 < above N := Nat.pow_pos (by decide)
  have I0 := hide (show newt N (val za).toNat = newt N (above N) by rw [vza, Int.toNat_natCast])
  have HN5 := hide n5
  have HK5 := hide k1
  clear n5 k1 nX m5 eS eS2 eS3 eA l1e l1n hSb nX0
  go_wp2_with fail
  go_loopw [] (fun wr => ∃ u zs, Num W1.heap.size wr X u zs ∧ Kept 0 0 W1 wr ∧ Nrm zs ∧ 0 < val zs ∧ zs.length ≤ 100 ∧ Hid (newt N (val zs).toNat = newt N (above N))) (fun wr => valAt wr X)
  case atStart => exact ⟨_, _, unhide HN5, unhide HK5, nza, by omega, lza, I0⟩
  case round =>
    clear HN5 HK5 I0 nza vza
    obtain ⟨u, zs, nX, kw, hz, hz0, lz, hI⟩ := hrel
    have HV := hide (valAt_of nX.cell nX.row)
    obtain ⟨x, hx1⟩ : ∃ x : Nat, x = (val zs).toNat := ⟨_, rfl⟩
    have hxi : val zs = (x : Int) := by omega
    have hNi : val xs = (N : Int) := by have := unhide HN; omega
    rw [← hx1] at hI HV
    have hq : Hid ((val xs / val zs).toNat = N / x) := by show _ = _; rw [hxi, hNi, ← Int.natCast_ediv, Int.toNat_natCast]
    have e5 : Hid ((val (limbs (N / x)) + val zs).toNat = x + N / x) := by show _ = _; rw [limbs_val, hxi]; generalize N / x = d; omega
    have e6 : Hid ((val (limbs (x + N / x))).toNat / 2 ^ 1 = (x + N / x) / 2) := by show _ = _; rw [limbs_val, Int.toNat_natCast]
    have lq : (limbs (N / x)).length ≤ 100 := by
      have e := limbs_len_mono (Nat.div_le_self N x)
      have e2 := nrm_limbs hx
      rw [← unhide HN] at e2
      rw [← e2] at e
      omega
    have ls : (limbs (x + N / x)).length ≤ 101 := sum_len (K := 100) (by rw [hx1, ← nrm_limbs hz]; exact lz) lq
    have ls0 : 0 < (limbs (x + N / x)).length := List.length_pos_iff.2 (fun e => by have e2 := limbs_eq_nil.1 e; generalize N / x = d at e2; omega)
    have hyp := newt_next (x := x) hNp (by omega)
    obtain ⟨y, hy⟩ : ∃ y, y = (x + N / x) / 2 := ⟨_, rfl⟩
    rw [← hy] at e6 hyp
    have HY := hide hy
    clear hy
    obtain ⟨qq, hqq⟩ : ∃ l, limbs (N / x) = l := ⟨_, rfl⟩
    obtain ⟨ss, hss⟩ : ∃ l, limbs (x + N / x) = l := ⟨_, rfl⟩
    obtain ⟨yy, hyy⟩ : ∃ l, limbs y = l := ⟨_, rfl⟩
    have nyy : Nrm yy := by rw [← hyy]; exact limbs_nrm _
    have vyy : val yy = (y : Int) := by rw [← hyy]; exact limbs_val _
    have qnrm : Nrm qq := by rw [← hqq]; exact limbs_nrm _
    have slim : Lim ss := by rw [← hss]; exact limbs_lim _
    rw [hqq] at lq e5
    rw [hss] at ls e6 ls0
    have EQQ := hide hqq
    have ESS := hide hss
    have EYY := hide hyy
    clear hqq hss hyy hx1
    obtain ⟨c, hc⟩ : ∃ c, cmpI (val yy) (val zs) = c := ⟨_, rfl⟩
    have HC := hide hc
    have hcc : (y < x → c = -1) ∧ (¬ y < x → 0 ≤ c) := by
      rw [← hc, vyy, hxi]
      unfold cmpI
      refine ⟨fun h => ?_, fun h => ?_⟩
      · rw [if_pos (by omega)]
      · rw [if_neg (by omega)]; split <;> decide
    clear hc
    have hzne : zs ≠ [] := fun e => by rw [e] at hz0; simp [val] at hz0
    have lX := nX.lt
    have oX := nX.own.lt
    have hkw := kw.size
    go_wp2_with fail
    refine (copied_impl _ ((unhide hN1).kept kw) (by omega)).mono ?_
    rintro e w6 ⟨v6, rfl, o6, k6⟩
    obtain ⟨a6, c6, hv⟩ := own_slice o6
    subst hv
    have l6 := o6.lt
    have kL := (Kept.refl 0 0 w6).alloc (.cells #[.slice a6 xs.length c6] 76)
    have nL := Num.new 76 o6
    have h6 := k6.size
    replace kw := (kw.trans k6).trans kL
    replace nX := (nX.kept k6).kept kL
    have lL := nL.lt
    clear k6 kL o6
    go_wp2_with fail
    generalize w6.alloc (.cells #[.slice a6 xs.length c6] 76) = w7 at *
    generalize w6.heap.size = Lb at *
    have mk := divide_impl w7 nL nX (by omega) hx hz hzne (by omega) (by omega)
    rw [unhide hq, unhide EQQ] at mk
    refine mk.mono ?_
    rintro e w8 ⟨vq, rfl, dd⟩
    clear mk
    have hO : ∀ i, Own1 Lb (.slice a6 xs.length c6) i → wr.heap.size ≤ i ∧ i < w7.heap.size := fun i e => e.elim (fun h => by omega) (fun h => by have := l6 i h; omega)
    replace nX := nX.mod dd.md (fun e => by have := hO _ e; omega) (fun i e e' => by have := hO _ e'; have := oX i e; omega)
    replace kw := kw.mod dd.md (fun i e => by have := hO i e; omega)
    have oq := dd.q
    have h8 := dd.md.size
    clear dd nL hO
    obtain ⟨a8, c8, hv⟩ := own_slice oq
    subst hv
    have lq8 := oq.lt
    have kQ := (Kept.refl 0 0 w8).alloc (.cells #[.slice a8 qq.length c8] 76)
    have nQ := Num.new 76 oq
    replace kw := kw.trans kQ
    replace nX := nX.kept kQ
    have lQ := nQ.lt
    clear kQ oq
    go_wp2_with fail
    generalize w8.alloc (.cells #[.slice a8 qq.length c8] 76) = w9 at *
    generalize w8.heap.size = Q at *
    have tw : Two W1 w9 Q X (.slice a8 qq.length c8) u qq zs := ⟨nQ.less (by omega), nX, by omega, fun e => by have := lq8 _ e; omega, fun e => by have := oX _ e; omega, fun k e1 e2 => by have := lq8 _ e1; have := oX _ e2; omega, kw, by omega, hX⟩
    have mk := add_two ⟨_, _, tw⟩ qnrm hz (by omega) (by omega)
    rw [unhide e5, unhide ESS] at mk
    clear nQ nX kw tw
    refine mk.mono ?_
    rintro e w10 ⟨⟨r10, rfl⟩, u1, u2, t⟩
    clear mk
    go_wp2_with fail
    have mk := shiftDown_num w10 t.n1 slim ls0 (by omega) 1 (by decide)
    rw [unhide e6, unhide EYY] at mk
    refine mk.mono ?_
    rintro e w11 ⟨⟨r11, rfl⟩, u3, nQ, o3, m11⟩
    clear mk
    have nX := t.n2.mod m11 (fun e => e.elim (fun h => t.ne h.symm) (fun h => t.o12 h)) (fun i e e' => e'.elim (fun h => t.o21 (by rw [e, h])) (fun h => t.oo i h e))
    have kw := t.k.mod m11 (fun i e => e.elim (fun h => by rw [h]; exact t.b1) (fun h => (t.n1.own.lt i h).1))
    have hu3 : u3.ownBlock ≠ some X := fun e => t.o12 (by rw [← o3]; exact e)
    clear t m11 o3
    go_wp2_with fail
    have mk := compare_impl w11 nQ nX nyy hz
    rw [unhide HC] at mk
    refine mk.mono ?_
    rintro e w12 ⟨rfl, k12⟩
    clear mk
    replace nQ := nQ.kept k12
    replace nX := nX.kept k12
    replace kw := kw.trans k12
    clear k12
    obtain ⟨a3, c3, hv⟩ := nQ.form
    subst hv
    obtain ⟨a4, c4, hv⟩ := nX.form
    subst hv
    have cQ := nQ.cell
    have cX := nX.cell
    have fX := nX.loose
    by_cases hlt' : y < x
    · have hc0 : c = -1 := hcc.1 hlt'
      subst hc0
      have N' := nX.setTo nQ.own hu3
      have K' := kw.setNew (p := ⟨X, 0, none⟩) hX (.slice a3 yy.length c3)
      have HN' := hide N'
      have HK' := hide K'
      clear hcc N' K' nQ nX kw
      go_wp2_with fail
      have N' := unhide HN'
      refine ⟨⟨_, yy, N', unhide HK', nyy, by omega, ?_, ?_⟩, ?_⟩
      · have e := limbs_len_mono (Nat.le_of_lt hlt')
        rw [unhide EYY] at e
        have e2 := nrm_limbs hz
        rw [hxi, Int.toNat_natCast] at e2
        rw [← e2] at e
        omega
      · show _ = _
        have hl := unhide HY
        rw [vyy, Int.toNat_natCast, ← unhide hI]
        have e := newt_less (N := N) (x := x) (by rw [← hl]; exact hlt')
        rw [← hl] at e
        exact e.symm
      · rw [valAt_of N'.cell N'.row, unhide HV, vyy]
        omega
    · have hc0 : 0 ≤ c := hcc.2 hlt'
      have hRR : Hid (zs = limbs (rootN N)) := by
        show _ = _
        have hl := unhide HY
        have e2 := nrm_limbs hz
        rw [hxi, Int.toNat_natCast] at e2
        rw [unhide hRt, ← unhide hI, newt_stay (by rw [← hl]; exact hlt')]
        exact e2
      have cR := kw.cell0 (unhide hR0).1
      have fR := kw.loose0 (World.block_lt_of_cell? _ _ (unhide hR0).1) (unhide hR0).2
      have O := hide (own_less (base' := w.heap.size) (own_apart nX.own (p := ⟨w.heap.size, 0, none⟩) (fun e => by have h1 : W1.heap.size ≤ w.heap.size := (nX.own.lt _ e).1; have := unhide HS; omega) (.slice a4 zs.length c4)) (by have := unhide HS; omega))
      have K := hide (((unhide hK0).trans kw).setNew (p := ⟨w.heap.size, 0, none⟩) (by simp) (.slice a4 zs.length c4))
      clear nQ nX kw cQ fX hcc
      go_wp2_with fail
      exact bodyPost_ret (v := .agg #[.slice a4 zs.length c4]) (by simp [results, Try.results99, go_sem, cR]) rfl ⟨_, rfl, by rw [← unhide hRR]; exact unhide O, unhide K⟩

end Go.Proofs.Ytdhponfpikclhaa

namespace Go.Proofs.Ytdhponfpikclhaa
open Go.RowKit
set_option linter.unusedVariables false
set_option maxRecDepth 8000
set_option linter.unusedSimpArgs false

set_option maxHeartbeats 4000000 in
theorem natRoot_impl {b1 : Bool} {l1 h1 : Nat} {v1 : Value} {xs : List Int} (w : World) (r1 : Row .i64 b1 l1 h1 w v1 xs) :
    Calls Try.prog 37 #[.agg #[v1]] w fun e w' => ∃ v', e = .returned (.agg #[v']) ∧ Row .i64 true w.heap.size w'.heap.size w' v' (rootL xs) ∧ Kept 0 0 w w' := by
  have k0 : Kept 0 0 w ((w.alloc (.cells #[v1] 26)).alloc (.cells #[.slice none 0 0] 26)) := (((Kept.refl 0 0 w).alloc (.cells #[v1] 26)).alloc (.cells #[.slice none 0 0] 26))
  have p0 : ((w.alloc (.cells #[v1] 26)).alloc (.cells #[.slice none 0 0] 26)).cell? ⟨w.heap.size, 0, none⟩ = some (v1) := old_cell _ (new_cell2 _ _ _ _ _ _ (by simp) rfl)
  have q0 : ((w.alloc (.cells #[v1] 26)).alloc (.cells #[.slice none 0 0] 26)).cell? ⟨w.heap.size + 1, 0, none⟩ = some (.slice none 0 0) := new_cell2 _ _ _ _ _ _ (by simp) rfl
  have qf0 : ((w.alloc (.cells #[v1] 26)).alloc (.cells #[.slice none 0 0] 26)).frozen? ⟨w.heap.size + 1, 0, none⟩ = false := new_loose2 _ _ _ _ _ (by simp)
  replace r1 := r1.kept k0 (by omega)
  have s0 : ((w.alloc (.cells #[v1] 26)).alloc (.cells #[.slice none 0 0] 26)).heap.size = w.heap.size + 2 := by simp
  obtain ⟨a1, c1, hv⟩ := Row.form' r1
  subst hv
  have K := hide (k0)
  clear k0
  have S0 := hide s0
  clear s0
  go_enter Try.func37, Try.ntmps37
  go_wp2_with fail
  generalize ((w.alloc (.cells #[.slice a1 xs.length c1] 26)).alloc (.cells #[.slice none 0 0] 26)) = W at *
  refine (ok_impl _ r1).mono ?_
  rintro e w1 ⟨rfl, k1⟩
  replace r1 := r1.kept k1 (by omega)
  replace qf0 := k1.loose0 (World.block_lt_of_cell? _ _ q0) qf0
  replace p0 := k1.cell0 p0
  replace q0 := k1.cell0 q0
  replace K := hide ((unhide K).trans k1)
  have z2 := k1.size
  clear k1
  cases ho1 : okB xs
  · have e0 := hide ho1
    clear ho1
    have K' := hide ((unhide K).setNew (p := ⟨w.heap.size + 1, 0, none⟩) (by simp) (.slice none 0 0))
    clear r1 K
    go_wp2_with fail
    exact bodyPost_ret (v := .agg #[.slice none 0 0]) (by simp [results, Try.results37, go_sem, q0]) rfl ⟨_, rfl, by rw [rootL_no (unhide e0)]; exact Row.nil _ _ _ _ _, unhide K'⟩
  have HO1 := hide ho1
  clear ho1
  obtain ⟨lx, hx⟩ := (okB_iff xs).1 (unhide HO1)
  obtain ⟨zg, hzg⟩ : ∃ z, rootL xs = z := ⟨_, rfl⟩
  have lg := rootL_len xs
  rw [hzg] at lg
  have EG : Hid (limbs (rootN (val xs).toNat) = zg) := by show _ = _; rw [← hzg, rootL_yes (unhide HO1)]
  have HZ := hide hzg
  clear hzg
  go_wp2_with fail
  have mk := limbsOf_impl w1 r1 (by omega)
  refine (mk).mono ?_
  rintro e w3 ⟨v3, rfl, o3, k3⟩
  replace r1 := r1.kept k3 (by omega)
  replace qf0 := k3.loose0 (World.block_lt_of_cell? _ _ q0) qf0
  replace p0 := k3.cell0 p0
  replace q0 := k3.cell0 q0
  replace K := hide ((unhide K).trans k3)
  have z4 := k3.size
  clear k3
  clear mk
  obtain ⟨a3, c3, hv⟩ := own_slice o3
  subst hv
  have n3 := Num.new 76 o3
  clear o3
  clear r1
  have kn := (Kept.refl 0 0 w3).alloc (.cells #[.slice a3 xs.length c3] 76)
  have j0 : (w3.alloc (.cells #[.slice a3 xs.length c3] 76)).cell? ⟨w3.heap.size, 0, none⟩ = some (.slice a3 xs.length c3) := new_cell2 _ _ _ _ _ _ (by simp) rfl
  have sz5 : w3.heap.size + 1 = (w3.alloc (.cells #[.slice a3 xs.length c3] 76)).heap.size := by simp
  have SZ5 := hide sz5
  replace sz5 := Nat.le_of_eq sz5
  replace qf0 := kn.loose0 (World.block_lt_of_cell? _ _ q0) qf0
  replace p0 := kn.cell0 p0
  replace q0 := kn.cell0 q0
  replace K := hide ((unhide K).trans kn)
  have z6 := kn.size
  clear kn
  clear j0
  go_wp2_with fail
  generalize (w3.alloc (.cells #[.slice a3 xs.length c3] 76)) = wn7 at *
  have mk := root_impl wn7 n3 hx lx
  rw [unhide EG] at mk
  refine (mk).mono ?_
  rintro e w8 ⟨v4, rfl, o4, k8⟩
  replace n3 := n3.kept k8
  replace qf0 := k8.loose0 (World.block_lt_of_cell? _ _ q0) qf0
  replace p0 := k8.cell0 p0
  replace q0 := k8.cell0 q0
  replace K := hide ((unhide K).trans k8)
  have z9 := k8.size
  clear k8
  clear mk n3
  obtain ⟨a4, c4, hv⟩ := own_slice o4
  subst hv
  have n4 := Num.new 76 o4
  clear o4
  have kn := (Kept.refl 0 0 w8).alloc (.cells #[.slice a4 zg.length c4] 76)
  have l0 : (w8.alloc (.cells #[.slice a4 zg.length c4] 76)).cell? ⟨w8.heap.size, 0, none⟩ = some (.slice a4 zg.length c4) := new_cell2 _ _ _ _ _ _ (by simp) rfl
  have sz10 : w8.heap.size + 1 = (w8.alloc (.cells #[.slice a4 zg.length c4] 76)).heap.size := by simp
  have SZ10 := hide sz10
  replace sz10 := Nat.le_of_eq sz10
  replace qf0 := kn.loose0 (World.block_lt_of_cell? _ _ q0) qf0
  replace p0 := kn.cell0 p0
  replace q0 := kn.cell0 q0
  replace K := hide ((unhide K).trans kn)
  have z11 := kn.size
  clear kn
  clear l0
  go_wp2_with fail
  generalize (w8.alloc (.cells #[.slice a4 zg.length c4] 76)) = wn12 at *
  refine (told_impl _ n4).mono ?_
  rintro e w13 ⟨v5, rfl, r5, k13⟩
  replace n4 := n4.kept k13
  replace qf0 := k13.loose0 (World.block_lt_of_cell? _ _ q0) qf0
  replace p0 := k13.cell0 p0
  replace q0 := k13.cell0 q0
  replace K := hide ((unhide K).trans k13)
  have z14 := k13.size
  clear k13
  clear n4
  have tq : tell zg = zg := by unfold tell; rw [if_pos lg]
  rw [tq] at r5
  rw [decide_eq_true lg]
  clear tq
  obtain ⟨a5, c5, hv⟩ := Row.form' r5
  subst hv
  have kn := (Kept.refl 0 0 w13).alloc (.cells #[.slice a5 zg.length c5] 26)
  have m0 : (w13.alloc (.cells #[.slice a5 zg.length c5] 26)).cell? ⟨w13.heap.size, 0, none⟩ = some (.slice a5 zg.length c5) := new_cell2 _ _ _ _ _ _ (by simp) rfl
  have sz15 : w13.heap.size + 1 = (w13.alloc (.cells #[.slice a5 zg.length c5] 26)).heap.size := by simp
  have SZ15 := hide sz15
  replace sz15 := Nat.le_of_eq sz15
  replace r5 := r5.kept kn (by omega)
  replace qf0 := kn.loose0 (World.block_lt_of_cell? _ _ q0) qf0
  replace p0 := kn.cell0 p0
  replace q0 := kn.cell0 q0
  replace K := hide ((unhide K).trans kn)
  have z16 := kn.size
  clear kn
  go_wp2_with fail
  generalize (w13.alloc (.cells #[.slice a5 zg.length c5] 26)) = wn17 at *
  have R := hide (((r5.set_other (p := ⟨w.heap.size + 1, 0, none⟩) (.inl (by have := unhide S0; dsimp only; omega)) (.slice a5 zg.length c5))).tight.wider (lo' := w.heap.size) (by have := unhide S0; omega) (Nat.le_refl _))
  have K7 := hide ((unhide K).setNew (p := ⟨w.heap.size + 1, 0, none⟩) (by simp) (.slice a5 zg.length c5))
  clear r5 K
  go_wp2_with fail
  exact bodyPost_ret (v := .agg #[.slice a5 zg.length c5]) (by simp [results, Try.results37, go_sem, q0]) rfl ⟨_, rfl, by rw [unhide HZ]; exact unhide R, unhide K7⟩

end Go.Proofs.Ytdhponfpikclhaa
