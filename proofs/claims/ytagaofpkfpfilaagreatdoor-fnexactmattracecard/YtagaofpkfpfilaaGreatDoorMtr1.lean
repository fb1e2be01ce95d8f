/-
  MatTrace of the program.
-/
import Derived.Test.YtagaofpkfpfilaaGreatDoorTm2
import Derived.Test.YtagaofpkfpfilaaGreatDoorMt0
import Derived.Test.YtagaofpkfpfilaaGreatDoorDy7
namespace Go.Proofs.YtagaofpkfpfilaaGreatDoor
open Go.RowKit
set_option linter.unusedVariables false
set_option maxRecDepth 8000
set_option linter.unusedSimpArgs false

/-- What a number is worth, in units of 2 to the power L. -/
def dv (L : Int) (d : DE) : Int := wval d.1 d.2.1 * 2 ^ (d.2.2 - L).toNat
theorem dok_nv {d : DE} (h : dOkE d = true) {L : Int} (hL : L ≤ -3000) : NV L (dv L d) d := by
  obtain ⟨h1, h2, h3, -, -⟩ := dok_parts h
  obtain ⟨-, -, lx, hx⟩ := wok_int h1
  exact ⟨⟨by omega, hx, rfl⟩, by omega, by omega⟩
theorem dv_lt {d : DE} (h : dOkE d = true) {A : Nat} (hA : A = 7600) : (dv (-3000) d).natAbs < 2 ^ A := by
  obtain ⟨h1, h2, h3, -, -⟩ := dok_parts h
  obtain ⟨-, -, lx, hx⟩ := wok_int h1
  exact lt_up (shl_lt _ (wval_lt hx.1)) (by omega)
theorem psum_lt {f : Nat → Int} {A : Nat} : ∀ (m : Nat), (∀ q, q < m → (f q).natAbs < 2 ^ A) → (psum f m).natAbs < 2 ^ (A + m)
  | 0, _ => Nat.pow_pos (by decide)
  | m + 1, h => by
    have h1 := psum_lt m (fun q hq => h q (by omega))
    have h2 := lt_up (h m (by omega)) (show A ≤ A + m by omega)
    exact add_lt h1 h2
theorem dok_len {s : Bool} {z : List Int} {y : Int} (h : dokB s z y = true) : z.length ≤ 100 ∧ Nrm z ∧ -3000 ≤ y ∧ y ≤ 3000 := by
  obtain ⟨h1, h2, h3, -, -⟩ := dok_parts h
  exact ⟨(wok_int h1).2.2.1, (wok_int h1).2.2.2, h2, h3⟩
/-- What is told of a number hangs on its worth alone. -/
theorem ans_V {L V : Int} {d : DE} (c : Bool) (h : IsV L V d) : ansDB c (wval d.1 d.2.1) d.2.2 = ansDB c V L ∧ ansDS c (wval d.1 d.2.1) d.2.2 = ansDS c V L ∧ ansDL c (wval d.1 d.2.1) d.2.2 = ansDL c V L ∧ ansDE c (wval d.1 d.2.1) d.2.2 = ansDE c V L := by
  obtain ⟨h1, h2, h3⟩ := h
  obtain ⟨a1, a2, a3, a4⟩ := ansD_shift c (wval d.1 d.2.1) d.2.2 (d.2.2 - L).toNat
  rw [h3, show d.2.2 - ((d.2.2 - L).toNat : Int) = L by omega] at a1 a2 a3 a4
  exact ⟨a1.symm, a2.symm, a3.symm, a4.symm⟩
/-- The numbers on the way down. -/
def trF (k : Nat) (ds : List DE) (q : Nat) : Int := dv (-3000) (ds.getD (q * k + q) de0)
def trV (n : Int) (ds : List DE) : Int := psum (trF n.toNat ds) n.toNat
theorem trS_lt {k m : Nat} {ds : List DE} (h4 : k ≤ 4) (hm : m ≤ k) (U : ∀ p, p < k * k → dOkE (ds.getD p de0) = true) : (psum (trF k ds) m).natAbs < 2 ^ AA := by
  obtain ⟨A, hA⟩ : ∃ A : Nat, A = 7600 := ⟨_, rfl⟩
  exact lt_up (psum_lt m (fun q hq => dv_lt (U _ (place_lt (show q < k by omega) (show q < k by omega))) hA)) (by unfold AA; omega)
theorem Nums.dyp {b k p : Nat} {S : Nat → Prop} {w : World} {G : Nat → Nat} {F : Nat → DE} (h : Nums b S w k G F) (hp : p < k) : DyP (fun x => x < b) w (G p) (F p) := by
  obtain ⟨L, H, h1, -⟩ := h
  obtain ⟨⟨u, n, s, e, q1, q2, q3⟩, r1, -⟩ := h1 p hp
  exact ⟨u, n, s, e, by omega, fun i hi => by have := q3 i hi; omega⟩

set_option maxHeartbeats 16000000 in
theorem matTrace_impl {lo hi : Nat} {v : Value} {ds : List DE} (n : Int) (w : World) (hw : WfD ds) (r : Dys lo hi w v ds) (T : TabB w) :
    Calls Tryz.prog 10 #[.agg #[.int .i64 n, v]] w fun e w' => ∃ v', e = .returned (.tuple #[.agg #[.bool (ansDS (mokB n ds) (trV n ds) (-3000)), v', .int .i64 (ansDE (mokB n ds) (trV n ds) (-3000))], .bool (ansDB (mokB n ds) (trV n ds) (-3000))]) ∧ Row .i64 true w.heap.size w'.heap.size w' v' (ansDL (mokB n ds) (trV n ds) (-3000)) ∧ Kept 0 0 w w' := by
  obtain ⟨W, hW⟩ : ∃ W, W = (w.alloc (.cells #[.int .i64 n, v] 37)).alloc (.cells #[.bool false, .slice none 0 0, .int .i64 0] 32) := ⟨_, rfl⟩
  have k0 : Kept 0 0 w W := by rw [hW]; exact ((Kept.refl 0 0 w).alloc _).alloc _
  have c0 : W.cell? ⟨w.heap.size, 0, none⟩ = some (.int .i64 n) := by rw [hW]; exact old_cell _ (new_cell2 _ _ _ _ _ _ (by simp) rfl)
  have c1 : W.cell? ⟨w.heap.size, 1, none⟩ = some v := by rw [hW]; exact old_cell _ (new_cell2 _ _ _ _ _ _ (by simp) rfl)
  have q0 : W.cell? ⟨w.heap.size + 1, 0, none⟩ = some (.bool false) := by rw [hW]; exact new_cell2 _ _ _ _ _ _ (by simp) rfl
  have f0 : W.frozen? ⟨w.heap.size + 1, 0, none⟩ = false := by rw [hW]; exact new_loose2 _ _ _ _ _ (by simp)
  have q1 : W.cell? ⟨w.heap.size + 1, 1, none⟩ = some (.slice none 0 0) := by rw [hW]; exact new_cell2 _ _ _ _ _ _ (by simp) rfl
  have f1 : W.frozen? ⟨w.heap.size + 1, 1, none⟩ = false := by rw [hW]; exact new_loose2 _ _ _ _ _ (by simp)
  have q2 : W.cell? ⟨w.heap.size + 1, 2, none⟩ = some (.int .i64 0) := by rw [hW]; exact new_cell2 _ _ _ _ _ _ (by simp) rfl
  have f2 : W.frozen? ⟨w.heap.size + 1, 2, none⟩ = false := by rw [hW]; exact new_loose2 _ _ _ _ _ (by simp)
  have sW : W.heap.size = w.heap.size + 2 := by rw [hW]; simp
  have r0 := r.kept k0 (by omega)
  have ho := matOk_impl n W hw r0
  obtain ⟨a, c, rfl, -, -⟩ := r.form
  rw [hW] at ho
  have TT := hide T
  have HT := hide (World.block_lt_of_cell? _ _ (T 0 (by decide)))
  clear r T
  go_enter Tryz.func10, Tryz.ntmps10
  go_wp2_with fail
  rw [← hW] at ho ⊢
  clear hW
  refine ho.mono ?_
  rintro e w1 ⟨rfl, k1⟩
  replace f0 := k1.loose0 (World.block_lt_of_cell? _ _ q0) f0
  replace f1 := k1.loose0 (World.block_lt_of_cell? _ _ q1) f1
  replace f2 := k1.loose0 (World.block_lt_of_cell? _ _ q2) f2
  replace c0 := k1.cell0 c0
  replace c1 := k1.cell0 c1
  replace q0 := k1.cell0 q0
  replace q1 := k1.cell0 q1
  replace q2 := k1.cell0 q2
  replace r0 := r0.kept k1 (by omega)
  have K1 := hide (k0.trans k1)
  have z1 := k1.size
  clear ho k0 k1
  cases hk : mokB n ds
  · have K7 := hide ((((unhide K1).setNew (p := ⟨w.heap.size + 1, 0, none⟩) (by simp) (.bool false)).setNew (p := ⟨w.heap.size + 1, 1, none⟩) (by simp) (.slice none 0 0)).setNew (p := ⟨w.heap.size + 1, 2, none⟩) (by simp) (.int .i64 0))
    have HB := hide hk
    clear r0 K1 hk
    go_wp2
    exact bodyPost_ret (v := .tuple #[.agg #[.bool false, .slice none 0 0, .int .i64 0], .bool false]) (by simp [results, Tryz.results10, go_sem, q0, q1, q2]) rfl ⟨.slice none 0 0, by rw [unhide HB]; rfl, by rw [unhide HB]; exact Row.nil _ _ _ _ _, unhide K7⟩
  obtain ⟨u1, u2, u3, U⟩ := mok_partsA hk
  obtain ⟨k, rfl⟩ := Int.eq_ofNat_of_zero_le (show 0 ≤ n by omega)
  have hlen : ds.length = k * k := by rw [← Int.natCast_mul] at u3; omega
  have hsc := squareOf_impl w1 (show k ≤ 1000 by omega) hlen (fun q hq => by have := (dok_len (U q hq)).1; omega) r0
  have HB := hide hk
  have HU : Hid (∀ p, p < k * k → dOkE (ds.getD p de0) = true) := fun p hp => U p (by omega)
  have hk1 : 0 < k := by omega
  have hk4 : k ≤ 4 := by omega
  obtain ⟨i1, hi1, hy0, hy1, hy2⟩ := info_parts Tryz.infoPD
  clear u1 u2 u3 U hlen hk r0 hw
  go_wp2_with fail
  refine hsc.mono ?_
  rintro e w3 ⟨R3, G3, S3, rfl, sq3, nm3, hS3, k3⟩
  have hfl : (Instr.field 55 (.agg #[.slice (some ⟨R3, 0, none⟩) k k]) 0).run Tryz.prog w3 = .ok (.slice (some ⟨R3, 0, none⟩) k k) w3 := by kernel_rfl
  replace f0 := k3.loose0 (World.block_lt_of_cell? _ _ q0) f0
  replace f1 := k3.loose0 (World.block_lt_of_cell? _ _ q1) f1
  replace f2 := k3.loose0 (World.block_lt_of_cell? _ _ q2) f2
  replace q0 := k3.cell0 q0
  replace q1 := k3.cell0 q1
  replace q2 := k3.cell0 q2
  have K3 := hide ((unhide K1).trans k3)
  have K1s := hide (unhide K1).size
  have z3 := k3.size
  have SQ := hide sq3
  have NM := hide nm3
  clear hsc k3 K1 c0 c1 sq3 nm3 hS3
  go_wp2_with fail
  clear hfl
  go_loopw [15, 4] (fun s15 s4 wr => ∃ (i : Nat) (v : Value), s15 = .int .i64 i ∧ s4 = v ∧ i ≤ k ∧ Hid (wr.ownsRow w3.heap.size 57 1 v i (ptrs (fun q => G3 (q * k + q)) i)) ∧ Kept 0 0 w3 wr) (fun s15 _ _ => k - (intOf s15).toNat)
  case atStart => exact ⟨0, _, rfl, rfl, Nat.zero_le _, World.ownsRow_nil _ _ _ _, Kept.refl _ _ _⟩
  case round =>
    obtain ⟨i, v, rfl, rfl, hi', hO, kk⟩ := hrel
    obtain ⟨av, cv, hv⟩ := own_slice (unhide hO)
    subst hv
    have hwi : IntKind.i64.wrap ((i : Int) + 1) = ((i + 1 : Nat) : Int) := by rw [IntKind.wrap_i64]; omega
    by_cases hlt : i < k
    · obtain ⟨rr, cr, -, -, -, q4⟩ := (unhide SQ).2.2 i hlt
      have hcr := kk.cell0 cr
      have hcp := kk.cell0 (q4 i hlt)
      have kA := (Kept.refl 0 0 wr).alloc (.cells #[.pointer (some ⟨G3 (i * k + i), 0, none⟩)] 57)
      have hcn : (wr.alloc (.cells #[.pointer (some ⟨G3 (i * k + i), 0, none⟩)] 57)).cell? ⟨wr.heap.size, 0, none⟩ = some (.pointer (some ⟨G3 (i * k + i), 0, none⟩)) := new_cell2 _ _ _ _ _ _ rfl rfl
      have OWN := hide (own_kept (unhide hO) kA)
      have HN := hide (lit_cell hcn)
      have HB2 := hide (Nat.le_trans kk.size kA.size)
      have KK2 := hide (kk.trans kA)
      have HVG := hide (show ∀ q, (Value.slice av i cv).ownBlock = some q → w3.heap.size ≤ q from fun q hq => ((unhide hO).lt q hq).1)
      have H1 : Hid (∀ u ∈ [Value.pointer (some ⟨G3 (i * k + i), 0, none⟩)], u.oneCell' = true) := fun u hu => by
        cases List.mem_singleton.1 hu
        rfl
      have C3 : Hid (i + 1 ≤ maxLen) := by show _ ≤ _; unfold maxLen; omega
      have C4 : Hid ((i + 1) * 8 ≤ 140737488355328) := by show _ ≤ _; omega
      clear cr q4 kA hcn hO kk
      go_wp2_with (at_builtin; refine wpList_append_at rfl _ _ 52 rfl w3.heap.size 57 i1 (.pointer none) 1 8 Tryz.underlying52 hi1 hy0 hy1 hy2 rfl (by decide) _ _ _ rfl (unhide OWN) ⟨wr.heap.size, 0, none⟩ 1 1 [Value.pointer (some ⟨G3 (i * k + i), 0, none⟩)] rfl rfl (unhide HN) (unhide H1) (unhide C3) (unhide C4) (unhide HB2) ?_)
      intro v4 w4 hown4 hgrow h5
      have O4 : Hid (w4.ownsRow w3.heap.size 57 1 v4 (i + 1) (ptrs (fun q => G3 (q * k + q)) (i + 1))) := by
        show World.ownsRow _ _ _ _ _ _ _
        rw [ptrs_add]
        have : ptrs (fun j => G3 ((i + j) * k + (i + j))) 1 = [Value.pointer (some ⟨G3 (i * k + i), 0, none⟩)] := by simp [ptrs]
        rw [this]
        exact hown4
      have K4 := hide ((unhide KK2).growNew hgrow (fun q hq => unhide HVG q hq))
      clear hown4 hgrow h5 OWN HN H1 C3 C4 HB2 KK2 HVG hcr hcp
      go_wp2
      go_roundw
      case rel => exact ⟨i + 1, v4, by simp, rfl, hlt, O4, unhide K4⟩
      case measure => simp [intOf]; omega
    · have hin : i = k := by omega
      subst hin
      have hown := unhide hO
      obtain ⟨gl, cl, hv⟩ : ∃ gl cl, (Value.slice av i cv) = .slice (some ⟨gl, 0, none⟩) i cl := by
        rcases hown.2 with ⟨e, hn0⟩ | ⟨g, cap, cur, e, _⟩
        · omega
        · exact ⟨g, cap, e⟩
      cases hv
      have hcap : i ≤ cv ∧ cv ≤ maxLen := by
        rcases hown.2 with ⟨e, hn0⟩ | ⟨g, cap, cur, e, _, _, q1, q2, _⟩
        · omega
        · cases e; exact ⟨q1, q2⟩
      have K1s' := unhide K1s
      have ht := total_impl (L := -3000) (base := w1.heap.size) (P := fun q => G3 (q * i + q)) (F := fun q => ds.getD (q * i + q) de0) (V := trF i ds) wr (by decide) hk1 (by omega) hcap.1 (by have := hcap.2; unfold maxLen at this; omega) (Nat.le_trans z3 kk.size) (fun q hq => by
        have h1 := hown.cells (g := gl) rfl q _ (ptrs_at (fun q => G3 (q * i + q)) hq)
        rw [Addr.add_lit, Nat.zero_add] at h1
        exact h1) (fun q hq => ⟨((unhide NM).dyp (place_lt hq hq)).kept kk, dok_nv (unhide HU _ (place_lt hq hq)) (by decide)⟩) (fun q hq => trS_lt hk4 hq (unhide HU))
      replace f0 := kk.loose0 (World.block_lt_of_cell? _ _ q0) f0
      replace f1 := kk.loose0 (World.block_lt_of_cell? _ _ q1) f1
      replace f2 := kk.loose0 (World.block_lt_of_cell? _ _ q2) f2
      replace q0 := kk.cell0 q0
      replace q1 := kk.cell0 q1
      replace q2 := kk.cell0 q2
      have KR := hide ((unhide K3).trans kk)
      have HZr := hide (Nat.le_trans z3 kk.size)
      clear hown hcap hO kk SQ NM HU K3
      go_wp2_with fail
      refine ht.mono ?_
      rintro e w5 ⟨g5, d5, rfl, dp, nv, k5⟩
      obtain ⟨u5, n5, s5, e5, y1, y2⟩ := dp
      have htd := toldDyadic_impl (wval d5.1 d5.2.1) rfl w5 n5 s5 e5 nv.1.2.1 (by have := nv.2.1; omega) (by have := nv.2.2; omega) (by have := nv.1.1; omega) (fun q hq => ((unhide KR).trans k5).cell0 (unhide TT q hq))
      obtain ⟨t1, t2, t3, t4⟩ := ans_V true nv.1
      rw [t1, t2, t3, t4] at htd
      obtain ⟨GB, hGB⟩ : ∃ y, ansDB true (psum (trF i ds) i) (-3000) = y := ⟨_, rfl⟩
      obtain ⟨GS, hGS⟩ : ∃ y, ansDS true (psum (trF i ds) i) (-3000) = y := ⟨_, rfl⟩
      obtain ⟨GL, hGL⟩ : ∃ y, ansDL true (psum (trF i ds) i) (-3000) = y := ⟨_, rfl⟩
      obtain ⟨GE, hGE⟩ : ∃ y, ansDE true (psum (trF i ds) i) (-3000) = y := ⟨_, rfl⟩
      rw [hGB, hGS, hGL, hGE] at htd
      have HG := hide (show ansDB true (trV (i : Int) ds) (-3000) = GB ∧ ansDS true (trV (i : Int) ds) (-3000) = GS ∧ ansDL true (trV (i : Int) ds) (-3000) = GL ∧ ansDE true (trV (i : Int) ds) (-3000) = GE from ⟨hGB, hGS, hGL, hGE⟩)
      have OW : Hid (∀ q, Own1 g5 u5 q → w1.heap.size ≤ q) := fun q hq => by
        rcases hq with h | h
        · subst h; omega
        · have := y2 q h; omega
      replace f0 := k5.loose0 (World.block_lt_of_cell? _ _ q0) f0
      replace f1 := k5.loose0 (World.block_lt_of_cell? _ _ q1) f1
      replace f2 := k5.loose0 (World.block_lt_of_cell? _ _ q2) f2
      replace q0 := k5.cell0 q0
      replace q1 := k5.cell0 q1
      replace q2 := k5.cell0 q2
      have K5 := hide ((unhide KR).trans k5)
      have hz5 := Nat.le_trans (unhide HZr) k5.size
      clear ht n5 s5 e5 y1 y2 nv k5 t1 t2 t3 t4 hGB hGS hGL hGE KR
      go_wp2_with fail
      refine htd.mono ?_
      rintro e w6 ⟨v6, rfl, r6, m6⟩
      obtain ⟨a6, d6, hv6⟩ := Row.form' r6
      subst hv6
      have hne : ¬ Own1 g5 u5 (w.heap.size + 1) := fun h => by have := unhide OW _ h; omega
      replace f0 := m6.loose (a := ⟨w.heap.size + 1, 0, none⟩) hne (World.block_lt_of_cell? _ _ q0) f0
      replace f1 := m6.loose (a := ⟨w.heap.size + 1, 1, none⟩) hne (World.block_lt_of_cell? _ _ q1) f1
      replace f2 := m6.loose (a := ⟨w.heap.size + 1, 2, none⟩) hne (World.block_lt_of_cell? _ _ q2) f2
      replace q0 := m6.cell (a := ⟨w.heap.size + 1, 0, none⟩) hne q0
      replace q1 := m6.cell (a := ⟨w.heap.size + 1, 1, none⟩) hne q1
      replace q2 := m6.cell (a := ⟨w.heap.size + 1, 2, none⟩) hne q2
      have K6 := (unhide K5).mod m6 (fun q hq => Nat.le_trans K1s' (unhide OW q hq))
      have hsz5 := (unhide K5).size
      have z6 := m6.size
      have hbig : w.heap.size + 2 ≤ w5.heap.size := by omega
      have R7 := hide ((((r6.set_other (p := ⟨w.heap.size + 1, 0, none⟩) (.inl (by dsimp only; omega)) (.bool GS)).set_other (p := ⟨w.heap.size + 1, 1, none⟩) (.inl (by dsimp only; omega)) (.slice a6 GL.length d6)).set_other (p := ⟨w.heap.size + 1, 2, none⟩) (.inl (by dsimp only; omega)) (.int .i64 GE)).tight.wider (lo' := w.heap.size) (by omega) (Nat.le_refl _))
      have K7 := hide (((K6.setNew (p := ⟨w.heap.size + 1, 0, none⟩) (by simp) (.bool GS)).setNew (p := ⟨w.heap.size + 1, 1, none⟩) (by simp) (.slice a6 GL.length d6)).setNew (p := ⟨w.heap.size + 1, 2, none⟩) (by simp) (.int .i64 GE))
      clear htd r6 m6 K5 K6 hne hsz5 hbig
      go_wp2
      exact bodyPost_ret (v := .tuple #[.agg #[.bool GS, .slice a6 GL.length d6, .int .i64 GE], .bool GB]) (by simp [results, Tryz.results10, go_sem, q0, q1, q2]) rfl ⟨_, by rw [unhide HB, (unhide HG).1, (unhide HG).2.1, (unhide HG).2.2.2], by rw [unhide HB, (unhide HG).2.2.1]; exact unhide R7, unhide K7⟩

end Go.Proofs.YtagaofpkfpfilaaGreatDoor
