/-
  The norm of a square; MatNorm of the program.
-/
import Derived.Test.YthahoabkehcgbaaGreatDoorNr2
import Derived.Test.YthahoabkehcgbaaGreatDoorMtr1
namespace Go.Proofs.YthahoabkehcgbaaGreatDoor
open Go.RowKit
set_option linter.unusedVariables false
set_option maxRecDepth 8000
set_option linter.unusedSimpArgs false

theorem Nums.reS {b k : Nat} {S S' : Nat → Prop} {w w' : World} {G : Nat → Nat} {F : Nat → DE} (h : Nums b S w k G F) (m : Mod S w w') (hS : ∀ x, S' x → S x ∨ w.heap.size ≤ x) : Nums b S' w' k G F := by
  obtain ⟨L, H, h1, h2⟩ := h
  refine ⟨L, H, fun p hp => ?_, h2⟩
  obtain ⟨d, q1, q2, q3⟩ := h1 p hp
  exact ⟨d.mod m q3, q1, Nat.le_trans q2 m.size, fun x hx1 hx2 hx => (hS x hx).elim (q3 x hx1 hx2) (fun h => by omega)⟩
theorem Nums.moreN {b k g : Nat} {S : Nat → Prop} {w w' : World} {G : Nat → Nat} {F : Nat → DE} {d : DE} (h : Nums b S w k G F) (m : Kept 0 0 w w') (hb : b ≤ w.heap.size) (hS : ∀ x, S x → x < w.heap.size) (hS0 : k = 0 → ∀ x, ¬ S x) (D0 : DyP (fun x => x < b) w' g d) (D : 1 ≤ k → DyP (fun x => x < w.heap.size) w' g d) : Nums b S w' (k + 1) (updG G k g) (fun p => if p = k then d else F p) := by
  by_cases hk : k = 0
  · subst hk
    refine ⟨fun _ => b, fun _ => w'.heap.size, fun p hp => ?_, fun p q hp hq hne => absurd hne (by omega)⟩
    have hp0 : p = 0 := by omega
    subst hp0
    dsimp only
    rw [if_pos rfl, updG_on]
    exact ⟨D0.dw, Nat.le_refl _, Nat.le_refl _, fun x _ _ h => hS0 rfl x h⟩
  · have hc : Nums b S w k G (fun p => if p = k then d else F p) := h.congr (fun _ _ => rfl) (fun p hp => by rw [if_neg (by omega)])
    exact hc.step m hb hS (by simp only [if_pos]; exact D (by omega))
/-- The sums of the columns' sizes. -/
def colV (n : Nat) (V : Nat → Int) (j : Nat) : Int := psum (fun i => ((V (i * n + j)).natAbs : Int)) n
theorem psum_nonneg {f : Nat → Int} : ∀ (m : Nat), (∀ q, q < m → 0 ≤ f q) → 0 ≤ psum f m
  | 0, _ => Int.le_refl _
  | m + 1, h => by have := psum_nonneg m (fun q hq => h q (by omega)); have := h m (by omega); show 0 ≤ psum f m + f m; omega
theorem psum_congr {f g : Nat → Int} : ∀ (m : Nat), (∀ q, q < m → f q = g q) → psum f m = psum g m
  | 0, _ => rfl
  | m + 1, h => by show psum f m + f m = psum g m + g m; rw [psum_congr m (fun q hq => h q (by omega)), h m (by omega)]
theorem mxV_congr {f g : Nat → Int} : ∀ (m : Nat), (∀ q, q < m → f q = g q) → mxV f m = mxV g m
  | 0, _ => rfl
  | m + 1, h => by unfold mxV; rw [mxV_congr m (fun q hq => h q (by omega)), h m (by omega)]
theorem mxV_lt {V : Nat → Int} {A : Nat} : ∀ (m : Nat), (∀ q, q < m → (V q).natAbs < 2 ^ A) → (mxV V m).natAbs < 2 ^ A
  | 0, _ => Nat.pow_pos (by decide)
  | m + 1, h => by unfold mxV; split; exact h m (by omega); exact mxV_lt m (fun q hq => h q (by omega))

set_option maxHeartbeats 16000000 in
theorem normOf_impl {S1 : Nat → Prop} {R1 n b1 : Nat} {G1 : Nat → Nat} {F1 : Nat → DE} {L : Int} {V : Nat → Int} (w : World) (hL : -40000 ≤ L) (h0 : 0 < n) (hn : n ≤ 1000) (s1 : SqG S1 w R1 n n G1) (m1 : Nums b1 S1 w (n * n) G1 F1) (hv : ∀ p, p < n * n → NV L (V p) (F1 p)) (hs : ∀ j m, j < n → m ≤ n → (psum (fun i => ((V (i * n + j)).natAbs : Int)) m).natAbs < 2 ^ AA) :
    Calls Tryz.prog 84 #[.agg #[.slice (some ⟨R1, 0, none⟩) n n]] w fun e w' => ∃ g d, e = .returned (.pointer (some ⟨g, 0, none⟩)) ∧ DyP (fun x => x < w.heap.size) w' g d ∧ NV L (mxV (colV n V) n) d ∧ Kept 0 0 w w' := by
  obtain ⟨W, hW⟩ : ∃ W, W = w.alloc (.cells #[.slice (some ⟨R1, 0, none⟩) n n] 113) := ⟨_, rfl⟩
  have k0 : Kept 0 0 w W := by rw [hW]; exact (Kept.refl 0 0 w).alloc _
  have c0 : W.cell? ⟨w.heap.size, 0, none⟩ = some (.slice (some ⟨R1, 0, none⟩) n n) := by rw [hW]; exact new_cell2 _ _ _ _ _ _ rfl rfl
  have hev := eachS_impl (V := fun p => ((V p).natAbs : Int)) 146 in_sizeD W hn (s1.kept k0) (m1.mod (k0.toMod (S := S1))) (fun p u w' hp n' d' e' => sizeD_impl w' n' d' e' (hv p hp))
  obtain ⟨i1, hi1, hy0, hy1, hy2⟩ := info_parts Tryz.infoPD
  have HS := hide hs
  have K0 := hide k0
  have SW : Hid (w.heap.size ≤ W.heap.size) := k0.size
  rw [hW] at hev
  clear hs k0 s1 m1 hv
  go_enter Tryz.func84, Tryz.ntmps84
  go_wp2_with fail
  refine hev.mono ?_
  rw [← hW]
  rintro e w1 ⟨R2, G2, S2, F2, rfl, sq2, nm2, nv2, hS2, k2⟩
  clear hev hW
  have htu := turned_impl w1 hn sq2 nm2
  have NV2 := hide nv2
  have K2 := hide ((unhide K0).trans k2)
  clear c0 sq2 nm2 nv2 hS2 k2 K0
  go_wp2_with fail
  refine htu.mono ?_
  rintro e w2 ⟨R3, G3, S3, rfl, sq3, nm3, hS3, k3⟩
  clear htu
  obtain ⟨W3, hW3⟩ : ∃ W3, W3 = w2.alloc (.cells #[.slice (some ⟨R3, 0, none⟩) n n] 113) := ⟨_, rfl⟩
  have kW := (Kept.refl 0 0 w2).alloc (.cells #[.slice (some ⟨R3, 0, none⟩) n n] 113)
  rw [← hW3] at kW
  have q0 : W3.cell? ⟨w2.heap.size, 0, none⟩ = some (.slice (some ⟨R3, 0, none⟩) n n) := by rw [hW3]; exact new_cell2 _ _ _ _ _ _ rfl rfl
  have SQ := hide (sq3.kept kW)
  have NM : Hid (∀ p, p < n * n → DyP (fun x => x < w.heap.size) W3 (G3 p) (F2 (turP n p))) := fun p hp => ((nm3.dyp hp).kept kW).less (fun x hx _ => by have := unhide SW; omega)
  have K3 := hide (((unhide K2).trans k3).trans kW)
  have HW3 := hide hW3
  clear K2 sq3 nm3 hS3 k3 kW hW3
  go_wp2_with fail
  rw [← unhide HW3]
  clear HW3
  go_loopw [13, 4] (fun s13 s4 wr => ∃ (j : Nat) (v : Value), s13 = .int .i64 j ∧ s4 = v ∧ j ≤ n ∧ Hid (j = 0 → v.ownBlock = none) ∧ Hid (∃ G F, wr.ownsRow W3.heap.size 77 1 v j (ptrs G j) ∧ Nums w.heap.size (fun x => v.ownBlock = some x) wr j G F ∧ ∀ p, p < j → NV L (colV n V p) (F p)) ∧ Kept 0 0 W3 wr) (fun s13 _ _ => n - (intOf s13).toNat)
  case atStart => exact ⟨0, _, rfl, rfl, Nat.zero_le _, fun _ => rfl, ⟨fun _ => 0, fun _ => de0, World.ownsRow_nil _ _ _ _, ⟨fun _ => 0, fun _ => 0, fun p hp => absurd hp (by omega), fun p q hp => absurd hp (by omega)⟩, fun p hp => absurd hp (by omega)⟩, Kept.refl _ _ _⟩
  case round =>
    clear q0
    obtain ⟨j, v, rfl, rfl, hj', VN, hO, kk⟩ := hrel
    obtain ⟨G5, F5, ho, nm5, nv5⟩ := unhide hO
    obtain ⟨av, cv, hv⟩ := own_slice ho
    subst hv
    have hwi : IntKind.i64.wrap ((j : Int) + 1) = ((j + 1 : Nat) : Int) := by rw [IntKind.wrap_i64]; omega
    by_cases hlt : j < n
    · obtain ⟨rr, cr, -, -, -, q4⟩ := (unhide SQ).2.2 j hlt
      have hcr := kk.cell0 cr
      have hZr : w.heap.size ≤ wr.heap.size := ((unhide K3).trans kk).size
      have ht := total_new (L := L) (base := w.heap.size) (gl := rr) (P := fun q => G3 (j * n + q)) (F := fun q => F2 (turP n (j * n + q))) (V := fun q => ((V (turP n (j * n + q))).natAbs : Int)) (c := n) wr hL h0 hn (Nat.le_refl _) (by omega) hZr (fun q hq => kk.cell0 (q4 q hq)) (fun q hq => ⟨((unhide NM) _ (place_lt hlt hq)).kept kk, unhide NV2 _ (turP_lt (place_lt hlt hq))⟩) (fun q hq => by
        rw [psum_congr (g := fun i => ((V (i * n + j)).natAbs : Int)) q (fun i hi => by rw [turP_at j (by omega)])]
        exact unhide HS j q hlt hq)
      rw [psum_congr (g := fun i => ((V (i * n + j)).natAbs : Int)) n (fun i hi => by rw [turP_at j hi])] at ht
      have O5 := hide ho
      have N5 := hide nm5
      have V5 := hide nv5
      have KK := hide kk
      have HZ := hide hZr
      clear cr q4 ho nm5 nv5 kk hZr hO
      go_wp2_with fail
      refine ht.mono ?_
      rintro e w5 ⟨g5, d5, rfl, dp, nv, k5, dn⟩
      have kA := (Kept.refl 0 0 w5).alloc (.cells #[.pointer (some ⟨g5, 0, none⟩)] 77)
      have hcn : (w5.alloc (.cells #[.pointer (some ⟨g5, 0, none⟩)] 77)).cell? ⟨w5.heap.size, 0, none⟩ = some (.pointer (some ⟨g5, 0, none⟩)) := new_cell2 _ _ _ _ _ _ rfl rfl
      have OWN := hide (own_kept (unhide O5) (k5.trans kA))
      have HN := hide (lit_cell hcn)
      have HB2 := hide (Nat.le_trans (Nat.le_trans (unhide KK).size k5.size) kA.size)
      have KK2 := hide (((unhide KK).trans k5).trans kA)
      have HVG := hide (show ∀ q, (Value.slice av j cv).ownBlock = some q → W3.heap.size ≤ q from fun q hq => ((unhide O5).lt q hq).1)
      have NN : Hid (Nums w.heap.size (fun x => (Value.slice av j cv).ownBlock = some x) (w5.alloc (.cells #[.pointer (some ⟨g5, 0, none⟩)] 77)) (j + 1) (updG G5 j g5) (fun p => if p = j then d5 else F5 p)) := (unhide N5).moreN (k5.trans kA) (unhide HZ) (fun x hx => ((unhide O5).lt x hx).2) (fun h x hx => by rw [unhide VN h] at hx; cases hx) (dp.kept kA) (fun h1 => (dn (by omega)).kept kA)
      have NF : Hid (∀ p, p < j + 1 → NV L (colV n V p) (if p = j then d5 else F5 p)) := fun p hp => by
        by_cases hpj : p = j
        · subst hpj; rw [if_pos rfl]; exact nv
        · rw [if_neg hpj]; exact unhide V5 p (by omega)
      have H1 : Hid (∀ u ∈ [Value.pointer (some ⟨g5, 0, none⟩)], u.oneCell' = true) := fun u hu => by
        cases List.mem_singleton.1 hu
        rfl
      have C3 : Hid (j + 1 ≤ maxLen) := by show _ ≤ _; unfold maxLen; omega
      have C4 : Hid ((j + 1) * 8 ≤ 140737488355328) := by show _ ≤ _; omega
      have KA := hide kA
      clear ht dp nv k5 dn kA hcn O5 N5 V5 KK HZ
      go_wp2_with (at_builtin; refine wpList_append_at rfl _ _ 176 rfl W3.heap.size 77 i1 (.pointer none) 1 8 Tryz.underlying176 hi1 hy0 hy1 hy2 rfl (by decide) _ _ _ rfl (unhide OWN) ⟨w5.heap.size, 0, none⟩ 1 1 [Value.pointer (some ⟨g5, 0, none⟩)] rfl rfl (unhide HN) (unhide H1) (unhide C3) (unhide C4) (unhide HB2) ?_)
      intro v4 w4 hown4 hgrow h5
      have K4 := hide ((unhide KK2).growNew hgrow (fun q hq => unhide HVG q hq))
      have O4 : Hid (∃ G F, w4.ownsRow W3.heap.size 77 1 v4 (j + 1) (ptrs G (j + 1)) ∧ Nums w.heap.size (fun x => v4.ownBlock = some x) w4 (j + 1) G F ∧ ∀ p, p < j + 1 → NV L (colV n V p) (F p)) := by
        have e1 : ptrs (updG G5 j g5) (j + 1) = ptrs G5 j ++ [Value.pointer (some ⟨g5, 0, none⟩)] := by
          rw [ptrs_add, ptrs_congr (G' := G5) (fun p hp => updG_off G5 (by omega))]
          simp [ptrs, updG_on]
        refine ⟨updG G5 j g5, fun p => if p = j then d5 else F5 p, by rw [e1]; exact hown4, ?_, unhide NF⟩
        exact (unhide NN).reS ((Mod.refl _ _).grow hgrow (fun q hq => .inl hq)) (fun x hx => h5.elim (fun e => .inl (e ▸ hx)) (fun e => .inr (by have h7 : w5.heap.size + 1 = x := Option.some.inj (e.symm.trans hx); simp; omega)))
      clear hown4 hgrow h5 OWN HN H1 C3 C4 HB2 KK2 HVG hcr NN NF KA
      go_wp2
      go_roundw
      case rel => exact ⟨j + 1, v4, by simp, rfl, hlt, fun h => absurd h (by omega), O4, unhide K4⟩
      case measure => simp [intOf]; omega
    · have hin : j = n := by omega
      subst hin
      obtain ⟨gl, cl, hv⟩ : ∃ gl cl, (Value.slice av j cv) = .slice (some ⟨gl, 0, none⟩) j cl := by
        rcases ho.2 with ⟨e, hn0⟩ | ⟨g, cap, cur, e, _⟩
        · omega
        · exact ⟨g, cap, e⟩
      cases hv
      have hcap : j ≤ cv := by
        rcases ho.2 with ⟨e, hn0⟩ | ⟨g, cap, cur, e, _, _, q1, q2, _⟩
        · omega
        · cases e; exact q1
      have kw := (unhide K3).trans kk
      have hl : ∀ q, q < j → wr.cell? ⟨gl, q, none⟩ = some (.pointer (some ⟨G5 q, 0, none⟩)) := fun q hq => by
        have h1 := ho.cells (g := gl) rfl q _ (ptrs_at G5 hq)
        rw [Addr.add_lit, Nat.zero_add] at h1
        exact h1
      obtain ⟨U5, nl⟩ := nm5.listL kw
      have hm := maxP_impl (L := L) (V := colV j V) w wr hL h0 hn hcap (fun p hp => ⟨psum_nonneg _ (fun q hq => Int.natCast_nonneg _), unhide HS p j hp (Nat.le_refl _)⟩) nl nv5 hl (fun p hp e => by
        have h1 := (nl.n p hp).1.cell
        obtain ⟨a, c, hv⟩ := (nl.n p hp).1.form
        rw [hv] at h1
        have h2 := hl 0 h0
        rw [e, h1] at h2
        cases h2)
      clear ho nm5 nv5 kk hO SQ NM NV2 HS K3 kw hl nl hcap
      go_wp2_with fail
      refine hm.mono ?_
      rintro e w6 ⟨p, U6, F6, hp, rfl, nl6, nv6, hV⟩
      obtain ⟨n6, s6, e6, b6⟩ := nl6.n p hp
      have DP : Hid (DyP (fun x => x < w.heap.size) w6 (G5 p) (F6 p)) := ⟨_, n6.less (Nat.zero_le _), s6, e6, by omega, fun i hi => by have := (n6.own.lt i hi).1; omega⟩
      have NVV : Hid (NV L (mxV (colV j V) j) (F6 p)) := by show NV _ _ _; rw [← hV]; exact nv6 p hp
      have K6 := hide nl6.k0
      clear hm n6 s6 e6 b6 nl6 nv6 hV hp
      go_wp2
      go_ret
      exact ⟨_, _, rfl, unhide DP, unhide NVV, unhide K6⟩

/-- The norm of a matrix, in units of 2 to the power -3000. -/
def nrM (k : Nat) (ds : List DE) : Int := mxV (colV k (fun p => dv (-3000) (ds.getD p de0))) k
def nrV (n : Int) (ds : List DE) : Int := nrM n.toNat ds
theorem nrM_eq (k : Nat) (ds : List DE) : mxV (colV k (fun p => dv (-3000) (ds.getD p de0))) k = nrM k ds := rfl
theorem nrS_lt {k j m : Nat} {ds : List DE} (h4 : k ≤ 4) (hj : j < k) (hm : m ≤ k) (U : ∀ p, p < k * k → dOkE (ds.getD p de0) = true) : (psum (fun i => ((dv (-3000) (ds.getD (i * k + j) de0)).natAbs : Int)) m).natAbs < 2 ^ AA := by
  obtain ⟨A, hA⟩ : ∃ A : Nat, A = 7600 := ⟨_, rfl⟩
  exact lt_up (psum_lt m (fun q hq => by have := dv_lt (U _ (place_lt (show q < k by omega) hj)) hA; rw [Int.natAbs_natCast]; exact this)) (by unfold AA; omega)

end Go.Proofs.YthahoabkehcgbaaGreatDoor
