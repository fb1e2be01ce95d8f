/-
  The program's times of numbers; total of a list of numbers.
-/
import Derived.Test.YtagaofpkfpfilaaGreatDoorPl2
import Derived.Test.YtagaofpkfpfilaaGreatDoorCat
import Derived.Test.YtagaofpkfpfilaaGreatDoorDys5
namespace Go.Proofs.YtagaofpkfpfilaaGreatDoor
open Go.RowKit
set_option linter.unusedVariables false
set_option maxRecDepth 8000
set_option linter.unusedSimpArgs false

set_option maxHeartbeats 4000000 in
theorem multiplyDyadic_old {b1 b2 : Nat} {w : World} {g1 g2 : Nat} {u1 u2 : Value} {s1 s2 : Bool} {xs ys : List Int} {x1 x2 : Int} (n01 : Num b1 w g1 u1 xs) (n02 : Num b2 w g2 u2 ys) (d01 : Sd w g1 s1) (d02 : Sd w g2 s2) (e01 : Ex w g1 x1) (e02 : Ex w g2 x2) (ne : g1 ≠ g2) (hx : Nrm xs) (hy : Nrm ys) (nx : xs.length ≤ 100000) (ny : ys.length ≤ 100000) (f1 : -40000 ≤ x1) (f2 : x1 ≤ 40000) (f3 : -40000 ≤ x2) (f4 : x2 ≤ 40000) :
    Calls Tryz.prog 148 #[.pointer (some ⟨g1, 0, none⟩), .pointer (some ⟨g2, 0, none⟩)] w fun e w' => (∃ r, e = .returned r) ∧ ∃ u, Num w.heap.size w' g1 u (limbs (val xs * val ys).toNat) ∧ Sd w' g1 (!(s1 == s2)) ∧ Ex w' g1 (x1 + x2) ∧ Mod (fun i => i = g1) w w' := by
  have kw := (Kept.refl 0 0 w).drew
  have d1 : Sd w.drew g1 s1 := ⟨kw.cell0 d01.1, kw.loose0 (a := ⟨g1, 1, none⟩) n01.lt d01.2⟩
  have d2 : Sd w.drew g2 s2 := ⟨kw.cell0 d02.1, kw.loose0 (a := ⟨g2, 1, none⟩) n02.lt d02.2⟩
  have e1 : Ex w.drew g1 x1 := ⟨kw.cell0 e01.1, kw.loose0 (a := ⟨g1, 2, none⟩) n01.lt e01.2⟩
  have e2 : Ex w.drew g2 x2 := ⟨kw.cell0 e02.1, kw.loose0 (a := ⟨g2, 2, none⟩) n02.lt e02.2⟩
  have HMS := hide (multiplySigned_tail _ (n01.kept kw) (n02.kept kw) d1 d2 ne hx.1 hy.1 nx ny)
  have KW := hide kw
  clear n01 n02 d01 d02 e01 e02 kw
  have hw : IntKind.i64.wrap (x1 + x2) = x1 + x2 := w64 _ (by omega) (by omega)
  go_enter Tryz.func148, Tryz.ntmps148
  go_wp2_with fail
  refine wp_region_held_drew (S := (fun _ => True)) (by kernel_rfl) ?_ (fun hHeld => ?_)
  · trivial
  refine wpAnyH_take (i := 0) (oi := _) (v := .pointer (some ⟨g1, 0, none⟩)) rfl (by kernel_rfl) (by kernel_rfl) (by kernel_rfl) (fun _ _ _ h => h) (Or.inl ⟨by rfl, ?_⟩) hHeld ?_
  · intro wq hSw
    try dsimp only at hSw
    go_simp
  try simp only [Act.put, List.getElem_toArray, List.getElem_cons_succ, List.getElem_cons_zero, List.setIfInBounds_toArray, List.set_cons_zero, List.set_cons_succ]
  refine wpAnyH_take (i := 1) (oi := _) (v := .pointer (some ⟨g1, 0, none⟩)) rfl (by kernel_rfl) (by kernel_rfl) (by kernel_rfl) (fun _ _ _ h => h) (Or.inl ⟨by rfl, ?_⟩) hHeld ?_
  · intro wq hSw
    try dsimp only at hSw
    go_simp
  try simp only [Act.put, List.getElem_toArray, List.getElem_cons_succ, List.getElem_cons_zero, List.setIfInBounds_toArray, List.set_cons_zero, List.set_cons_succ]
  refine wpAnyH_take (i := 2) (oi := _) (v := .pointer (some ⟨g1, 0, none⟩)) rfl (by kernel_rfl) (by kernel_rfl) (by kernel_rfl) (fun _ _ _ h => h) (Or.inl ⟨by rfl, ?_⟩) hHeld ?_
  · intro wq hSw
    try dsimp only at hSw
    go_simp
  try simp only [Act.put, List.getElem_toArray, List.getElem_cons_succ, List.getElem_cons_zero, List.setIfInBounds_toArray, List.set_cons_zero, List.set_cons_succ]
  refine wpAnyH_take (i := 3) (oi := _) (v := .pointer (some ⟨g2, 0, none⟩)) rfl (by kernel_rfl) (by kernel_rfl) (by kernel_rfl) (fun _ _ _ h => h) (Or.inl ⟨by rfl, ?_⟩) hHeld ?_
  · intro wq hSw
    try dsimp only at hSw
    go_simp
  try simp only [Act.put, List.getElem_toArray, List.getElem_cons_succ, List.getElem_cons_zero, List.setIfInBounds_toArray, List.set_cons_zero, List.set_cons_succ]
  refine wpAnyH_take (i := 4) (oi := _) (v := .pointer (some ⟨g2, 0, none⟩)) rfl (by kernel_rfl) (by kernel_rfl) (by kernel_rfl) (fun _ _ _ h => h) (Or.inl ⟨by rfl, ?_⟩) hHeld ?_
  · intro wq hSw
    try dsimp only at hSw
    go_simp
  try simp only [Act.put, List.getElem_toArray, List.getElem_cons_succ, List.getElem_cons_zero, List.setIfInBounds_toArray, List.set_cons_zero, List.set_cons_succ]
  refine wpAnyH_take (i := 5) (oi := _) (v := .pointer (some ⟨g2, 0, none⟩)) rfl (by kernel_rfl) (by kernel_rfl) (by kernel_rfl) (fun _ _ _ h => h) (Or.inl ⟨by rfl, ?_⟩) hHeld ?_
  · intro wq hSw
    try dsimp only at hSw
    go_simp
  try simp only [Act.put, List.getElem_toArray, List.getElem_cons_succ, List.getElem_cons_zero, List.setIfInBounds_toArray, List.set_cons_zero, List.set_cons_succ]
  refine wpAnyH_ready (rs := [6]) (by kernel_rfl) (by simp) ?_
  refine AllReadyH.cons rfl (fun KK hK => ?_) AllReadyH.nil
  simp only [List.getElem_toArray, List.getElem_cons_succ, List.getElem_cons_zero]
  rw [if_pos (by rfl)]
  refine wps2 151 (.tmp 6) (.tmp 9) _ rfl in_multiplySigned (.pointer (some ⟨g1, 0, none⟩)) (.pointer (some ⟨g2, 0, none⟩)) rfl rfl (unhide HMS) ?_
  rintro e w2 ⟨⟨r2, rfl⟩, v2, n2, d3, m2, t2⟩
  refine ⟨_, rfl, ?_⟩
  clear hHeld
  refine hK.out _ _ ?_ (fun hHeld => ?_)
  · trivial
  clear hK KK
  try simp only [Act.put, List.getElem_toArray, List.getElem_cons_succ, List.getElem_cons_zero, List.setIfInBounds_toArray, List.set_cons_zero, List.set_cons_succ]
  refine wpAnyH_done (by kernel_rfl) ?_ _
  clear hHeld
  have e3 := e1.tail t2
  have e4 : Ex w2 g2 x2 := e2.tail (m2.side e2.lt (fun e => ne e.symm)).tail
  have hc1 := e3.1
  have hf1 := e3.2
  have hc2 := e4.1
  have kd := (Kept.refl 0 0 w2).drew
  have FF : Hid (Num w.heap.size (w2.drew.setCell ⟨g1, 2, none⟩ (.int .i64 (x1 + x2))) g1 v2 (limbs (val xs * val ys).toNat) ∧ Sd (w2.drew.setCell ⟨g1, 2, none⟩ (.int .i64 (x1 + x2))) g1 (!(s1 == s2)) ∧ Ex (w2.drew.setCell ⟨g1, 2, none⟩ (.int .i64 (x1 + x2))) g1 (x1 + x2) ∧ Mod (fun i => i = g1) w (w2.drew.setCell ⟨g1, 2, none⟩ (.int .i64 (x1 + x2)))) :=
    ⟨(n2.kept kd).set2 _, (d3.kept kd).set2 _, (e3.kept kd).set _, ((((unhide KW).toMod (S := fun i => i = g1)).trans m2).kept kd).set (p := ⟨g1, 2, none⟩) (.inl rfl) _⟩
  clear HMS n2 d3 m2 t2 e3 e4 e1 e2 d1 d2 kd KW
  go_wp2
  go_region
  go_wp2
  exact bodyPost_end (v := .tuple #[]) (by simp [results, Tryz.results148, go_sem]) rfl ⟨⟨_, rfl⟩, _, unhide FF⟩

theorem DyP.parts {X : Nat → Prop} {w : World} {g : Nat} {d : DE} (h : DyP X w g d) : ∃ u, Num 0 w g u d.2.1 ∧ Sd w g d.1 ∧ Ex w g d.2.2 := by
  obtain ⟨u, n, s, e, -⟩ := h
  exact ⟨u, n, s, e⟩

set_option maxHeartbeats 4000000 in
theorem timesD_impl {L1 L2 V1 V2 : Int} {g1 g2 : Nat} {u1 u2 : Value} {a b : DE} (w : World) (hL1 : -20000 ≤ L1) (hL2 : -20000 ≤ L2) (n1 : Num 0 w g1 u1 a.2.1) (d1 : Sd w g1 a.1) (e1 : Ex w g1 a.2.2) (n2 : Num 0 w g2 u2 b.2.1) (d2 : Sd w g2 b.1) (e2 : Ex w g2 b.2.2) (i1 : NV L1 V1 a) (i2 : NV L2 V2 b) (x1 : a.2.2 ≤ 20000) (x2 : b.2.2 ≤ 20000) (hs : (V1 * V2).natAbs < 2 ^ AA) :
    Calls Tryz.prog 146 #[.pointer (some ⟨g1, 0, none⟩), .pointer (some ⟨g2, 0, none⟩)] w fun e w' => ∃ g d, e = .returned (.pointer (some ⟨g, 0, none⟩)) ∧ DyP (fun y => y < w.heap.size) w' g d ∧ NV (L1 + L2) (V1 * V2) d ∧ Kept 0 0 w w' := by
  have sv := fun (d : DE) h1 h2 h3 => mul_isV (d := d) i1.1 i2.1 h1 h2 h3
  have ha := i1.1.2.1
  have hb := i2.1.2.1
  have la := i1.2.1
  have lb := i2.2.1
  have f1 : -20000 ≤ a.2.2 := by have := i1.1.1; omega
  have f3 : -20000 ≤ b.2.2 := by have := i2.1.1; omega
  have HS := hide hs
  have ng2 := n2.lt
  clear i1 i2 hs
  obtain ⟨s1, xs, y1⟩ := a
  obtain ⟨s2, ys, y2⟩ := b
  dsimp only at *
  have SV := hide sv
  clear sv
  have h1 := again_impl w n1 d1 e1 (by omega)
  clear n1 d1 e1
  go_enter Tryz.func146, Tryz.ntmps146
  go_wp2_with fail
  refine h1.mono ?_
  rintro e w1 ⟨v1, rfl, o1, k1⟩
  obtain ⟨a1, c1, hv1⟩ := own_slice o1
  subst hv1
  have D := new_dya s1 y1 93 o1
  have kA := k1.alloc (.cells #[.slice a1 xs.length c1, .bool s1, .int .i64 y1] 93)
  have hz := k1.size
  have hmul := multiplyDyadic_old D.1 (n2.kept kA) D.2.1 ⟨kA.cell0 d2.1, kA.loose0 (a := ⟨g2, 1, none⟩) ng2 d2.2⟩ D.2.2 ⟨kA.cell0 e2.1, kA.loose0 (a := ⟨g2, 2, none⟩) ng2 e2.2⟩ (by omega) ha hb (by omega) (by omega) (by omega) (by omega) (by omega) (by omega)
  have KA := hide kA
  have B0 := hide hz
  clear h1 o1 k1 D n2 d2 e2 kA hz
  go_wp2_with fail
  refine hmul.mono ?_
  rintro e w3 ⟨⟨r3, rfl⟩, u, n3, d3, e3, m3⟩
  have hB := unhide B0
  have hsA : (w1.alloc (.cells #[.slice a1 xs.length c1, .bool s1, .int .i64 y1] 93)).heap.size = w1.heap.size + 1 := by simp
  have DP : Hid (DyP (fun y => y < w.heap.size) w3 w1.heap.size (!(s1 == s2), limbs (val xs * val ys).toNat, y1 + y2)) := ⟨u, n3.less (Nat.zero_le _), d3, e3, by omega, fun i hi => by have := (n3.own.lt i hi).1; omega⟩
  have IS : Hid (NV (L1 + L2) (V1 * V2) (!(s1 == s2), limbs (val xs * val ys).toNat, y1 + y2)) := by
    have hh := unhide SV (!(s1 == s2), limbs (val xs * val ys).toNat, y1 + y2) (limbs_nrm _) (mul_sgn s1 s2 ha.1 hb.1) rfl
    have hl := hh.len (unhide HS) (show AA ≤ 16 * 2500 by decide)
    exact ⟨hh, Nat.le_trans hl (by decide), by show y1 + y2 ≤ 40000; omega⟩
  have K3 := hide ((unhide KA).mod m3 (fun i hi => by subst hi; exact hB))
  clear hmul n3 d3 e3 m3 hB hsA
  go_wp2
  go_ret
  exact ⟨_, _, rfl, unhide DP, unhide IS, unhide K3⟩

/-- The sum of the first n. -/
def psum (f : Nat → Int) : Nat → Int
  | 0 => 0
  | n + 1 => psum f n + f n

theorem times_is (a : Addr) (w : World) : (method 276 57 (.pointer (some a)) "loop.example/g00382/impl.times").run Tryz.prog w = .ok (146, .pointer (some a)) w := by kernel_rfl

set_option maxHeartbeats 8000000 in
theorem total_impl {L : Int} {gl m c base : Nat} {P : Nat → Nat} {F : Nat → DE} {V : Nat → Int} (w : World) (hL : -40000 ≤ L) (h0 : 0 < m) (hm : m ≤ 1000) (hc : m ≤ c) (hc2 : c ≤ 9223372036854775807) (hb : base ≤ w.heap.size) (hl : ∀ q, q < m → w.cell? ⟨gl, q, none⟩ = some (.pointer (some ⟨P q, 0, none⟩))) (hn : ∀ q, q < m → DyP (fun x => x < base) w (P q) (F q) ∧ NV L (V q) (F q)) (hs : ∀ q, q ≤ m → (psum V q).natAbs < 2 ^ AA) :
    Calls Tryz.prog 30 #[.slice (some ⟨gl, 0, none⟩) m c] w fun e w' => ∃ g d, e = .returned (.pointer (some ⟨g, 0, none⟩)) ∧ DyP (fun x => x < base) w' g d ∧ NV L (psum V m) d ∧ Kept 0 0 w w' := by
  have l0 := hl 0 h0
  by_cases hm1 : m = 1
  · subst hm1
    have D : Hid (DyP (fun x => x < base) w (P 0) (F 0) ∧ NV L (psum V 1) (F 0)) := ⟨(hn 0 h0).1, by show NV L (0 + V 0) _; rw [Int.zero_add]; exact (hn 0 h0).2⟩
    clear hl hn hs hb
    by_cases hc1 : c = 1
    · subst hc1
      go_enter Tryz.func30, Tryz.ntmps30
      go_wp2_with fail
      go_loopw [12, 3] (fun s12 s3 wr => s12 = .int .i64 0 ∧ s3 = .pointer (some ⟨P 0, 0, none⟩) ∧ w = wr) (fun s12 _ _ => 1)
      case atStart => exact ⟨rfl, rfl, rfl⟩
      case round =>
        obtain ⟨rfl, rfl, rfl⟩ := hrel
        go_wp2
        go_ret
        exact ⟨_, _, rfl, (unhide D).1, (unhide D).2, Kept.refl _ _ _⟩
    · have hc3 : 1 < c := by omega
      have hc4 : c - 1 ≠ 0 := by omega
      go_enter Tryz.func30, Tryz.ntmps30
      go_wp2_with fail
      go_loopw [12, 3] (fun s12 s3 wr => s12 = .int .i64 0 ∧ s3 = .pointer (some ⟨P 0, 0, none⟩) ∧ w = wr) (fun s12 _ _ => 1)
      case atStart => exact ⟨rfl, rfl, rfl⟩
      case round =>
        obtain ⟨rfl, rfl, rfl⟩ := hrel
        go_wp2
        go_ret
        exact ⟨_, _, rfl, (unhide D).1, (unhide D).2, Kept.refl _ _ _⟩
  have hc3 : 1 < c := by omega
  have hc4 : c - 1 ≠ 0 := by omega
  have hc5 : c ≠ 1 := by omega
  have HL := hide hl
  have HN := hide hn
  have HS := hide hs
  have HB := hide hb
  have hfu := plus_is
  clear hl hn hs hb
  go_enter Tryz.func30, Tryz.ntmps30
  go_wp2_with fail
  go_loopw [12, 3] (fun s12 s3 wr => ∃ (i g : Nat) (d : DE), s12 = .int .i64 i ∧ s3 = .pointer (some ⟨g, 0, none⟩) ∧ i + 1 ≤ m ∧ Hid (DyP (fun x => x < base) wr g d ∧ NV L (psum V (i + 1)) d) ∧ Kept 0 0 w wr) (fun s12 _ _ => m - (intOf s12).toNat)
  case atStart => exact ⟨0, P 0, F 0, rfl, rfl, h0, ⟨(unhide HN 0 h0).1, by show NV L (0 + V 0) _; rw [Int.zero_add]; exact (unhide HN 0 h0).2⟩, Kept.refl _ _ _⟩
  case round =>
    obtain ⟨i, g, d, rfl, rfl, hi, hD, k⟩ := hrel
    have hwi : IntKind.i64.wrap ((i : Int) + 1) = ((i + 1 : Nat) : Int) := by rw [IntKind.wrap_i64]; omega
    by_cases hlt : i < m - 1
    · have hlt2 : i + 1 < m := by omega
      have hcl := k.cell0 (unhide HL (i + 1) hlt2)
      have hcl2 : wr.cell? ⟨gl, 1 + i, none⟩ = some (.pointer (some ⟨P (i + 1), 0, none⟩)) := by rw [Nat.add_comm 1 i]; exact hcl
      obtain ⟨u1, n1, d1, e1⟩ := (unhide hD).1.parts
      obtain ⟨u2, n2, d2, e2⟩ := ((unhide HN (i + 1) hlt2).1.kept k).parts
      have hp := plusD_impl wr hL n1 d1 e1 n2 d2 e2 (unhide hD).2 (unhide HN (i + 1) hlt2).2 (unhide HS (i + 2) (by omega))
      have K := hide k
      have BB := hide (Nat.le_trans (unhide HB) k.size)
      clear n1 d1 e1 n2 d2 e2 k hD hcl
      go_wp2_with fail
      refine hp.mono ?_
      rintro e w3 ⟨g3, d3, rfl, dp, nv, k3⟩
      have DD : Hid (DyP (fun x => x < base) w3 g3 d3 ∧ NV L (psum V (i + 1 + 1)) d3) := ⟨dp.less (fun x hx _ => by have := unhide BB; omega), nv⟩
      have K3 := hide ((unhide K).trans k3)
      clear hp dp nv k3 K BB hcl2
      go_wp2
      go_roundw
      case rel => exact ⟨i + 1, g3, d3, by simp, rfl, hlt2, DD, unhide K3⟩
      case measure => simp [intOf]; omega
    · have him : i + 1 = m := by omega
      rw [him] at hD
      have K := hide k
      clear k him
      go_wp2
      go_ret
      exact ⟨_, _, rfl, (unhide hD).1, (unhide hD).2, unhide K⟩

end Go.Proofs.YtagaofpkfpfilaaGreatDoor
