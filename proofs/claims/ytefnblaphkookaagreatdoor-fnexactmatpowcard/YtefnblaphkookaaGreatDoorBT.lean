/-
  Contracts that the proofs of this seat share: Tm1, Tm2.
-/
import Derived.Test.YtefnblaphkookaaGreatDoorPl2
import Derived.Test.YtefnblaphkookaaGreatDoorCat
import Derived.Test.YtefnblaphkookaaGreatDoorDys5
import Derived.Test.YtefnblaphkookaaGreatDoorSqh
import Derived.Deep.DeepCutAuto
import Derived.Deep.RegionHeld3
namespace Go.Proofs.YtefnblaphkookaaGreatDoor
open Go.RowKit
set_option linter.unusedVariables false
set_option maxRecDepth 8000
set_option linter.unusedSimpArgs false

set_option maxHeartbeats 4000000 in
theorem multiplyDyadic_old {b1 b2 : Nat} {w : World} {g1 g2 : Nat} {u1 u2 : Value} {s1 s2 : Bool} {xs ys : List Int} {x1 x2 : Int} (n01 : Num b1 w g1 u1 xs) (n02 : Num b2 w g2 u2 ys) (d01 : Sd w g1 s1) (d02 : Sd w g2 s2) (e01 : Ex w g1 x1) (e02 : Ex w g2 x2) (ne : g1 ≠ g2) (hx : Nrm xs) (hy : Nrm ys) (nx : xs.length ≤ 100000) (ny : ys.length ≤ 100000) (f1 : -40000 ≤ x1) (f2 : x1 ≤ 40000) (f3 : -40000 ≤ x2) (f4 : x2 ≤ 40000) :
    Calls Tryz.prog 130 #[.pointer (some ⟨g1, 0, none⟩), .pointer (some ⟨g2, 0, none⟩)] w fun e w' => (∃ r, e = .returned r) ∧ ∃ u, Num w.heap.size w' g1 u (limbs (val xs * val ys).toNat) ∧ Sd w' g1 (!(s1 == s2)) ∧ Ex w' g1 (x1 + x2) ∧ Mod (fun i => i = g1) w w' := by
  have kw := (Kept.refl 0 0 w).drew
  have d1 : Sd w.drew g1 s1 := ⟨kw.cell0 d01.1, kw.loose0 (a := ⟨g1, 1, none⟩) n01.lt d01.2⟩
  have d2 : Sd w.drew g2 s2 := ⟨kw.cell0 d02.1, kw.loose0 (a := ⟨g2, 1, none⟩) n02.lt d02.2⟩
  have e1 : Ex w.drew g1 x1 := ⟨kw.cell0 e01.1, kw.loose0 (a := ⟨g1, 2, none⟩) n01.lt e01.2⟩
  have e2 : Ex w.drew g2 x2 := ⟨kw.cell0 e02.1, kw.loose0 (a := ⟨g2, 2, none⟩) n02.lt e02.2⟩
  have HMS := hide (multiplySigned_tail _ (n01.kept kw) (n02.kept kw) d1 d2 ne hx.1 hy.1 nx ny)
  have KW := hide kw
  clear n01 n02 d01 d02 e01 e02 kw
  have hw : IntKind.i64.wrap (x1 + x2) = x1 + x2 := w64 _ (by omega) (by omega)
  go_enter Tryz.func130, Tryz.ntmps130
  go_wp2_with fail
  refine wp_region_held_drew (S := (fun _ => True)) (by kernel_rfl) ?_ (fun hHeld => ?_)
  · trivial
  refine wpAnyH_take (i := 0) (oi := _) (v := .pointer (some ⟨g1, 0, none⟩)) rfl (by kernel_rfl) (by kernel_rfl) (by kernel_rfl) (fun _ _ _ h => h) (Or.inl ⟨by rfl, ?_⟩) hHeld ?_
  · intro wq hSw
    try dsimp only at hSw
    go_simp
  try simp only [Act.put, List.getElem_toArray, List.getElem_cons_succ, List.getElem_cons_zero, List.setIfInBounds_toArray, List.set_cons_zero, List.set_cons_succ]
  refine wpAnyH_take (i := 1) (oi := _) (v := .pointer (some ⟨g1, 0, none⟩)) rfl (by kernel_rfl) (by kernel_rfl) (by kernel_rfl) (fun _ _ _ h => h) (Or.inl ⟨by rfl, ?_⟩) hHeld ?_
  · intro wq hSw
    try dsimp only at hSw
    go_simp
  try simp only [Act.put, List.getElem_toArray, List.getElem_cons_succ, List.getElem_cons_zero, List.setIfInBounds_toArray, List.set_cons_zero, List.set_cons_succ]
  refine wpAnyH_take (i := 2) (oi := _) (v := .pointer (some ⟨g1, 0, none⟩)) rfl (by kernel_rfl) (by kernel_rfl) (by kernel_rfl) (fun _ _ _ h => h) (Or.inl ⟨by rfl, ?_⟩) hHeld ?_
  · intro wq hSw
    try dsimp only at hSw
    go_simp
  try simp only [Act.put, List.getElem_toArray, List.getElem_cons_succ, List.getElem_cons_zero, List.setIfInBounds_toArray, List.set_cons_zero, List.set_cons_succ]
  refine wpAnyH_take (i := 3) (oi := _) (v := .pointer (some ⟨g2, 0, none⟩)) rfl (by kernel_rfl) (by kernel_rfl) (by kernel_rfl) (fun _ _ _ h => h) (Or.inl ⟨by rfl, ?_⟩) hHeld ?_
  · intro wq hSw
    try dsimp only at hSw
    go_simp
  try simp only [Act.put, List.getElem_toArray, List.getElem_cons_succ, List.getElem_cons_zero, List.setIfInBounds_toArray, List.set_cons_zero, List.set_cons_succ]
  refine wpAnyH_take (i := 4) (oi := _) (v := .pointer (some ⟨g2, 0, none⟩)) rfl (by kernel_rfl) (by kernel_rfl) (by kernel_rfl) (fun _ _ _ h => h) (Or.inl ⟨by rfl, ?_⟩) hHeld ?_
  · intro wq hSw
    try dsimp only at hSw
    go_simp
  try simp only [Act.put, List.getElem_toArray, List.getElem_cons_succ, List.getElem_cons_zero, List.setIfInBounds_toArray, List.set_cons_zero, List.set_cons_succ]
  refine wpAnyH_take (i := 5) (oi := _) (v := .pointer (some ⟨g2, 0, none⟩)) rfl (by kernel_rfl) (by kernel_rfl) (by kernel_rfl) (fun _ _ _ h => h) (Or.inl ⟨by rfl, ?_⟩) hHeld ?_
  · intro wq hSw
    try dsimp only at hSw
    go_simp
  try simp only [Act.put, List.getElem_toArray, List.getElem_cons_succ, List.getElem_cons_zero, List.setIfInBounds_toArray, List.set_cons_zero, List.set_cons_succ]
  refine wpAnyH_ready (rs := [6]) (by kernel_rfl) (by simp) ?_
  refine AllReadyH.cons rfl (fun KK hK => ?_) AllReadyH.nil
  simp only [List.getElem_toArray, List.getElem_cons_succ, List.getElem_cons_zero]
  rw [if_pos (by rfl)]
  refine wps2 133 (.tmp 6) (.tmp 9) _ rfl in_multiplySigned (.pointer (some ⟨g1, 0, none⟩)) (.pointer (some ⟨g2, 0, none⟩)) rfl rfl (unhide HMS) ?_
  rintro e w2 ⟨⟨r2, rfl⟩, v2, n2, d3, m2, t2⟩
  refine ⟨_, rfl, ?_⟩
  clear hHeld
  refine hK.out _ _ ?_ (fun hHeld => ?_)
  · trivial
  clear hK KK
  try simp only [Act.put, List.getElem_toArray, List.getElem_cons_succ, List.getElem_cons_zero, List.setIfInBounds_toArray, List.set_cons_zero, List.set_cons_succ]
  refine wpAnyH_done (by kernel_rfl) ?_ _
  clear hHeld
  have e3 := e1.tail t2
  have e4 : Ex w2 g2 x2 := e2.tail (m2.side e2.lt (fun e => ne e.symm)).tail
  have hc1 := e3.1
  have hf1 := e3.2
  have hc2 := e4.1
  have kd := (Kept.refl 0 0 w2).drew
  have FF : Hid (Num w.heap.size (w2.drew.setCell ⟨g1, 2, none⟩ (.int .i64 (x1 + x2))) g1 v2 (limbs (val xs * val ys).toNat) ∧ Sd (w2.drew.setCell ⟨g1, 2, none⟩ (.int .i64 (x1 + x2))) g1 (!(s1 == s2)) ∧ Ex (w2.drew.setCell ⟨g1, 2, none⟩ (.int .i64 (x1 + x2))) g1 (x1 + x2) ∧ Mod (fun i => i = g1) w (w2.drew.setCell ⟨g1, 2, none⟩ (.int .i64 (x1 + x2)))) :=
    ⟨(n2.kept kd).set2 _, (d3.kept kd).set2 _, (e3.kept kd).set _, ((((unhide KW).toMod (S := fun i => i = g1)).trans m2).kept kd).set (p := ⟨g1, 2, none⟩) (.inl rfl) _⟩
  clear HMS n2 d3 m2 t2 e3 e4 e1 e2 d1 d2 kd KW
  go_wp2
  go_region
  go_wp2
  exact bodyPost_end (v := .tuple #[]) (by simp [results, Tryz.results130, go_sem]) rfl ⟨⟨_, rfl⟩, _, unhide FF⟩

theorem DyP.parts {X : Nat → Prop} {w : World} {g : Nat} {d : DE} (h : DyP X w g d) : ∃ u, Num 0 w g u d.2.1 ∧ Sd w g d.1 ∧ Ex w g d.2.2 := by
  obtain ⟨u, n, s, e, -⟩ := h
  exact ⟨u, n, s, e⟩

set_option maxHeartbeats 4000000 in
theorem timesD_impl {L1 L2 V1 V2 : Int} {g1 g2 : Nat} {u1 u2 : Value} {a b : DE} (w : World) (hL1 : -20000 ≤ L1) (hL2 : -20000 ≤ L2) (n1 : Num 0 w g1 u1 a.2.1) (d1 : Sd w g1 a.1) (e1 : Ex w g1 a.2.2) (n2 : Num 0 w g2 u2 b.2.1) (d2 : Sd w g2 b.1) (e2 : Ex w g2 b.2.2) (i1 : NV L1 V1 a) (i2 : NV L2 V2 b) (x1 : a.2.2 ≤ 20000) (x2 : b.2.2 ≤ 20000) (hs : (V1 * V2).natAbs < 2 ^ AA) :
    Calls Tryz.prog 128 #[.pointer (some ⟨g1, 0, none⟩), .pointer (some ⟨g2, 0, none⟩)] w fun e w' => ∃ g d, e = .returned (.pointer (some ⟨g, 0, none⟩)) ∧ DyP (fun y => y < w.heap.size) w' g d ∧ NV (L1 + L2) (V1 * V2) d ∧ Kept 0 0 w w' := by
  have sv := fun (d : DE) h1 h2 h3 => mul_isV (d := d) i1.1 i2.1 h1 h2 h3
  have ha := i1.1.2.1
  have hb := i2.1.2.1
  have la := i1.2.1
  have lb := i2.2.1
  have f1 : -20000 ≤ a.2.2 := by have := i1.1.1; omega
  have f3 : -20000 ≤ b.2.2 := by have := i2.1.1; omega
  have HS := hide hs
  have ng2 := n2.lt
  clear i1 i2 hs
  obtain ⟨s1, xs, y1⟩ := a
  obtain ⟨s2, ys, y2⟩ := b
  dsimp only at *
  have SV := hide sv
  clear sv
  have h1 := again_impl w n1 d1 e1 (by omega)
  clear n1 d1 e1
  go_enter Tryz.func128, Tryz.ntmps128
  go_wp2_with fail
  refine h1.mono ?_
  rintro e w1 ⟨v1, rfl, o1, k1⟩
  obtain ⟨a1, c1, hv1⟩ := own_slice o1
  subst hv1
  have D := new_dya s1 y1 77 o1
  have kA := k1.alloc (.cells #[.slice a1 xs.length c1, .bool s1, .int .i64 y1] 77)
  have hz := k1.size
  have hmul := multiplyDyadic_old D.1 (n2.kept kA) D.2.1 ⟨kA.cell0 d2.1, kA.loose0 (a := ⟨g2, 1, none⟩) ng2 d2.2⟩ D.2.2 ⟨kA.cell0 e2.1, kA.loose0 (a := ⟨g2, 2, none⟩) ng2 e2.2⟩ (by omega) ha hb (by omega) (by omega) (by omega) (by omega) (by omega) (by omega)
  have KA := hide kA
  have B0 := hide hz
  clear h1 o1 k1 D n2 d2 e2 kA hz
  go_wp2_with fail
  refine hmul.mono ?_
  rintro e w3 ⟨⟨r3, rfl⟩, u, n3, d3, e3, m3⟩
  have hB := unhide B0
  have hsA : (w1.alloc (.cells #[.slice a1 xs.length c1, .bool s1, .int .i64 y1] 77)).heap.size = w1.heap.size + 1 := by simp
  have DP : Hid (DyP (fun y => y < w.heap.size) w3 w1.heap.size (!(s1 == s2), limbs (val xs * val ys).toNat, y1 + y2)) := ⟨u, n3.less (Nat.zero_le _), d3, e3, by omega, fun i hi => by have := (n3.own.lt i hi).1; omega⟩
  have IS : Hid (NV (L1 + L2) (V1 * V2) (!(s1 == s2), limbs (val xs * val ys).toNat, y1 + y2)) := by
    have hh := unhide SV (!(s1 == s2), limbs (val xs * val ys).toNat, y1 + y2) (limbs_nrm _) (mul_sgn s1 s2 ha.1 hb.1) rfl
    have hl := hh.len (unhide HS) (show AA ≤ 16 * 2500 by decide)
    exact ⟨hh, Nat.le_trans hl (by decide), by show y1 + y2 ≤ 40000; omega⟩
  have K3 := hide ((unhide KA).mod m3 (fun i hi => by subst hi; exact hB))
  clear hmul n3 d3 e3 m3 hB hsA
  go_wp2
  go_ret
  exact ⟨_, _, rfl, unhide DP, unhide IS, unhide K3⟩

/-- The sum of the first n. -/
def psum (f : Nat → Int) : Nat → Int
  | 0 => 0
  | n + 1 => psum f n + f n

theorem times_is (a : Addr) (w : World) : (method 271 81 (.pointer (some a)) "loop.example/g00382/impl.times").run Tryz.prog w = .ok (128, .pointer (some a)) w := by kernel_rfl

set_option maxHeartbeats 8000000 in
theorem total_impl {L : Int} {gl m c base : Nat} {P : Nat → Nat} {F : Nat → DE} {V : Nat → Int} (w : World) (hL : -40000 ≤ L) (h0 : 0 < m) (hm : m ≤ 1000) (hc : m ≤ c) (hc2 : c ≤ 9223372036854775807) (hb : base ≤ w.heap.size) (hl : ∀ q, q < m → w.cell? ⟨gl, q, none⟩ = some (.pointer (some ⟨P q, 0, none⟩))) (hn : ∀ q, q < m → DyP (fun x => x < base) w (P q) (F q) ∧ NV L (V q) (F q)) (hs : ∀ q, q ≤ m → (psum V q).natAbs < 2 ^ AA) :
    Calls Tryz.prog 90 #[.slice (some ⟨gl, 0, none⟩) m c] w fun e w' => ∃ g d, e = .returned (.pointer (some ⟨g, 0, none⟩)) ∧ DyP (fun x => x < base) w' g d ∧ NV L (psum V m) d ∧ Kept 0 0 w w' := by
  have l0 := hl 0 h0
  by_cases hm1 : m = 1
  · subst hm1
    have D : Hid (DyP (fun x => x < base) w (P 0) (F 0) ∧ NV L (psum V 1) (F 0)) := ⟨(hn 0 h0).1, by show NV L (0 + V 0) _; rw [Int.zero_add]; exact (hn 0 h0).2⟩
    clear hl hn hs hb
    by_cases hc1 : c = 1
    · subst hc1
      go_enter Tryz.func90, Tryz.ntmps90
      go_wp2_with fail
      go_loopw [12, 3] (fun s12 s3 wr => s12 = .int .i64 0 ∧ s3 = .pointer (some ⟨P 0, 0, none⟩) ∧ w = wr) (fun s12 _ _ => 1)
      case atStart => exact ⟨rfl, rfl, rfl⟩
      case round =>
        obtain ⟨rfl, rfl, rfl⟩ := hrel
        go_wp2
        go_ret
        exact ⟨_, _, rfl, (unhide D).1, (unhide D).2, Kept.refl _ _ _⟩
    · have hc3 : 1 < c := by omega
      have hc4 : c - 1 ≠ 0 := by omega
      go_enter Tryz.func90, Tryz.ntmps90
      go_wp2_with fail
      go_loopw [12, 3] (fun s12 s3 wr => s12 = .int .i64 0 ∧ s3 = .pointer (some ⟨P 0, 0, none⟩) ∧ w = wr) (fun s12 _ _ => 1)
      case atStart => exact ⟨rfl, rfl, rfl⟩
      case round =>
        obtain ⟨rfl, rfl, rfl⟩ := hrel
        go_wp2
        go_ret
        exact ⟨_, _, rfl, (unhide D).1, (unhide D).2, Kept.refl _ _ _⟩
  have hc3 : 1 < c := by omega
  have hc4 : c - 1 ≠ 0 := by omega
  have hc5 : c ≠ 1 := by omega
  have HL := hide hl
  have HN := hide hn
  have HS := hide hs
  have HB := hide hb
  have hfu := plus_is
  clear hl hn hs hb
  go_enter Tryz.func90, Tryz.ntmps90
  go_wp2_with fail
  go_loopw [12, 3] (fun s12 s3 wr => ∃ (i g : Nat) (d : DE), s12 = .int .i64 i ∧ s3 = .pointer (some ⟨g, 0, none⟩) ∧ i + 1 ≤ m ∧ Hid (DyP (fun x => x < base) wr g d ∧ NV L (psum V (i + 1)) d) ∧ Kept 0 0 w wr) (fun s12 _ _ => m - (intOf s12).toNat)
  case atStart => exact ⟨0, P 0, F 0, rfl, rfl, h0, ⟨(unhide HN 0 h0).1, by show NV L (0 + V 0) _; rw [Int.zero_add]; exact (unhide HN 0 h0).2⟩, Kept.refl _ _ _⟩
  case round =>
    obtain ⟨i, g, d, rfl, rfl, hi, hD, k⟩ := hrel
    have hwi : IntKind.i64.wrap ((i : Int) + 1) = ((i + 1 : Nat) : Int) := by rw [IntKind.wrap_i64]; omega
    by_cases hlt : i < m - 1
    · have hlt2 : i + 1 < m := by omega
      have hcl := k.cell0 (unhide HL (i + 1) hlt2)
      have hcl2 : wr.cell? ⟨gl, 1 + i, none⟩ = some (.pointer (some ⟨P (i + 1), 0, none⟩)) := by rw [Nat.add_comm 1 i]; exact hcl
      obtain ⟨u1, n1, d1, e1⟩ := (unhide hD).1.parts
      obtain ⟨u2, n2, d2, e2⟩ := ((unhide HN (i + 1) hlt2).1.kept k).parts
      have hp := plusD_impl wr hL n1 d1 e1 n2 d2 e2 (unhide hD).2 (unhide HN (i + 1) hlt2).2 (unhide HS (i + 2) (by omega))
      have K := hide k
      have BB := hide (Nat.le_trans (unhide HB) k.size)
      clear n1 d1 e1 n2 d2 e2 k hD hcl
      go_wp2_with fail
      refine hp.mono ?_
      rintro e w3 ⟨g3, d3, rfl, dp, nv, k3⟩
      have DD : Hid (DyP (fun x => x < base) w3 g3 d3 ∧ NV L (psum V (i + 1 + 1)) d3) := ⟨dp.less (fun x hx _ => by have := unhide BB; omega), nv⟩
      have K3 := hide ((unhide K).trans k3)
      clear hp dp nv k3 K BB hcl2
      go_wp2
      go_roundw
      case rel => exact ⟨i + 1, g3, d3, by simp, rfl, hlt2, DD, unhide K3⟩
      case measure => simp [intOf]; omega
    · have him : i + 1 = m := by omega
      rw [him] at hD
      have K := hide k
      clear k him
      go_wp2
      go_ret
      exact ⟨_, _, rfl, (unhide hD).1, (unhide hD).2, unhide K⟩

end Go.Proofs.YtefnblaphkookaaGreatDoor

namespace Go.Proofs.YtefnblaphkookaaGreatDoor
open Go.RowKit
set_option linter.unusedVariables false
set_option maxRecDepth 8000
set_option linter.unusedSimpArgs false

/-- An append to a list of the call's own, told where the new list lies. -/
theorem wpList_append_at {P : Program} {w : World} {ops : Array Oper} {rest : List Oper} {o : Oper} {a : Act} {Q : Exit → Act → World → Prop} (hgd : o.guard = none) (s x : Operand) (t : TypeId)
    (ho : o.op = .call { callee := .builtin .append, args := #[s, x], argTypes := #[t, t] })
    (base : Nat) (e : TypeId) (i : TypeInfo) (z : Value) (size bytes : Nat) (ht : P.underlying t = some (.slice e)) (hi : P.info? e = some i) (hz : i.zero = some z)
    (hsize : i.size = size) (hby : i.bytes = bytes) (hzs : z.cells.size = size) (hsz : 0 < size)
    (v : Value) (n : Nat) (xs : List Value) (hs : a.eval s = v) (hown : w.ownsRow base e size v n xs)
    (ad : Addr) (m c : Nat) (news : List Value) (hx : a.eval x = .slice (some ad) m c) (hl : news.length = m * size) (hnews : ∀ j u, news[j]? = some u → w.cell? (ad.add j) = some u) (h1 : ∀ u ∈ news, u.oneCell' = true)
    (h63 : n + m ≤ maxLen) (hbytes : (n + m) * bytes ≤ 140737488355328) (hbase : base ≤ w.heap.size)
    (h : ∀ v' w', w'.ownsRow base e size v' (n + m) (xs ++ news) → w.grownBy w' v.ownBlock → (v'.ownBlock = v.ownBlock ∨ v'.ownBlock = some w.heap.size) → wpList P ops Q rest (a.put o.dst v') w') : wpList P ops Q (o :: rest) a w :=
  wpList_plain hgd fun _ hK => wp_append_at s x t ho base e i z size bytes ht hi hz hsize hby hzs hsz v n xs hs hown ad m c news hx hl hnews h1 h63 hbytes hbase fun v' w' h2 h3 h5 => hK _ _ (h v' w' h2 h3 h5)

/-- So many products in a list of the call's own. -/
def Prods (b : Nat) (L : Int) (V : Nat → Int) (w : World) (v : Value) (i : Nat) (P : Nat → Nat) : Prop :=
  w.ownsRow b 81 1 v i (ptrs P i) ∧ ∃ F : Nat → DE, ∀ q, q < i → DyP (fun x => x < b ∨ v.ownBlock = some x) w (P q) (F q) ∧ NV L (V q) (F q)
theorem Prods.kept {b i : Nat} {L : Int} {V : Nat → Int} {w w' : World} {v : Value} {P : Nat → Nat} (h : Prods b L V w v i P) (k : Kept 0 0 w w') : Prods b L V w' v i P := by
  obtain ⟨h1, F, h2⟩ := h
  exact ⟨own_kept h1 k, F, fun q hq => ⟨(h2 q hq).1.kept k, (h2 q hq).2⟩⟩
theorem ptrs_congr {G G' : Nat → Nat} {m : Nat} (h : ∀ p, p < m → G p = G' p) : ptrs G m = ptrs G' m := by
  unfold ptrs
  exact List.map_congr_left (fun p hp => by rw [h p (List.mem_range.1 hp)])
theorem DyP.app {b g : Nat} {v v' : Value} {w3 w' : World} {d : DE} (h : DyP (fun x => x < b ∨ v.ownBlock = some x) w3 g d) (m : Mod (fun x => v.ownBlock = some x) w3 w') (h5 : v'.ownBlock = v.ownBlock ∨ v'.ownBlock = some w3.heap.size) : DyP (fun x => x < b ∨ v'.ownBlock = some x) w' g d := by
  obtain ⟨u, n, s, e, x1, x2⟩ := h
  have m' : Mod (fun x => x < b ∨ v.ownBlock = some x) w3 w' := ⟨m.os, m.tape, m.output, m.size, fun i hi ho => m.block i hi (fun h => ho (.inr h))⟩
  have key : ∀ y, y < w3.heap.size → ¬ (y < b ∨ v.ownBlock = some y) → ¬ (y < b ∨ v'.ownBlock = some y) := fun y hy hn h => by
    rcases h with h | h
    · exact hn (.inl h)
    · rcases h5 with h6 | h6
      · exact hn (.inr (by rw [← h6]; exact h))
      · rw [h6] at h
        cases h
        exact Nat.lt_irrefl _ hy
  exact ⟨u, n.mod m' x1 x2, ⟨m'.cell (a := ⟨g, 1, none⟩) x1 s.1, m'.loose (a := ⟨g, 1, none⟩) x1 n.lt s.2⟩, ⟨m'.cell (a := ⟨g, 2, none⟩) x1 e.1, m'.loose (a := ⟨g, 2, none⟩) x1 n.lt e.2⟩, key g n.lt x1, fun i hi => key i (n.own.lt i hi).2 (x2 i hi)⟩
/-- One more product. -/
theorem Prods.step {b i g : Nat} {L : Int} {V : Nat → Int} {w w' w3 : World} {v v' : Value} {P : Nat → Nat} {d : DE} (h : Prods b L V w3 v i P) (hb : b ≤ w3.heap.size) (hs : w.heap.size ≤ w3.heap.size) (hv : ∀ k, v.ownBlock = some k → k < w.heap.size) (hb2 : b ≤ w.heap.size) (dp : DyP (fun y => y < w.heap.size) w3 g d) (nv : NV L (V i) d)
    (h2 : w'.ownsRow b 81 1 v' (i + 1) (ptrs P i ++ [Value.pointer (some ⟨g, 0, none⟩)])) (h3 : w3.grownBy w' v.ownBlock) (h5 : v'.ownBlock = v.ownBlock ∨ v'.ownBlock = some w3.heap.size) : Prods b L V w' v' (i + 1) (updG P i g) := by
  obtain ⟨h1, F, hF⟩ := h
  have m : Mod (fun x => v.ownBlock = some x) w3 w' := ⟨h3.os, h3.tape, h3.output, h3.size, fun k hk ho => h3.block k hk (fun e => ho e.symm)⟩
  refine ⟨?_, fun q => if q = i then d else F q, fun q hq => ?_⟩
  · have e : ptrs (updG P i g) (i + 1) = ptrs P i ++ [Value.pointer (some ⟨g, 0, none⟩)] := by
      rw [ptrs_add, ptrs_congr (G := updG P i g) (G' := P) (fun p hp => updG_off P (by omega))]
      simp [ptrs, updG_on]
    rw [e]
    exact h2
  · by_cases e : q = i
    · subst e
      dsimp only
      rw [if_pos rfl, updG_on]
      refine ⟨?_, nv⟩
      exact DyP.app (dp.less (fun x hx _ => by rcases hx with hx | hx; omega; exact hv x hx)) m h5
    · dsimp only
      rw [if_neg e, updG_off P e]
      obtain ⟨a1, a2⟩ := hF q (by omega)
      exact ⟨a1.app m h5, a2⟩

set_option maxHeartbeats 16000000 in
theorem dot_impl {L1 L2 : Int} {r1 r2 n : Nat} {A B : Nat → Nat} {Fa Fb : Nat → DE} {Va Vb : Nat → Int} (w : World) (hL1 : -20000 ≤ L1) (hL2 : -20000 ≤ L2) (h0 : 0 < n) (hn : n ≤ 1000) (c1 : ∀ q, q < n → w.cell? ⟨r1, q, none⟩ = some (.pointer (some ⟨A q, 0, none⟩))) (c2 : ∀ q, q < n → w.cell? ⟨r2, q, none⟩ = some (.pointer (some ⟨B q, 0, none⟩)))
    (na : ∀ q, q < n → (∃ u, Num 0 w (A q) u (Fa q).2.1 ∧ Sd w (A q) (Fa q).1 ∧ Ex w (A q) (Fa q).2.2) ∧ NV L1 (Va q) (Fa q) ∧ (Fa q).2.2 ≤ 20000) (nb : ∀ q, q < n → (∃ u, Num 0 w (B q) u (Fb q).2.1 ∧ Sd w (B q) (Fb q).1 ∧ Ex w (B q) (Fb q).2.2) ∧ NV L2 (Vb q) (Fb q) ∧ (Fb q).2.2 ≤ 20000)
    (hs : ∀ q, q < n → (Va q * Vb q).natAbs < 2 ^ AA) (hs2 : ∀ q, q ≤ n → (psum (fun q => Va q * Vb q) q).natAbs < 2 ^ AA) :
    Calls Tryz.prog 68 #[.slice (some ⟨r1, 0, none⟩) n n, .slice (some ⟨r2, 0, none⟩) n n] w fun e w' => ∃ g d, e = .returned (.pointer (some ⟨g, 0, none⟩)) ∧ DyP (fun y => y < w.heap.size) w' g d ∧ NV (L1 + L2) (psum (fun q => Va q * Vb q) n) d ∧ Kept 0 0 w w' := by
  obtain ⟨i1, hi1, hy0, hy1, hy2⟩ := info_parts Tryz.infoPD
  have C1 := hide c1
  have C2 := hide c2
  have NA := hide na
  have NB := hide nb
  have HS := hide hs
  have HS2 := hide hs2
  have hfu := times_is
  have P0 : Hid (Prods w.heap.size (L1 + L2) (fun q => Va q * Vb q) w (.slice none 0 0) 0 (fun _ => 0)) := ⟨World.ownsRow_nil _ _ _ _, fun _ => de0, fun q hq => absurd hq (Nat.not_lt_zero _)⟩
  clear c1 c2 na nb hs hs2
  go_enter Tryz.func68, Tryz.ntmps68
  go_wp2_with fail
  go_loopw [10, 5] (fun s10 s5 wr => ∃ (i : Nat) (v : Value) (P : Nat → Nat), s10 = .int .i64 i ∧ s5 = v ∧ i ≤ n ∧ Hid (Prods w.heap.size (L1 + L2) (fun q => Va q * Vb q) wr v i P) ∧ Kept 0 0 w wr) (fun s10 _ _ => n - (intOf s10).toNat)
  case atStart => exact ⟨0, _, _, rfl, rfl, Nat.zero_le _, P0, Kept.refl _ _ _⟩
  case round =>
    clear P0
    obtain ⟨i, v, P, rfl, rfl, hi, hP, k⟩ := hrel
    obtain ⟨av, cv, hv⟩ := own_slice (unhide hP).1
    subst hv
    have hwi : IntKind.i64.wrap ((i : Int) + 1) = ((i + 1 : Nat) : Int) := by rw [IntKind.wrap_i64]; omega
    by_cases hlt : i < n
    · have hcl := k.cell0 (unhide C1 i hlt)
      have hcl2 := k.cell0 (unhide C2 i hlt)
      obtain ⟨⟨u1, n1, d1, e1⟩, nv1, x1⟩ := unhide NA i hlt
      obtain ⟨⟨u2, n2, d2, e2⟩, nv2, x2⟩ := unhide NB i hlt
      have ht := timesD_impl wr hL1 hL2 (n1.kept k) ⟨k.cell0 d1.1, k.loose0 (a := ⟨A i, 1, none⟩) n1.lt d1.2⟩ ⟨k.cell0 e1.1, k.loose0 (a := ⟨A i, 2, none⟩) n1.lt e1.2⟩ (n2.kept k) ⟨k.cell0 d2.1, k.loose0 (a := ⟨B i, 1, none⟩) n2.lt d2.2⟩ ⟨k.cell0 e2.1, k.loose0 (a := ⟨B i, 2, none⟩) n2.lt e2.2⟩ nv1 nv2 x1 x2 (unhide HS i hlt)
      have K := hide k
      have HVL := hide (show ∀ q, (Value.slice av i cv).ownBlock = some q → q < wr.heap.size from fun q hq => ((unhide hP).1.lt q hq).2)
      have HVG := hide (show ∀ q, (Value.slice av i cv).ownBlock = some q → w.heap.size ≤ q from fun q hq => ((unhide hP).1.lt q hq).1)
      clear n1 d1 e1 n2 d2 e2 nv1 nv2 x1 x2 k
      go_wp2_with fail
      refine ht.mono ?_
      rintro e w3 ⟨g3, d3, rfl, dp, nv, k3⟩
      have kA := (Kept.refl 0 0 w3).alloc (.cells #[.pointer (some ⟨g3, 0, none⟩)] 81)
      have hcn : (w3.alloc (.cells #[.pointer (some ⟨g3, 0, none⟩)] 81)).cell? ⟨w3.heap.size, 0, none⟩ = some (.pointer (some ⟨g3, 0, none⟩)) := new_cell2 _ _ _ _ _ _ rfl rfl
      have hP3 := (unhide hP).kept (k3.trans kA)
      have dp3 := dp.kept kA
      have hown := hP3.1
      have z3 : wr.heap.size ≤ (w3.alloc (.cells #[.pointer (some ⟨g3, 0, none⟩)] 81)).heap.size := (k3.trans kA).size
      have zw := (unhide K).size
      have HB := hide (Nat.le_trans zw z3)
      have K3 := hide (((unhide K).trans k3).trans kA)
      have HP3 := hide hP3
      have DP3 := hide dp3
      have NV3 := hide nv
      have OWN := hide hown
      have HN := hide (lit_cell hcn)
      have HZ3 := hide z3
      have HZW := hide zw
      have H1 : Hid (∀ u ∈ [Value.pointer (some ⟨g3, 0, none⟩)], u.oneCell' = true) := fun u hu => by
        cases List.mem_singleton.1 hu
        rfl
      have C3 : Hid (i + 1 ≤ maxLen) := by show _ ≤ _; unfold maxLen; omega
      have C4 : Hid ((i + 1) * 8 ≤ 140737488355328) := by show _ ≤ _; omega
      clear ht dp nv k3 kA hP3 dp3 hown z3 zw hcn hP K hcl hcl2
      go_wp2_with (at_builtin; refine wpList_append_at rfl _ _ 98 rfl w.heap.size 81 i1 (.pointer none) 1 8 Tryz.underlying98 hi1 hy0 hy1 hy2 rfl (by decide) _ _ _ rfl (unhide OWN) ⟨w3.heap.size, 0, none⟩ 1 1 [Value.pointer (some ⟨g3, 0, none⟩)] rfl rfl (unhide HN) (unhide H1) (unhide C3) (unhide C4) (unhide HB) ?_)
      intro v4 w4 hown4 hgrow h5
      have PP : Hid (Prods w.heap.size (L1 + L2) (fun q => Va q * Vb q) w4 v4 (i + 1) (updG P i g3)) := (unhide HP3).step (unhide HB) (unhide HZ3) (unhide HVL) (unhide HZW) (unhide DP3) (unhide NV3) hown4 hgrow (by rw [show (w3.alloc (.cells #[.pointer (some ⟨g3, 0, none⟩)] 81)).heap.size = w3.heap.size + 1 by simp]; exact h5)
      have K4 := hide ((unhide K3).growNew hgrow (fun q hq => unhide HVG q hq))
      clear hown4 hgrow h5 OWN HN H1 C3 C4 HB HP3 DP3 NV3 K3 HVL HVG HZ3 HZW
      go_wp2
      go_roundw
      case rel => exact ⟨i + 1, v4, updG P i g3, by simp, rfl, hlt, PP, unhide K4⟩
      case measure => simp [intOf]; omega
    · have hin : i = n := by omega
      subst hin
      obtain ⟨hown, F, hF⟩ := unhide hP
      obtain ⟨gl, cl, hv⟩ : ∃ gl cl, (Value.slice av i cv) = .slice (some ⟨gl, 0, none⟩) i cl := by
        rcases hown.2 with ⟨e, hn0⟩ | ⟨g, cap, cur, e, _⟩
        · omega
        · exact ⟨g, cap, e⟩
      cases hv
      have hcap : i ≤ cv ∧ cv ≤ maxLen := by
        rcases hown.2 with ⟨e, hn0⟩ | ⟨g, cap, cur, e, _, _, q1, q2, _⟩
        · omega
        · cases e; exact ⟨q1, q2⟩
      have ht := total_impl (L := L1 + L2) (base := w.heap.size) (P := P) (F := F) (V := fun q => Va q * Vb q) wr (by omega) h0 hn hcap.1 (by have := hcap.2; unfold maxLen at this; omega) k.size (fun q hq => by
        have h1 := hown.cells (g := gl) rfl q _ (ptrs_at P hq)
        rw [Addr.add_lit, Nat.zero_add] at h1
        exact h1) (fun q hq => ⟨(hF q hq).1.less (fun x hx _ => .inl hx), (hF q hq).2⟩) (unhide HS2)
      have K := hide k
      clear hown hF hcap k hP
      go_wp2_with fail
      refine ht.mono ?_
      rintro e w5 ⟨g5, d5, rfl, dp, nv, k5⟩
      have DD : Hid (DyP (fun y => y < w.heap.size) w5 g5 d5 ∧ NV (L1 + L2) (psum (fun q => Va q * Vb q) i) d5) := ⟨dp, nv⟩
      have K5 := hide ((unhide K).trans k5)
      clear ht dp nv k5 K
      go_wp2
      go_ret
      exact ⟨_, _, rfl, (unhide DD).1, (unhide DD).2, unhide K5⟩

theorem in_dot : ∀ (w : World) (args : Array Value), (callFunc 68 args).run Tryz.prog w = .ok (.enter 68 args) w := enters Tryz.func68 (by decide) (fun h => by cases h)

theorem in_times1 : ∀ (w : World) (args : Array Value), (callFunc 67 args).run Tryz.prog w = .ok (.enter 67 args) w := enters Tryz.func67 (by decide) (fun h => by cases h)

set_option maxHeartbeats 8000000 in
theorem times1_impl {PP : World → Nat → DE → Prop} {B1 B2 R1 R2 r1 r2 n i j : Nat} (w : World) (hi : i < n) (hj : j < n) (c0 : w.cell? ⟨B1, 0, none⟩ = some (.slice (some ⟨R1, 0, none⟩) n n)) (c1 : w.cell? ⟨R1, i, none⟩ = some (.slice (some ⟨r1, 0, none⟩) n n)) (d0 : w.cell? ⟨B2, 0, none⟩ = some (.slice (some ⟨R2, 0, none⟩) n n)) (d1 : w.cell? ⟨R2, j, none⟩ = some (.slice (some ⟨r2, 0, none⟩) n n))
    (hc : Calls Tryz.prog 68 #[.slice (some ⟨r1, 0, none⟩) n n, .slice (some ⟨r2, 0, none⟩) n n] w.drew fun e w' => ∃ g d, e = .returned (.pointer (some ⟨g, 0, none⟩)) ∧ PP w' g d ∧ Kept 0 0 w.drew w') :
    Calls Tryz.prog 67 #[.int .i64 (i : Int), .int .i64 (j : Int), .pointer (some ⟨B1, 0, none⟩), .pointer (some ⟨B2, 0, none⟩)] w fun e w' => ∃ g d, e = .returned (.pointer (some ⟨g, 0, none⟩)) ∧ PP w' g d ∧ Kept 0 0 w w' := by
  go_enter Tryz.func67, Tryz.ntmps67
  go_wp2_with fail
  have kd := (Kept.refl 0 0 w).drew
  replace c0 := kd.cell0 c0
  replace c1 := kd.cell0 c1
  replace d0 := kd.cell0 d0
  replace d1 := kd.cell0 d1
  have KD := hide kd
  clear kd
  refine wp_region_held_drew (S := (fun w' => w'.cell? ⟨B1, 0, none⟩ = some (.slice (some ⟨R1, 0, none⟩) n n) ∧ w'.cell? ⟨R1, i, none⟩ = some (.slice (some ⟨r1, 0, none⟩) n n) ∧ w'.cell? ⟨B2, 0, none⟩ = some (.slice (some ⟨R2, 0, none⟩) n n) ∧ w'.cell? ⟨R2, j, none⟩ = some (.slice (some ⟨r2, 0, none⟩) n n))) (by kernel_rfl) ?_ (fun hHeld => ?_)
  · exact ⟨c0, c1, d0, d1⟩
  refine wpAnyH_take (i := 0) (oi := _) (v := .pointer (some ⟨B1, 0, none⟩)) rfl (by kernel_rfl) (by kernel_rfl) (by kernel_rfl) (fun _ _ _ h => h) (Or.inl ⟨by rfl, ?_⟩) hHeld ?_
  · intro wq hSw
    try dsimp only at hSw
    go_simp
  try simp only [Act.put, List.getElem_toArray, List.getElem_cons_succ, List.getElem_cons_zero, List.setIfInBounds_toArray, List.set_cons_zero, List.set_cons_succ]
  refine wpAnyH_take (i := 1) (oi := _) (v := .slice (some ⟨R1, 0, none⟩) n n) rfl (by kernel_rfl) (by kernel_rfl) (by kernel_rfl) (fun _ _ _ h => h) (Or.inl ⟨by rfl, ?_⟩) hHeld ?_
  · intro wq hSw
    try dsimp only at hSw
    go_simp
  try simp only [Act.put, List.getElem_toArray, List.getElem_cons_succ, List.getElem_cons_zero, List.setIfInBounds_toArray, List.set_cons_zero, List.set_cons_succ]
  refine wpAnyH_take (i := 2) (oi := _) (v := .int .i64 (i : Int)) rfl (by kernel_rfl) (by kernel_rfl) (by kernel_rfl) (fun _ _ _ h => h) (Or.inl ⟨by rfl, ?_⟩) hHeld ?_
  · intro wq hSw
    try dsimp only at hSw
    go_simp
  try simp only [Act.put, List.getElem_toArray, List.getElem_cons_succ, List.getElem_cons_zero, List.setIfInBounds_toArray, List.set_cons_zero, List.set_cons_succ]
  refine wpAnyH_take (i := 3) (oi := _) (v := .pointer (some ⟨R1, i, none⟩)) rfl (by kernel_rfl) (by kernel_rfl) (by kernel_rfl) (fun _ _ _ h => h) (Or.inl ⟨by rfl, ?_⟩) hHeld ?_
  · intro wq hSw
    try dsimp only at hSw
    go_simp
  try simp only [Act.put, List.getElem_toArray, List.getElem_cons_succ, List.getElem_cons_zero, List.setIfInBounds_toArray, List.set_cons_zero, List.set_cons_succ]
  refine wpAnyH_take (i := 4) (oi := _) (v := .slice (some ⟨r1, 0, none⟩) n n) rfl (by kernel_rfl) (by kernel_rfl) (by kernel_rfl) (fun _ _ _ h => h) (Or.inl ⟨by rfl, ?_⟩) hHeld ?_
  · intro wq hSw
    try dsimp only at hSw
    go_simp
  try simp only [Act.put, List.getElem_toArray, List.getElem_cons_succ, List.getElem_cons_zero, List.setIfInBounds_toArray, List.set_cons_zero, List.set_cons_succ]
  refine wpAnyH_take (i := 5) (oi := _) (v := .slice (some ⟨R2, 0, none⟩) n n) rfl (by kernel_rfl) (by kernel_rfl) (by kernel_rfl) (fun _ _ _ h => h) (Or.inl ⟨by rfl, ?_⟩) hHeld ?_
  · intro wq hSw
    try dsimp only at hSw
    go_simp
  try simp only [Act.put, List.getElem_toArray, List.getElem_cons_succ, List.getElem_cons_zero, List.setIfInBounds_toArray, List.set_cons_zero, List.set_cons_succ]
  refine wpAnyH_take (i := 6) (oi := _) (v := .int .i64 (j : Int)) rfl (by kernel_rfl) (by kernel_rfl) (by kernel_rfl) (fun _ _ _ h => h) (Or.inl ⟨by rfl, ?_⟩) hHeld ?_
  · intro wq hSw
    try dsimp only at hSw
    go_simp
  try simp only [Act.put, List.getElem_toArray, List.getElem_cons_succ, List.getElem_cons_zero, List.setIfInBounds_toArray, List.set_cons_zero, List.set_cons_succ]
  refine wpAnyH_take (i := 7) (oi := _) (v := .pointer (some ⟨R2, j, none⟩)) rfl (by kernel_rfl) (by kernel_rfl) (by kernel_rfl) (fun _ _ _ h => h) (Or.inl ⟨by rfl, ?_⟩) hHeld ?_
  · intro wq hSw
    try dsimp only at hSw
    go_simp
  try simp only [Act.put, List.getElem_toArray, List.getElem_cons_succ, List.getElem_cons_zero, List.setIfInBounds_toArray, List.set_cons_zero, List.set_cons_succ]
  refine wpAnyH_take (i := 8) (oi := _) (v := .slice (some ⟨r2, 0, none⟩) n n) rfl (by kernel_rfl) (by kernel_rfl) (by kernel_rfl) (fun _ _ _ h => h) (Or.inl ⟨by rfl, ?_⟩) hHeld ?_
  · intro wq hSw
    try dsimp only at hSw
    go_simp
  try simp only [Act.put, List.getElem_toArray, List.getElem_cons_succ, List.getElem_cons_zero, List.setIfInBounds_toArray, List.set_cons_zero, List.set_cons_succ]
  refine wpAnyH_ready (rs := [9]) (by kernel_rfl) (by simp) ?_
  refine AllReadyH.cons rfl (fun KK hK => ?_) AllReadyH.nil
  simp only [List.getElem_toArray, List.getElem_cons_succ, List.getElem_cons_zero]
  rw [if_pos (by rfl)]
  refine wps2 68 (.tmp 11) (.tmp 15) _ rfl in_dot (.slice (some ⟨r1, 0, none⟩) n n) (.slice (some ⟨r2, 0, none⟩) n n) rfl rfl hc ?_
  rintro e w1 ⟨g, d, rfl, pp, k1⟩
  refine ⟨_, rfl, ?_⟩
  replace c0 := k1.cell0 c0
  replace c1 := k1.cell0 c1
  replace d0 := k1.cell0 d0
  replace d1 := k1.cell0 d1
  have K1 := hide ((unhide KD).trans k1)
  have PQ := hide pp
  clear hc k1 pp
  clear hHeld
  refine hK.out _ _ ?_ (fun hHeld => ?_)
  · exact ⟨c0, c1, d0, d1⟩
  clear hK KK
  try simp only [Act.put, List.getElem_toArray, List.getElem_cons_succ, List.getElem_cons_zero, List.setIfInBounds_toArray, List.set_cons_zero, List.set_cons_succ]
  refine wpAnyH_take (i := 10) (oi := _) (v := .pointer (some ⟨g, 0, none⟩)) rfl (by kernel_rfl) (by kernel_rfl) (by kernel_rfl) (fun _ _ _ h => h) (Or.inl ⟨by rfl, ?_⟩) hHeld ?_
  · intro wq hSw
    try dsimp only at hSw
    go_simp
  try simp only [Act.put, List.getElem_toArray, List.getElem_cons_succ, List.getElem_cons_zero, List.setIfInBounds_toArray, List.set_cons_zero, List.set_cons_succ]
  refine wpAnyH_done (by kernel_rfl) ?_ _
  clear hHeld c0 c1 d0 d1
  go_wp2_with fail
  go_ret
  exact ⟨g, d, rfl, unhide PQ, unhide K1⟩

/-- What a product's number is worth. -/
def mulW (n : Nat) (V1 V2 : Nat → Int) (p : Nat) : Int := psum (fun q => V1 (p / n * n + q) * V2 (q * n + p % n)) n

set_option maxHeartbeats 16000000 in
theorem timesS_impl {S1 S2 : Nat → Prop} {R1 R2 n b1 b2 : Nat} {G1 G2 : Nat → Nat} {F1 F2 : Nat → DE} {L1 L2 : Int} {V1 V2 : Nat → Int} (w : World) (h0 : 0 < n) (hn : n ≤ 1000) (hL1 : -20000 ≤ L1) (hL2 : -20000 ≤ L2) (s1 : SqG S1 w R1 n n G1) (m1 : Nums b1 S1 w (n * n) G1 F1) (s2 : SqG S2 w R2 n n G2) (m2 : Nums b2 S2 w (n * n) G2 F2) (h1 : ∀ p, p < n * n → NV L1 (V1 p) (F1 p) ∧ (F1 p).2.2 ≤ 20000) (h2 : ∀ p, p < n * n → NV L2 (V2 p) (F2 p) ∧ (F2 p).2.2 ≤ 20000) (hs : ∀ p q, p < n * n → q < n * n → (V1 p * V2 q).natAbs < 2 ^ AA) (hs2 : ∀ i j m, i < n → j < n → m ≤ n → (psum (fun q => V1 (i * n + q) * V2 (q * n + j)) m).natAbs < 2 ^ AA) :
    Calls Tryz.prog 38 #[.agg #[.slice (some ⟨R1, 0, none⟩) n n], .agg #[.slice (some ⟨R2, 0, none⟩) n n]] w fun e w' => ∃ R G S F, e = .returned (.agg #[.slice (some ⟨R, 0, none⟩) n n]) ∧ SqG S w' R n n G ∧ Nums w.heap.size S w' (n * n) G F ∧ (∀ p, p < n * n → NV (L1 + L2) (mulW n V1 V2 p) (F p)) ∧ (∀ x, S x → w.heap.size ≤ x ∧ x < w'.heap.size) ∧ Kept 0 0 w w' := by
  obtain ⟨W, hW⟩ : ∃ W, W = ((w.alloc (.cells #[.slice (some ⟨R1, 0, none⟩) n n] 69)).alloc (.cells #[.slice (some ⟨R2, 0, none⟩) n n] 69)).alloc (.cells #[.slice none 0 0] 69) := ⟨_, rfl⟩
  have k0 : Kept 0 0 w W := by rw [hW]; exact (((Kept.refl 0 0 w).alloc _).alloc _).alloc _
  have c0 : W.cell? ⟨w.heap.size, 0, none⟩ = some (.slice (some ⟨R1, 0, none⟩) n n) := by rw [hW]; exact old_cell _ (old_cell _ (new_cell2 _ _ _ _ _ _ (by simp) rfl))
  have d0 : W.cell? ⟨w.heap.size + 1, 0, none⟩ = some (.slice (some ⟨R2, 0, none⟩) n n) := by rw [hW]; exact old_cell _ (new_cell2 _ _ _ _ _ _ (by simp) rfl)
  have q0 : W.cell? ⟨w.heap.size + 2, 0, none⟩ = some (.slice none 0 0) := by rw [hW]; exact new_cell2 _ _ _ _ _ _ (by simp) rfl
  have qf : W.frozen? ⟨w.heap.size + 2, 0, none⟩ = false := by rw [hW]; exact new_loose2 _ _ _ _ _ (by simp)
  have sW : W.heap.size = w.heap.size + 3 := by rw [hW]; simp
  have htu := turned_impl W hn (s2.kept k0) (Nums.mod m2 k0.toMod)
  rw [hW] at htu
  have SW := hide sW
  have K0 := hide k0
  have SQ1 := hide s1
  have NM1 := hide m1
  have H1 := hide h1
  have H2 := hide h2
  have HS := hide hs
  have HS2 := hide hs2
  clear s1 m1 s2 m2 h1 h2 hs hs2 sW k0
  go_enter Tryz.func38, Tryz.ntmps38
  go_wp2_with fail
  refine htu.mono ?_
  rw [← hW]
  rintro e w1 ⟨RT, GT, ST, rfl, sqT, nmT, hST, k1⟩
  clear htu hW
  have kB := (Kept.refl 0 0 w1).alloc (.cells #[.slice (some ⟨RT, 0, none⟩) n n] 67)
  have kk := k1.trans kB
  have b0 : (w1.alloc (.cells #[.slice (some ⟨RT, 0, none⟩) n n] 67)).cell? ⟨w1.heap.size, 0, none⟩ = some (.slice (some ⟨RT, 0, none⟩) n n) := new_cell2 _ _ _ _ _ _ rfl rfl
  have C0 := kk.cell0 c0
  have Q0 := kk.cell0 q0
  have QF := kk.loose0 (World.block_lt_of_cell? _ _ q0) qf
  have kw := (unhide K0).trans kk
  have sqT2 := sqT.kept kB
  have nmT2 := Nums.mod nmT (kB.toMod)
  have hm := makeSquare_newQ (n := n) hn 67 in_times1 #[.pointer (some ⟨w.heap.size, 0, none⟩), .pointer (some ⟨w1.heap.size, 0, none⟩)] (fun p d => NV (L1 + L2) (mulW n V1 V2 p) d) (w1.alloc (.cells #[.slice (some ⟨RT, 0, none⟩) n n] 67)) (fun i j w' hi hj k => by
    have kwd : Kept 0 0 w w'.drew := (kw.trans k).drew
    have kd : Kept 0 0 (w1.alloc (.cells #[.slice (some ⟨RT, 0, none⟩) n n] 67)) w'.drew := k.drew
    obtain ⟨r1, cr1, -, -, -, q1⟩ := (unhide SQ1).2.2 i hi
    obtain ⟨r2, cr2, -, -, -, q2⟩ := sqT2.2.2 j hj
    have hc := dot_impl (L1 := L1) (L2 := L2) (A := fun q => G1 (i * n + q)) (B := fun q => GT (j * n + q)) (Fa := fun q => F1 (i * n + q)) (Fb := fun q => F2 (turP n (j * n + q))) (Va := fun q => V1 (i * n + q)) (Vb := fun q => V2 (q * n + j)) w'.drew hL1 hL2 h0 hn (fun q hq => kwd.cell0 (q1 q hq)) (fun q hq => kd.cell0 (q2 q hq))
      (fun q hq => by
        obtain ⟨u, nn, dd, ee⟩ := (unhide NM1).at (place_lt hi hq)
        exact ⟨⟨u, nn.kept kwd, ⟨kwd.cell0 dd.1, kwd.loose0 (a := ⟨G1 (i * n + q), 1, none⟩) nn.lt dd.2⟩, ⟨kwd.cell0 ee.1, kwd.loose0 (a := ⟨G1 (i * n + q), 2, none⟩) nn.lt ee.2⟩⟩, unhide H1 _ (place_lt hi hq)⟩)
      (fun q hq => by
        obtain ⟨u, nn, dd, ee⟩ := nmT2.at (place_lt hj hq)
        refine ⟨⟨u, nn.kept kd, ⟨kd.cell0 dd.1, kd.loose0 (a := ⟨GT (j * n + q), 1, none⟩) nn.lt dd.2⟩, ⟨kd.cell0 ee.1, kd.loose0 (a := ⟨GT (j * n + q), 2, none⟩) nn.lt ee.2⟩⟩, ?_⟩
        rw [turP_at j hq]
        exact unhide H2 _ (place_lt hq hj))
      (fun q hq => unhide HS _ _ (place_lt hi hq) (place_lt hq hj)) (fun q hq => unhide HS2 i j q hi hj hq)
    have ew : mulW n V1 V2 (i * n + j) = psum (fun q => V1 (i * n + q) * V2 (q * n + j)) n := by
      unfold mulW
      rw [Nat.mul_comm i n, Nat.mul_add_mod, Nat.mod_eq_of_lt hj, Nat.mul_add_div (by omega), Nat.div_eq_of_lt hj, Nat.add_zero, Nat.mul_comm n i]
    refine (times1_impl (PP := fun w'' g d => DyP (fun y => y < w'.heap.size) w'' g d ∧ NV (L1 + L2) (mulW n V1 V2 (i * n + j)) d) (B1 := w.heap.size) (B2 := w1.heap.size) w' hi hj (k.cell0 C0) ((kw.trans k).cell0 cr1) (k.cell0 b0) (k.cell0 cr2) (hc.mono ?_)).mono ?_
    · rintro e w'' ⟨g, d, rfl, dp, nv, k'⟩
      exact ⟨g, d, rfl, ⟨dp, by rw [ew]; exact nv⟩, k'⟩
    · rintro e w'' ⟨g, d, rfl, ⟨dp, nv⟩, k'⟩
      exact ⟨g, d, rfl, dp, nv, k'⟩)
  have hfl : (Instr.field 69 (.agg #[.slice (some ⟨RT, 0, none⟩) n n]) 0).run Tryz.prog w1 = .ok (.slice (some ⟨RT, 0, none⟩) n n) w1 := by kernel_rfl
  have sW := unhide SW
  have hz1 : w.heap.size + 3 ≤ (w1.alloc (.cells #[.slice (some ⟨RT, 0, none⟩) n n] 67)).heap.size := by have := kk.size; omega
  have HZ1 := hide hz1
  have KWW := hide kw
  clear k1 kB kk kw sqT sqT2 nmT nmT2 hST b0 c0 q0 qf d0 sW hz1 NM1 SQ1 H1 H2 HS HS2
  go_wp2_with fail
  refine hm.mono ?_
  rintro e w3 ⟨R, G, S, F, rfl, sq, nm, hq, hS, hR, k3⟩
  have q1 := k3.cell0 Q0
  have qf1 := k3.loose0 (World.block_lt_of_cell? _ _ Q0) QF
  have hz1 := unhide HZ1
  have E1 := cell_on w3 (w.heap.size + 2) 0 (.slice (some ⟨R, 0, none⟩) n n) _ q1
  have ks : Kept (w.heap.size + 2) (w.heap.size + 3) w3 (w3.setCell ⟨w.heap.size + 2, 0, none⟩ (.slice (some ⟨R, 0, none⟩) n n)) := (Kept.refl _ _ _).setCell (p := ⟨w.heap.size + 2, 0, none⟩) (Nat.le_refl _) (Nat.lt_succ_self _) _
  have S2 : Hid (SqG S (w3.setCell ⟨w.heap.size + 2, 0, none⟩ (.slice (some ⟨R, 0, none⟩) n n)) R n n G ∧ Nums w.heap.size S (w3.setCell ⟨w.heap.size + 2, 0, none⟩ (.slice (some ⟨R, 0, none⟩) n n)) (n * n) G F ∧ (∀ p, p < n * n → NV (L1 + L2) (mulW n V1 V2 p) (F p)) ∧ (∀ x, S x → w.heap.size ≤ x ∧ x < (w3.setCell ⟨w.heap.size + 2, 0, none⟩ (.slice (some ⟨R, 0, none⟩) n n)).heap.size)) :=
    ⟨sq.keptY ks (by omega), (nm.win ks (by omega)).less (by omega), hq, fun x hx => by (have := hS x hx; rw [size_set]; omega)⟩
  have K2 := hide (((unhide KWW).trans k3).wide ks (by omega))
  clear hm sq nm hq hS hR k3 ks hz1 Q0 QF C0
  go_wp2
  exact bodyPost_ret (v := .agg #[.slice (some ⟨R, 0, none⟩) n n]) (by simp [results, Tryz.results38, go_sem, E1]) rfl ⟨R, G, S, F, rfl, (unhide S2).1, (unhide S2).2.1, (unhide S2).2.2.1, (unhide S2).2.2.2, unhide K2⟩

end Go.Proofs.YtefnblaphkookaaGreatDoor
