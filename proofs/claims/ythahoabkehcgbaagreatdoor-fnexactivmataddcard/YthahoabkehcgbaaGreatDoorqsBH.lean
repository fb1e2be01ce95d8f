/-
  Contracts that the proofs of this seat share: ISide, INat22, IWh1.
-/
import Derived.Test.YthahoabkehcgbaaGreatDoorqsBF
import Derived.Test.YthahoabkehcgbaaGreatDoorqsBB
import Derived.Test.YthahoabkehcgbaaGreatDoorqsBE
import Derived.Test.YthahoabkehcgbaaGreatDoorqsBC
namespace Go.Proofs.YthahoabkehcgbaaGreatDoor
open Go.RowKit
set_option linter.unusedVariables false
set_option maxRecDepth 8000

/-- Behind its first cell block g is as it was. -/
def SameSide (g : Nat) (w w' : World) : Prop := ∀ o, 1 ≤ o → w'.cell? ⟨g, o, none⟩ = w.cell? ⟨g, o, none⟩ ∧ w'.frozen? ⟨g, o, none⟩ = w.frozen? ⟨g, o, none⟩
theorem SameSide.refl (g : Nat) (w : World) : SameSide g w w := fun _ _ => ⟨rfl, rfl⟩
theorem SameSide.trans {g : Nat} {a b c : World} (h : SameSide g a b) (k : SameSide g b c) : SameSide g a c := fun o ho => ⟨(k o ho).1.trans (h o ho).1, (k o ho).2.trans (h o ho).2⟩
theorem SameSide.drewN {g : Nat} {a w : World} (h : SameSide g a w) (n : Nat) : SameSide g a (w.drewN n) := h
theorem side_setAt (w : World) (g p o : Nat) (u : Value) (ho : p ≠ o) : (w.setCell ⟨g, p, none⟩ u).cell? ⟨g, o, none⟩ = w.cell? ⟨g, o, none⟩ := by
  unfold World.cell? World.setCell
  simp only [Array.getElem?_modify]
  cases hb : w.heap[g]? with
  | none => simp
  | some b => cases b <;> simp [ho]
theorem side_set (w : World) (g : Nat) (u : Value) : (w.setCell ⟨g, 0, none⟩ u).cell? ⟨g, 1, none⟩ = w.cell? ⟨g, 1, none⟩ := side_setAt w g 0 1 u (by decide)
theorem SameSide.set0 {g : Nat} {a w : World} (h : SameSide g a w) (u : Value) : SameSide g a (w.setCell ⟨g, 0, none⟩ u) :=
  fun o ho => ⟨(side_setAt w g 0 o u (by omega)).trans (h o ho).1, (frozen_set w g 0 _ u).trans (h o ho).2⟩
theorem SameSide.far {g : Nat} {a w : World} (h : SameSide g a w) {p o : Nat} (hp : p ≠ g) (u : Value) : SameSide g a (w.setCell ⟨p, o, none⟩ u) :=
  fun q hq => ⟨(World.cell?_of_block (w := w) (a := ⟨g, q, none⟩) (Below.heap_setCell _ _ _ _ (fun e => hp e.symm))).trans (h q hq).1, (frozen_set w p o _ u).trans (h q hq).2⟩
theorem SameSide.ofBlock {g : Nat} {w w' : World} (h : w'.heap[g]? = w.heap[g]?) : SameSide g w w' :=
  fun q hq => ⟨World.cell?_of_block (w := w) (a := ⟨g, q, none⟩) h, World.frozen?_of_block (w := w) (a := ⟨g, q, none⟩) h⟩
theorem Kept.side {g : Nat} {w w' : World} (k : Kept 0 0 w w') (hg : g < w.heap.size) : SameSide g w w' := SameSide.ofBlock (k.block g hg (by omega))
theorem Mod.side {S : Nat → Prop} {g : Nat} {w w' : World} (k : Mod S w w') (hg : g < w.heap.size) (hS : ¬ S g) : SameSide g w w' := SameSide.ofBlock (k.block g hg hS)

/-- Behind its first two cells block g is as it was. -/
def SameTail (g : Nat) (w w' : World) : Prop := ∀ o, 2 ≤ o → w'.cell? ⟨g, o, none⟩ = w.cell? ⟨g, o, none⟩ ∧ w'.frozen? ⟨g, o, none⟩ = w.frozen? ⟨g, o, none⟩
theorem SameTail.refl (g : Nat) (w : World) : SameTail g w w := fun _ _ => ⟨rfl, rfl⟩
theorem SameTail.trans {g : Nat} {a b c : World} (h : SameTail g a b) (k : SameTail g b c) : SameTail g a c := fun o ho => ⟨(k o ho).1.trans (h o ho).1, (k o ho).2.trans (h o ho).2⟩
theorem SameTail.drew {g : Nat} {a w : World} (h : SameTail g a w) : SameTail g a w.drew := h
theorem SameTail.drewN {g : Nat} {a w : World} (h : SameTail g a w) (n : Nat) : SameTail g a (w.drewN n) := h
theorem SameSide.tail {g : Nat} {w w' : World} (h : SameSide g w w') : SameTail g w w' := fun o ho => h o (by omega)
theorem SameTail.set1 {g : Nat} {a w : World} (h : SameTail g a w) (u : Value) : SameTail g a (w.setCell ⟨g, 1, none⟩ u) :=
  fun o ho => ⟨(side_setAt w g 1 o u (by omega)).trans (h o ho).1, (frozen_set w g 1 _ u).trans (h o ho).2⟩

set_option maxHeartbeats 4000000 in
theorem trim_side {b g : Nat} {v : Value} {zs : List Int} (w : World) (h : Num b w g v zs) (hl : Lim zs) :
    Calls Tryz.prog 215 #[.pointer (some ⟨g, 0, none⟩)] w fun e w' => (∃ r, e = .returned r) ∧ ∃ u, Num b w' g u (limbs (val zs).toNat) ∧ u.ownBlock = v.ownBlock ∧ Mod (fun i => i = g) w w' ∧ SameSide g w w' := by
  have hm := h.row.len
  unfold maxLen at hm
  have HL := hide hl
  clear hl
  go_enter Tryz.func215, Tryz.ntmps215
  go_wp2
  go_loopw [] (fun wr => ∃ (m : Nat) (u : Value), m ≤ zs.length ∧ Hid (∀ i, m ≤ i → i < zs.length → zs.getD i 0 = 0) ∧ Num b wr g u (zs.take m) ∧ Hid (u.ownBlock = v.ownBlock) ∧ Mod (fun i => i = g) w wr ∧ SameSide g w wr) (fun wr => lenAt wr g)
  case atStart => exact ⟨zs.length, v, Nat.le_refl _, hide (fun i h1 h2 => by omega), by rw [List.take_length]; exact h, hide rfl, Mod.refl _ _, SameSide.refl _ _⟩
  case round =>
    clear h
    obtain ⟨m, u, hmz, hz, n, ho, hmod, hsd⟩ := hrel
    have SS := hide hsd
    clear hsd
    have hlen : (zs.take m).length = m := by simp; omega
    have hlo := n.loose
    by_cases h0 : m = 0
    · subst h0
      obtain ⟨a1, c1, hv⟩ := n.form
      rw [hlen] at hv
      subst hv
      have hce := n.cell
      have e1 := take_limbs zs (unhide HL) 0 (by omega) (unhide hz) (.inl rfl)
      rw [e1] at n
      have NN := hide n
      have MM := hide hmod
      have hd : decide ((0 : Int) < ((0 : Nat) : Int)) = false := rfl
      clear e1 n hmod hlen hz
      go_wp2
      go_quiet (fail)
      go_wp2
      exact bodyPost_end (v := .tuple #[]) (by simp [results, Tryz.results215, go_sem]) rfl ⟨⟨_, rfl⟩, _, (unhide NN).kept ((Kept.refl 0 0 _).drewN _), unhide ho, (unhide MM).drewN _, (unhide SS).drewN _⟩
    · obtain ⟨gb, cap, hv, hxz, hfz, hgb⟩ := n.at (m - 1) (by omega)
      rw [hlen] at hv
      subst hv
      have hce := n.cell
      have hz1 : (zs.take m).getD (m - 1) 0 = zs.getD (m - 1) 0 := by
        simp only [List.getD, List.getElem?_take]
        rw [if_pos (by omega)]
      rw [hz1] at hxz
      have hpos : (0 : Int) < (m : Int) := by omega
      have hposN : 0 < m := by omega
      have h1m : (1 : Int) ≤ (m : Int) := by omega
      have hcap : (m : Int) - 1 ≤ (cap : Int) := by
        have h5 := n.own
        rw [hlen] at h5
        obtain ⟨g5, cap5, e5, -, h6, -⟩ := own_form h5 (by omega)
        cases e5
        omega
      have ew : IntKind.i64.wrap ((m : Int) - 1) = (m : Int) - 1 := wrap_small _ (by omega) (by omega)
      have et : ((m : Int) - 1).toNat = m - 1 := by omega
      have hi0 : (0 : Int) ≤ (m : Int) - 1 := by omega
      have hi1 : (m : Int) - 1 < (m : Int) := by omega
      have hz1' : ∀ z, zs.getD (m - 1) 0 = z → (z = 0 → ∀ i, m - 1 ≤ i → i < zs.length → zs.getD i 0 = 0) ∧ (z ≠ 0 → zs.take m = limbs (val zs).toNat) := by
        intro z e
        refine ⟨fun e0 i h1 h2 => ?_, fun e0 => take_limbs zs (unhide HL) m (by omega) (unhide hz) (.inr (by rw [e]; exact e0))⟩
        by_cases h3 : i = m - 1
        · rw [h3, e, e0]
        · exact unhide hz i (by omega) h2
      generalize zs.getD (m - 1) 0 = zl at *
      obtain ⟨hza, hzb⟩ := hz1' zl rfl
      clear hz1' hz
      by_cases hzz : zl = 0
      · subst hzz
        have HZ := hide (hza rfl)
        have NC := hide (fun k => (n.kept ((Kept.refl 0 0 _).drewN k)).cut hlen.symm (m - 1) (by omega))
        have MC := hide (fun k => (hmod.drewN k).set (p := ⟨g, 0, none⟩) (.inl rfl) (.slice (some ⟨gb, 0, none⟩) (m - 1) cap))
        have e1 : (zs.take m).take (m - 1) = zs.take (m - 1) := by rw [List.take_take, Nat.min_eq_left (by omega)]
        have E1 := hide e1
        clear hza hzb n hmod hlen e1
        go_wp2
        go_quiet (fail)
        go_wp2
        go_region
        go_wp2
        go_roundw
        case rel => exact ⟨m - 1, .slice (some ⟨gb, 0, none⟩) (m - 1) cap, by omega, HZ, by rw [← unhide E1]; exact unhide NC _, hide (unhide ho), unhide MC _, ((unhide SS).drewN _).set0 _⟩
        case measure => rw [lenAt_of hce, lenAt_of (unhide NC _).cell]; omega
      · have e1 := hzb hzz
        rw [e1] at n
        have NN := hide n
        have MM := hide hmod
        have hb : (zl == 0) = false := beq_eq_false_iff_ne.2 hzz
        clear e1 n hmod hlen hza hzb
        go_wp2
        go_quiet (fail)
        go_wp2
        exact bodyPost_end (v := .tuple #[]) (by simp [results, Tryz.results215, go_sem]) rfl ⟨⟨_, rfl⟩, _, (unhide NN).kept ((Kept.refl 0 0 _).drewN _), unhide ho, (unhide MM).drewN _, (unhide SS).drewN _⟩

/-- Two numbers that lie apart, newer than w0; since wb only the first one's blocks have turned, and of its cell's block only the first cell. -/
structure TwoS (wb : World) (u0 : Value) (w0 wx : World) (g1 g2 : Nat) (u1 u2 : Value) (xs ys : List Int) : Prop where
  two : Two w0 wx g1 g2 u1 u2 xs ys
  d1 : SameSide g1 wb wx
  m : Mod (Own1 g1 u0) wb wx
  ob : ∀ i, u1.ownBlock = some i → u0.ownBlock = some i ∨ wb.heap.size ≤ i

section
variable {wb w0 wx w w' W : World} {g1 g2 : Nat} {u0 u1 u1' u2 v v' : Value} {xs ys zs qs : List Int}
theorem Two.startS (t : Two w0 w g1 g2 u1 u2 xs ys) : TwoS w u1 w0 w g1 g2 u1 u2 xs ys := ⟨t, SameSide.refl _ _, Mod.refl _ _, fun _ h => .inl h⟩
theorem TwoS.n1 (t : TwoS wb u0 w0 wx g1 g2 u1 u2 xs ys) : Num w0.heap.size wx g1 u1 xs := t.two.n1
theorem TwoS.n2 (t : TwoS wb u0 w0 wx g1 g2 u1 u2 xs ys) : Num w0.heap.size wx g2 u2 ys := t.two.n2
theorem TwoS.k (t : TwoS wb u0 w0 wx g1 g2 u1 u2 xs ys) : Kept 0 0 w0 wx := t.two.k
theorem TwoS.kept (t : TwoS wb u0 w0 W g1 g2 u1 u2 xs ys) (k : Kept 0 0 W w') : TwoS wb u0 w0 w' g1 g2 u1 u2 xs ys := ⟨t.two.kept k, t.d1.trans (k.side t.n1.lt), t.m.kept k, t.ob⟩
theorem TwoS.put {gb cap j n : Nat} (t : TwoS wb u0 w0 w g1 g2 (.slice (some ⟨gb, 0, none⟩) n cap) u2 zs ys) (hn : zs.length = n) (z : Int) :
    TwoS wb u0 w0 (w.setCell ⟨gb, j, none⟩ (.int .i64 z)) g1 g2 (.slice (some ⟨gb, 0, none⟩) n cap) u2 (zs.set j z) ys :=
  ⟨t.two.put hn z, t.d1.far (fun e => t.n1.apart (by simp [Value.ownBlock, e])) _, t.m.set (p := ⟨gb, j, none⟩) ((t.ob gb rfl).imp (fun h => .inr h) id) _, t.ob⟩
theorem TwoS.snoc (t : TwoS wb u0 w0 w g1 g2 v u2 zs ys) (o : Obj) (hg : (w.alloc o).grownBy w' v.ownBlock) (hat : v'.ownBlock = v.ownBlock ∨ v'.ownBlock = some (w.heap.size + 1))
    (hown : w'.ownsRow w0.heap.size 3 1 v' qs.length (qs.map (Value.int .i64))) :
    w'.cell? ⟨g1, 0, none⟩ = some v ∧ w'.frozen? ⟨g1, 0, none⟩ = false ∧ TwoS wb u0 w0 (w'.setCell ⟨g1, 0, none⟩ v') g1 g2 v' u2 qs ys := by
  obtain ⟨e1, e2, t2⟩ := t.two.snoc o hg hat hown
  have k := (Kept.refl 0 0 w).alloc o
  have l1 := t.n1.lt
  have s1 : SameSide g1 (w.alloc o) w' := SameSide.ofBlock (hg.block g1 (by simp; omega) (fun e => t.n1.apart e.symm))
  have hm := ((t.m.kept k).grow hg (fun i hi => (t.ob i hi).imp (fun h => .inr h) id)).set (p := ⟨g1, 0, none⟩) (.inl (.inl rfl)) v'
  refine ⟨e1, e2, t2, ((t.d1.trans (k.side l1)).trans s1).set0 _, hm, fun i hi => ?_⟩
  rcases hat with e | e
  · exact t.ob i (by rw [← e]; exact hi)
  · rw [e] at hi
    simp at hi
    have := t.m.size
    exact .inr (by omega)
theorem TwoS.mod1 (t : TwoS wb u0 w0 W g1 g2 u1 u2 xs ys) (n : Num w0.heap.size w' g1 u1' zs) (ho : u1'.ownBlock = u1.ownBlock) (m : Mod (fun i => i = g1) W w') (s : SameSide g1 W w') : TwoS wb u0 w0 w' g1 g2 u1' u2 zs ys :=
  ⟨t.two.mod1 n ho m, t.d1.trans s, t.m.then m (fun i e => .inl (.inl e)), by rw [ho]; exact t.ob⟩
end

set_option maxHeartbeats 4000000 in
theorem add_twoS {wb w0 w : World} {u0 : Value} {g1 g2 : Nat} {xs ys : List Int} (h : ∃ u1 u2, TwoS wb u0 w0 w g1 g2 u1 u2 xs ys) (hx : Nrm xs) (hy : Nrm ys) (hl1 : xs.length ≤ 100000) (hl2 : ys.length ≤ 100000) :
    Calls Tryz.prog 170 #[.pointer (some ⟨g1, 0, none⟩), .pointer (some ⟨g2, 0, none⟩)] w fun e w' => (∃ r, e = .returned r) ∧ ∃ u1 u2, TwoS wb u0 w0 w' g1 g2 u1 u2 (limbs (val xs + val ys).toNat) ys := by
  obtain ⟨u1, u2, t0⟩ := h
  obtain ⟨a2, c2, rfl⟩ := t0.n2.form
  generalize hS : val xs + val ys = S
  have h0 := val_nonneg hx.1
  have h0' := val_nonneg hy.1
  obtain ⟨M0, hM0⟩ : ∃ M0 : Nat, M0 = 100000 := ⟨_, rfl⟩
  obtain ⟨M, hMM⟩ : ∃ M : Nat, M = M0 + 1 := ⟨_, rfl⟩
  have hSb : S < 65536 ^ M := by
    have e1 := val_lt hx.1
    have e2 := val_lt hy.1
    have e3 := pow_mono (a := xs.length) (b := M0) (by omega)
    have e4 := pow_mono (a := ys.length) (b := M0) (by omega)
    have e5 : (65536 : Int) ^ M = 65536 ^ M0 * 65536 := by rw [hMM]; exact Int.pow_succ _ _
    have e6 : (0 : Int) < 65536 ^ M0 := Int.pow_pos (by decide)
    generalize (65536 : Int) ^ M0 = P at *
    omega
  have HMM : Hid (M = 100001) := by show _ = _; omega
  clear hMM hM0
  have hSt : Hid (xs = [] ∨ (65536 : Int) ^ (xs.length - 1) ≤ S) := by
    by_cases e : xs = []
    · exact .inl e
    · exact .inr (by have := nrm_pow hx e; omega)
  have HSB := hide hSb
  have HY := hide hy
  have HS0 : Hid (val xs + 65536 ^ 0 * (0 + val (ys.drop 0)) = S) := by show _ = _; simp; exact hS
  have hylim := hy.1
  have hSpos : 0 ≤ S := by omega
  clear hSb hS hy h0 h0'
  go_enter Tryz.func170, Tryz.ntmps170
  go_wp2
  go_loopw [4, 5] (fun cc ii wr => ∃ (zs : List Int) (c i : Nat) (v : Value), cc = .int .i64 c ∧ ii = .int .i64 i ∧ c ≤ 1 ∧ i ≤ 100001 ∧ i ≤ zs.length ∧ Lim zs ∧ Hid (val zs + 65536 ^ i * (c + val (ys.drop i)) = S) ∧ Hid (zs = [] ∨ (65536 : Int) ^ (zs.length - 1) ≤ S) ∧ TwoS wb u0 w0 wr g1 g2 v (.slice a2 ys.length c2) zs ys) (fun _ ii _ => 100002 - (intOf ii).toNat)
  case atStart => exact ⟨xs, 0, 0, u1, rfl, rfl, by omega, by omega, by omega, hx.1, HS0, hSt, t0⟩
  case round =>
    clear t0 HS0 hSt
    obtain ⟨zs, c, i, v, rfl, rfl, hc1, hi1, hiz, hlim, hval, htop, t⟩ := hrel
    have hce2 := t.n2.cell
    by_cases hgo : i < ys.length ∨ 0 < c
    · have hD : 1 ≤ (c : Int) + val (ys.drop i) := by
        rcases hgo with h | h
        · have := drop_pos (unhide HY) i h; omega
        · have := val_nonneg ((unhide HY).1.drop i); omega
      have hSi : (65536 : Int) ^ i ≤ S := by
        have e1 := unhide hval
        have e2 := val_nonneg hlim
        have e3 : (65536 : Int) ^ i * 1 ≤ 65536 ^ i * (c + val (ys.drop i)) := Int.mul_le_mul_of_nonneg_left hD (Int.le_of_lt (Int.pow_pos (by decide)))
        omega
      have hi2 : i ≤ 100000 := by
        rcases Nat.lt_or_ge 100000 i with h | h
        · have := pow_mono (a := M) (b := i) (by have := unhide HMM; omega)
          have := unhide HSB
          omega
        · exact h
      have hzl : zs.length ≤ 100001 := by
        rcases unhide htop with e | e
        · rw [e]; simp
        · rcases Nat.lt_or_ge 100001 zs.length with h | h
          · have := pow_mono (a := M) (b := zs.length - 1) (by have := unhide HMM; omega)
            have := unhide HSB
            omega
          · exact h
      have HSI := hide hSi
      clear hSi hD
      by_cases hi : i < zs.length
      · have hne : ((i : Int) == (zs.length : Int)) = false := beq_eq_false_iff_ne.2 (by omega)
        have hiL := hi
        have hlimL := hlim
        have hvalL := hval
        have htopL := htop
        obtain ⟨gb, cap, rfl, hxz, hfz, hgb⟩ := t.n1.at i hiL
        have hce1 := t.n1.cell
        rcases hgo with hgo | hgo
        · have hgo' : (i : Int) < (ys.length : Int) := by omega
          go_wp2
          have hzr := hlimL.at i
          have hyr := hylim.at i
          have hyd := val_drop ys i
          have hput := add_put (zs) ys i hiL c S _ _ rfl hyd (unhide hvalL)
          have hsetl := fun z (h0 : 0 ≤ z) (h1 : z ≤ 65535) => hlimL.set i h0 h1
          have hatc := fun n => at_impl (wr.drewN n) (t.n2.kept ((Kept.refl 0 0 _).drewN n)) i (by omega)
          have HAT := hide hatc
          have tp := fun n z => (t.kept ((Kept.refl 0 0 _).drewN n)).put (j := i) rfl z
          have TP := hide tp
          have HSL := hide hsetl
          have hlen : (zs).length = zs.length := rfl
          try rw [hlen] at hce1
          have hlenset : ∀ z, ((zs).set i z).length = zs.length := fun z => by rw [List.length_set, hlen]
          have HLS := hide hlenset
          generalize hz : (zs).getD i 0 = z at *
          generalize hy2 : ys.getD i 0 = y at *
          have HP := hide hput
          have hs0 : 0 ≤ z + y + c ∧ z + y + c ≤ 131071 := by omega
          have em : (z + y + (c : Int)).tmod 65536 = (z + y + c) % 65536 := by rw [Int.tmod_eq_emod_of_nonneg (by omega)]
          have ed : (z + y + (c : Int)).tdiv 65536 = (z + y + c) / 65536 := by rw [Int.tdiv_eq_ediv_of_nonneg (by omega)]
          have hlt2 : (i : Int) < ((zs.length : Nat) : Int) := by omega
          obtain ⟨c', hc'⟩ : ∃ c' : Nat, (z + y + (c : Int)) / 65536 = c' := ⟨((z + y + (c : Int)) / 65536).toNat, by omega⟩
          clear hatc tp hput hyd hz hy2 t hlimL hvalL hsetl hlenset hlen
          go_quiet ((go_at_call 204; exact (unhide HAT _).mono (fun e w' h => ⟨h.1, _, h.2⟩)))
          go_wp2
          go_roundw
          case rel => exact ⟨(zs).set i ((z + y + c) % 65536), c', i + 1, _, rfl, by go_num, by omega, by omega, by rw [unhide HLS]; omega, unhide HSL _ (by omega) (by omega), by have := unhide HP; rw [hc'] at this; exact this, by rcases unhide htopL with e | e; exact .inl (by rw [e]; rfl); exact .inr (by rw [unhide HLS]; exact e), unhide TP _ _⟩
          case measure => simp [intOf]; omega
        · by_cases hgo2 : i < ys.length
          · have hgo' : (i : Int) < (ys.length : Int) := by omega
            go_wp2
            have hzr := hlimL.at i
            have hyr := hylim.at i
            have hyd := val_drop ys i
            have hput := add_put (zs) ys i hiL c S _ _ rfl hyd (unhide hvalL)
            have hsetl := fun z (h0 : 0 ≤ z) (h1 : z ≤ 65535) => hlimL.set i h0 h1
            have hatc := fun n => at_impl (wr.drewN n) (t.n2.kept ((Kept.refl 0 0 _).drewN n)) i (by omega)
            have HAT := hide hatc
            have tp := fun n z => (t.kept ((Kept.refl 0 0 _).drewN n)).put (j := i) rfl z
            have TP := hide tp
            have HSL := hide hsetl
            have hlen : (zs).length = zs.length := rfl
            try rw [hlen] at hce1
            have hlenset : ∀ z, ((zs).set i z).length = zs.length := fun z => by rw [List.length_set, hlen]
            have HLS := hide hlenset
            generalize hz : (zs).getD i 0 = z at *
            generalize hy2 : ys.getD i 0 = y at *
            have HP := hide hput
            have hs0 : 0 ≤ z + y + c ∧ z + y + c ≤ 131071 := by omega
            have em : (z + y + (c : Int)).tmod 65536 = (z + y + c) % 65536 := by rw [Int.tmod_eq_emod_of_nonneg (by omega)]
            have ed : (z + y + (c : Int)).tdiv 65536 = (z + y + c) / 65536 := by rw [Int.tdiv_eq_ediv_of_nonneg (by omega)]
            have hlt2 : (i : Int) < ((zs.length : Nat) : Int) := by omega
            obtain ⟨c', hc'⟩ : ∃ c' : Nat, (z + y + (c : Int)) / 65536 = c' := ⟨((z + y + (c : Int)) / 65536).toNat, by omega⟩
            clear hatc tp hput hyd hz hy2 t hlimL hvalL hsetl hlenset hlen
            go_quiet ((go_at_call 204; exact (unhide HAT _).mono (fun e w' h => ⟨h.1, _, h.2⟩)))
            go_wp2
            go_roundw
            case rel => exact ⟨(zs).set i ((z + y + c) % 65536), c', i + 1, _, rfl, by go_num, by omega, by omega, by rw [unhide HLS]; omega, unhide HSL _ (by omega) (by omega), by have := unhide HP; rw [hc'] at this; exact this, by rcases unhide htopL with e | e; exact .inl (by rw [e]; rfl); exact .inr (by rw [unhide HLS]; exact e), unhide TP _ _⟩
            case measure => simp [intOf]; omega
          · have hgo' : ¬ (i : Int) < (ys.length : Int) := by omega
            have hgo3 : (0 : Int) < (c : Int) := by omega
            go_wp2
            have hzr := hlimL.at i
            have hyr := hylim.at i
            have hyd := val_drop ys i
            have hput := add_put (zs) ys i hiL c S _ _ rfl hyd (unhide hvalL)
            have hsetl := fun z (h0 : 0 ≤ z) (h1 : z ≤ 65535) => hlimL.set i h0 h1
            have hatc := fun n => at_impl (wr.drewN n) (t.n2.kept ((Kept.refl 0 0 _).drewN n)) i (by omega)
            have HAT := hide hatc
            have tp := fun n z => (t.kept ((Kept.refl 0 0 _).drewN n)).put (j := i) rfl z
            have TP := hide tp
            have HSL := hide hsetl
            have hlen : (zs).length = zs.length := rfl
            try rw [hlen] at hce1
            have hlenset : ∀ z, ((zs).set i z).length = zs.length := fun z => by rw [List.length_set, hlen]
            have HLS := hide hlenset
            generalize hz : (zs).getD i 0 = z at *
            generalize hy2 : ys.getD i 0 = y at *
            have HP := hide hput
            have hs0 : 0 ≤ z + y + c ∧ z + y + c ≤ 131071 := by omega
            have em : (z + y + (c : Int)).tmod 65536 = (z + y + c) % 65536 := by rw [Int.tmod_eq_emod_of_nonneg (by omega)]
            have ed : (z + y + (c : Int)).tdiv 65536 = (z + y + c) / 65536 := by rw [Int.tdiv_eq_ediv_of_nonneg (by omega)]
            have hlt2 : (i : Int) < ((zs.length : Nat) : Int) := by omega
            obtain ⟨c', hc'⟩ : ∃ c' : Nat, (z + y + (c : Int)) / 65536 = c' := ⟨((z + y + (c : Int)) / 65536).toNat, by omega⟩
            clear hatc tp hput hyd hz hy2 t hlimL hvalL hsetl hlenset hlen
            go_quiet ((go_at_call 204; exact (unhide HAT _).mono (fun e w' h => ⟨h.1, _, h.2⟩)))
            go_wp2
            go_roundw
            case rel => exact ⟨(zs).set i ((z + y + c) % 65536), c', i + 1, _, rfl, by go_num, by omega, by omega, by rw [unhide HLS]; omega, unhide HSL _ (by omega) (by omega), by have := unhide HP; rw [hc'] at this; exact this, by rcases unhide htopL with e | e; exact .inl (by rw [e]; rfl); exact .inr (by rw [unhide HLS]; exact e), unhide TP _ _⟩
            case measure => simp [intOf]; omega
      · have hie : i = zs.length := by omega
        have hne : ((i : Int) == (zs.length : Int)) = true := by simp [hie]
        obtain ⟨a1, d1, rfl⟩ := t.n1.form
        have hce1 := t.n1.cell
        have hlo1 := t.n1.loose
        have hown' := own_kept t.n1.own ((Kept.refl 0 0 wr).alloc (.cells #[.int .i64 0] 3))
        have hl' : zs.length ≤ 1000000 := by omega
        have hbb : w0.heap.size ≤ (wr.alloc (.cells #[.int .i64 0] 3)).heap.size := by have := t.k.size; simp; omega
        have HBB := hide hbb
        have hcc : (wr.alloc (.cells #[.int .i64 0] 3)).cell? ⟨wr.heap.size, 0, none⟩ = some (.int .i64 0) := new_cell_at _ _ _ _ rfl
        have HE := hide hie
        clear hbb hie
        by_cases hgo2 : i < ys.length
        · have hgo' : (i : Int) < (ys.length : Int) := by omega
          go_wp2_with (at_builtin; refine wpList_snoc rfl _ _ rfl rfl _ rfl 0 hcc hown' hl' (unhide HBB) ?_)
          intro v' w' hown2 hgrow hat
          unfold OwnL at hown2
          replace hat := unhide hat
          obtain ⟨d1', d2', t2⟩ := t.snoc _ hgrow hat hown2
          have hie := unhide HE
          have hlenA : (zs ++ [(0 : Int)]).length = i + 1 := by simp [hie]
          have hiL : i < (zs ++ [(0 : Int)]).length := by omega
          have hlimL : Lim (zs ++ [(0 : Int)]) := hlim.snoc (by omega) (by omega)
          have hvalL : Hid (val (zs ++ [(0 : Int)]) + 65536 ^ i * (c + val (ys.drop i)) = S) := by have := unhide hval; show _ = _; rw [val_snoc]; simpa using this
          obtain ⟨gb, cap, hvv, hxz, hfz, hgb⟩ := t2.n1.at i hiL
          rw [hlenA] at hvv
          subst hvv
          have hce1' := t2.n1.cell
          have hce2' := t2.n2.cell
          have X1 := hide hce1'
          have X2 := hide hce2'
          have X3 := hide hxz
          have X4 := hide hfz
          generalize hwx : w'.setCell ⟨g1, 0, none⟩ (.slice (some ⟨gb, 0, none⟩) (i + 1) cap) = wx at *
          clear hown' hown2 hgrow hat hce1' hce2' hxz hfz hcc t hce1 hlo1 hlim hval hie hl' hce2
          go_wp2
          have hce1 := unhide X1
          have hce2 := unhide X2
          have hxz := unhide X3
          have hfz := unhide X4
          try rw [hwx]
          have hzr := hlimL.at i
          have hyr := hylim.at i
          have hyd := val_drop ys i
          have hput := add_put (zs ++ [(0 : Int)]) ys i hiL c S _ _ rfl hyd (unhide hvalL)
          have hsetl := fun z (h0 : 0 ≤ z) (h1 : z ≤ 65535) => hlimL.set i h0 h1
          have hatc := fun n => at_impl (wx.drewN n) (t2.n2.kept ((Kept.refl 0 0 _).drewN n)) i (by omega)
          have HAT := hide hatc
          have tp := fun n z => (t2.kept ((Kept.refl 0 0 _).drewN n)).put (j := i) hlenA z
          have TP := hide tp
          have HSL := hide hsetl
          have hlen : (zs ++ [(0 : Int)]).length = (i + 1) := hlenA
          try rw [hlen] at hce1
          have hlenset : ∀ z, ((zs ++ [(0 : Int)]).set i z).length = (i + 1) := fun z => by rw [List.length_set, hlen]
          have HLS := hide hlenset
          generalize hz : (zs ++ [(0 : Int)]).getD i 0 = z at *
          generalize hy2 : ys.getD i 0 = y at *
          have HP := hide hput
          have hs0 : 0 ≤ z + y + c ∧ z + y + c ≤ 131071 := by omega
          have em : (z + y + (c : Int)).tmod 65536 = (z + y + c) % 65536 := by rw [Int.tmod_eq_emod_of_nonneg (by omega)]
          have ed : (z + y + (c : Int)).tdiv 65536 = (z + y + c) / 65536 := by rw [Int.tdiv_eq_ediv_of_nonneg (by omega)]
          have hlt2 : (i : Int) < (((i + 1) : Nat) : Int) := by omega
          obtain ⟨c', hc'⟩ : ∃ c' : Nat, (z + y + (c : Int)) / 65536 = c' := ⟨((z + y + (c : Int)) / 65536).toNat, by omega⟩
          clear hatc tp hput hyd hz hy2 t2 hlimL hvalL hsetl hlenset hlen
          go_quiet ((go_at_call 204; exact (unhide HAT _).mono (fun e w' h => ⟨h.1, _, h.2⟩)))
          go_wp2
          go_roundw
          case rel => exact ⟨(zs ++ [(0 : Int)]).set i ((z + y + c) % 65536), c', i + 1, _, rfl, by go_num, by omega, by omega, by rw [unhide HLS]; omega, unhide HSL _ (by omega) (by omega), by have := unhide HP; rw [hc'] at this; exact this, by refine .inr ?_; rw [unhide HLS]; exact unhide HSI, unhide TP _ _⟩
          case measure => simp [intOf]; omega
        · have hgo' : ¬ (i : Int) < (ys.length : Int) := by omega
          have hgo3 : (0 : Int) < (c : Int) := by omega
          go_wp2_with (at_builtin; refine wpList_snoc rfl _ _ rfl rfl _ rfl 0 hcc hown' hl' (unhide HBB) ?_)
          intro v' w' hown2 hgrow hat
          unfold OwnL at hown2
          replace hat := unhide hat
          obtain ⟨d1', d2', t2⟩ := t.snoc _ hgrow hat hown2
          have hie := unhide HE
          have hlenA : (zs ++ [(0 : Int)]).length = i + 1 := by simp [hie]
          have hiL : i < (zs ++ [(0 : Int)]).length := by omega
          have hlimL : Lim (zs ++ [(0 : Int)]) := hlim.snoc (by omega) (by omega)
          have hvalL : Hid (val (zs ++ [(0 : Int)]) + 65536 ^ i * (c + val (ys.drop i)) = S) := by have := unhide hval; show _ = _; rw [val_snoc]; simpa using this
          obtain ⟨gb, cap, hvv, hxz, hfz, hgb⟩ := t2.n1.at i hiL
          rw [hlenA] at hvv
          subst hvv
          have hce1' := t2.n1.cell
          have hce2' := t2.n2.cell
          have X1 := hide hce1'
          have X2 := hide hce2'
          have X3 := hide hxz
          have X4 := hide hfz
          generalize hwx : w'.setCell ⟨g1, 0, none⟩ (.slice (some ⟨gb, 0, none⟩) (i + 1) cap) = wx at *
          clear hown' hown2 hgrow hat hce1' hce2' hxz hfz hcc t hce1 hlo1 hlim hval hie hl' hce2
          go_wp2
          have hce1 := unhide X1
          have hce2 := unhide X2
          have hxz := unhide X3
          have hfz := unhide X4
          try rw [hwx]
          have hzr := hlimL.at i
          have hyr := hylim.at i
          have hyd := val_drop ys i
          have hput := add_put (zs ++ [(0 : Int)]) ys i hiL c S _ _ rfl hyd (unhide hvalL)
          have hsetl := fun z (h0 : 0 ≤ z) (h1 : z ≤ 65535) => hlimL.set i h0 h1
          have hatc := fun n => at_impl (wx.drewN n) (t2.n2.kept ((Kept.refl 0 0 _).drewN n)) i (by omega)
          have HAT := hide hatc
          have tp := fun n z => (t2.kept ((Kept.refl 0 0 _).drewN n)).put (j := i) hlenA z
          have TP := hide tp
          have HSL := hide hsetl
          have hlen : (zs ++ [(0 : Int)]).length = (i + 1) := hlenA
          try rw [hlen] at hce1
          have hlenset : ∀ z, ((zs ++ [(0 : Int)]).set i z).length = (i + 1) := fun z => by rw [List.length_set, hlen]
          have HLS := hide hlenset
          generalize hz : (zs ++ [(0 : Int)]).getD i 0 = z at *
          generalize hy2 : ys.getD i 0 = y at *
          have HP := hide hput
          have hs0 : 0 ≤ z + y + c ∧ z + y + c ≤ 131071 := by omega
          have em : (z + y + (c : Int)).tmod 65536 = (z + y + c) % 65536 := by rw [Int.tmod_eq_emod_of_nonneg (by omega)]
          have ed : (z + y + (c : Int)).tdiv 65536 = (z + y + c) / 65536 := by rw [Int.tdiv_eq_ediv_of_nonneg (by omega)]
          have hlt2 : (i : Int) < (((i + 1) : Nat) : Int) := by omega
          obtain ⟨c', hc'⟩ : ∃ c' : Nat, (z + y + (c : Int)) / 65536 = c' := ⟨((z + y + (c : Int)) / 65536).toNat, by omega⟩
          clear hatc tp hput hyd hz hy2 t2 hlimL hvalL hsetl hlenset hlen
          go_quiet ((go_at_call 204; exact (unhide HAT _).mono (fun e w' h => ⟨h.1, _, h.2⟩)))
          go_wp2
          go_roundw
          case rel => exact ⟨(zs ++ [(0 : Int)]).set i ((z + y + c) % 65536), c', i + 1, _, rfl, by go_num, by omega, by omega, by rw [unhide HLS]; omega, unhide HSL _ (by omega) (by omega), by have := unhide HP; rw [hc'] at this; exact this, by refine .inr ?_; rw [unhide HLS]; exact unhide HSI, unhide TP _ _⟩
          case measure => simp [intOf]; omega
    · have hgo1 : ¬ (i : Int) < (ys.length : Int) := by omega
      have hc0 : c = 0 := by omega
      subst hc0
      have e1 := unhide hval
      rw [List.drop_of_length_le (by omega)] at e1
      simp [val] at e1
      have e2 := limbs_of_le hlim (by have := unhide htop; rw [e1]; exact this)
      rw [e1] at e2
      rw [e2] at t
      have T1 := hide t
      clear t e2 e1 hval htop hlim
      go_wp2
      exact bodyPost_end (v := .tuple #[]) (by simp [results, Tryz.results170, go_sem]) rfl ⟨⟨_, rfl⟩, _, _, unhide T1⟩

set_option maxHeartbeats 4000000 in
theorem subtract_twoS {wb w0 w : World} {u0 : Value} {g1 g2 : Nat} {xs ys : List Int} (h : ∃ u1 u2, TwoS wb u0 w0 w g1 g2 u1 u2 xs ys) (hx : Nrm xs) (hy : Nrm ys) (hl1 : xs.length ≤ 100000) (hle : val ys ≤ val xs) :
    Calls Tryz.prog 220 #[.pointer (some ⟨g1, 0, none⟩), .pointer (some ⟨g2, 0, none⟩)] w fun e w' => (∃ r, e = .returned r) ∧ ∃ u1 u2, TwoS wb u0 w0 w' g1 g2 u1 u2 (limbs (val xs - val ys).toNat) ys := by
  obtain ⟨u1, u2, t0⟩ := h
  obtain ⟨a2, c2, rfl⟩ := t0.n2.form
  generalize hD : val xs - val ys = D
  have HD0 : Hid (0 ≤ D) := by show _ ≤ _; omega
  have HY := hide hy
  have HS0 : Hid (val xs - 65536 ^ 0 * (0 + val (ys.drop 0)) = D) := by show _ = _; simp; exact hD
  have hylim := hy.1
  have hM := t0.n2.row.len
  unfold maxLen at hM
  clear hD hy hle
  go_enter Tryz.func220, Tryz.ntmps220
  go_wp2
  go_loopw [4, 5] (fun cc ii wr => ∃ (zs : List Int) (c i : Nat) (v : Value), cc = .int .i64 c ∧ ii = .int .i64 i ∧ c ≤ 1 ∧ i ≤ zs.length ∧ zs.length = xs.length ∧ Lim zs ∧ Hid (val zs - 65536 ^ i * (c + val (ys.drop i)) = D) ∧ TwoS wb u0 w0 wr g1 g2 v (.slice a2 ys.length c2) zs ys) (fun _ ii _ => xs.length + 1 - (intOf ii).toNat)
  case atStart => exact ⟨xs, 0, 0, u1, rfl, rfl, by omega, by omega, rfl, hx.1, HS0, t0⟩
  case round =>
    clear t0 HS0
    obtain ⟨zs, c, i, v, rfl, rfl, hc1, hiz, hzx, hlim, hval, t⟩ := hrel
    have hce2 := t.n2.cell
    by_cases hgo : i < ys.length ∨ 0 < c
    · have hi : i < zs.length := by
        have hD : 1 ≤ (c : Int) + val (ys.drop i) := by
          rcases hgo with h | h
          · have := drop_pos (unhide HY) i h; omega
          · have := val_nonneg ((unhide HY).1.drop i); omega
        have e1 := unhide hval
        have e2 := val_lt hlim
        have e3 : (65536 : Int) ^ i * 1 ≤ 65536 ^ i * (c + val (ys.drop i)) := Int.mul_le_mul_of_nonneg_left hD (Int.le_of_lt (Int.pow_pos (by decide)))
        have e4 := unhide HD0
        rcases Nat.lt_or_ge i zs.length with h | h
        · exact h
        · have := pow_mono (a := zs.length) (b := i) h
          omega
      have HZX := hide hzx
      have hzl : zs.length ≤ 100000 := by omega
      clear hzx
      obtain ⟨gb, cap, rfl, hxz, hfz, hgb⟩ := t.n1.at i hi
      have hce1 := t.n1.cell
      by_cases hgo2 : i < ys.length
      · have hgo' : (i : Int) < (ys.length : Int) := by omega
        go_wp2
        have hzr := hlim.at i
        have hyr := hylim.at i
        have hyd := val_drop ys i
        have hput := fun (c' l : Int) (h : l = zs.getD i 0 - ys.getD i 0 - c + 65536 * c') => sub_put zs ys i hi c c' l D _ hyd h (unhide hval)
        have hsetl := fun z (h0 : 0 ≤ z) (h1 : z ≤ 65535) => hlim.set i h0 h1
        have hatc := fun n => at_impl (wr.drewN n) (t.n2.kept ((Kept.refl 0 0 _).drewN n)) i (by omega)
        have HAT := hide hatc
        have tp := fun n z => (t.kept ((Kept.refl 0 0 _).drewN n)).put (j := i) rfl z
        have TP := hide tp
        have HSL := hide hsetl
        have hlenset : ∀ z, (zs.set i z).length = zs.length := fun z => by rw [List.length_set]
        have HLS := hide hlenset
        generalize hz : zs.getD i 0 = z at *
        generalize hy2 : ys.getD i 0 = y at *
        have HP := hide hput
        have hlt2 : (i : Int) < ((zs.length : Nat) : Int) := by omega
        clear hatc tp hput hyd hz hy2 t hlim hval hsetl hlenset
        by_cases hneg : z - y - (c : Int) < 0
        · go_quiet ((go_at_call 204; exact (unhide HAT _).mono (fun e w' h => ⟨h.1, _, h.2⟩)))
          go_wp2
          go_roundw
          case rel => exact ⟨zs.set i (z - y - c + 65536), 1, i + 1, _, rfl, by go_num, by omega, by rw [unhide HLS]; omega, by rw [unhide HLS]; exact unhide HZX, unhide HSL _ (by omega) (by omega), unhide HP 1 _ (by omega), unhide TP _ _⟩
          case measure => have := unhide HZX; simp [intOf]; omega
        · go_quiet ((go_at_call 204; exact (unhide HAT _).mono (fun e w' h => ⟨h.1, _, h.2⟩)))
          go_wp2
          go_roundw
          case rel => exact ⟨zs.set i (z - y - c), 0, i + 1, _, rfl, by go_num, by omega, by rw [unhide HLS]; omega, by rw [unhide HLS]; exact unhide HZX, unhide HSL _ (by omega) (by omega), unhide HP 0 _ (by omega), unhide TP _ _⟩
          case measure => have := unhide HZX; simp [intOf]; omega
      · have hgo' : ¬ (i : Int) < (ys.length : Int) := by omega
        have hgo3 : (0 : Int) < (c : Int) := by omega
        go_wp2
        have hzr := hlim.at i
        have hyr := hylim.at i
        have hyd := val_drop ys i
        have hput := fun (c' l : Int) (h : l = zs.getD i 0 - ys.getD i 0 - c + 65536 * c') => sub_put zs ys i hi c c' l D _ hyd h (unhide hval)
        have hsetl := fun z (h0 : 0 ≤ z) (h1 : z ≤ 65535) => hlim.set i h0 h1
        have hatc := fun n => at_impl (wr.drewN n) (t.n2.kept ((Kept.refl 0 0 _).drewN n)) i (by omega)
        have HAT := hide hatc
        have tp := fun n z => (t.kept ((Kept.refl 0 0 _).drewN n)).put (j := i) rfl z
        have TP := hide tp
        have HSL := hide hsetl
        have hlenset : ∀ z, (zs.set i z).length = zs.length := fun z => by rw [List.length_set]
        have HLS := hide hlenset
        generalize hz : zs.getD i 0 = z at *
        generalize hy2 : ys.getD i 0 = y at *
        have HP := hide hput
        have hlt2 : (i : Int) < ((zs.length : Nat) : Int) := by omega
        clear hatc tp hput hyd hz hy2 t hlim hval hsetl hlenset
        by_cases hneg : z - y - (c : Int) < 0
        · go_quiet ((go_at_call 204; exact (unhide HAT _).mono (fun e w' h => ⟨h.1, _, h.2⟩)))
          go_wp2
          go_roundw
          case rel => exact ⟨zs.set i (z - y - c + 65536), 1, i + 1, _, rfl, by go_num, by omega, by rw [unhide HLS]; omega, by rw [unhide HLS]; exact unhide HZX, unhide HSL _ (by omega) (by omega), unhide HP 1 _ (by omega), unhide TP _ _⟩
          case measure => have := unhide HZX; simp [intOf]; omega
        · go_quiet ((go_at_call 204; exact (unhide HAT _).mono (fun e w' h => ⟨h.1, _, h.2⟩)))
          go_wp2
          go_roundw
          case rel => exact ⟨zs.set i (z - y - c), 0, i + 1, _, rfl, by go_num, by omega, by rw [unhide HLS]; omega, by rw [unhide HLS]; exact unhide HZX, unhide HSL _ (by omega) (by omega), unhide HP 0 _ (by omega), unhide TP _ _⟩
          case measure => have := unhide HZX; simp [intOf]; omega
    · have hgo1 : ¬ (i : Int) < (ys.length : Int) := by omega
      have hc0 : c = 0 := by omega
      subst hc0
      have e1 := unhide hval
      rw [List.drop_of_length_le (by omega)] at e1
      simp [val] at e1
      have n1 := t.n1
      obtain ⟨a1, d1, rfl⟩ := n1.form
      have TT := hide t
      have HE := hide e1
      clear t hval e1
      go_wp2_with fail
      refine (trim_side _ n1 hlim).mono ?_
      rintro e w6 ⟨⟨r6, rfl⟩, u6, n6, ho6, m6, s6⟩
      have T6 := hide ((unhide TT).mod1 n6 ho6 m6 s6)
      rw [unhide HE] at T6
      clear n1 n6 ho6 m6 s6 TT
      go_wp2
      exact bodyPost_end (v := .tuple #[]) (by simp [results, Tryz.results220, go_sem]) rfl ⟨⟨_, rfl⟩, _, _, unhide T6⟩

end Go.Proofs.YthahoabkehcgbaaGreatDoor

namespace Go.Proofs.YthahoabkehcgbaaGreatDoor
open Go.RowKit
set_option linter.unusedVariables false
set_option maxRecDepth 8000

set_option maxHeartbeats 1000000 in
theorem isZero_impl {b g : Nat} {v : Value} {zs : List Int} (w : World) (h : Num b w g v zs) :
    Calls Tryz.prog 185 #[.pointer (some ⟨g, 0, none⟩)] w fun e w' => e = .returned (.bool (decide (zs.length = 0))) ∧ w' = w := by
  have hc := h.cell
  obtain ⟨a1, c1, rfl⟩ := h.form
  clear h
  go_enter Tryz.func185, Tryz.ntmps185
  go_wp2
  go_ret
  refine ⟨?_, rfl⟩
  cases zs with
  | nil => simp
  | cons z t => simp; omega

set_option maxHeartbeats 1000000 in
theorem shiftUp_zero {b g : Nat} {v : Value} (w : World) (h : Num b w g v []) (k : Int) :
    Calls Tryz.prog 205 #[.pointer (some ⟨g, 0, none⟩), .int .i64 k] w fun e w' => (∃ r, e = .returned r) ∧ w' = w := by
  have hz := isZero_impl w h
  have e : (decide (([] : List Int).length = 0)) = true := rfl
  rw [e] at hz
  have HZ := hide hz
  clear hz h e
  go_enter Tryz.func205, Tryz.ntmps205
  go_wp2_with (go_at_call 185; refine (unhide HZ).mono ?_; rintro e w' ⟨rfl, rfl⟩)
  exact bodyPost_ret (v := .tuple #[]) (by simp [results, Tryz.results205, go_sem]) rfl ⟨⟨_, rfl⟩, rfl⟩

end Go.Proofs.YthahoabkehcgbaaGreatDoor

namespace Go.Proofs.YthahoabkehcgbaaGreatDoor
open Go.RowKit
set_option linter.unusedVariables false
set_option maxRecDepth 8000
set_option linter.unusedSimpArgs false

/-- The second cell of block g tells the sign s, and may be written. -/
def Sd (w : World) (g : Nat) (s : Bool) : Prop := w.cell? ⟨g, 1, none⟩ = some (.bool s) ∧ w.frozen? ⟨g, 1, none⟩ = false
theorem Sd.same {w w' : World} {g : Nat} {s : Bool} (h : Sd w g s) (k : SameSide g w w') : Sd w' g s := ⟨(k 1 (Nat.le_refl 1)).1.trans h.1, (k 1 (Nat.le_refl 1)).2.trans h.2⟩
theorem Sd.lt {w : World} {g : Nat} {s : Bool} (h : Sd w g s) : g < w.heap.size := World.block_lt_of_cell? _ ⟨g, 1, none⟩ h.1
theorem Sd.kept {w w' : World} {g : Nat} {s : Bool} (h : Sd w g s) (k : Kept 0 0 w w') : Sd w' g s := h.same (k.side h.lt)

set_option maxHeartbeats 1000000 in
theorem wok_impl {bw : Bool} {lo hi : Nat} {v : Value} {zs : List Int} (b : Bool) (w : World) (r : Row .i64 bw lo hi w v zs) :
    Calls Tryz.prog 127 #[.agg #[.bool b, v]] w fun e w' => e = .returned (.bool (wokB b zs)) ∧ Kept 0 0 w w' := by
  have k0 := (Kept.refl 0 0 w).alloc (.cells #[.bool b, v] 50)
  have q := r.kept k0 (by omega)
  have c0 : (w.alloc (.cells #[.bool b, v] 50)).cell? ⟨w.heap.size, 0, none⟩ = some (.bool b) := new_cell2 _ _ _ _ _ _ rfl rfl
  have c1 : (w.alloc (.cells #[.bool b, v] 50)).cell? ⟨w.heap.size, 1, none⟩ = some v := new_cell2 _ _ _ _ _ _ rfl rfl
  obtain ⟨a, c, rfl⟩ := Row.form' r
  clear r
  go_enter Tryz.func127, Tryz.ntmps127
  go_wp2_with fail
  generalize w.alloc (.cells #[.bool b, .slice a zs.length c] 50) = W at *
  refine (ok_impl _ q).mono ?_
  rintro e w1 ⟨rfl, k1⟩
  replace c0 := k1.cell0 c0
  replace c1 := k1.cell0 c1
  have K := hide (k0.trans k1)
  clear k0 k1 q
  cases hok : okB zs
  · have HK := hide (wokB_bad (b := b) hok)
    clear hok
    go_wp2
    go_ret
    exact ⟨by rw [unhide HK]; rfl, unhide K⟩
  · have HK : Hid (wokB b zs = (!b || decide (0 < (zs.length : Int)))) := by show _ = _; unfold wokB; rw [hok]; rfl
    clear hok
    cases b
    · go_wp2
      go_ret
      exact ⟨by rw [unhide HK]; rfl, unhide K⟩
    · go_wp2
      go_ret
      exact ⟨by rw [unhide HK]; simp, unhide K⟩

theorem in_limbsOf : ∀ (w : World) (args : Array Value), (callFunc 213 args).run Tryz.prog w = .ok (.enter 213 args) w := enters Tryz.func213 (by decide) (fun h => by cases h)

set_option maxHeartbeats 1000000 in
theorem signedOf_impl {bw : Bool} {lo hi : Nat} {v : Value} {zs : List Int} (b : Bool) (w : World) (r : Row .i64 bw lo hi w v zs) (hl : zs.length ≤ 1000000) :
    Calls Tryz.prog 183 #[.agg #[.bool b, v]] w fun e w' => ∃ v', e = .returned (.agg #[v', .bool b]) ∧ w'.ownsRow w.heap.size 3 1 v' zs.length (zs.map (Value.int .i64)) ∧ Kept 0 0 w w' := by
  have k0 : Kept 0 0 w ((w.alloc (.cells #[.bool b, v] 50)).alloc (.cells #[.slice none 0 0, .bool false] 147)) := (((Kept.refl 0 0 w).alloc (.cells #[.bool b, v] 50)).alloc (.cells #[.slice none 0 0, .bool false] 147))
  have p0 : ((w.alloc (.cells #[.bool b, v] 50)).alloc (.cells #[.slice none 0 0, .bool false] 147)).cell? ⟨w.heap.size, 0, none⟩ = some (.bool b) := old_cell _ (new_cell2 _ _ _ _ _ _ (by simp) rfl)
  have p1 : ((w.alloc (.cells #[.bool b, v] 50)).alloc (.cells #[.slice none 0 0, .bool false] 147)).cell? ⟨w.heap.size, 1, none⟩ = some (v) := old_cell _ (new_cell2 _ _ _ _ _ _ (by simp) rfl)
  have q0 : ((w.alloc (.cells #[.bool b, v] 50)).alloc (.cells #[.slice none 0 0, .bool false] 147)).cell? ⟨w.heap.size + 1, 0, none⟩ = some (.slice none 0 0) := new_cell2 _ _ _ _ _ _ (by simp) rfl
  have qf0 : ((w.alloc (.cells #[.bool b, v] 50)).alloc (.cells #[.slice none 0 0, .bool false] 147)).frozen? ⟨w.heap.size + 1, 0, none⟩ = false := new_loose2 _ _ _ _ _ (by simp)
  have q1 : ((w.alloc (.cells #[.bool b, v] 50)).alloc (.cells #[.slice none 0 0, .bool false] 147)).cell? ⟨w.heap.size + 1, 1, none⟩ = some (.bool false) := new_cell2 _ _ _ _ _ _ (by simp) rfl
  have qf1 : ((w.alloc (.cells #[.bool b, v] 50)).alloc (.cells #[.slice none 0 0, .bool false] 147)).frozen? ⟨w.heap.size + 1, 1, none⟩ = false := new_loose2 _ _ _ _ _ (by simp)
  replace r := r.kept k0 (by omega)
  have s0 : ((w.alloc (.cells #[.bool b, v] 50)).alloc (.cells #[.slice none 0 0, .bool false] 147)).heap.size = w.heap.size + 2 := by simp
  obtain ⟨a, c, hv⟩ := Row.form' r
  subst hv
  have K := hide (k0)
  clear k0
  have S0 := hide s0
  clear s0
  go_enter Tryz.func183, Tryz.ntmps183
  go_wp2_with fail
  generalize ((w.alloc (.cells #[.bool b, .slice a zs.length c] 50)).alloc (.cells #[.slice none 0 0, .bool false] 147)) = W at *
  have kd := (Kept.refl 0 0 W).drew
  replace r := r.kept kd (by omega)
  replace qf0 := kd.loose0 (World.block_lt_of_cell? _ _ q0) qf0
  replace qf1 := kd.loose0 (World.block_lt_of_cell? _ _ q1) qf1
  replace p0 := kd.cell0 p0
  replace p1 := kd.cell0 p1
  replace q0 := kd.cell0 q0
  replace q1 := kd.cell0 q1
  replace K := hide ((unhide K).trans kd)
  have z1 := kd.size
  clear kd
  refine wp_region_held_drew (S := (fun w' => w'.cell? ⟨w.heap.size, 0, none⟩ = some (.bool b) ∧ w'.cell? ⟨w.heap.size, 1, none⟩ = some (.slice a zs.length c))) (by kernel_rfl) ?_ (fun hHeld => ?_)
  · exact ⟨p0, p1⟩
  refine wpAnyH_take (i := 0) (oi := _) (v := .pointer (some ⟨w.heap.size, 1, none⟩)) rfl (by kernel_rfl) (by kernel_rfl) (by kernel_rfl) (fun _ _ _ h => h) (Or.inl ⟨by rfl, ?_⟩) hHeld ?_
  · intro wq hSw
    try dsimp only at hSw
    go_simp
  try simp only [Act.put, List.getElem_toArray, List.getElem_cons_succ, List.getElem_cons_zero, List.setIfInBounds_toArray, List.set_cons_zero, List.set_cons_succ]
  refine wpAnyH_take (i := 1) (oi := _) (v := .agg #[.slice a zs.length c]) rfl (by kernel_rfl) (by kernel_rfl) (by kernel_rfl) (fun _ _ _ h => h) (Or.inl ⟨by rfl, ?_⟩) hHeld ?_
  · intro wq hSw
    try dsimp only at hSw
    go_simp
  try simp only [Act.put, List.getElem_toArray, List.getElem_cons_succ, List.getElem_cons_zero, List.setIfInBounds_toArray, List.set_cons_zero, List.set_cons_succ]
  refine wpAnyH_take (i := 3) (oi := _) (v := .pointer (some ⟨w.heap.size, 0, none⟩)) rfl (by kernel_rfl) (by kernel_rfl) (by kernel_rfl) (fun _ _ _ h => h) (Or.inl ⟨by rfl, ?_⟩) hHeld ?_
  · intro wq hSw
    try dsimp only at hSw
    go_simp
  try simp only [Act.put, List.getElem_toArray, List.getElem_cons_succ, List.getElem_cons_zero, List.setIfInBounds_toArray, List.set_cons_zero, List.set_cons_succ]
  refine wpAnyH_take (i := 4) (oi := _) (v := .bool b) rfl (by kernel_rfl) (by kernel_rfl) (by kernel_rfl) (fun _ _ _ h => h) (Or.inl ⟨by rfl, ?_⟩) hHeld ?_
  · intro wq hSw
    try dsimp only at hSw
    go_simp
  try simp only [Act.put, List.getElem_toArray, List.getElem_cons_succ, List.getElem_cons_zero, List.setIfInBounds_toArray, List.set_cons_zero, List.set_cons_succ]
  refine wpAnyH_ready (rs := [2]) (by kernel_rfl) (by simp) ?_
  refine AllReadyH.cons rfl (fun KK hK => ?_) AllReadyH.nil
  simp only [List.getElem_toArray, List.getElem_cons_succ, List.getElem_cons_zero]
  rw [if_pos (by rfl)]
  refine wps1 213 (.tmp 4) _ rfl in_limbsOf (.agg #[.slice a zs.length c]) rfl (limbsOf_impl _ r hl) ?_
  rintro e w2 ⟨v3, rfl, o3, k2⟩
  refine ⟨_, rfl, ?_⟩
  replace r := r.kept k2 (by omega)
  replace qf0 := k2.loose0 (World.block_lt_of_cell? _ _ q0) qf0
  replace qf1 := k2.loose0 (World.block_lt_of_cell? _ _ q1) qf1
  replace p0 := k2.cell0 p0
  replace p1 := k2.cell0 p1
  replace q0 := k2.cell0 q0
  replace q1 := k2.cell0 q1
  replace K := hide ((unhide K).trans k2)
  have z3 := k2.size
  clear k2
  clear hHeld
  refine hK.out _ _ ?_ (fun hHeld => ?_)
  · exact ⟨p0, p1⟩
  clear hK KK
  try simp only [Act.put, List.getElem_toArray, List.getElem_cons_succ, List.getElem_cons_zero, List.setIfInBounds_toArray, List.set_cons_zero, List.set_cons_succ]
  obtain ⟨a3, c3, hv⟩ := own_slice o3
  subst hv
  refine wpAnyH_take (i := 5) (oi := _) (v := .agg #[.slice a3 zs.length c3, .bool b]) rfl (by kernel_rfl) (by kernel_rfl) (by kernel_rfl) (fun _ _ _ h => h) (Or.inl ⟨by rfl, ?_⟩) hHeld ?_
  · intro wq hSw
    try dsimp only at hSw
    go_simp
  try simp only [Act.put, List.getElem_toArray, List.getElem_cons_succ, List.getElem_cons_zero, List.setIfInBounds_toArray, List.set_cons_zero, List.set_cons_succ]
  refine wpAnyH_ready (rs := [6]) (by kernel_rfl) (by simp) ?_
  refine AllReadyH.cons rfl (fun KK hK => ?_) AllReadyH.nil
  simp only [List.getElem_toArray, List.getElem_cons_succ, List.getElem_cons_zero]
  rw [if_pos (by rfl)]
  go_simp
  clear hHeld
  refine hK.out _ _ ?_ (fun hHeld => ?_)
  · exact ⟨(cell_aside _ (by have := unhide S0; dsimp only; omega) (cell_aside _ (by have := unhide S0; dsimp only; omega) p0)), (cell_aside _ (by have := unhide S0; dsimp only; omega) (cell_aside _ (by have := unhide S0; dsimp only; omega) p1))⟩
  clear hK KK
  try simp only [Act.put, List.getElem_toArray, List.getElem_cons_succ, List.getElem_cons_zero, List.setIfInBounds_toArray, List.set_cons_zero, List.set_cons_succ]
  refine wpAnyH_done (by kernel_rfl) ?_ _
  clear hHeld
  have o3l := o3.lt
  have o3l := o3.lt
  have O := hide (own_less (own_apart (own_apart o3 (p := ⟨w.heap.size + 1, 0, none⟩) (fun e => by have := (o3l _ e).1; have := unhide S0; dsimp only at *; omega) (.slice a3 zs.length c3)) (p := ⟨w.heap.size + 1, 1, none⟩) (fun e => by have := (o3l _ e).1; have := unhide S0; dsimp only at *; omega) (.bool b)) (base' := w.heap.size) (by have := unhide S0; omega))
  have K7 := hide (((unhide K).setNew (p := ⟨w.heap.size + 1, 0, none⟩) (by simp) (.slice a3 zs.length c3)).setNew (p := ⟨w.heap.size + 1, 1, none⟩) (by simp) (.bool b))
  clear o3 o3l r K
  go_wp2_with fail
  exact bodyPost_ret (v := .agg #[.slice a3 zs.length c3, .bool b]) (by simp [results, Tryz.results183, go_sem, q0, q1]) rfl ⟨_, rfl, unhide O, unhide K7⟩

set_option maxHeartbeats 1000000 in
theorem isBelow_impl {b g : Nat} {v : Value} {zs : List Int} {s : Bool} (w : World) (h : Num b w g v zs) (d : Sd w g s) :
    Calls Tryz.prog 189 #[.pointer (some ⟨g, 0, none⟩)] w fun e w' => e = .returned (.bool (s && decide (0 < zs.length))) ∧ w' = w := by
  have hc := h.cell
  have hd := d.1
  have hz := isZero_impl w h
  obtain ⟨a1, c1, rfl⟩ := h.form
  have HZ := hide hz
  clear hz h d
  cases s
  · go_enter Tryz.func189, Tryz.ntmps189
    go_wp2
    go_ret
    exact ⟨rfl, rfl⟩
  · go_enter Tryz.func189, Tryz.ntmps189
    go_wp2_with (go_at_call 185; refine (unhide HZ).mono ?_; rintro e w' ⟨rfl, rfl⟩)
    go_ret
    refine ⟨?_, rfl⟩
    cases zs <;> simp

theorem in_isBelow : ∀ (w : World) (args : Array Value), (callFunc 189 args).run Tryz.prog w = .ok (.enter 189 args) w := enters Tryz.func189 (by decide) (fun h => by cases h)

end Go.Proofs.YthahoabkehcgbaaGreatDoor

