/-
  Contracts that the proofs of this seat share: Nat11, ShrNum, INat19, INat20.
-/
import Derived.Test.YthahoabkehcgbaaDoorBE
import Derived.Test.YthahoabkehcgbaaDoorBF
import Derived.RegionTactic
import Derived.Deep.RegionLaw
namespace Go.Proofs.YthahoabkehcgbaaDoor
open Go.RowKit
set_option linter.unusedVariables false
set_option maxRecDepth 8000

theorem Row.drop {k : IntKind} {bw : Bool} {lo hi : Nat} {w : World} {g off n c : Nat} {zs : List Int} (r : Row k bw lo hi w (.slice (some ⟨g, off, none⟩) n c) zs) (q : Nat) (hq : q < n) :
    Row k bw lo hi w (.slice (some ⟨g, off + q, none⟩) (n - q) (c - q)) (zs.drop q) := by
  obtain ⟨a, c', e, q1, q2, q3⟩ := r
  simp only [Value.slice.injEq] at e
  obtain ⟨rfl, rfl, rfl⟩ := e
  obtain ⟨g', o', e', h1, h2, h3, h4, h5⟩ := q3 (by intro e; simp [e] at hq)
  cases e'
  refine ⟨some ⟨g, off + q, none⟩, c - q, by simp, by simp; omega, by omega, fun _ => ⟨g, off + q, rfl, h1, h2, h3, fun i hi => ?_, fun hb i hi => ?_⟩⟩
  · simp at hi
    have := h4 (q + i) (by omega)
    rw [Nat.add_assoc, this]; simp [List.getD]
  · simp at hi
    have := h5 hb (q + i) (by omega)
    rw [Nat.add_assoc, this]
theorem shr_val {xs : List Int} (h : Lim xs) (q s : Nat) (hq : q ≤ xs.length) : (val (xs.drop q) / ((2 ^ s : Nat) : Int)).toNat = (val xs).toNat / 2 ^ (16 * q + s) := by
  have e := val_take_drop xs q hq
  have h1 := val_lt (h.take q)
  have h2 := val_nonneg (h.take q)
  have h3 := val_nonneg (h.drop q)
  rw [List.length_take, Nat.min_eq_left hq] at h1
  obtain ⟨u, eu⟩ : ∃ u : Nat, val (xs.take q) = u := ⟨(val (xs.take q)).toNat, by omega⟩
  obtain ⟨r, er⟩ : ∃ r : Nat, val (xs.drop q) = r := ⟨(val (xs.drop q)).toNat, by omega⟩
  rw [eu, er, pow_limb] at e
  rw [eu, pow_limb] at h1
  have h1' : u < 2 ^ (16 * q) := by omega
  have e' : (val xs).toNat = u + 2 ^ (16 * q) * r := by
    have : val xs = ((u + 2 ^ (16 * q) * r : Nat) : Int) := by rw [e]; simp
    rw [this]; rfl
  rw [er, e', Nat.pow_add, ← Nat.div_div_eq_div_mul, Nat.add_mul_div_left _ _ (Nat.pow_pos (by decide)), Nat.div_eq_of_lt h1', Nat.zero_add, ← Int.natCast_ediv, Int.toNat_natCast]

end Go.Proofs.YthahoabkehcgbaaDoor

namespace Go.Proofs.YthahoabkehcgbaaDoor
open Go.RowKit
set_option linter.unusedVariables false

/-- Each limb takes the low bits of the next one in. -/
def sdn (d : Int) : List Int → List Int
  | [] => []
  | y :: t => ((t.getD 0 0 * 65536 + y) / d % 65536) :: sdn d t
theorem sdn_length (d : Int) : ∀ ys : List Int, (sdn d ys).length = ys.length
  | [] => rfl
  | y :: t => by simp [sdn, sdn_length d t]
theorem sdn_at (d : Int) : ∀ (ys : List Int) (i : Nat), i < ys.length → (sdn d ys).getD i 0 = (ys.getD (i + 1) 0 * 65536 + ys.getD i 0) / d % 65536
  | [], i, h => by simp at h
  | y :: t, 0, h => by simp [sdn, List.getD]
  | y :: t, i + 1, h => by
    have := sdn_at d t i (by simpa using h)
    simpa [sdn, List.getD] using this
theorem sdn_lim (d : Int) : ∀ ys : List Int, Lim (sdn d ys)
  | [] => Lim.nil
  | y :: t => fun z hz => by
    simp only [sdn, List.mem_cons] at hz
    rcases hz with rfl | hz
    · omega
    · exact sdn_lim d t z hz
theorem sdn_step (d e y t0 V V' : Int) (hd : 0 < d) (he : e * d = 65536) (hy : 0 ≤ y ∧ y ≤ 65535) (ht : 0 ≤ t0 ∧ t0 ≤ 65535) (hV : V = t0 + 65536 * V') :
    (t0 * 65536 + y) / d % 65536 + 65536 * (V / d) = (y + 65536 * V) / d := by
  have he0 : 0 < e := by
    rcases Int.lt_or_le 0 e with h | h
    · exact h
    · have : e * d ≤ 0 := Int.mul_nonpos_of_nonpos_of_nonneg h (by omega)
      omega
  have e1 : (t0 * 65536 + y) / d = t0 * e + y / d := by
    rw [← he, ← Int.mul_assoc, Int.add_comm, Int.add_mul_ediv_right _ _ (by omega), Int.add_comm]
  have e2 : (y + 65536 * V) / d = y / d + e * V := by
    rw [← he, Int.mul_right_comm, Int.add_mul_ediv_right _ _ (by omega)]
  have e3 : V % d = t0 % d := by
    rw [hV, ← he, Int.mul_assoc, Int.mul_left_comm, Int.add_mul_emod_self_left]
  have e4 := Int.mul_ediv_add_emod V d
  have e5 := Int.mul_ediv_add_emod t0 d
  have e6 : e * V = 65536 * (V / d) + e * (t0 % d) := by
    have : e * V = e * (d * (V / d) + V % d) := by rw [e4]
    rw [this, Int.mul_add, ← Int.mul_assoc, he, e3]
  have e7 : t0 * e = 65536 * (t0 / d) + e * (t0 % d) := by
    have : t0 * e = e * (d * (t0 / d) + t0 % d) := by rw [e5, Int.mul_comm]
    rw [this, Int.mul_add, ← Int.mul_assoc, he]
  have h1 : y / d < e := by
    refine Int.ediv_lt_of_lt_mul hd ?_
    omega
  have h2 : 0 ≤ y / d := Int.ediv_nonneg hy.1 (by omega)
  have h3 : t0 % d ≤ d - 1 := by have := Int.emod_lt_of_pos t0 hd; omega
  have h4 : 0 ≤ t0 % d := Int.emod_nonneg _ (by omega)
  have h5 : e * (t0 % d) ≤ e * (d - 1) := Int.mul_le_mul_of_nonneg_left h3 (by omega)
  have h6 : e * (d - 1) = 65536 - e := by rw [Int.mul_sub, he, Int.mul_one]
  have h7 : 0 ≤ e * (t0 % d) := Int.mul_nonneg (by omega) h4
  rw [e1, e2, e6, e7]
  omega
theorem sdn_val (s : Nat) (hs : s ≤ 16) : ∀ {ys : List Int}, Lim ys → val (sdn ((2 ^ s : Nat) : Int) ys) = val ys / ((2 ^ s : Nat) : Int)
  | [], _ => by simp [sdn, val]
  | y :: t, h => by
    have ht : Lim t := fun z hz => h z (List.mem_cons_of_mem _ hz)
    have hy := h y (List.mem_cons_self)
    have ih := sdn_val s hs ht
    have h0 := ht.at 0
    have hd : (0 : Int) < ((2 ^ s : Nat) : Int) := by have := Nat.pow_pos (n := s) (show 0 < 2 by decide); omega
    have he : ((2 ^ (16 - s) : Nat) : Int) * ((2 ^ s : Nat) : Int) = 65536 := by
      rw [← Int.natCast_mul, ← Nat.pow_add, Nat.sub_add_cancel hs]; rfl
    have hv := val_drop t 0
    simp only [List.drop_zero] at hv
    have := sdn_step _ _ y _ (val t) _ hd he hy h0 hv
    simp only [sdn, val]
    rw [ih]
    exact this
theorem sdn_put (d : Int) (ys : List Int) (i : Nat) (h : i < ys.length) : ((sdn d ys).take i ++ ys.drop i).set i ((sdn d ys).getD i 0) = (sdn d ys).take (i + 1) ++ ys.drop (i + 1) := by
  have hl := sdn_length d ys
  have e1 : ((sdn d ys).take i).length = i := by simp; omega
  rw [List.set_append_right _ _ (by omega), e1, Nat.sub_self, List.drop_eq_getElem_cons h, List.set_cons_zero, List.take_succ_eq_append_getElem (by omega), List.append_assoc]
  simp [List.getD, show i < (sdn d ys).length by omega]
theorem sdn_len (d : Int) (ys : List Int) (i : Nat) (hj : i ≤ ys.length) : ((sdn d ys).take i ++ ys.drop i).length = ys.length := by
  have := sdn_length d ys
  rw [List.length_append, List.length_take, List.length_drop]
  omega
theorem sdn_mix (d : Int) (ys : List Int) (i j : Nat) (hi : i ≤ j) (hj : i ≤ ys.length) : ((sdn d ys).take i ++ ys.drop i).getD j 0 = ys.getD j 0 := by
  have e1 : ((sdn d ys).take i).length = i := by have := sdn_length d ys; simp; omega
  simp only [List.getD]
  rw [List.getElem?_append_right (by omega), e1, List.getElem?_drop, show i + (j - i) = j by omega]

end Go.Proofs.YthahoabkehcgbaaDoor

namespace Go.Proofs.YthahoabkehcgbaaDoor
open Go.RowKit
set_option linter.unusedVariables false
set_option maxRecDepth 8000

/-- The cell g holds the list v, which may be written, with the limbs zs. -/
structure Work (b : Nat) (w : World) (g : Nat) (v : Value) (zs : List Int) : Prop where
  cell : w.cell? ⟨g, 0, none⟩ = some v
  loose : w.frozen? ⟨g, 0, none⟩ = false
  row : Row .i64 true b w.heap.size w v zs
  apart : zs ≠ [] → v.ownBlock ≠ some g

theorem Row.aside {k : IntKind} {bw : Bool} {lo hi : Nat} {w : World} {v : Value} {zs : List Int} (r : Row k bw lo hi w v zs) {P o : Nat} (hne : zs ≠ [] → v.ownBlock ≠ some P) (u : Value) : Row k bw lo hi (w.setCell ⟨P, o, none⟩ u) v zs := by
  obtain ⟨a, c, rfl, h1, h2, h3⟩ := r
  refine ⟨a, c, rfl, h1, h2, fun hz => ?_⟩
  obtain ⟨g, off, rfl, hl, hh, hs, hc, hf⟩ := h3 hz
  have hn : g ≠ P := fun e => hne hz (by simp [Value.ownBlock, e])
  refine ⟨g, off, rfl, hl, hh, by rw [size_set]; exact hs, fun i hi' => ?_, fun e i hi' => by rw [frozen_set]; exact hf e i hi'⟩
  rw [cell_far _ _ _ _ _ (by exact hn)]
  exact hc i hi'
theorem Row.front {k : IntKind} {bw : Bool} {lo hi : Nat} {w : World} {a : Option Addr} {n c : Nat} {zs : List Int} (r : Row k bw lo hi w (.slice a n c) zs) (j : Nat) (hj : j ≤ n) : Row k bw lo hi w (.slice a j c) (zs.take j) := by
  obtain ⟨a', c', e, h1, h2, h3⟩ := r
  cases e
  have hl : (zs.take j).length = j := by simp; omega
  refine ⟨a, c, by rw [hl], by omega, h2, fun hz => ?_⟩
  obtain ⟨g, off, rfl, hlo, hh, hs, hc, hf⟩ := h3 (by intro e; subst e; simp at hz)
  refine ⟨g, off, rfl, hlo, hh, hs, fun i hi' => ?_, fun e i hi' => hf e i (by omega)⟩
  rw [hc i (by omega)]
  simp only [List.getD, List.getElem?_take]
  rw [if_pos (by omega)]

theorem Num.work {b g : Nat} {w : World} {v : Value} {zs : List Int} (h : Num b w g v zs) : Work b w g v zs := ⟨h.cell, h.loose, h.row, fun _ => h.apart⟩
theorem Work.lt {b g : Nat} {w : World} {v : Value} {zs : List Int} (h : Work b w g v zs) : g < w.heap.size := World.block_lt_of_cell? _ ⟨g, 0, none⟩ h.cell
theorem Work.form {b g : Nat} {w : World} {v : Value} {zs : List Int} (h : Work b w g v zs) : ∃ a c, v = .slice a zs.length c := Row.form' h.row
theorem Work.kept {b g : Nat} {w w' : World} {v : Value} {zs : List Int} (h : Work b w g v zs) (k : Kept 0 0 w w') : Work b w' g v zs :=
  ⟨k.cell0 h.cell, k.loose0 h.lt h.loose, (h.row.kept k (by omega)).tight, h.apart⟩
theorem Work.at {b g : Nat} {w : World} {v : Value} {zs : List Int} (h : Work b w g v zs) (j : Nat) (hj : j < zs.length) : ∃ g1 off c, v = .slice (some ⟨g1, off, none⟩) zs.length c ∧ zs.length ≤ c ∧ w.cell? ⟨g1, off + j, none⟩ = some (.int .i64 (zs.getD j 0)) ∧ w.frozen? ⟨g1, off + j, none⟩ = false ∧ g1 ≠ g ∧ b ≤ g1 := by
  have ha := h.apart
  obtain ⟨a, c, rfl, h1, h2, h3⟩ := h.row
  have hz : zs ≠ [] := by intro e; subst e; simp at hj
  obtain ⟨g1, off, rfl, hl, hh, hs, hc, hf⟩ := h3 hz
  exact ⟨g1, off, c, rfl, h1, hc j hj, hf rfl j hj, fun e => ha hz (by simp [Value.ownBlock, e]), hl⟩
theorem Work.put {b g g1 off n c : Nat} {w : World} {zs : List Int} (h : Work b w g (.slice (some ⟨g1, off, none⟩) n c) zs) (j : Nat) (hn : n = zs.length) (hj : j < n) (z : Int) : Work b (w.setCell ⟨g1, off + j, none⟩ (.int .i64 z)) g (.slice (some ⟨g1, off, none⟩) n c) (zs.set j z) := by
  have hz : zs ≠ [] := by intro e; subst e; simp at hn; omega
  have hne : g1 ≠ g := fun e => h.apart hz (by simp [Value.ownBlock, e])
  have := h.row.set j (by omega) z
  exact ⟨by rw [cell_far _ _ _ _ _ (by exact fun e => hne e.symm)]; exact h.cell, by rw [frozen_set]; exact h.loose, by rw [size_set]; exact this, fun _ => by simp [Value.ownBlock, hne]⟩
theorem Work.cut {b g n c : Nat} {a : Option Addr} {w : World} {zs : List Int} (h : Work b w g (.slice a n c) zs) (j : Nat) (hj : j ≤ n) : Work b (w.setCell ⟨g, 0, none⟩ (.slice a j c)) g (.slice a j c) (zs.take j) := by
  have hap : zs.take j ≠ [] → (Value.slice a j c).ownBlock ≠ some g := fun hz e => h.apart (by intro e; subst e; simp at hz) (by cases a <;> exact e)
  exact ⟨cell_on _ _ _ _ _ h.cell, by rw [frozen_set]; exact h.loose, by rw [size_set]; exact (h.row.front j hj).aside hap _, hap⟩

set_option maxHeartbeats 1000000 in
theorem at_work {b g : Nat} {v : Value} {zs : List Int} (w : World) (h : Work b w g v zs) (i : Nat) (hi : (i : Int) ≤ 9223372036854775807) :
    Calls Tryd.prog 83 #[.pointer (some ⟨g, 0, none⟩), .int .i64 i] w fun e w' => e = .returned (.int .i64 (zs.getD i 0)) ∧ w' = w := by
  have hc := h.cell
  have hm := h.row.len
  unfold maxLen at hm
  by_cases hlt : i < zs.length
  · obtain ⟨g1, off, c', rfl, -, hx, -, -⟩ := h.at i hlt
    have hlt' : (i : Int) < (zs.length : Int) := by omega
    generalize zs.getD i 0 = z at *
    clear h
    go_enter Tryd.func83, Tryd.ntmps83
    go_wp2
    go_ret
    exact ⟨rfl, rfl⟩
  · have e0 : zs.getD i 0 = 0 := by simp [List.getD, List.getElem?_eq_none (Nat.le_of_not_lt hlt)]
    rw [e0]
    have hlt' : ¬ (i : Int) < (zs.length : Int) := by omega
    obtain ⟨a1, c1, rfl⟩ := h.form
    clear h
    go_enter Tryd.func83, Tryd.ntmps83
    go_wp2
    go_ret
    exact ⟨rfl, rfl⟩

set_option maxHeartbeats 4000000 in
theorem trim_work {b g : Nat} {v : Value} {zs : List Int} (w : World) (h : Work b w g v zs) (hl : Lim zs) :
    Calls Tryd.prog 84 #[.pointer (some ⟨g, 0, none⟩)] w fun e w' => (∃ r, e = .returned r) ∧ ∃ u, Work b w' g u (limbs (val zs).toNat) ∧ Mod (fun i => i = g) w w' := by
  have hm := h.row.len
  unfold maxLen at hm
  have HL := hide hl
  clear hl
  go_enter Tryd.func84, Tryd.ntmps84
  go_wp2
  go_loopw [] (fun wr => ∃ (m : Nat) (u : Value), m ≤ zs.length ∧ Hid (∀ i, m ≤ i → i < zs.length → zs.getD i 0 = 0) ∧ Work b wr g u (zs.take m) ∧ Mod (fun i => i = g) w wr) (fun wr => lenAt wr g)
  case atStart => exact ⟨zs.length, v, Nat.le_refl _, hide (fun i h1 h2 => by omega), by rw [List.take_length]; exact h, Mod.refl _ _⟩
  case round =>
    clear h
    obtain ⟨m, u, hmz, hz, n, hmod⟩ := hrel
    have hlen : (zs.take m).length = m := by simp; omega
    have hlo := n.loose
    by_cases h0 : m = 0
    · subst h0
      obtain ⟨a1, c1, hv⟩ := n.form
      rw [hlen] at hv
      subst hv
      have hce := n.cell
      have e1 := take_limbs zs (unhide HL) 0 (by omega) (unhide hz) (.inl rfl)
      rw [e1] at n
      have NN := hide n
      have MM := hide hmod
      have hd : decide ((0 : Int) < ((0 : Nat) : Int)) = false := rfl
      clear e1 n hmod hlen hz
      go_wp2
      go_quiet (fail)
      go_wp2
      exact bodyPost_end (v := .tuple #[]) (by simp [results, Tryd.results84, go_sem]) rfl ⟨⟨_, rfl⟩, _, (unhide NN).kept ((Kept.refl 0 0 _).drewN _), (unhide MM).drewN _⟩
    · obtain ⟨gb, off, cap, hv, hle, hxz, hfz, hgb, -⟩ := n.at (m - 1) (by omega)
      rw [hlen] at hv hle
      subst hv
      have hce := n.cell
      have hz1 : (zs.take m).getD (m - 1) 0 = zs.getD (m - 1) 0 := by
        simp only [List.getD, List.getElem?_take]
        rw [if_pos (by omega)]
      rw [hz1] at hxz
      have hpos : (0 : Int) < (m : Int) := by omega
      have hposN : 0 < m := by omega
      have h1m : (1 : Int) ≤ (m : Int) := by omega
      have hcap : (m : Int) - 1 ≤ (cap : Int) := by omega
      have ew : IntKind.i64.wrap ((m : Int) - 1) = (m : Int) - 1 := wrap_small _ (by omega) (by omega)
      have et : ((m : Int) - 1).toNat = m - 1 := by omega
      have hi0 : (0 : Int) ≤ (m : Int) - 1 := by omega
      have hi1 : (m : Int) - 1 < (m : Int) := by omega
      have hz1' : ∀ z, zs.getD (m - 1) 0 = z → (z = 0 → ∀ i, m - 1 ≤ i → i < zs.length → zs.getD i 0 = 0) ∧ (z ≠ 0 → zs.take m = limbs (val zs).toNat) := by
        intro z e
        refine ⟨fun e0 i h1 h2 => ?_, fun e0 => take_limbs zs (unhide HL) m (by omega) (unhide hz) (.inr (by rw [e]; exact e0))⟩
        by_cases h3 : i = m - 1
        · rw [h3, e, e0]
        · exact unhide hz i (by omega) h2
      generalize zs.getD (m - 1) 0 = zl at *
      obtain ⟨hza, hzb⟩ := hz1' zl rfl
      clear hz1' hz
      by_cases hzz : zl = 0
      · subst hzz
        have HZ := hide (hza rfl)
        have NC := hide (fun k => (n.kept ((Kept.refl 0 0 _).drewN k)).cut (m - 1) (by omega))
        have MC := hide (fun k => (hmod.drewN k).set (p := ⟨g, 0, none⟩) (.inl rfl) (.slice (some ⟨gb, off, none⟩) (m - 1) cap))
        have e1 : (zs.take m).take (m - 1) = zs.take (m - 1) := by rw [List.take_take, Nat.min_eq_left (by omega)]
        have E1 := hide e1
        clear hza hzb n hmod hlen e1
        go_wp2
        go_quiet (fail)
        go_wp2
        go_region
        go_wp2
        go_roundw
        case rel => exact ⟨m - 1, .slice (some ⟨gb, off, none⟩) (m - 1) cap, by omega, HZ, by rw [← unhide E1]; exact unhide NC _, unhide MC _⟩
        case measure => rw [lenAt_of hce, lenAt_of (unhide NC _).cell]; omega
      · have e1 := hzb hzz
        rw [e1] at n
        have NN := hide n
        have MM := hide hmod
        have hb : (zl == 0) = false := beq_eq_false_iff_ne.2 hzz
        clear e1 n hmod hlen hza hzb
        go_wp2
        go_quiet (fail)
        go_wp2
        exact bodyPost_end (v := .tuple #[]) (by simp [results, Tryd.results84, go_sem]) rfl ⟨⟨_, rfl⟩, _, (unhide NN).kept ((Kept.refl 0 0 _).drewN _), (unhide MM).drewN _⟩

set_option maxHeartbeats 1000000 in
theorem told_work {b g : Nat} {v : Value} {zs : List Int} (w : World) (h : Work b w g v zs) :
    Calls Tryd.prog 71 #[.pointer (some ⟨g, 0, none⟩)] w fun e w' => ∃ v', e = .returned (.tuple #[.agg #[v'], .bool (decide (zs.length ≤ 100))]) ∧ Row .i64 true w.heap.size w'.heap.size w' v' (tell zs) ∧ Kept 0 0 w w' := by
  obtain ⟨a1, c1, rfl⟩ := h.form
  have rr := h.row
  have hm := rr.len
  unfold maxLen at hm
  have hlt := h.lt
  have hc := h.cell
  obtain ⟨i0, hi0, hz0, hz1, hz2⟩ := info_parts Tryd.info3'
  have hne : ¬ g = w.heap.size := by omega
  have hne' : ¬ w.heap.size = g := by omega
  by_cases hbig : 100 < (zs.length : Int)
  · have hn : ¬ zs.length ≤ 100 := by omega
    rw [decide_eq_false hn]
    have e0 : tell zs = [] := by unfold tell; rw [if_neg hn]
    rw [e0]
    clear h rr
    go_enter Tryd.func71, Tryd.ntmps71
    go_wp2
    exact bodyPost_ret (v := .tuple #[.agg #[.slice none 0 0], .bool false]) (by simp [results, Tryd.results71, go_sem]) rfl ⟨_, rfl, Row.nil _ _ _ _ _, (Kept.refl _ _ _).alloc _⟩
  · have hn : zs.length ≤ 100 := by omega
    rw [decide_eq_true hn]
    have e0 : tell zs = zs := by unfold tell; rw [if_pos hn]
    rw [e0]
    by_cases hz : zs = []
    · subst hz
      have hrun := fun ty => run_append_nil_zero (P := Tryd.prog) (w.alloc (.cells #[.slice none 0 0] 48)) 46 ty 3 i0 Tryd.underlying46 hi0 a1 c1
      have HRUN := hide hrun
      clear hrun h rr
      go_enter Tryd.func71, Tryd.ntmps71
      go_wp2_with (at_builtin; refine Lib.wpList_append_run _ rfl _ _ _ _ rfl _ _ rfl rfl _ _ (unhide HRUN _) ?_)
      exact bodyPost_ret (v := .tuple #[.agg #[.slice none 0 0], .bool true]) (by simp [results, Tryd.results71, go_sem]) rfl ⟨_, rfl, Row.nil _ _ _ _ _, (Kept.refl _ _ _).alloc _⟩
    · obtain ⟨g1, off, c', e', -, -, hnews⟩ := (rr.kept ((Kept.refl 0 0 w).alloc (.cells #[.slice none 0 0] 48)) (by omega)).news hz
      cases e'
      have hown0 : (w.alloc (.cells #[.slice none 0 0] 48)).ownsRow (w.heap.size + 1) 3 1 (.slice none 0 0) 0 [] := World.ownsRow_nil _ _ _ _
      have hlk : (zs.map (Value.int .i64)).length = zs.length * 1 := by simp
      have HN := hide hnews
      have HB : Hid (w.heap.size + 1 ≤ (w.alloc (.cells #[.slice none 0 0] 48)).heap.size) := by show _ ≤ _; simp
      have c3 : 0 + zs.length ≤ maxLen := by unfold maxLen; omega
      have c4 : (0 + zs.length) * 8 ≤ 140737488355328 := by omega
      have C3 := hide c3
      have C4 := hide c4
      have cr : (w.alloc (.cells #[.slice none 0 0] 48)).cell? ⟨w.heap.size, 0, none⟩ = some (.slice none 0 0) := new_cell_at _ _ _ _ rfl
      have fr : (w.alloc (.cells #[.slice none 0 0] 48)).frozen? ⟨w.heap.size, 0, none⟩ = false := new_loose _ _ _ _ rfl
      have CR := hide cr
      have FR := hide fr
      clear hnews rr hz c3 c4 h cr fr
      go_enter Tryd.func71, Tryd.ntmps71
      go_wp2_with (at_builtin; refine wpList_append_own _ rfl _ _ 46 rfl (w.heap.size + 1) 3 i0 (.int .i64 0) 1 8 Tryd.underlying46 hi0 hz0 hz1 hz2 rfl (by decide) _ _ _ rfl hown0 ⟨g1, off, none⟩ zs.length c1 (zs.map (Value.int .i64)) rfl hlk (unhide HN) (ints_one _ _) (unhide C3) (unhide C4) (unhide HB) ?_)
      intro v4 w4 hown4 hgrow _
      have k4 := ((Kept.refl 0 0 w).alloc _).growNew hgrow (fun q hq => by simp [Value.ownBlock] at hq)
      have k4' : Kept 0 0 (w.alloc (.cells #[.slice none 0 0] 48)) w4 := (Kept.refl 0 0 _).growNew hgrow (fun q hq => by simp [Value.ownBlock] at hq)
      have cr := k4'.cell0 (unhide CR)
      have fr := k4'.loose0 (by simp) (unhide FR)
      try simp only [Nat.zero_add, List.nil_append] at hown4
      obtain ⟨a4, c4, rfl⟩ := own_slice hown4
      have K : Hid (Kept 0 0 w (w4.setCell ⟨w.heap.size, 0, none⟩ (.slice a4 zs.length c4))) := k4.setNew (p := ⟨w.heap.size, 0, none⟩) (Nat.le_refl _) _
      have R : Hid (Row .i64 true w.heap.size (w4.setCell ⟨w.heap.size, 0, none⟩ (.slice a4 zs.length c4)).heap.size (w4.setCell ⟨w.heap.size, 0, none⟩ (.slice a4 zs.length c4)) (.slice a4 zs.length c4) zs) := (Row.own (ownsRow_setCell_below hown4 (a := ⟨w.heap.size, 0, none⟩) (by simp) _)).wider (by omega) (Nat.le_refl _)
      clear hown4 hgrow hown0 hlk k4 k4' HN HB CR FR
      go_wp2
      exact bodyPost_ret (v := .tuple #[.agg #[.slice a4 zs.length c4], .bool true]) (by simp [results, Tryd.results71, go_sem, cr]) rfl ⟨_, rfl, unhide R, unhide K⟩

end Go.Proofs.YthahoabkehcgbaaDoor

namespace Go.Proofs.YthahoabkehcgbaaDoor
open Go.RowKit
set_option linter.unusedVariables false
set_option maxRecDepth 8000
set_option linter.unusedSimpArgs false

/-- A call that only reads, as one step of a statement whose order is left open. -/
theorem step_call_pure {P : Program} {ops : Array Oper} {o : Oper} {a : Act} {w : World} {K : Act → World → Prop} {Q : Exit → Act → World → Prop} {E : Prop}
    (hg : o.guard = none) (n : FuncId) (x y : Operand) (ts : Array TypeId) (hop : o.op = Op.call { callee := Callee.value (Operand.func n), args := #[x, y], argTypes := ts })
    (hcf : ∀ args : Array Value, (callFunc n args).run P w = .ok (.enter n args) w) (vx vy v : Value) (hx : a.eval x = vx) (hy : a.eval y = vy) (hc : Calls P n #[vx, vy] w (fun e w' => e = .returned v ∧ w' = w)) (hK : K (a.put o.dst v) w) :
    if Region.wanted o (yielded ops a.tmps) = true then Oper.wp P o a w K Q else E := by
  have hw : Region.wanted o (yielded ops a.tmps) = true := by simp [Region.wanted, hg]
  rw [if_pos hw]
  unfold Oper.wp
  have hrun : (execOp a.eval o).run P w = .ok (.enter n #[vx, vy]) w := by
    have hfn : a.eval (.func n) = .func (.func n) #[] #[] := rfl
    simp [execOp, hop, resolve, invoke, hx, hy, hfn, Deferred.ofValue, Result.andThen, hcf]
  rw [hrun, Oper.upon_enter]
  refine hc.mono ?_
  rintro e w' ⟨rfl, rfl⟩
  exact hK

theorem at_enter (w : World) (args : Array Value) : (callFunc 83 args).run Tryd.prog w = .ok (.enter 83 args) w := by
  have h1 : ¬ Tryd.f83.name = "runtime.NumGoroutine" := by decide
  have h2 : ¬ Tryd.f83.body = none := fun h => by cases h
  simp [callFunc, Tryd.func83, go_sem, h1, h2]

theorem Work.lost {b g : Nat} {w : World} {v v' : Value} {xs : List Int} (h : Work b w g v xs) (a : Option Addr) (c : Nat) (hc : c ≤ maxLen) : Work b (w.setCell ⟨g, 0, none⟩ (.slice a 0 c)) g (.slice a 0 c) [] :=
  ⟨cell_on _ _ _ _ _ h.cell, by rw [frozen_set]; exact h.loose, Row.empty _ _ _ _ _ _ _ hc, fun e => absurd rfl e⟩
theorem Work.tail {b g gb cap n : Nat} {w : World} {xs : List Int} (h : Work b w g (.slice (some ⟨gb, 0, none⟩) n cap) xs) (q : Nat) (hn : n = xs.length) (hq : q < n) :
    Work b (w.setCell ⟨g, 0, none⟩ (.slice (some ⟨gb, q, none⟩) (n - q) (cap - q))) g (.slice (some ⟨gb, q, none⟩) (n - q) (cap - q)) (xs.drop q) := by
  have hz : xs ≠ [] := by intro e; subst e; simp at hn; omega
  have hr := h.row.drop q hq
  rw [Nat.zero_add] at hr
  have hap : xs.drop q ≠ [] → (Value.slice (some ⟨gb, q, none⟩) (n - q) (cap - q)).ownBlock ≠ some g := fun _ => h.apart hz
  exact ⟨cell_on _ _ _ _ _ h.cell, by rw [frozen_set]; exact h.loose, by rw [size_set]; exact hr.aside hap _, hap⟩

set_option maxHeartbeats 8000000 in
theorem shiftDown_work {b g : Nat} {v : Value} {xs : List Int} (w : World) (h : Num b w g v xs) (hx : Lim xs) (nx : xs.length ≤ 100000) (k : Nat) (hk : (k : Int) ≤ 9223372036854775807) :
    Calls Tryd.prog 70 #[.pointer (some ⟨g, 0, none⟩), .int .i64 (k : Int)] w fun e w' => (∃ r, e = .returned r) ∧ ∃ u, Work b w' g u (limbs ((val xs).toNat / 2 ^ k)) ∧ Mod (Own1 g v) w w' := by
  obtain ⟨q, s, hs, rfl⟩ : ∃ q s : Nat, s < 16 ∧ k = 16 * q + s := ⟨k / 16, k % 16, by omega, by omega⟩
  obtain ⟨K, hK⟩ : ∃ K : Int, K = ((16 * q + s : Nat) : Int) := ⟨_, rfl⟩
  have e3 : K.tdiv 16 = (q : Int) := by rw [Int.tdiv_eq_ediv_of_nonneg (by omega)]; omega
  have e4 : K.tmod 16 = (s : Int) := by rw [Int.tmod_eq_emod_of_nonneg (by omega)]; omega
  have hq63 : (q : Int) ≤ 9223372036854775807 := by omega
  have hKK : 0 ≤ K ∧ K ≤ 9223372036854775807 := by omega
  rw [← hK]
  generalize hA : (val xs).toNat / 2 ^ (16 * q + s) = A
  have HA := hide hA
  clear hK hA hk
  have hlt := h.lt
  have hce := h.cell
  have hlo := h.loose
  have hs0 : ¬ ((s : Int) < 0) := by omega
  have hs64 : (s : Int) < 64 := by omega
  by_cases hqn : q < xs.length
  · have hmin : min (q : Int) (xs.length : Int) = (q : Int) := by omega
    obtain ⟨gb, cap, hv, -⟩ := h.at q hqn
    subst hv
    have hm := h.row
    obtain ⟨a', c', e', hm1, hm2, -⟩ := hm
    cases e'
    have hq1 : (q : Int) ≤ (xs.length : Int) := by omega
    have hq2 : (xs.length : Int) ≤ (cap : Int) := by omega
    have hcq : ¬ cap = q := by omega
    obtain ⟨m, hm⟩ : ∃ m, m = xs.length - q := ⟨_, rfl⟩
    obtain ⟨Y, hY⟩ : ∃ Y, Y = xs.drop q := ⟨_, rfl⟩
    have hYl : Y.length = m := by rw [hY, hm]; simp
    have hYx : Lim Y := by rw [hY]; exact hx.drop q
    have hgb : b ≤ gb := (h.own.lt gb rfl).1
    have wl := (h.work.tail q rfl hqn).kept (Kept.refl 0 0 _).drew
    have ml := ((Mod.refl (Own1 g (.slice (some ⟨gb, 0, none⟩) xs.length cap)) w).set (p := ⟨g, 0, none⟩) (.inl (.inl rfl)) (.slice (some ⟨gb, q, none⟩) m (cap - q))).kept (Kept.refl 0 0 _).drew
    rw [← hm, ← hY] at wl
    have HM := hide hm
    have hAv : Hid (limbs (val (sdn ((2 ^ s : Nat) : Int) Y)).toNat = limbs A) := by
      show _ = _
      rw [sdn_val s (by omega) hYx, hY, shr_val hx q s (by omega), unhide HA]
    have WL := hide wl
    have ML := hide ml
    have hm63 : (m : Int) ≤ 100000 := by omega
    clear h hm1 hm2 HA hY wl ml hm
    go_enter Tryd.func70, Tryd.ntmps70
    go_wp2
    go_region
    rw [← unhide HM]
    have wl := unhide WL
    have ml := unhide ML
    generalize (w.setCell ⟨g, 0, none⟩ (.slice (some ⟨gb, q, none⟩) m (cap - q))).drew = W at *
    have hce5 := wl.cell
    clear hce hlo WL ML
    go_wp2
    clear hce5
    go_loopw [32] (fun ii wr => ∃ i : Nat, ii = .int .i64 (i : Int) ∧ i ≤ m ∧ Work b wr g (.slice (some ⟨gb, q, none⟩) m (cap - q)) ((sdn ((2 ^ s : Nat) : Int) Y).take i ++ Y.drop i) ∧ Mod (Own1 g (.slice (some ⟨gb, 0, none⟩) xs.length cap)) w wr) (fun ii _ => m - (intOf ii).toNat)
    case atStart => exact ⟨0, rfl, Nat.zero_le _, by simpa using wl, ml⟩
    case round =>
      clear wl ml
      obtain ⟨i, rfl, hi, wk, md⟩ := hrel
      have hsl := sdn_length ((2 ^ s : Nat) : Int) Y
      have hlen : ((sdn ((2 ^ s : Nat) : Int) Y).take i ++ Y.drop i).length = m := by rw [sdn_len _ _ _ (by omega)]; exact hYl
      by_cases hB : i < m
      · have hcc := wk.cell
        obtain ⟨g1, off, c5, e5, -, hx1, hf1, hg1, -⟩ := wk.at i (by omega)
        rw [hlen] at e5
        cases e5
        rw [sdn_mix _ _ _ _ (Nat.le_refl _) (by omega)] at hx1
        have hat := fun n => at_work _ (wk.kept ((Kept.refl 0 0 wr).drewN n)) (i + 1) (by omega)
        rw [sdn_mix _ _ _ _ (by omega) (by omega)] at hat
        have hput := fun n => (wk.kept ((Kept.refl 0 0 wr).drewN n)).put i hlen.symm hB ((sdn ((2 ^ s : Nat) : Int) Y).getD i 0)
        rw [sdn_put _ _ _ (by omega)] at hput
        have hmd := fun n u => ((md.drewN n).set (p := ⟨gb, q + i, none⟩) (.inl (.inr rfl)) u)
        have hv := sdn_at ((2 ^ s : Nat) : Int) Y i (by omega)
        have h0 := hYx.at i
        have h1 := hYx.at (i + 1)
        generalize Y.getD i 0 = y0 at *
        generalize Y.getD (i + 1) 0 = y1 at *
        have ep : ((2 ^ s : Nat) : Int) = (2 : Int) ^ s := by simp
        rw [ep] at hv
        have hv2 : ((y1 * 65536 + y0) / 2 ^ s).tmod 65536 = (sdn ((2 ^ s : Nat) : Int) Y).getD i 0 := by
          rw [ep, Int.tmod_eq_emod_of_nonneg (Int.ediv_nonneg (by omega) (Int.le_of_lt (Int.pow_pos (by decide))))]
          rw [ep] at *
          exact hv.symm
        generalize (sdn ((2 ^ s : Nat) : Int) Y).getD i 0 = zi at *
        have HAT := hide hat
        have HPUT := hide hput
        have HV2 := hide hv2
        have HMD := hide hmd
        have hi2 : (i : Int) < (m : Int) := by omega
        have hwi : IntKind.i64.wrap ((i : Int) + 1) = (i : Int) + 1 := wrap_small _ (by omega) (by omega)
        have hb0 : 0 ≤ y1 * 65536 + y0 ∧ y1 * 65536 + y0 ≤ 4294967295 := by omega
        have hb1 : 0 ≤ y1 * 65536 ∧ y1 * 65536 ≤ 4294967295 := by omega
        have hw1 : IntKind.i64.wrap (y1 * 65536) = y1 * 65536 := wrap_small _ (by omega) (by omega)
        have hw2 : IntKind.i64.wrap (y1 * 65536 + y0) = y1 * 65536 + y0 := wrap_small _ (by omega) (by omega)
        clear hat hput hmd hv hv2 wk md hlen hsl ep
        go_wp2
        go_region_law (refine step_call_pure rfl 83 (.tmp 42) (.tmp 44) _ rfl (at_enter _) _ _ _ (by simp [Act.eval, Act.put]) (by simp [Act.eval, Act.put, hwi]) (unhide HAT 1) ?_)
        all_goals
          rw [unhide HV2]
          go_wp2
          go_roundw
          case rel => exact ⟨i + 1, by go_num, by omega, unhide HPUT 1, unhide HMD 1 _⟩
          case measure => simp [intOf]; omega
      · have hi2 : ¬ (i : Int) < (m : Int) := by omega
        have him : i = m := by omega
        rw [him, List.take_of_length_le (by omega), List.drop_of_length_le (by omega), List.append_nil] at wk
        clear hlen hsl him
        go_wp2_with fail
        refine (trim_work _ wk (sdn_lim _ _)).mono ?_
        rintro e w6 ⟨⟨r6, rfl⟩, u6, n6, m6⟩
        rw [unhide hAv] at n6
        have N6 := hide n6
        have M6 := hide (md.then m6 (fun i e => .inl (.inl e)))
        clear n6 m6 wk md
        go_wp2
        exact bodyPost_end (v := .tuple #[]) (by simp [results, Tryd.results70, go_sem]) rfl ⟨⟨_, rfl⟩, _, unhide N6, unhide M6⟩
  · have hle : (xs.length : Int) ≤ (q : Int) := by omega
    have hA0 : A = 0 := by
      rw [← unhide HA]
      have e1 := val_lt hx
      have e2 := val_nonneg hx
      rw [pow_limb] at e1
      refine Nat.div_eq_of_lt (Nat.lt_of_lt_of_le (m := 2 ^ (16 * xs.length)) (by omega) (Nat.pow_le_pow_right (by decide) (by omega)))
    rw [hA0, limbs_zero]
    obtain ⟨a1, c1, hv⟩ := h.form
    subst hv
    have hm := h.row
    obtain ⟨a', c', e', hm1, hm2, -⟩ := hm
    cases e'
    have hcap : (xs.length : Int) ≤ (c1 : Int) := by omega
    have hmin : min (q : Int) (xs.length : Int) = (xs.length : Int) := by omega
    have hmx : c1 - xs.length ≤ maxLen := by omega
    have WL := hide (fun (a : Option Addr) => (h.work.lost (v' := .slice a 0 (c1 - xs.length)) a (c1 - xs.length) hmx).kept (Kept.refl 0 0 _).drew)
    have MM := hide (fun (u : Value) => ((Mod.refl (Own1 g (.slice a1 xs.length c1)) w).set (p := ⟨g, 0, none⟩) (.inl (.inl rfl)) u).kept (Kept.refl 0 0 _).drew)
    clear h hm1 hm2 hmx HA hA0
    go_enter Tryd.func70, Tryd.ntmps70
    go_wp2
    go_region
    generalize (if c1 = xs.length then a1 else Option.map (fun x => x.add xs.length) a1) = a5 at *
    have wl := unhide WL a5
    have ml := unhide MM (.slice a5 0 (c1 - xs.length))
    generalize (w.setCell ⟨g, 0, none⟩ (.slice a5 0 (c1 - xs.length))).drew = W at *
    have hce5 := wl.cell
    clear hce hlo
    go_wp2
    go_loopw [32] (fun ii wr => ii = .int .i64 0 ∧ wr = W) (fun _ _ => 0)
    case atStart => exact ⟨rfl, rfl⟩
    case round =>
      obtain ⟨rfl, rfl⟩ := hrel
      clear hce5
      go_wp2_with fail
      refine (trim_work _ wl Lim.nil).mono ?_
      rintro e w6 ⟨⟨r6, rfl⟩, u6, n6, m6⟩
      have N6 := hide n6
      have M6 := hide (ml.then m6 (fun i e => .inl (.inl e)))
      clear n6 m6 wl ml
      go_wp2
      exact bodyPost_end (v := .tuple #[]) (by simp [results, Tryd.results70, go_sem]) rfl ⟨⟨_, rfl⟩, _, unhide N6, unhide M6⟩

end Go.Proofs.YthahoabkehcgbaaDoor
