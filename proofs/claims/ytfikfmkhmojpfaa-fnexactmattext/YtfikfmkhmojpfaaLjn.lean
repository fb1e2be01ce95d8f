/-
  The program's joined: texts with a separator between.
-/
import Derived.Test.YtfikfmkhmojpfaaLtt
import Derived.Ground.SlbNamesProg
import Derived.Shelf.Lay
import Derived.Shelf.Bytes.SlJoin
namespace Go.Proofs
open Go.Shelf Go.Lib Go.RowKit

shelf_lay SlLaysJ.n14 Slb 14 at Try as Ytfikfmkhmojpfaa.lays14

end Go.Proofs

namespace Go.Proofs.Ytfikfmkhmojpfaa
open Go.RowKit Go.Lib
set_option linter.unusedVariables false
set_option maxRecDepth 8000
set_option linter.unusedSimpArgs false

/-- Numbers that are bytes. -/
def Bts (zs : List Int) : Prop := ∀ z ∈ zs, 0 ≤ z ∧ z < 256
theorem byte_back {z : Int} (h0 : 0 ≤ z) (h1 : z < 256) : ((UInt8.ofNat z.toNat).toNat : Int) = z := by
  have : (UInt8.ofNat z.toNat).toNat = z.toNat % 256 := UInt8.toNat_ofNat'
  omega
theorem bytes_len (zs : List Int) : (Lib.bytesOf zs).length = zs.length := by simp [Lib.bytesOf]
theorem bytes_app (xs ys : List Int) : Lib.bytesOf (xs ++ ys) = Lib.bytesOf xs ++ Lib.bytesOf ys := by simp [Lib.bytesOf]
theorem bytes_at {zs : List Int} (h : Bts zs) {i : Nat} {x : UInt8} (hx : (Lib.bytesOf zs)[i]? = some x) : i < zs.length ∧ (x.toNat : Int) = zs.getD i 0 := by
  have hi : i < zs.length := by
    have := (List.getElem?_eq_some_iff.1 hx).1
    rw [bytes_len] at this
    exact this
  refine ⟨hi, ?_⟩
  simp only [Lib.bytesOf, List.getElem?_map, List.getElem?_eq_getElem hi, Option.map_some, Option.some.injEq] at hx
  rw [← hx, List.getD_eq_getElem?_getD, List.getElem?_eq_getElem hi, Option.getD_some]
  have := h zs[i] (List.getElem_mem hi)
  exact byte_back this.1 this.2
theorem bytes_inj : ∀ {xs ys : List Int}, Bts xs → Bts ys → Lib.bytesOf xs = Lib.bytesOf ys → xs = ys
  | [], [], _, _, _ => rfl
  | [], y :: ys, _, _, e => by simp [Lib.bytesOf] at e
  | x :: xs, [], _, _, e => by simp [Lib.bytesOf] at e
  | x :: xs, y :: ys, hx, hy, e => by
    have e' : UInt8.ofNat x.toNat = UInt8.ofNat y.toNat ∧ Lib.bytesOf xs = Lib.bytesOf ys := by
      simpa [Lib.bytesOf] using e
    have h1 := hx x (by simp)
    have h2 := hy y (by simp)
    have e1 := byte_back h1.1 h1.2
    have e2 := byte_back h2.1 h2.2
    rw [e'.1] at e1
    rw [show x = y by omega, bytes_inj (fun z hz => hx z (List.mem_cons_of_mem _ hz)) (fun z hz => hy z (List.mem_cons_of_mem _ hz)) e'.2]
theorem holds_row {bw : Bool} {lo hi : Nat} {w : World} {v : Value} {zs : List Int} (r : Row .u8 bw lo hi w v zs) (h : Bts zs) : HoldsBytes w v (Lib.bytesOf zs) := by
  by_cases hz : zs = []
  · subst hz
    obtain ⟨a, c, rfl⟩ := Row.form' r
    refine ⟨a, c, rfl, fun _ => rfl, fun a _ i x hx => ?_⟩
    simp [Lib.bytesOf] at hx
  · obtain ⟨g, off, c, hv, -, -, hnews⟩ := r.news hz
    refine ⟨some ⟨g, off, none⟩, c, by rw [hv, bytes_len], fun e => (by cases e), fun a ha i x hx => ?_⟩
    cases ha
    obtain ⟨hi, hx2⟩ := bytes_at h hx
    refine hnews i _ ?_
    rw [List.getElem?_map, List.getElem?_eq_getElem hi, hx2, List.getD_eq_getElem?_getD, List.getElem?_eq_getElem hi]
    rfl
theorem fresh_row {B : Nat} {w' : World} {v : Value} {l : List UInt8} {zs : List Int} (f : FreshBytes B w' v l) (h : Bts zs) (e : l = Lib.bytesOf zs) : Row .u8 true B w'.heap.size w' v zs := by
  obtain ⟨g, cap, ys, rfl, hB, hle, hm, hyl, hy, hb, hc, hf⟩ := f
  have hl : l.length = zs.length := by rw [e, bytes_len]
  have hyz : ys.take l.length = zs := bytes_inj (fun z hz => hy z (List.mem_of_mem_take hz)) h (hb.trans e)
  rw [hl] at hyz hle ⊢
  refine ⟨_, cap, rfl, hle, hm, fun hne => ⟨g, 0, rfl, hB, ?_, ?_, fun i hi => ?_, fun _ i hi => ?_⟩⟩
  · have : 0 < zs.length := List.length_pos_iff.2 hne
    exact World.block_lt_of_cell? _ ⟨g, 0, none⟩ (hc 0 (by omega))
  · have : 0 < zs.length := List.length_pos_iff.2 hne
    exact World.block_lt_of_cell? _ ⟨g, 0, none⟩ (hc 0 (by omega))
  · rw [Nat.zero_add, hc i (by omega), ← hyz]
    simp only [List.getD_eq_getElem?_getD]
    rw [List.getElem?_take, if_pos hi]
  · rw [Nat.zero_add]; exact hf i (by omega)
theorem below_kept {w w' : World} (h : Below w.heap.size w w') : Kept 0 0 w w' := ⟨h.os, h.tape, h.output, h.size, fun i hi _ => h.block i hi⟩

/-- The first n texts, with a separator between. -/
def jT (sep : List Int) (F : Nat → List Int) : Nat → List Int
  | 0 => []
  | n + 1 => if n = 0 then F 0 else jT sep F n ++ sep ++ F n
theorem jT_bts {sep : List Int} {F : Nat → List Int} (hs : Bts sep) : ∀ {n : Nat}, (∀ j, j < n → Bts (F j)) → Bts (jT sep F n)
  | 0, _ => fun z hz => by simp [jT] at hz
  | n + 1, h => by
    unfold jT
    by_cases h0 : n = 0
    · rw [if_pos h0]; exact h 0 (by omega)
    · rw [if_neg h0]
      intro z hz
      rw [List.mem_append, List.mem_append] at hz
      rcases hz with (hz | hz) | hz
      · exact jT_bts hs (fun j hj => h j (by omega)) z hz
      · exact hs z hz
      · exact h n (by omega) z hz
theorem jT_join (sep : List Int) (F : Nat → List Int) : ∀ n, Lib.bytesOf (jT sep F (n + 1)) = Lib.bytesOf (F 0) ++ Lib.joinTail (Lib.bytesOf sep) ((List.range n).map (fun j => Lib.bytesOf (F (j + 1))))
  | 0 => by simp [jT, Lib.joinTail]
  | n + 1 => by
    have ih := jT_join sep F n
    rw [show jT sep F (n + 1 + 1) = jT sep F (n + 1) ++ sep ++ F (n + 1) by rw [jT, if_neg (by omega)]]
    rw [bytes_app, bytes_app, ih, List.range_succ, List.map_append]
    unfold Lib.joinTail
    rw [List.map_append, List.flatten_append]
    simp [List.append_assoc]
theorem range_cons (n : Nat) (f : Nat → List UInt8) : (List.range (n + 1)).map f = f 0 :: (List.range n).map (fun j => f (j + 1)) := by
  rw [List.range_succ_eq_map, List.map_cons, List.map_map]
  rfl
theorem jT_lib (sep : List Int) (F : Nat → List Int) (n : Nat) (h : 0 < n) : Lib.join ((List.range n).map (fun j => Lib.bytesOf (F j))) (Lib.bytesOf sep) = Lib.bytesOf (jT sep F n) := by
  obtain ⟨m, rfl⟩ : ∃ m, n = m + 1 := ⟨n - 1, by omega⟩
  rw [range_cons, Lib.join_cons, jT_join]

theorem txs_vals {w : World} {g L n : Nat} {F : Nat → List Int} (t : Txs w g L n F) (hF : ∀ j, j < n → Bts (F j)) :
    Lib.PartsAt w ⟨g, 0, none⟩ ((List.range n).map (fun j => (w.cell? ⟨g, j, none⟩).getD undef)) ((List.range n).map (fun j => Lib.bytesOf (F j))) := by
  refine ⟨by simp, fun i v hv => ?_, fun i v l hv hl => ?_⟩
  · have hi : i < n := by have := (List.getElem?_eq_some_iff.1 hv).1; simpa using this
    obtain ⟨u, b, c, -, -, r⟩ := t i hi
    simp only [List.getElem?_map, List.getElem?_range hi, Option.map_some, Option.some.injEq] at hv
    rw [c, Option.getD_some] at hv
    subst hv
    rw [Addr.add_lit, Nat.zero_add]; exact c
  · have hi : i < n := by have := (List.getElem?_eq_some_iff.1 hv).1; simpa using this
    obtain ⟨u, b, c, -, -, r⟩ := t i hi
    simp only [List.getElem?_map, List.getElem?_range hi, Option.map_some, Option.some.injEq] at hv hl
    rw [c, Option.getD_some] at hv
    subst hv hl
    exact holds_row r (hF i hi)
theorem lens_le (F : Nat → List Int) (M : Nat) : ∀ n, (∀ j, j < n → (F j).length ≤ M) → Lib.lens ((List.range n).map (fun j => Lib.bytesOf (F j))) ≤ M * n
  | 0, _ => by simp [Lib.lens]
  | n + 1, h => by
    have ih := lens_le F M n (fun j hj => h j (by omega))
    have h1 := h n (by omega)
    unfold Lib.lens at ih ⊢
    rw [List.range_succ, List.map_append, List.map_append, List.sum_append, Nat.mul_succ]
    simp only [List.map_cons, List.map_nil, List.sum_cons, List.sum_nil, bytes_len]
    omega

set_option maxHeartbeats 4000000 in
theorem joinB_impl {bw : Bool} {g L n c lo hi : Nat} {F : Nat → List Int} {sv : Value} {sep : List Int} (w : World) (hn : n ≤ 1000) (t : Txs w g L n F) (hne : ∀ j, j < n → F j ≠ []) (hF : ∀ j, j < n → Bts (F j)) (hl : ∀ j, j < n → (F j).length ≤ 100000)
    (r : Row .u8 bw lo hi w sv sep) (hs : Bts sep) (hsl : sep.length ≤ 10) (hc : n ≤ c) :
    Calls Try.prog 58 #[.slice (some ⟨g, 0, none⟩) n c, sv] w fun e w' => ∃ v', e = .returned v' ∧ Row .u8 true w.heap.size w'.heap.size w' v' (jT sep F n) ∧ Kept 0 0 w w' := by
  have hb : Bts (jT sep F n) := jT_bts hs hF
  have hlens := lens_le F 100000 n hl
  rcases Nat.lt_or_ge n 2 with h2 | h2
  · rcases Nat.eq_zero_or_pos n with h0 | h0
    · subst h0
      refine (Any.bytes_Join_none lays14 (some ⟨g, 0, none⟩) c sv w).mono ?_
      rintro e w' ⟨rfl, rfl⟩
      exact ⟨_, rfl, Row.empty _ _ _ _ _ _ _ (Nat.zero_le _), (Kept.refl 0 0 w).alloc _⟩
    · obtain rfl : n = 1 := by omega
      obtain ⟨v, b, cc, -, -, rr⟩ := t 0 (by omega)
      obtain ⟨p, cap, hv, hp, hcells⟩ := holds_row rr (hF 0 (by omega))
      have hlen : 0 < (F 0).length := List.length_pos_iff.2 (hne 0 (by omega))
      have hl0 := hl 0 (by omega)
      cases p with
      | none =>
        have := hp rfl
        have h3 := bytes_len (F 0)
        rw [this] at h3
        simp at h3
        omega
      | some ad =>
        subst hv
        refine (Any.bytes_Join_one lays14 g 0 c ad cap (Lib.bytesOf (F 0)) sv w cc (fun i x hx => hcells ad rfl i x hx) (by rw [bytes_len]; exact hlen) (by rw [bytes_len]; omega)).mono ?_
        rintro e w' ⟨v', rfl, f, bl⟩
        exact ⟨v', rfl, fresh_row f hb (by simp [jT]), below_kept bl⟩
  · have hb2 := lens_le F 100000 n hl
    have hm : (Lib.bytesOf sep).length * (n - 1) ≤ 10 * 1000 := Nat.mul_le_mul (by rw [bytes_len]; exact hsl) (by omega)
    refine (Any.bytes_Join_many lays14 g 0 n c _ ((List.range n).map (fun j => Lib.bytesOf (F j))) sv (Lib.bytesOf sep) w (by simp) h2 (txs_vals t hF) hc (holds_row r hs) (by omega) (by omega)).mono ?_
    rintro e w' ⟨v', rfl, f, bl⟩
    exact ⟨v', rfl, fresh_row f hb (jT_lib sep F n (by omega)), below_kept bl⟩

theorem bts_one (z : Int) (h0 : 0 ≤ z) (h1 : z < 256) : Bts [z] := fun y hy => by
  rw [List.mem_singleton] at hy; subst hy; exact ⟨h0, h1⟩
set_option maxHeartbeats 2000000 in
theorem joined_impl {g L n c : Nat} {F : Nat → List Int} (w : World) (hn : n ≤ 1000) (t : Txs w g L n F) (hne : ∀ j, j < n → F j ≠ []) (hF : ∀ j, j < n → Bts (F j)) (hl : ∀ j, j < n → (F j).length ≤ 100000) (hc : n ≤ c) :
    Calls Try.prog 47 #[.slice (some ⟨g, 0, none⟩) n c] w fun e w' => ∃ v', e = .returned v' ∧ Row .u8 true w.heap.size w'.heap.size w' v' (jT [32] F n) ∧ Kept 0 0 w w' := by
  have k1 := (Kept.refl 0 0 w).alloc (.cells #[.int .u8 32] 5 (1, 2))
  have rl := Row.marked w 5 32
  have hcv := Lib.run_convert_bytes_const (P := Try.prog) w 30 5 #[.int .u8 32] 1 1 Try.underlying30 Try.underlying5
  have hj := joinB_impl (c := c) _ hn (t.kept k1) hne hF hl rl (bts_one 32 (by decide) (by decide)) (by decide) hc
  have K1 := hide k1
  clear k1 rl t hne hF hl
  go_enter Try.func47, Try.ntmps47
  go_wp2_with fail
  refine hj.mono ?_
  rintro e w2 ⟨v2, rfl, r2, k2⟩
  have K2 := hide ((unhide K1).trans k2)
  have R2 := hide (r2.wider (lo' := w.heap.size) (unhide K1).size (Nat.le_refl _))
  obtain ⟨a2, c2, hv2⟩ := Row.form' r2
  subst hv2
  clear hj r2 k2 hcv
  go_wp2
  go_ret
  exact ⟨_, rfl, unhide R2, unhide K2⟩

end Go.Proofs.Ytfikfmkhmojpfaa
