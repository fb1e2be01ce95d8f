/-
  Texts that lie in a row from some place on, joined.
-/
import Derived.Test.YtfikfmkhmojpfaaLjn
namespace Go.Proofs.Ytfikfmkhmojpfaa
open Go.RowKit Go.Lib
set_option linter.unusedVariables false
set_option maxRecDepth 8000
set_option linter.unusedSimpArgs false

/-- Texts in a row of slices from off on. -/
def TxsO (w : World) (g off k : Nat) (F : Nat → List Int) : Prop := ∀ j, j < k → ∃ v b, w.cell? ⟨g, off + j, none⟩ = some v ∧ Row .u8 true b (b + 1) w v (F j)
theorem Txs.part {w : World} {g L k : Nat} {F : Nat → List Int} (t : Txs w g L k F) (off n : Nat) (h : off + n ≤ k) : TxsO w g off n (fun j => F (off + j)) := fun j hj => by
  obtain ⟨v, b, c, -, -, r⟩ := t (off + j) (by omega)
  exact ⟨v, b, c, r⟩
theorem TxsO.kept {w w' : World} {g off k : Nat} {F : Nat → List Int} (t : TxsO w g off k F) (q : Kept 0 0 w w') : TxsO w' g off k F := fun j hj => by
  obtain ⟨v, b, c, r⟩ := t j hj
  exact ⟨v, b, q.cell0 c, r.kept q (by omega)⟩
theorem txo_vals {w : World} {g off n : Nat} {F : Nat → List Int} (t : TxsO w g off n F) (hF : ∀ j, j < n → Bts (F j)) :
    Lib.PartsAt w ⟨g, off, none⟩ ((List.range n).map (fun j => (w.cell? ⟨g, off + j, none⟩).getD undef)) ((List.range n).map (fun j => Lib.bytesOf (F j))) := by
  refine ⟨by simp, fun i v hv => ?_, fun i v l hv hl => ?_⟩
  · have hi : i < n := by have := (List.getElem?_eq_some_iff.1 hv).1; simpa using this
    obtain ⟨u, b, c, r⟩ := t i hi
    simp only [List.getElem?_map, List.getElem?_range hi, Option.map_some, Option.some.injEq] at hv
    rw [c, Option.getD_some] at hv
    subst hv
    rw [Addr.add_lit]; exact c
  · have hi : i < n := by have := (List.getElem?_eq_some_iff.1 hv).1; simpa using this
    obtain ⟨u, b, c, r⟩ := t i hi
    simp only [List.getElem?_map, List.getElem?_range hi, Option.map_some, Option.some.injEq] at hv hl
    rw [c, Option.getD_some] at hv
    subst hv hl
    exact holds_row r (hF i hi)

set_option maxHeartbeats 4000000 in
theorem joinO_impl {bw : Bool} {g off n c lo hi : Nat} {F : Nat → List Int} {sv : Value} {sep : List Int} (w : World) (hn : n ≤ 1000) (t : TxsO w g off n F) (hne : ∀ j, j < n → F j ≠ []) (hF : ∀ j, j < n → Bts (F j)) (hl : ∀ j, j < n → (F j).length ≤ 100000)
    (r : Row .u8 bw lo hi w sv sep) (hs : Bts sep) (hsl : sep.length ≤ 10) (hc : n ≤ c) :
    Calls Try.prog 58 #[.slice (some ⟨g, off, none⟩) n c, sv] w fun e w' => ∃ v', e = .returned v' ∧ Row .u8 true w.heap.size w'.heap.size w' v' (jT sep F n) ∧ Kept 0 0 w w' := by
  have hb : Bts (jT sep F n) := jT_bts hs hF
  have hlens := lens_le F 100000 n hl
  rcases Nat.lt_or_ge n 2 with h2 | h2
  · rcases Nat.eq_zero_or_pos n with h0 | h0
    · subst h0
      refine (Any.bytes_Join_none lays14 (some ⟨g, off, none⟩) c sv w).mono ?_
      rintro e w' ⟨rfl, rfl⟩
      exact ⟨_, rfl, Row.empty _ _ _ _ _ _ _ (Nat.zero_le _), (Kept.refl 0 0 w).alloc _⟩
    · obtain rfl : n = 1 := by omega
      obtain ⟨v, b, cc, rr⟩ := t 0 (by omega)
      obtain ⟨p, cap, hv, hp, hcells⟩ := holds_row rr (hF 0 (by omega))
      have hlen : 0 < (F 0).length := List.length_pos_iff.2 (hne 0 (by omega))
      have hl0 := hl 0 (by omega)
      cases p with
      | none =>
        have := hp rfl
        have h3 := bytes_len (F 0)
        rw [this] at h3
        simp at h3
        omega
      | some ad =>
        subst hv
        refine (Any.bytes_Join_one lays14 g off c ad cap (Lib.bytesOf (F 0)) sv w cc (fun i x hx => hcells ad rfl i x hx) (by rw [bytes_len]; exact hlen) (by rw [bytes_len]; omega)).mono ?_
        rintro e w' ⟨v', rfl, f, bl⟩
        exact ⟨v', rfl, fresh_row f hb (by simp [jT]), below_kept bl⟩
  · have hb2 := lens_le F 100000 n hl
    have hm : (Lib.bytesOf sep).length * (n - 1) ≤ 10 * 1000 := Nat.mul_le_mul (by rw [bytes_len]; exact hsl) (by omega)
    refine (Any.bytes_Join_many lays14 g off n c _ ((List.range n).map (fun j => Lib.bytesOf (F j))) sv (Lib.bytesOf sep) w (by simp) h2 (txo_vals t hF) hc (holds_row r hs) (by omega) (by omega)).mono ?_
    rintro e w' ⟨v', rfl, f, bl⟩
    exact ⟨v', rfl, fresh_row f hb (jT_lib sep F n (by omega)), below_kept bl⟩

set_option maxHeartbeats 2000000 in
theorem joinedO_impl {g off n c : Nat} {F : Nat → List Int} (w : World) (hn : n ≤ 1000) (t : TxsO w g off n F) (hne : ∀ j, j < n → F j ≠ []) (hF : ∀ j, j < n → Bts (F j)) (hl : ∀ j, j < n → (F j).length ≤ 100000) (hc : n ≤ c) :
    Calls Try.prog 47 #[.slice (some ⟨g, off, none⟩) n c] w fun e w' => ∃ v', e = .returned v' ∧ Row .u8 true w.heap.size w'.heap.size w' v' (jT [32] F n) ∧ Kept 0 0 w w' := by
  have k1 := (Kept.refl 0 0 w).alloc (.cells #[.int .u8 32] 5 (1, 2))
  have rl := Row.marked w 5 32
  have hcv := Lib.run_convert_bytes_const (P := Try.prog) w 30 5 #[.int .u8 32] 1 1 Try.underlying30 Try.underlying5
  have hj := joinO_impl (c := c) _ hn (t.kept k1) hne hF hl rl (bts_one 32 (by decide) (by decide)) (by decide) hc
  have K1 := hide k1
  clear k1 rl t hne hF hl
  go_enter Try.func47, Try.ntmps47
  go_wp2_with fail
  refine hj.mono ?_
  rintro e w2 ⟨v2, rfl, r2, k2⟩
  have K2 := hide ((unhide K1).trans k2)
  have R2 := hide (r2.wider (lo' := w.heap.size) (unhide K1).size (Nat.le_refl _))
  obtain ⟨a2, c2, hv2⟩ := Row.form' r2
  subst hv2
  clear hj r2 k2 hcv
  go_wp2
  go_ret
  exact ⟨_, rfl, unhide R2, unhide K2⟩

end Go.Proofs.Ytfikfmkhmojpfaa
