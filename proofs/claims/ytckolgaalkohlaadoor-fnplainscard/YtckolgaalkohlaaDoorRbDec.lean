/-
  A rune comes back from its bytes, and its bytes from the rune: plain arithmetic.
-/
import Derived.Test.YtckolgaalkohlaaDoorBX
namespace Go.Proofs.YtckolgaalkohlaaDoor
open Go.RowKit
set_option linter.unusedSimpArgs false

theorem tl_of {zs : List Int} {j : Nat} {z : Int} (hj : j < zs.length) (hz : zs.getD j 0 = z) (h1 : 128 ≤ z) (h2 : z ≤ 191) : tl zs j = z % 64 := by
  unfold tl; rw [hz, if_pos ⟨hj, h1, h2⟩]

/-- A rune that may be is found where its bytes stand. -/
theorem drune_rb (zs : List Int) (p : Nat) (r : Int) (hm : mayB r = true) (hl : p + (rb r).length ≤ zs.length) (h : ∀ j, j < (rb r).length → zs.getD (p + j) 0 = (rb r).getD j 0) : drune zs p = (r, ((rb r).length : Int)) := by
  obtain ⟨b0, b1⟩ := mayB_bd hm
  have hm0 : ¬ mayB r = false := by rw [hm]; decide
  unfold rb at h hl ⊢
  rw [if_neg hm0] at h hl ⊢
  by_cases h1 : r < 128
  · rw [if_pos h1] at h hl ⊢
    have e0 := h 0 (by simp)
    simp at e0
    unfold drune
    rw [show zs.getD p 0 = r by simpa using e0, if_pos h1]
    rfl
  rw [if_neg h1] at h hl ⊢
  by_cases h2 : r < 2048
  · rw [if_pos h2] at h hl ⊢
    have e0 : zs.getD p 0 = 192 + r / 64 := h 0 (by simp)
    have e1 : zs.getD (p + 1) 0 = 128 + r % 64 := h 1 (by simp)
    have t1 := tl_of (by simp at hl; omega) e1 (by omega) (by omega)
    unfold drune
    rw [e0, if_neg (by omega), if_pos (by omega)]
    have ha : acc zs p ((192 + r / 64) % 32) (2 - 1) = r := by simp only [show (2 - 1 : Nat) = 1 from rfl, acc, Nat.zero_add]; rw [t1]; omega
    rw [fin_good zs p 2 _ _ ?_ (by rw [ha]; omega) (by rw [ha]; exact hm), ha]
    · rfl
    · intro m hm'
      have : m = 0 := by omega
      subst this
      rw [Nat.zero_add, t1]; omega
  rw [if_neg h2] at h hl ⊢
  by_cases h3 : r < 65536
  · rw [if_pos h3] at h hl ⊢
    have e0 : zs.getD p 0 = 224 + r / 4096 := h 0 (by simp)
    have e1 : zs.getD (p + 1) 0 = 128 + r / 64 % 64 := h 1 (by simp)
    have e2 : zs.getD (p + 2) 0 = 128 + r % 64 := h 2 (by simp)
    have t1 := tl_of (by simp at hl; omega) e1 (by omega) (by omega)
    have t2 := tl_of (by simp at hl; omega) e2 (by omega) (by omega)
    unfold drune
    rw [e0, if_neg (by omega), if_neg (by omega), if_pos (by omega)]
    have ha : acc zs p ((224 + r / 4096) % 16) (3 - 1) = r := by simp only [show (3 - 1 : Nat) = 2 from rfl, acc, Nat.zero_add, show (1 + 1 : Nat) = 2 from rfl]; rw [t1, t2]; omega
    rw [fin_good zs p 3 _ _ ?_ (by rw [ha]; omega) (by rw [ha]; exact hm), ha]
    · rfl
    · intro m hm'
      rcases (by omega : m = 0 ∨ m = 1) with rfl | rfl
      · rw [Nat.zero_add, t1]; omega
      · rw [show (1 + 1 : Nat) = 2 from rfl, t2]; omega
  rw [if_neg h3] at h hl ⊢
  have e0 : zs.getD p 0 = 240 + r / 262144 := h 0 (by simp)
  have e1 : zs.getD (p + 1) 0 = 128 + r / 4096 % 64 := h 1 (by simp)
  have e2 : zs.getD (p + 2) 0 = 128 + r / 64 % 64 := h 2 (by simp)
  have e3 : zs.getD (p + 3) 0 = 128 + r % 64 := h 3 (by simp)
  have t1 := tl_of (by simp at hl; omega) e1 (by omega) (by omega)
  have t2 := tl_of (by simp at hl; omega) e2 (by omega) (by omega)
  have t3 := tl_of (by simp at hl; omega) e3 (by omega) (by omega)
  unfold drune
  rw [e0, if_neg (by omega), if_neg (by omega), if_neg (by omega), if_pos (by omega)]
  have ha : acc zs p ((240 + r / 262144) % 8) (4 - 1) = r := by simp only [show (4 - 1 : Nat) = 3 from rfl, acc, Nat.zero_add, show (1 + 1 : Nat) = 2 from rfl, show (2 + 1 : Nat) = 3 from rfl]; rw [t1, t2, t3]; omega
  rw [fin_good zs p 4 _ _ ?_ (by rw [ha]; omega) (by rw [ha]; exact hm), ha]
  · rfl
  · intro m hm'
    rcases (by omega : m = 0 ∨ m = 1 ∨ m = 2) with rfl | rfl | rfl
    · rw [Nat.zero_add, t1]; omega
    · rw [show (1 + 1 : Nat) = 2 from rfl, t2]; omega
    · rw [show (2 + 1 : Nat) = 3 from rfl, t3]; omega

theorem rb_some {r : Int} (hm : mayB r = true) : 1 ≤ (rb r).length := by
  unfold rb; rw [if_neg (by rw [hm]; decide)]; repeat' split
  all_goals simp
theorem rb_none {r : Int} (hm : mayB r = false) : rb r = [] := by unfold rb; rw [if_pos hm]

theorem rb_bytes (r : Int) : Bytes (rb r) := by
  cases hm : mayB r
  · rw [rb_none hm]; intro z hz; simp at hz
  · obtain ⟨b0, b1⟩ := mayB_bd hm
    unfold rb
    rw [if_neg (by rw [hm]; decide)]
    intro z hz
    by_cases h1 : r < 128
    · rw [if_pos h1] at hz; simp at hz; omega
    rw [if_neg h1] at hz
    by_cases h2 : r < 2048
    · rw [if_pos h2] at hz; simp at hz; omega
    rw [if_neg h2] at hz
    by_cases h3 : r < 65536
    · rw [if_pos h3] at hz; simp at hz; omega
    rw [if_neg h3] at hz; simp at hz; omega
theorem Bytes.app {a b : List Int} (ha : Bytes a) (hb : Bytes b) : Bytes (a ++ b) := fun z hz => (List.mem_append.1 hz).elim (ha z) (hb z)
theorem Bytes.one {z : Int} (h : 0 ≤ z ∧ z ≤ 255) : Bytes [z] := fun y hy => by simp at hy; subst hy; exact h
theorem fin_inv {zs : List Int} {p n : Nat} {r0 least : Int} (h : ¬ fin zs p n r0 least = (65533, 1)) :
    (∀ m, m < n - 1 → 0 ≤ tl zs (p + (m + 1))) ∧ least ≤ acc zs p r0 (n - 1) ∧ mayB (acc zs p r0 (n - 1)) = true ∧ fin zs p n r0 least = (acc zs p r0 (n - 1), (n : Int)) := by
  unfold fin at h ⊢
  by_cases hc : (∀ m, m < n - 1 → 0 ≤ tl zs (p + (m + 1))) ∧ least ≤ acc zs p r0 (n - 1) ∧ mayB (acc zs p r0 (n - 1)) = true
  · rw [if_pos hc]; exact ⟨hc.1, hc.2.1, hc.2.2, rfl⟩
  · rw [if_neg hc] at h; exact absurd rfl h
theorem tl_inv {zs : List Int} {j : Nat} (h : 0 ≤ tl zs j) : j < zs.length ∧ 128 ≤ zs.getD j 0 ∧ zs.getD j 0 ≤ 191 ∧ tl zs j = zs.getD j 0 % 64 := by
  unfold tl at h ⊢
  by_cases hc : j < zs.length ∧ 128 ≤ zs.getD j 0 ∧ zs.getD j 0 ≤ 191
  · rw [if_pos hc]; exact ⟨hc.1, hc.2.1, hc.2.2, rfl⟩
  · rw [if_neg hc] at h; omega
theorem drop_one (zs : List Int) (p : Nat) (h : p < zs.length) : zs.drop p = zs.getD p 0 :: zs.drop (p + 1) := by
  rw [List.drop_eq_getElem_cons h]; simp [List.getD, h]

/-- The bytes where a rune was found, not the bad one of one byte, are its bytes. -/
theorem rb_drune (zs : List Int) (hb : Bytes zs) (p : Nat) (hp : p < zs.length) (hg : ¬ drune zs p = (65533, 1)) : rb (drune zs p).1 = (zs.drop p).take (drune zs p).2.toNat := by
  have hz := hb.at p
  rw [drop_one zs p hp]
  unfold drune at hg ⊢
  by_cases h1 : zs.getD p 0 < 128
  · rw [if_pos h1]
    have hm : mayB (zs.getD p 0) = true := by generalize zs.getD p 0 = z at *; simp [mayB]; omega
    unfold rb
    rw [if_neg (by rw [hm]; decide), if_pos h1]
    simp
  rw [if_neg h1] at hg ⊢
  by_cases h2 : 194 ≤ zs.getD p 0 ∧ zs.getD p 0 ≤ 223
  · rw [if_pos h2] at hg ⊢
    obtain ⟨ht, hl, hm, he⟩ := fin_inv hg
    obtain ⟨j1, a1, b1, c1⟩ := tl_inv (ht 0 (by omega))
    rw [he]
    simp only [Nat.zero_add, show (2 - 1 : Nat) = 1 from rfl, acc] at *
    rw [c1] at hl hm ⊢
    rw [drop_one zs (p + 1) j1]
    generalize zs.getD p 0 = z at *
    generalize zs.getD (p + 1) 0 = y at *
    unfold rb
    rw [if_neg (by rw [hm]; decide), if_neg (by omega), if_pos (by omega)]
    show _ = [z, y]
    congr 1
    · omega
    · congr 1; omega
  rw [if_neg h2] at hg ⊢
  by_cases h3 : 224 ≤ zs.getD p 0 ∧ zs.getD p 0 ≤ 239
  · rw [if_pos h3] at hg ⊢
    obtain ⟨ht, hl, hm, he⟩ := fin_inv hg
    obtain ⟨j1, a1, b1, c1⟩ := tl_inv (ht 0 (by omega))
    obtain ⟨j2, a2, b2, c2⟩ := tl_inv (ht 1 (by omega))
    rw [he]
    simp only [Nat.zero_add, show (3 - 1 : Nat) = 2 from rfl, show (1 + 1 : Nat) = 2 from rfl, acc] at *
    rw [c1, c2] at hl hm ⊢
    rw [drop_one zs (p + 1) j1, show p + 1 + 1 = p + 2 from rfl, drop_one zs (p + 2) j2]
    generalize zs.getD p 0 = z at *
    generalize zs.getD (p + 1) 0 = y at *
    generalize zs.getD (p + 2) 0 = x at *
    unfold rb
    rw [if_neg (by rw [hm]; decide), if_neg (by omega), if_neg (by omega), if_pos (by omega)]
    show _ = [z, y, x]
    congr 1
    · omega
    · congr 1
      · omega
      · congr 1; omega
  rw [if_neg h3] at hg ⊢
  by_cases h4 : 240 ≤ zs.getD p 0 ∧ zs.getD p 0 ≤ 244
  · rw [if_pos h4] at hg ⊢
    obtain ⟨ht, hl, hm, he⟩ := fin_inv hg
    obtain ⟨j1, a1, b1, c1⟩ := tl_inv (ht 0 (by omega))
    obtain ⟨j2, a2, b2, c2⟩ := tl_inv (ht 1 (by omega))
    obtain ⟨j3, a3, b3, c3⟩ := tl_inv (ht 2 (by omega))
    rw [he]
    simp only [Nat.zero_add, show (4 - 1 : Nat) = 3 from rfl, show (1 + 1 : Nat) = 2 from rfl, show (2 + 1 : Nat) = 3 from rfl, acc] at *
    rw [c1, c2, c3] at hl hm ⊢
    rw [drop_one zs (p + 1) j1, show p + 1 + 1 = p + 2 from rfl, drop_one zs (p + 2) j2, show p + 2 + 1 = p + 3 from rfl, drop_one zs (p + 3) j3]
    generalize zs.getD p 0 = z at *
    generalize zs.getD (p + 1) 0 = y at *
    generalize zs.getD (p + 2) 0 = x at *
    generalize zs.getD (p + 3) 0 = u at *
    unfold rb
    rw [if_neg (by rw [hm]; decide), if_neg (by omega), if_neg (by omega), if_neg (by omega)]
    show _ = [z, y, x, u]
    congr 1
    · omega
    · congr 1
      · omega
      · congr 1
        · omega
        · congr 1; omega
  · rw [if_neg h4] at hg
    exact absurd rfl hg

end Go.Proofs.YtckolgaalkohlaaDoor
