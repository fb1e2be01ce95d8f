/-
  Natural numbers as lists of limbs to the base 65536, the lowest first: their value, their one normal form, and what is known of both. Nothing of the program, nothing of worlds.
-/
import Derived.WalkKit
namespace Go.Proofs.Ytdhponfpikclhaa

/-- The number that limbs stand for. -/
def val : List Int → Int
  | [] => 0
  | x :: t => x + 65536 * val t
/-- Each limb in 0 .. 65535. -/
def Lim (zs : List Int) : Prop := ∀ z ∈ zs, 0 ≤ z ∧ z ≤ 65535
/-- Limbs, the last one not nought. -/
def Nrm (zs : List Int) : Prop := Lim zs ∧ ∀ z, zs.getLast? = some z → z ≠ 0
def limbsF : Nat → Nat → List Int
  | 0, _ => []
  | f + 1, n => if n = 0 then [] else ((n % 65536 : Nat) : Int) :: limbsF f (n / 65536)
/-- The limbs of a number, no needless nought. -/
def limbs (n : Nat) : List Int := limbsF n n

theorem pow_nat (k : Nat) : (65536 : Int) ^ k = ((65536 ^ k : Nat) : Int) := by simp
theorem pow_mono {a b : Nat} (h : a ≤ b) : (65536 : Int) ^ a ≤ 65536 ^ b := by
  rw [pow_nat, pow_nat]
  exact Int.ofNat_le.2 (Nat.pow_le_pow_right (by decide) h)
theorem val_append (xs ys : List Int) : val (xs ++ ys) = val xs + 65536 ^ xs.length * val ys := by
  induction xs with
  | nil => simp [val]
  | cons x t ih =>
    simp only [List.cons_append, val, ih, List.length_cons, Int.pow_succ]
    rw [Int.mul_add, Int.mul_comm (65536 ^ t.length) 65536, Int.mul_assoc, Int.add_assoc]
theorem val_nonneg {zs : List Int} (h : Lim zs) : 0 ≤ val zs := by
  induction zs with
  | nil => simp [val]
  | cons x t ih =>
    have hx := h x (by simp)
    have := ih (fun z hz => h z (by simp [hz]))
    simp only [val]; omega
theorem val_lt {zs : List Int} (h : Lim zs) : val zs < 65536 ^ zs.length := by
  induction zs with
  | nil => simp [val]
  | cons x t ih =>
    have hx := h x (by simp)
    have := ih (fun z hz => h z (by simp [hz]))
    simp only [val, List.length_cons, Int.pow_succ]
    generalize (65536 : Int) ^ t.length = P at *
    omega
theorem limbsF_val : ∀ f n, n ≤ f → val (limbsF f n) = n
  | 0, n, h => by have : n = 0 := by omega
                  subst this; rfl
  | f + 1, n, h => by
    unfold limbsF
    split
    · rename_i h0; subst h0; rfl
    · simp only [val]
      rw [limbsF_val f (n / 65536) (by omega)]
      omega
theorem limbs_val (n : Nat) : val (limbs n) = n := limbsF_val n n (Nat.le_refl _)
theorem limbsF_lim : ∀ f n, Lim (limbsF f n)
  | 0, n => by intro z hz; simp [limbsF] at hz
  | f + 1, n => by
    intro z hz
    unfold limbsF at hz
    split at hz
    · simp at hz
    · rcases List.mem_cons.1 hz with h | h
      · subst h; omega
      · exact limbsF_lim f _ z h
theorem limbs_lim (n : Nat) : Lim (limbs n) := limbsF_lim n n
theorem limbsF_last : ∀ f n, n ≤ f → ∀ z, (limbsF f n).getLast? = some z → z ≠ 0
  | 0, n, h, z, hz => by simp [limbsF] at hz
  | f + 1, n, h, z, hz => by
    unfold limbsF at hz
    split at hz
    · simp at hz
    · rename_i h0
      by_cases h1 : n / 65536 = 0
      · have e : limbsF f (n / 65536) = [] := by rw [h1]; cases f <;> simp [limbsF]
        rw [e] at hz
        simp at hz
        subst hz; omega
      · have hne : limbsF f (n / 65536) ≠ [] := by
          intro e
          have := limbsF_val f (n / 65536) (by omega)
          rw [e] at this
          simp [val] at this; omega
        rw [List.getLast?_cons_of_ne_nil hne] at hz
        exact limbsF_last f (n / 65536) (by omega) z hz
theorem limbs_nrm (n : Nat) : Nrm (limbs n) := ⟨limbs_lim n, limbsF_last n n (Nat.le_refl _)⟩
theorem Nrm.tail {x : Int} {t : List Int} (h : Nrm (x :: t)) : Nrm t :=
  ⟨fun z hz => h.1 z (by simp [hz]), fun z hz => h.2 z (by
    cases t with
    | nil => simp at hz
    | cons y s => simpa using hz)⟩
theorem nrm_nil {zs : List Int} (h : Nrm zs) (h0 : val zs = 0) : zs = [] := by
  induction zs with
  | nil => rfl
  | cons x t ih =>
    exfalso
    have hx := h.1 x (by simp)
    have ht := h.tail
    have hv := val_nonneg ht.1
    simp only [val] at h0
    have ht0 : t = [] := ih ht (by omega)
    subst ht0
    simp [val] at h0
    exact h.2 x (by simp) h0
theorem nrm_unique : ∀ {xs ys : List Int}, Nrm xs → Nrm ys → val xs = val ys → xs = ys
  | [], ys, _, hy, h => (nrm_nil hy (by simpa [val] using h.symm)).symm
  | x :: t, [], hx, _, h => nrm_nil hx (by simpa [val] using h)
  | x :: t, y :: s, hx, hy, h => by
    have a := hx.1 x (by simp)
    have b := hy.1 y (by simp)
    simp only [val] at h
    have e : x = y := by omega
    have e2 : val t = val s := by omega
    rw [e, nrm_unique hx.tail hy.tail e2]
theorem nrm_limbs {zs : List Int} (h : Nrm zs) : zs = limbs (val zs).toNat :=
  nrm_unique h (limbs_nrm _) (by rw [limbs_val]; have := val_nonneg h.1; omega)
theorem limbs_inj {m n : Nat} (h : limbs m = limbs n) : m = n := by
  have := congrArg val h
  rw [limbs_val, limbs_val] at this; omega
theorem limbs_zero : limbs 0 = [] := rfl
theorem limbs_eq_nil {n : Nat} : limbs n = [] ↔ n = 0 := ⟨fun h => limbs_inj (by rw [h, limbs_zero]), fun h => by rw [h, limbs_zero]⟩
/-- A number has at most k limbs just if it is below the base to the power of k. -/
theorem nrm_pow {zs : List Int} (h : Nrm zs) (hne : zs ≠ []) : (65536 : Int) ^ (zs.length - 1) ≤ val zs := by
  induction zs with
  | nil => exact absurd rfl hne
  | cons x t ih =>
    have hx := h.1 x (by simp)
    by_cases ht : t = []
    · subst ht
      have := h.2 x (by simp)
      simp [val]; omega
    · have := ih h.tail ht
      have hl : t.length = (t.length - 1) + 1 := by have := List.length_pos_iff.2 ht; omega
      simp only [val, List.length_cons, Nat.add_sub_cancel]
      rw [hl, Int.pow_succ]
      generalize (65536 : Int) ^ (t.length - 1) = P at *
      omega
theorem limbs_length_le (n k : Nat) : (limbs n).length ≤ k ↔ (n : Int) < 65536 ^ k := by
  constructor
  · intro h
    have h1 := val_lt (limbs_lim n)
    rw [limbs_val] at h1
    exact Int.lt_of_lt_of_le h1 (pow_mono h)
  · intro h
    rcases Nat.lt_or_ge k (limbs n).length with h1 | h1
    · have hne : limbs n ≠ [] := by intro e; simp [e] at h1
      have h2 := nrm_pow (limbs_nrm n) hne
      rw [limbs_val] at h2
      have h3 : (65536 : Int) ^ k ≤ 65536 ^ ((limbs n).length - 1) := pow_mono (by omega)
      omega
    · exact h1

/-- Noughts at the high end taken away. -/
def strip (zs : List Int) : List Int := (zs.reverse.dropWhile (· == 0)).reverse
theorem val_zeros (n : Nat) : val (List.replicate n 0) = 0 := by
  induction n with
  | zero => rfl
  | succ n ih => simp [List.replicate_succ, val, ih]
/-- What is left of limbs when noughts at the end have gone, by the number of those that stay. -/
theorem take_limbs (zs : List Int) (h : Lim zs) (n : Nat) (hn : n ≤ zs.length) (hz : ∀ i, n ≤ i → i < zs.length → zs.getD i 0 = 0) (hl : n = 0 ∨ zs.getD (n - 1) 0 ≠ 0) : zs.take n = limbs (val zs).toNat := by
  have hd : zs.drop n = List.replicate (zs.length - n) 0 := by
    apply List.ext_getElem
    · simp
    · intro i h1 h2
      have := hz (n + i) (by omega) (by simp at h1; omega)
      simp at h1
      simp [List.getD] at this
      rw [List.getElem?_eq_getElem (by omega)] at this
      simpa using this
  have hv : val zs = val (zs.take n) := by
    conv => lhs; rw [← List.take_append_drop n zs, val_append, hd, val_zeros]
    simp
  have hnr : Nrm (zs.take n) := by
    refine ⟨fun z hz' => h z (List.mem_of_mem_take hz'), fun z hz' => ?_⟩
    rcases hl with h0 | h0
    · subst h0; simp at hz'
    · rw [List.getLast?_eq_getElem?] at hz'
      simp only [List.length_take, Nat.min_eq_left hn] at hz'
      by_cases hn0 : n = 0
      · subst hn0; simp at hz'
      · rw [List.getElem?_take_of_lt (by omega)] at hz'
        simp [List.getD, hz'] at h0
        exact h0
  rw [hv]
  exact nrm_limbs hnr
end Go.Proofs.Ytdhponfpikclhaa
