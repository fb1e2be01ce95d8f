/-
  The program's iterator over decimal digits, the lowest first: it copies the number and takes the digits off the copy.
-/
import Derived.Test.YtmmlembpfmichaaRgF
import Derived.Test.YtmmlembpfmichaaINat22
import Derived.Test.YtmmlembpfmichaaINat26
import Derived.Test.YtmmlembpfmichaaTxt1
import Derived.Test.YtmmlembpfmichaaTxt2
import Derived.Sort.LoopGhostIn
namespace Go.Proofs.Ytmmlembpfmichaa
open Go.RowKit Go.Shelf
set_option linter.unusedVariables false
set_option maxRecDepth 8000
attribute [local go_sem] Oper.semAt_some

/-- The decimal digits, the lowest first; none of nought. -/
def ddig (n : Nat) : List Int := (tdig n).map (fun z => z - 48)
theorem ddig_zero : ddig 0 = [] := rfl
theorem ddig_step {n : Nat} (h : n ≠ 0) : ddig n = ((n % 10 : Nat) : Int) :: ddig (n / 10) := by
  unfold ddig
  rw [tdig_step h, List.map_cons]
  congr 1
  omega

theorem limbs_mono {a b : Nat} (h : a ≤ b) : (limbs a).length ≤ (limbs b).length := (limbs_length_le a _).2 (by
  have := (limbs_length_le b (limbs b).length).1 (Nat.le_refl _)
  omega)
theorem Mod.win {g lo hi : Nat} {u : Value} {w w' : World} (m : Mod (Own1 g u) w w') (h1 : lo ≤ g) (h2 : g < hi) (hu : ∀ i, u.ownBlock = some i → lo ≤ i ∧ i < hi) : Kept lo hi w w' :=
  ⟨m.os, m.tape, m.output, m.size, fun i hi' ho => m.block i hi' (fun e => by rcases e with e | e; omega; have := hu i e; omega)⟩

set_option maxHeartbeats 4000000 in
theorem digits1_own {b g Bn : Nat} {v : Value} {N : Nat} (n : Nat) (hn : 1 ≤ n) (w : World) (h : Num b w g v (limbs N)) (hB : w.cell? ⟨Bn, 0, none⟩ = some (.pointer (some ⟨g, 0, none⟩))) (nx : (limbs N).length ≤ 100000) :
    SeqOwn Fence.wide n Try.prog 35 #[.pointer (some ⟨Bn, 0, none⟩)] (fun x : Int => #[.int .i64 x]) (ddig N) w := by
  intro l J W k h0 hk hY
  have nW := h.kept k
  have cB := k.cell0 hB
  clear h hB k
  have hcp := copied_impl W nW (by omega)
  obtain ⟨LN, hLN⟩ : ∃ LN, LN = limbs N := ⟨_, rfl⟩
  rw [← hLN] at hcp
  have HLN := hide hLN
  clear hLN
  refine callsIn_of_wp Try.func35 rfl trivial ?_ rfl
  simp only [Try.ntmps35, List.size_toArray, List.length_cons, List.length_nil, Nat.reduceAdd, Nat.reduceSub, Array.replicate_succ, Array.replicate_zero, List.push_toArray, List.append_toArray, List.nil_append, List.cons_append]
  gi_wp2_with (refine ⟨trivial, ?_⟩; gi_at_call 36; refine (callsIn_wide.2 hcp).mono ?_; rintro e w1 ⟨v1, rfl, o1, k1⟩; obtain ⟨a1, c1, hv1⟩ := own_slice o1; subst hv1)
  have hLN := unhide HLN
  subst hLN
  have n1 := Num.new 40 o1
  have ks := k1.size
  have hown : ∀ i, (Value.slice a1 (limbs N).length c1).ownBlock = some i → W.heap.size ≤ i ∧ i < w1.heap.size + 1 := fun i hi => by have := o1.lt i hi; omega
  have J1 := h0 (w1.heap.size + 1) _ (k1.alloc (.cells #[.slice a1 (limbs N).length c1] 40)) (by simp)
  obtain ⟨w2, hw2⟩ : ∃ w2, w1.alloc (.cells #[.slice a1 (limbs N).length c1] 40) = w2 := ⟨_, rfl⟩
  have HW := hide hw2
  rw [hw2] at n1 J1
  clear hw2
  clear hcp HLN nW cB k1 o1
  gi_loopg [] N (fun k wr => ∃ (m : Nat) (pre : List Int) (u : Value), Hid (ddig N = pre ++ ddig m) ∧ m ≤ k ∧ m ≤ N ∧ Num W.heap.size wr w1.heap.size u (limbs m) ∧ Hid (∀ i, u.ownBlock = some i → W.heap.size ≤ i ∧ i < w1.heap.size + 1) ∧ Hid (J (w1.heap.size + 1) pre wr))
  case atStart => exact ⟨N, [], _, hide rfl, Nat.le_refl _, Nat.le_refl _, unhide HW ▸ n1, hown, unhide HW ▸ J1⟩
  case round =>
    obtain ⟨m, pre, u, hd, hm, hmN, nm, hu, hJ⟩ := hrel
    have hz := isZero_impl wr nm
    by_cases h0 : m = 0
    · subst h0
      rw [limbs_zero, decide_eq_true (by rfl)] at hz
      gi_wp2_with (refine ⟨trivial, ?_⟩; gi_at_call 26; refine (callsIn_wide.2 hz).mono ?_; rintro e w3 ⟨rfl, rfl⟩)
      go_end0
      refine ⟨⟨_, rfl⟩, w1.heap.size + 1, ?_⟩
      have := unhide hd
      rw [ddig_zero, List.append_nil] at this
      rw [this]
      exact unhide hJ
    · rw [decide_eq_false (fun e => h0 (limbs_eq_nil.1 (List.length_eq_zero_iff.1 e)))] at hz
      have hD2 : ddig N = pre ++ ((m : Int) % 10) :: ddig (m / 10) := by rw [unhide hd, ddig_step h0]; simp
      have ht := takeDigit_impl wr nm (limbs_lim m) (by have := limbs_mono hmN; omega)
      rw [limbs_val] at ht
      gi_wp2_with (first | (refine ⟨trivial, ?_⟩; gi_at_call 26; refine (callsIn_wide.2 hz).mono ?_; rintro e w3 ⟨rfl, rfl⟩) | (refine ⟨trivial, ?_⟩; gi_at_call 37; refine (callsIn_wide.2 ht).mono ?_; rintro e w5 ⟨rfl, u3, n3, e3, m3⟩; have kk : Kept W.heap.size (w1.heap.size + 1) w3 w5 := m3.win ks (Nat.lt_succ_self _) (unhide hu); have hJ3 := hk _ _ _ _ (unhide hJ) kk; obtain ⟨fn, tmps, assign, body, hy, hR⟩ := hY (w1.heap.size + 1) pre ((m : Int) % 10) (ddig (m / 10)) w5 hD2 hJ3; clear hJ3 kk))
      refine hR.mono ?_
      rintro e w4 ⟨rfl, J4, m4⟩
      have hu3 : ∀ i, u3.ownBlock = some i → W.heap.size ≤ i ∧ i < w1.heap.size + 1 := fun i hi => unhide hu i (e3 ▸ hi)
      have n4 := n3.mod m4 (by unfold Out; omega) (fun i hi => by have := hu3 i hi; unfold Out; omega)
      have em : ((m : Int) / 10).toNat = m / 10 := by omega
      rw [em] at n4
      have H4 := hide J4
      have HD := hide hD2
      clear hD2 J4 em hR hy hY hk
      gi_wp2
      gi_roundg (m / 10)
      case measure => omega
      case rel => exact ⟨m / 10, pre ++ [(m : Int) % 10], u3, by show _ = _; rw [unhide HD]; simp, Nat.le_refl _, by omega, n4, hu3, H4⟩

end Go.Proofs.Ytmmlembpfmichaa
