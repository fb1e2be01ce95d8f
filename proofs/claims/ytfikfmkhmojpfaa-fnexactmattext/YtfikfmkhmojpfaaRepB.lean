/-
  slices.Repeat of a nought as a byte: a row of so many.
-/
import Derived.Test.YtfikfmkhmojpfaaInsT
import Derived.Shelf.Bits.Mul64
namespace Go.Proofs.Ytfikfmkhmojpfaa
open Go.RowKit Go.Lib Go.Shelf
set_option linter.unusedVariables false
set_option linter.unusedSimpArgs false
set_option maxRecDepth 8000

theorem in_Mul64_b : ∀ (w : World) (args : Array Value), (callFunc 113 args).run Try.prog w = .ok (.enter 113 args) w := enters Try.func113 (by decide) (fun h => by cases h)

set_option maxHeartbeats 1000000 in
theorem mul64_b (x y : Nat) (hx : x < 18446744073709551616) (hy : y < 18446744073709551616) (w : World) :
    Calls Try.prog 113 #[.int .u64 x, .int .u64 y] w fun e w' => e = .returned (.tuple #[.int .u64 ((x * y / 18446744073709551616 : Nat) : Int), .int .u64 ((x * y % 18446744073709551616 : Nat) : Int)]) ∧ w' = w := by
  obtain ⟨bd, bt, bw, hhi⟩ := Lib.mul64_hi x y hx hy
  have ba := Lib.half_mul_le (a := x / 4294967296) (b := y / 4294967296) (by omega) (by omega)
  have bb := Lib.half_mul_le (a := x / 4294967296) (b := y % 4294967296) (by omega) (by omega)
  have bc := Lib.half_mul_le (a := x % 4294967296) (b := y / 4294967296) (by omega) (by omega)
  have ba' : x / 4294967296 * (y / 4294967296) < 18446744073709551616 := by omega
  have bb' : x / 4294967296 * (y % 4294967296) < 18446744073709551616 := by omega
  have bc' : x % 4294967296 * (y / 4294967296) < 18446744073709551616 := by omega
  have bh1 : x / 4294967296 * (y / 4294967296) + (x / 4294967296 * (y % 4294967296) + x % 4294967296 * (y % 4294967296) / 4294967296) / 4294967296 < 18446744073709551616 := by omega
  have bh : x / 4294967296 * (y / 4294967296) + (x / 4294967296 * (y % 4294967296) + x % 4294967296 * (y % 4294967296) / 4294967296) / 4294967296 + ((x / 4294967296 * (y % 4294967296) + x % 4294967296 * (y % 4294967296) / 4294967296) % 4294967296 + x % 4294967296 * (y / 4294967296)) / 4294967296 < 18446744073709551616 := by omega
  go_enter Try.func113, Try.ntmps113
  go_wp2
  simp only [Mul64.maskN x hx, Mul64.maskN y hy, Mul64.divN, Mul64.mulN, Mul64.addN, Mul64.wrapN _ bd, Mul64.wrapN _ bb', Mul64.wrapN _ bt, Mul64.maskN _ bt, Mul64.wrapN _ bc', Mul64.wrapN _ bw, Mul64.wrapN _ ba', Mul64.wrapN _ bh1, Mul64.wrapN _ bh, Mul64.wrapM (x * y)]
  rw [hhi]
  go_ret2
  exact ⟨rfl, rfl⟩

set_option maxHeartbeats 1000000 in
theorem mul_one_b (m : Nat) (hm : m ≤ 1000000) (w : World) :
    Calls Try.prog 97 #[.int .u64 1, .int .u64 (m : Int)] w fun e w' => e = .returned (.tuple #[.int .u64 0, .int .u64 (m : Int)]) ∧ w' = w := by
  have c64 := mul64_b 1 m (by omega) (by omega) w
  rw [Nat.one_mul, Nat.div_eq_of_lt (by omega), Nat.mod_eq_of_lt (by omega)] at c64
  go_enter Try.func97, Try.ntmps97
  go_wp2_with (go_at_call 113; refine c64.mono ?_; rintro e w' ⟨rfl, rfl⟩)
  go_ret2
  exact ⟨rfl, rfl⟩

set_option maxHeartbeats 4000000 in
theorem repeatB_impl (m : Nat) (h1 : 1 ≤ m) (hm : m ≤ 100000) (w : World) (vb : Nat) (hx : w.cell? ⟨vb, 0, none⟩ = some (.int .u8 48)) :
    Calls Try.prog 73 #[.slice (some ⟨vb, 0, none⟩) 1 1, .int .i64 (m : Int)] w fun e w' => ∃ g c, e = .returned (.slice (some ⟨g, 0, none⟩) m c) ∧ m ≤ c ∧ w.heap.size ≤ g ∧ (∀ j, j < m → w'.cell? ⟨g, 0 + j, none⟩ = some (.int .u8 48)) ∧ Kept 0 0 w w' := by
  have mixed : Try.prog.follows .mixedOrders = true := by kernel_rfl
  obtain ⟨i0, hi0, hz0, hz1, hz2⟩ := info_parts infoB8
  have hsz : (Try.prog.info? 5).map (·.size) = some 1 := by rw [hi0]; simp [hz1]
  have hbv : vb < w.heap.size := block_lt_of_cell hx
  have cm := mul_one_b m (by omega) w
  have hp1 : ¬ ((m : Int) < 0) := by omega
  have hp2 : ¬ ((m : Int) > 9223372036854775807) := by omega
  have hu : IntKind.u64.wrap (m : Int) = (m : Int) := by rw [IntKind.wrap_u64]; omega
  have hi : IntKind.i64.wrap (m : Int) = (m : Int) := by rw [IntKind.wrap_i64]; omega
  go_enter Try.func73, Try.ntmps73
  go_wp2_with (first
    | (go_at_call 97; refine cm.mono ?_; rintro e w9 ⟨rfl, hw⟩; rw [hw]; clear hw)
    | (at_make; refine wpList_make_full _ rfl _ _ 30 rfl w.heap.size 5 i0 (.int .u8 0) 1 Try.underlying30 hi0 hz0 hz1 .i64 .i64 _ _ m rfl rfl rfl rfl (by rw [hz2]; omega) (by unfold maxLen; omega) (Nat.le_refl _) ?_))
  intro w1 hown hgrow
  have k0 : Kept 0 0 w w1 := ⟨hgrow.os, hgrow.tape, hgrow.output, hgrow.size, fun i hi _ => hgrow.block i hi (by simp)⟩
  have rm := room_own hown
  have hx1 := k0.cell0 hx
  obtain ⟨G, hG⟩ : ∃ G, G = w.heap.size := ⟨_, rfl⟩
  have hvG : vb ≠ G := by omega
  rw [← hG] at rm ⊢
  have hcp0 : ∀ ty, (Builtin.copy_ #[30, 30] ty #[.slice (some ⟨G, 0, none⟩) m m, .slice (some ⟨vb, 0, none⟩) 1 1]).run Try.prog w1 = .ok (goInt ([Value.int .u8 48]).length) (w1.setCells G 0 [Value.int .u8 48]) := fun ty =>
    run_copy_cells w1 _ _ ty 5 G 0 m m ⟨vb, 0, none⟩ 1 1 [Value.int .u8 48] Try.underlying30 hsz (by simp only [List.length_singleton, Nat.min_def]; split <;> omega)
      (fun j v hj => by
        have hj0 : j = 0 := by
          rcases j with _ | j
          · rfl
          · simp at hj
        subst hj0
        rw [Addr.add_lit]
        have hv : Value.int .u8 48 = v := by simpa using hj
        rw [← hv]
        exact hx1)
      (fun j hj => rm.some _ (by simp at hj; omega)) (fun j hj => rm.loose _ (by simp at hj; omega)) (fun v hv => by rw [List.mem_singleton.1 hv]; rfl)
  obtain ⟨W1, hW1⟩ : ∃ W1, W1 = w1.setCells G 0 [Value.int .u8 48] := ⟨_, rfl⟩
  rw [← hW1] at hcp0
  have k1 : Kept 0 0 w W1 := by rw [hW1, hG]; exact (k0.setNew (p := ⟨w.heap.size, 0, none⟩) (Nat.le_refl _) (.int .u8 48))
  have s1 : Same G w1 W1 := by rw [hW1]; exact (Same.refl G w1).set 0 (.int .u8 48)
  have rm1 := rm.same s1
  have c1 : W1.cell? ⟨G, 0, none⟩ = some (.int .u8 48) := by
    rw [hW1]
    have := World.cell?_setCells_in G [Value.int .u8 48] 0 w1 (fun j hj => rm.some _ (by simp at hj; omega)) 0 (by simp)
    simpa using this
  have RM1 := hide rm1
  have K1 := hide k1
  have C1 := hide c1
  have HG := hide hG
  have D1 : Hid (∀ j, j < 1 → W1.cell? ⟨G, 0 + j, none⟩ = some (.int .u8 48)) := by
    intro j hj
    obtain rfl : j = 0 := by omega
    exact unhide C1
  clear hown hgrow k0 rm hx1 s1 k1 c1 rm1 hW1 hG
  go_wp2_with (at_builtin; refine wpList_copy_runI _ rfl _ _ 30 30 rfl _ _ rfl rfl (hcp0 _) ?_)
  go_loopw [8] (fun s8 wr => ∃ k : Nat, s8 = .int .i64 k ∧ 1 ≤ k ∧ k ≤ m ∧ Hid (Room wr G 0 m) ∧ Hid (∀ j, j < k → wr.cell? ⟨G, 0 + j, none⟩ = some (.int .u8 48)) ∧ Hid (Kept 0 0 w wr)) (fun s8 _ => m - (RowKit.intOf s8).toNat)
  case atStart => exact ⟨1, rfl, by omega, h1, RM1, D1, K1⟩
  case round =>
    obtain ⟨k, rfl, hk1, hkm, hR, hC, hK⟩ := hrel
    by_cases hlt : k < m
    · obtain ⟨t, ht⟩ : ∃ t, t = min (m - k) k := ⟨_, rfl⟩
      have ht0 : 0 < t := by omega
      have htk : t ≤ k := by omega
      have htm : k + t ≤ m := by omega
      have hvs : (List.replicate t (Value.int .u8 48)).length = t := List.length_replicate
      have hcp : ∀ ty dc sc, (Builtin.copy_ #[30, 30] ty #[.slice (some ⟨G, k, none⟩) (m - k) dc, .slice (some ⟨G, 0, none⟩) k sc]).run Try.prog wr.drew = .ok (goInt (List.replicate t (Value.int .u8 48)).length) (wr.drew.setCells G k (List.replicate t (Value.int .u8 48))) := fun ty dc sc =>
        run_copy_cells wr.drew _ _ ty 5 G k (m - k) dc ⟨G, 0, none⟩ k sc _ Try.underlying30 hsz (by rw [hvs, ht]; exact Nat.min_comm _ _)
          (fun j v hj => by
            have hjt : j < t := by
              rcases Nat.lt_or_ge j t with h | h
              · exact h
              · rw [List.getElem?_eq_none (by rw [hvs]; exact h)] at hj; cases hj
            rw [List.getElem?_replicate, if_pos hjt] at hj
            injection hj with hj
            rw [Addr.add_lit, ← hj]
            exact unhide hC j (by omega))
          (fun j hj => by have := (unhide hR).some (k + j) (by rw [hvs] at hj; omega); rwa [Nat.zero_add] at this) (fun j hj => by have := (unhide hR).loose (k + j) (by rw [hvs] at hj; omega); rwa [Nat.zero_add] at this) (fun v hv => by rw [(List.mem_replicate.1 hv).2]; rfl)
      rw [hvs] at hcp
      have hwk : IntKind.i64.wrap ((k : Int) + (t : Int)) = ((k + t : Nat) : Int) := by rw [IntKind.wrap_i64]; omega
      obtain ⟨W3, hW3⟩ : ∃ W3, W3 = wr.drew.setCells G k (List.replicate t (Value.int .u8 48)) := ⟨_, rfl⟩
      rw [← hW3] at hcp
      have kk : ∀ (vs : List Value) (o : Nat) {V : World}, Kept 0 0 w V → Kept 0 0 w (V.setCells w.heap.size o vs) := fun vs => by
        induction vs with
        | nil => intro o V h; exact h
        | cons v rr ih =>
          intro o V h
          rw [World.setCells]
          exact ih (o + 1) (h.setNew (p := ⟨w.heap.size, o, none⟩) (Nat.le_refl _) v)
      have K3 : Hid (Kept 0 0 w W3) := by
        show Kept _ _ _ _
        rw [hW3, unhide HG]
        exact kk _ _ (unhide hK).drew
      have R3 : Hid (Room W3 G 0 m) := by
        refine ⟨fun j hj => ?_, fun j hj => ?_⟩
        · rw [hW3]
          exact isSome_setCells G _ _ _ (fun q hq => by have := (unhide hR).some (k + q) (by rw [hvs] at hq; omega); rwa [Nat.zero_add] at this) _ ((unhide hR).some j hj)
        · rw [hW3, World.frozen?_setCells]
          exact (unhide hR).loose j hj
      have C3 : Hid (∀ j, j < k + t → W3.cell? ⟨G, 0 + j, none⟩ = some (.int .u8 48)) := by
        intro j hj
        rw [hW3]
        by_cases hjk : j < k
        · rw [World.cell?_setCells_out G _ _ _ _ (fun _ _ => .inl (by show 0 + j < k; omega))]
          exact unhide hC j hjk
        · have := World.cell?_setCells_in G (List.replicate t (Value.int .u8 48)) k wr.drew (fun q hq => by have := (unhide hR).some (k + q) (by rw [hvs] at hq; omega); rwa [Nat.zero_add] at this) (j - k) (by rw [hvs]; omega)
          rw [show k + (j - k) = 0 + j by omega] at this
          rw [this]
          simp
      clear hW3 kk ht
      have hb1 : (0 : Int) ≤ (k : Int) := by omega
      have hmk : ¬ (m = k) := by omega
      go_wp2_with fail
      go_region_law_o (refine step_copy_runI rfl _ _ 30 30 rfl (.slice (some ⟨G, k, none⟩) (m - k) (m - k)) (.slice (some ⟨G, 0, none⟩) k m) (by simp [Act.eval, Act.put]) (by simp [Act.eval, Act.put]) (hcp 3 (m - k) m) ?_)
      try simp only [Act.put, List.getElem_toArray, List.getElem_cons_succ, List.getElem_cons_zero, List.setIfInBounds_toArray, List.set_cons_zero, List.set_cons_succ]
      go_roundw
      case rel => exact ⟨_, _, _, _, _, _, _, _, _, _, _, _, _, _, ⟨k + t, by simp, by omega, htm, R3, C3, K3⟩, rfl⟩
      case measure => simp [RowKit.intOf]; omega
    · have hkm' : k = m := by omega
      subst hkm'
      go_wp2
      go_ret
      exact ⟨G, _, rfl, Nat.le_refl _, by rw [unhide HG]; exact Nat.le_refl _, unhide hC, unhide hK⟩

end Go.Proofs.Ytfikfmkhmojpfaa
