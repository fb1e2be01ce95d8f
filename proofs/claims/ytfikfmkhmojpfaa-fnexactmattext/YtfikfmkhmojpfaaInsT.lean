/-
  slices.Insert of one byte into a row of bytes: the row with the byte in it, in place or in a new row.
-/
import Derived.Test.YtfikfmkhmojpfaaInsR
namespace Go.Proofs.Ytfikfmkhmojpfaa
open Go.RowKit Go.Lib Go.Shelf
set_option linter.unusedVariables false
set_option linter.unusedSimpArgs false
set_option maxRecDepth 8000

theorem Kept.setCells {lo hi b : Nat} (hp : lo ≤ b) (hq : b < hi) : ∀ (vs : List Value) (o : Nat) {a w : World}, Kept lo hi a w → Kept lo hi a (w.setCells b o vs)
  | [], _, _, _, h => h
  | v :: r, o, a, w, h => by
    rw [World.setCells]
    exact Kept.setCells hp hq r (o + 1) (h.setCell (p := ⟨b, o, none⟩) hp hq v)
theorem ins_len {zs : List Int} {i : Nat} (x : Int) (h : i < zs.length) : (zs.take i ++ x :: zs.drop i).length = zs.length + 1 := by
  rw [List.length_append, List.length_cons, List.length_take, List.length_drop]
  omega
theorem ins_lo {zs : List Int} {i p : Nat} (x : Int) (h : i < zs.length) (hp : p < i) : (zs.take i ++ x :: zs.drop i).getD p 0 = zs.getD p 0 := by
  rw [List.getD_eq_getElem?_getD, List.getD_eq_getElem?_getD, List.getElem?_append_left (by rw [List.length_take]; omega), List.getElem?_take_of_lt hp]
theorem ins_at {zs : List Int} {i : Nat} (x : Int) (h : i < zs.length) : (zs.take i ++ x :: zs.drop i).getD i 0 = x := by
  have hl : (zs.take i).length = i := by rw [List.length_take]; omega
  rw [List.getD_eq_getElem?_getD, List.getElem?_append_right (by omega), hl, Nat.sub_self]
  rfl
theorem ins_hi {zs : List Int} {i p : Nat} (x : Int) (h : i < zs.length) (hp : i < p) : (zs.take i ++ x :: zs.drop i).getD p 0 = zs.getD (p - 1) 0 := by
  have hl : (zs.take i).length = i := by rw [List.length_take]; omega
  obtain ⟨q, rfl⟩ : ∃ q, p = i + 1 + q := ⟨p - (i + 1), by omega⟩
  rw [List.getD_eq_getElem?_getD, List.getD_eq_getElem?_getD, List.getElem?_append_right (by omega), hl, show i + 1 + q - i = q + 1 by omega, List.getElem?_cons_succ, List.getElem?_drop, show i + 1 + q - 1 = i + q by omega]

set_option maxHeartbeats 1000000 in
theorem insR_impl {lo hi g c i : Nat} {zs : List Int} {x : Int} (w : World) (r : Row .u8 true lo hi w (.slice (some ⟨g, 0, none⟩) zs.length c) zs) (rm : Room w g 0 c) (hi' : i < zs.length) (hb : zs.length ≤ 1000000) (vb : Nat) (hx : w.cell? ⟨vb, 0, none⟩ = some (.int .u8 x)) (hvb : vb ≠ g)
    (hsh : w.shape? vb = some (5, 1)) (hfa : w.frozen? ⟨vb, 0, none⟩ = false) (hfe : w.frozen? ⟨vb, 1, none⟩ = false) (hlo : lo ≤ w.heap.size) :
    Calls Try.prog 74 #[.slice (some ⟨g, 0, none⟩) zs.length c, .int .i64 (i : Int), .slice (some ⟨vb, 0, none⟩) 1 1] w fun e w' => ∃ v', e = .returned v' ∧ Row .u8 true lo w'.heap.size w' v' (zs.take i ++ x :: zs.drop i) ∧ Kept g (g + 1) w w' := by
  obtain ⟨a, c', hv, hnc, hcm, hcell⟩ := r
  injection hv with e1 e2 e3
  subst e1
  subst e3
  obtain ⟨g', off, hg', hlog, hhg, hgw, hc, hf⟩ := hcell (by intro e; rw [e] at hi'; simp at hi')
  injection hg' with e4
  injection e4 with e5 e6 e7
  subst e5
  subst e6
  unfold maxLen at hcm
  obtain ⟨n, hn⟩ : ∃ n, zs.length = n := ⟨_, rfl⟩
  obtain ⟨cs, hcs⟩ : ∃ cs, zs.map (Value.int .u8) = cs := ⟨_, rfl⟩
  have hcl : cs.length = n := by rw [← hcs, List.length_map, hn]
  have hat : ∀ j, j < n → cs[j]? = some (.int .u8 (zs.getD j 0)) := fun j hj => by
    rw [← hcs, List.getElem?_map, List.getElem?_eq_getElem (by omega), List.getD_eq_getElem?_getD, List.getElem?_eq_getElem (by omega)]
    rfl
  have hcc : ∀ j v, cs[j]? = some v → w.cell? ⟨g, 0 + j, none⟩ = some v := fun j v hj => by
    have hjn : j < n := by
      rcases Nat.lt_or_ge j n with h | h
      · exact h
      · rw [List.getElem?_eq_none (by omega)] at hj; cases hj
    rw [hat j hjn] at hj
    injection hj with hj
    rw [← hj]
    exact hc j (by omega)
  have h1c : ∀ v ∈ cs, v.oneCell' = true := fun v hv => by
    rw [← hcs] at hv
    obtain ⟨z, -, rfl⟩ := List.mem_map.1 hv
    rfl
  rw [hn] at hi' hnc hc hf ⊢
  rw [hn] at hb
  have hdl : (cs.drop i).length = n - i := by rw [List.length_drop, hcl]
  have hdat : ∀ j, j < n - i → (cs.drop i)[j]? = some (.int .u8 (zs.getD (i + j) 0)) := fun j hj => by rw [List.getElem?_drop]; exact hat _ (by omega)
  by_cases hroom : n + 1 ≤ c
  · obtain ⟨tB, kB, hsb, hk1, -⟩ := World.shape?_of_cell? (hc 0 (by omega))
    refine (insB_shift g 0 n c i vb cs (.int .u8 x) w hi' hroom (by omega) hvb hcl hcc (fun j hj => rm.some j (by omega)) (fun j hj => rm.loose j (by omega)) hx h1c rfl 5 tB 1 kB hsh hsb (by omega) hfa hfe).mono ?_
    rintro e w' ⟨rfl, rfl⟩
    obtain ⟨W1, hW1⟩ : ∃ W1, W1 = w.drew.setCells g (0 + (i + 1)) (cs.drop i) := ⟨_, rfl⟩
    rw [← hW1]
    have k1 : Kept g (g + 1) w W1 := by rw [hW1]; exact Kept.setCells (Nat.le_refl _) (Nat.lt_succ_self _) _ _ (Kept.refl _ _ _).drew
    have k2 := Kept.setCells (Nat.le_refl g) (Nat.lt_succ_self g) [.int .u8 x] (0 + i) k1
    have ks := k2.size
    have hsome1 : ∀ k, k < n + 1 → (W1.cell? ⟨g, 0 + k, none⟩).isSome = true := fun k hk => by
      rw [hW1]
      exact isSome_setCells g _ _ _ (fun j hj => by rw [Nat.add_assoc]; exact rm.some _ (by rw [hdl] at hj; omega)) _ (rm.some k (by omega))
    refine ⟨_, rfl, ⟨_, _, by rw [ins_len x (by omega), hn], by rw [ins_len x (by omega), hn]; exact hroom, by unfold maxLen; omega, fun _ => ⟨g, 0, rfl, hlog, by omega, by omega, ?_, ?_⟩⟩, k2⟩
    · intro p hp
      rw [ins_len x (by omega), hn] at hp
      rcases Nat.lt_trichotomy p i with h | h | h
      · rw [ins_lo x (by omega) h, World.cell?_setCells_out g _ _ _ _ (fun _ _ => .inl (by show 0 + p < 0 + i; omega)), hW1, World.cell?_setCells_out g _ _ _ _ (fun _ _ => .inl (by show 0 + p < 0 + (i + 1); omega))]
        exact hc p (by omega)
      · subst h
        rw [ins_at x (by omega)]
        have := World.cell?_setCells_in g [.int .u8 x] (0 + p) W1 (fun j hj => by simp at hj; subst hj; exact hsome1 p (by omega)) 0 (by simp)
        simpa using this
      · rw [ins_hi x (by omega) h, World.cell?_setCells_out g _ _ _ _ (fun _ _ => .inr (by show 0 + i + 1 ≤ 0 + p; omega)), hW1]
        have := World.cell?_setCells_in g (cs.drop i) (0 + (i + 1)) w.drew (fun j hj => by rw [Nat.add_assoc]; exact rm.some _ (by rw [hdl] at hj; omega)) (p - (i + 1)) (by rw [hdl]; omega)
        rw [show 0 + (i + 1) + (p - (i + 1)) = 0 + p by omega] at this
        rw [this]
        have h2 := hdat (p - (i + 1)) (by omega)
        rw [List.getElem?_eq_getElem (by rw [hdl]; omega)] at h2
        rw [h2, show i + (p - (i + 1)) = p - 1 by omega]
    · intro _ p hp
      rw [ins_len x (by omega), hn] at hp
      rw [World.frozen?_setCells, hW1, World.frozen?_setCells]
      exact rm.loose p (by omega)
  · refine (insB_grow g 0 n c i vb cs (.int .u8 x) w hi' hnc (by omega) (by omega) hcl hcc hx h1c rfl).mono ?_
    rintro e w' ⟨rfl, rfl⟩
    obtain ⟨G, hG⟩ : ∃ G, G = grownCap w (n + 1) c 5 := ⟨_, rfl⟩
    rw [← hG]
    have hGn : n + 1 ≤ G := by rw [hG]; exact grownCap_ge w _ _ _
    have hGm : G ≤ maxLen := by rw [hG]; exact grownCap_le_maxLen w (n + 1) c 5 (by unfold maxLen; omega)
    obtain ⟨ROW, hROW⟩ : ∃ ROW : Array Value, ROW = (cs.take i).toArray ++ Builtin.zeroCells (Value.int .u8 0).cells (n + 1 - i) ++ Builtin.zeroCells (Value.int .u8 0).cells (G - (n + 1)) := ⟨_, rfl⟩
    rw [← hROW]
    have hRl : n + 1 ≤ ROW.size := by
      rw [hROW]
      simp [Builtin.zeroCells, Value.cells]
      omega
    have hRi : ∀ p, p < i → ROW[p]? = some (.int .u8 (zs.getD p 0)) := fun p hp => by
      have h2 := hat p (by omega)
      rw [hROW, Array.append_assoc, Array.getElem?_append_left (by simp; omega)]
      rw [List.getElem?_toArray, List.getElem?_take_of_lt hp]
      exact h2
    have ka : Kept g (g + 1) w (w.alloc (.cells ROW 5)).drew := ((Kept.refl g (g + 1) w).alloc _).drew
    obtain ⟨W1, hW1⟩ : ∃ W1, W1 = (w.alloc (.cells ROW 5)).drew := ⟨_, rfl⟩
    rw [← hW1] at ka ⊢
    have hN : ∀ j, j < n + 1 → (W1.cell? ⟨w.heap.size, j, none⟩).isSome = true := fun j hj => by
      rw [hW1]
      show ((w.alloc (.cells ROW 5)).cell? _).isSome = true
      rw [World.cell?_alloc_at (w := w) ROW _ w.heap.size j rfl, Array.getElem?_eq_getElem (by omega)]; rfl
    have hNf : ∀ j, W1.frozen? ⟨w.heap.size, j, none⟩ = false := fun j => by rw [hW1]; exact World.frozen?_alloc_at (w := w) ROW _ w.heap.size j rfl
    have hNl : ∀ p, p < i → W1.cell? ⟨w.heap.size, p, none⟩ = some (.int .u8 (zs.getD p 0)) := fun p hp => by
      rw [hW1]
      show (w.alloc (.cells ROW 5)).cell? _ = _
      rw [World.cell?_alloc_at (w := w) ROW _ w.heap.size p rfl]
      exact hRi p hp
    have hs1 : W1.heap.size = w.heap.size + 1 := by rw [hW1]; show (w.alloc (.cells ROW 5)).heap.size = _; simp
    -- the two copies go to the new block
    have kk : ∀ (vs : List Value) (o : Nat) {V : World}, Kept 0 0 w V → Kept 0 0 w (V.setCells w.heap.size o vs) := fun vs => by
      induction vs with
      | nil => intro o V h; exact h
      | cons v rr ih =>
        intro o V h
        rw [World.setCells]
        exact ih (o + 1) (h.setNew (p := ⟨w.heap.size, o, none⟩) (Nat.le_refl _) v)
    have k1 : Kept 0 0 w W1 := by rw [hW1]; exact ((Kept.refl 0 0 w).alloc _).drew
    obtain ⟨W2, hW2⟩ : ∃ W2, W2 = (W1.setCells w.heap.size i [.int .u8 x]).drew := ⟨_, rfl⟩
    have k2 : Kept 0 0 w W2 := by rw [hW2]; exact (kk _ _ k1).drew
    rw [← hW2]
    have k3 := kk (cs.drop i) (i + 1) k2
    have hs3 : w.heap.size < (W2.setCells w.heap.size (i + 1) (cs.drop i)).heap.size := by
      have h2 : W2.cell? ⟨w.heap.size, i, none⟩ = some (.int .u8 x) := by
        rw [hW2]
        have := World.cell?_setCells_in w.heap.size [.int .u8 x] i W1 (fun j hj => by simp at hj; subst hj; exact hN i (by omega)) 0 (by simp)
        simpa using this
      have h3 : (W2.setCells w.heap.size (i + 1) (cs.drop i)).cell? ⟨w.heap.size, i, none⟩ = some (.int .u8 x) := by
        rw [World.cell?_setCells_out w.heap.size _ _ _ _ (fun _ _ => .inl (by show i < i + 1; omega))]
        exact h2
      exact World.block_lt_of_cell? _ _ h3
    have hN2 : ∀ k, k < n + 1 → (W2.cell? ⟨w.heap.size, k, none⟩).isSome = true := fun k hk => by
      rw [hW2]
      exact isSome_setCells w.heap.size _ _ _ (fun j hj => hN _ (by simp at hj; omega)) _ (hN k hk)
    refine ⟨_, rfl, ⟨_, _, by rw [ins_len x (by omega), hn], by rw [ins_len x (by omega), hn]; exact hGn, hGm, fun _ => ⟨w.heap.size, 0, rfl, hlo, hs3, hs3, ?_, ?_⟩⟩, k3.any⟩
    · intro p hp
      rw [ins_len x (by omega), hn] at hp
      rw [Nat.zero_add]
      rcases Nat.lt_trichotomy p i with h | h | h
      · rw [ins_lo x (by omega) h, World.cell?_setCells_out w.heap.size _ _ _ _ (fun _ _ => .inl (by show p < i + 1; omega)), hW2]
        show (W1.setCells w.heap.size i [.int .u8 x]).cell? _ = _
        rw [World.cell?_setCells_out w.heap.size _ _ _ _ (fun _ _ => .inl h)]
        exact hNl p h
      · subst h
        rw [ins_at x (by omega), World.cell?_setCells_out w.heap.size _ _ _ _ (fun _ _ => .inl (by show p < p + 1; omega)), hW2]
        have := World.cell?_setCells_in w.heap.size [.int .u8 x] p W1 (fun j hj => by simp at hj; subst hj; exact hN p (by omega)) 0 (by simp)
        simpa using this
      · rw [ins_hi x (by omega) h]
        have := World.cell?_setCells_in w.heap.size (cs.drop i) (i + 1) W2 (fun j hj => hN2 _ (by rw [hdl] at hj; omega)) (p - (i + 1)) (by rw [hdl]; omega)
        rw [show i + 1 + (p - (i + 1)) = p by omega] at this
        rw [this]
        have h2 := hdat (p - (i + 1)) (by omega)
        rw [List.getElem?_eq_getElem (by rw [hdl]; omega)] at h2
        rw [h2, show i + (p - (i + 1)) = p - 1 by omega]
    · intro _ p hp
      rw [World.frozen?_setCells, hW2]
      show (W1.setCells w.heap.size i [.int .u8 x]).frozen? _ = false
      rw [World.frozen?_setCells]
      exact hNf _

end Go.Proofs.Ytfikfmkhmojpfaa
