/-
  The decimal digits of a number; the model's l2text.
-/
import Derived.Test.YtckolgaalkohlaaDoorBB
import Derived.Test.YtckolgaalkohlaaDoorBC
import Derived.Lib.SlBytesConst
namespace Go.Proofs.YtckolgaalkohlaaDoor
open Go.RowKit
set_option linter.unusedVariables false
set_option maxRecDepth 8000
set_option linter.unusedSimpArgs false

def tdigF : Nat → Nat → List Int
  | 0, _ => []
  | f + 1, n => if n = 0 then [] else (48 + (n % 10 : Nat) : Int) :: tdigF f (n / 10)
/-- The decimal digits, as bytes, the lowest first; none of nought. -/
def tdig (n : Nat) : List Int := tdigF n n
theorem tdigF_more : ∀ (f g n : Nat), n ≤ f → n ≤ g → tdigF f n = tdigF g n
  | 0, 0, n, h1, h2 => rfl
  | 0, g + 1, n, h1, h2 => by have : n = 0 := by omega
                              subst this; simp [tdigF]
  | f + 1, 0, n, h1, h2 => by have : n = 0 := by omega
                              subst this; simp [tdigF]
  | f + 1, g + 1, n, h1, h2 => by
    unfold tdigF
    by_cases h : n = 0
    · rw [if_pos h, if_pos h]
    · rw [if_neg h, if_neg h, tdigF_more f g (n / 10) (by omega) (by omega)]
theorem tdig_zero : tdig 0 = [] := rfl
theorem tdig_step {n : Nat} (h : n ≠ 0) : tdig n = (48 + (n % 10 : Nat) : Int) :: tdig (n / 10) := by
  unfold tdig
  obtain ⟨m, rfl⟩ : ∃ m, n = m + 1 := ⟨n - 1, by omega⟩
  show (if m + 1 = 0 then [] else _ :: tdigF m ((m + 1) / 10)) = _
  rw [if_neg h, tdigF_more m ((m + 1) / 10) _ (by omega) (Nat.le_refl _)]
theorem tdig_len : ∀ (k n : Nat), n < 2 ^ k → (tdig n).length ≤ k
  | 0, n, h => by have : n = 0 := by simpa using h
                  subst this; simp [tdig_zero]
  | k + 1, n, h => by
    by_cases h0 : n = 0
    · subst h0; simp [tdig_zero]
    · rw [tdig_step h0]
      have := tdig_len k (n / 10) (by rw [Nat.pow_succ] at h; omega)
      simp
      exact this
def lenV : Value → Nat
  | .slice _ n _ => n
  | _ => 0
/-- A number's text. -/
def decText (n : Nat) : List Int := if n = 0 then [48] else (tdig n).reverse
theorem tdig_at : ∀ (f n : Nat), n ≤ f → ∀ z ∈ tdig n, 48 ≤ z ∧ z ≤ 57
  | 0, n, h, z, hz => by have : n = 0 := by omega
                         subst this; simp [tdig_zero] at hz
  | f + 1, n, h, z, hz => by
    by_cases h0 : n = 0
    · subst h0; simp [tdig_zero] at hz
    · rw [tdig_step h0] at hz
      rcases List.mem_cons.1 hz with e | e
      · omega
      · exact tdig_at f (n / 10) (by omega) z e
/-- One byte more at the end of a row of the call's own. -/
theorem wpList_byte {ops : Array Oper} {rest : List Oper} {o : Oper} {a : Act} {Q : Exit → Act → World → Prop} {b : Nat} {wr : World} {v : Value} {zs : List Int} (hgd : o.guard = none) (s x : Operand)
    (ho : o.op = .call { callee := .builtin .append, args := #[s, x], argTypes := #[22, 22] }) (hs : a.eval s = v) (ad : Addr) (hx : a.eval x = .slice (some ad) 1 1) (z : Int)
    (hc : wr.cell? ad = some (.int .u8 z)) (hown : wr.ownsRow b 5 1 v zs.length (zs.map (Value.int .u8))) (hb : b ≤ wr.heap.size) (hn : zs.length ≤ 2000000)
    (h : ∀ v' w', w'.ownsRow b 5 1 v' (zs ++ [z]).length ((zs ++ [z]).map (Value.int .u8)) → wr.grownBy w' v.ownBlock → wpList Tryd.prog ops Q rest (a.put o.dst v') w') : wpList Tryd.prog ops Q (o :: rest) a wr := by
  obtain ⟨i0, hi0, hz0, hz1, hz2⟩ := info_parts Tryd.info5
  refine wpList_append_own _ hgd _ _ 22 ho b 5 i0 (.int .u8 0) 1 1 Tryd.underlying22 hi0 hz0 hz1 hz2 rfl (by decide) _ _ _ hs hown ad 1 1 [.int .u8 z] hx rfl (lit_cell hc) ?_ ?_ ?_ ?_ ?_
  · intro u hu; simp at hu; subst hu; rfl
  · unfold maxLen; omega
  · omega
  · omega
  · intro v' w' hown' hgrow _
    exact h v' w' (by simpa using hown') hgrow

theorem limbs_pos' (n : Nat) (h : n ≠ 0) : 0 < (limbs n).length := List.length_pos_iff.2 (fun e => h (limbs_eq_nil.1 e))

theorem Row.marked (w : World) (t : TypeId) (z : Int) : Row .u8 true w.heap.size (w.alloc (.cells #[.int .u8 z] t (1, 2))).heap.size (w.alloc (.cells #[.int .u8 z] t (1, 2))) (.slice (some ⟨w.heap.size, 0, none⟩) 1 1) [z] := by
  have hg : (w.alloc (.cells #[.int .u8 z] t (1, 2))).heap[w.heap.size]? = some (.cells #[.int .u8 z] t (1, 2)) := heap_alloc_new w _
  refine ⟨_, _, rfl, Nat.le_refl _, by simp [maxLen], fun _ => ⟨w.heap.size, 0, rfl, Nat.le_refl _, by simp, by simp, fun i hi => ?_, fun _ i hi => ?_⟩⟩
  · have : i = 0 := by simpa using hi
    subst this
    simp only [World.cell?, hg]
    rfl
  · have : i = 0 := by simpa using hi
    subst this
    simp only [World.frozen?, hg]
    rfl
theorem byte_small {z : Int} (h0 : 0 ≤ z) (h1 : z ≤ 255) : IntKind.u8.wrap z = z := by simp [IntKind.wrap, IntKind.signed, IntKind.bits]; omega
theorem tdig_more {n m : Nat} {bs : List Int} (h : tdig n = bs ++ tdig m) (hm : m ≠ 0) : tdig n = (bs ++ [(48 + (m % 10 : Nat) : Int)]) ++ tdig (m / 10) ∧ bs.length < (tdig n).length := by
  rw [tdig_step hm] at h
  refine ⟨by rw [h]; simp, by rw [h]; simp⟩
theorem rev_step (bs : List Int) (j : Nat) (h : j < bs.length) : bs.reverse.take j ++ [bs.getD (bs.length - 1 - j) 0] = bs.reverse.take (j + 1) := by
  rw [List.take_succ_eq_append_getElem (by simpa using h)]
  congr 2
  rw [List.getElem_reverse]
  simp [List.getD, show bs.length - 1 - j < bs.length by omega]

set_option maxHeartbeats 8000000 in
theorem text_spec {bw : Bool} {lo hi : Nat} {v : Value} {xs : List Int} (w : World) (r : Row .i64 bw lo hi w v xs) (hn : Nrm xs) (nx : xs.length ≤ 100000) :
    Calls Tryd.prog 30 #[.agg #[v]] w fun e w' => ∃ v', e = .returned v' ∧ Row .u8 true w.heap.size w'.heap.size w' v' (decText (val xs).toNat) ∧ Kept 0 0 w w' := by
  have k0 := (Kept.refl 0 0 w).alloc (.cells #[v] 26)
  have r0 := r.kept k0 (by omega)
  have hce : (w.alloc (.cells #[v] 26)).cell? ⟨w.heap.size, 0, none⟩ = some v := new_cell_at _ _ _ _ rfl
  have hfr : (w.alloc (.cells #[v] 26)).frozen? ⟨w.heap.size, 0, none⟩ = false := new_loose _ _ _ _ rfl
  have hs0 : (w.alloc (.cells #[v] 26)).heap.size = w.heap.size + 1 := by simp
  obtain ⟨N, hN⟩ : ∃ N, (val xs).toNat = N := ⟨_, rfl⟩
  have hxs : xs = limbs N := by rw [← hN]; exact nrm_limbs hn
  have hlt : N < 2 ^ (16 * xs.length) := by
    have h1 := val_lt hn.1
    have h2 := val_nonneg hn.1
    rw [pow_limb] at h1
    omega
  have hdl := tdig_len _ _ hlt
  rw [hN]
  obtain ⟨a, c, rfl⟩ := Row.form' r
  clear r
  by_cases h0 : xs.length = 0
  · have hb0 : ((xs.length : Int) == 0) = true := beq_iff_eq.2 (by omega)
    have hN0 : N = 0 := by
      rw [← hN, List.length_eq_zero_iff.1 h0]; rfl
    have HD : Hid (decText N = [48]) := by show _ = _; rw [hN0]; rfl
    have KK := hide k0
    clear k0 r0 hce hfr hxs h0 hN0
    go_enter Tryd.func30, Tryd.ntmps30
    have hcv := Lib.run_convert_bytes_const (P := Tryd.prog) (w.alloc (.cells #[.slice a xs.length c] 26)) 22 5 #[.int .u8 48] 1 1 Tryd.underlying22 Tryd.underlying5
    rw [hs0] at hcv
    have this := Row.marked (w.alloc (.cells #[.slice a xs.length c] 26)) 5 48
    rw [hs0] at this
    have TH := hide this
    clear this
    go_wp2
    go_ret
    exact ⟨_, rfl, by rw [unhide HD]; exact (unhide TH).wider (lo' := w.heap.size) (by omega) (Nat.le_refl _), (unhide KK).alloc _⟩
  · have hb0 : ((xs.length : Int) == 0) = false := beq_eq_false_iff_ne.2 (by omega)
    have hNe : N ≠ 0 := by
      intro e
      rw [e, limbs_zero] at hxs
      rw [hxs] at h0
      simp at h0
    have HD : Hid (decText N = (tdig N).reverse) := if_neg hNe
    have HX := hide hxs
    have KK := hide k0
    have R0 := hide (r0.read.tight.wider (lo' := 0) (Nat.zero_le _) (Nat.le_refl _))
    clear k0 r0 hxs h0 hNe hN
    go_enter Tryd.func30, Tryd.ntmps30
    go_wp2
    generalize w.alloc (.cells #[.slice a xs.length c] 26) = W at *
    go_loopw [3] (fun bk wr => ∃ (m : Nat) (av : Value) (bs : List Int), wr.cell? ⟨w.heap.size, 0, none⟩ = some av ∧ wr.frozen? ⟨w.heap.size, 0, none⟩ = false ∧ Row .i64 false 0 wr.heap.size wr av (limbs m) ∧ (limbs m).length ≤ 100000 ∧ wr.ownsRow (w.heap.size + 1) 5 1 bk bs.length (bs.map (Value.int .u8)) ∧ Hid (tdig N = bs ++ tdig m) ∧ bs.length ≤ 1600000 ∧ w.heap.size + 1 ≤ wr.heap.size ∧ Kept 0 0 w wr) (fun bk _ => (tdig N).length - lenV bk)
    case atStart => exact ⟨N, _, [], hce, hfr, by rw [← unhide HX]; exact unhide R0, by rw [← unhide HX]; exact nx, World.ownsRow_nil _ _ _ _, hide rfl, by simp, by omega, unhide KK⟩
    case round =>
      clear hce hfr R0 KK
      obtain ⟨m, av, bs, hce, hfr, ra, la, hown, ht, lb, hsz, kw⟩ := hrel
      obtain ⟨a1, c1, hv⟩ := Row.form' ra
      subst hv
      obtain ⟨a2, c2, hv⟩ := own_slice hown
      subst hv
      by_cases hm : m = 0
      · have hl0 : (limbs m).length = 0 := by rw [hm, limbs_zero]; rfl
        have hd0 : ¬ (0 : Int) < ((limbs m).length : Int) := by omega
        have hT : tdig N = bs := by rw [unhide ht, hm, tdig_zero, List.append_nil]
        have HT := hide hT
        have hbl : bs.length ≤ 1600000 := lb
        have OB := hide hown
        have KW := hide kw
        have hwb : IntKind.i64.wrap ((bs.length : Int) - 1) = (bs.length : Int) - 1 := by rw [IntKind.wrap_i64]; omega
        have HBR := hide (row_cell (Row.own hown)).2.2.2
        clear hown ht ra hm hl0 hT kw
        obtain ⟨W2, rfl⟩ : ∃ W2, W2 = wr := ⟨_, rfl⟩
        go_wp2
        go_loopw [6, 7] (fun oo ii wx => ∃ (j : Nat) (v : Value), oo = v ∧ j ≤ bs.length ∧ ii = .int .i64 ((bs.length : Int) - 1 - (j : Int)) ∧ wx.ownsRow W2.heap.size 5 1 v (bs.reverse.take j).length ((bs.reverse.take j).map (Value.int .u8)) ∧ Kept 0 0 W2 wx) (fun _ ii _ => (intOf ii + 1).toNat)
        case atStart => exact ⟨0, _, rfl, Nat.zero_le _, by simp, by simpa using World.ownsRow_nil _ _ _ _, Kept.refl _ _ _⟩
        case round =>
          obtain ⟨j, v, rfl, hj, rfl, hown, kx⟩ := hrel
          by_cases hA : j < bs.length
          · obtain ⟨gb, ob, hvb, hxb⟩ := unhide HBR (bs.length - 1 - j) (by omega)
            subst hvb
            replace hxb := kx.cell0 hxb
            have hst := rev_step bs j hA
            have hi0 : (0 : Int) ≤ (bs.length : Int) - 1 - (j : Int) := by omega
            have hi1 : (bs.length : Int) - 1 - (j : Int) < (bs.length : Int) := by omega
            have hit : ((bs.length : Int) - 1 - (j : Int)).toNat = bs.length - 1 - j := by omega
            have hwi : IntKind.i64.wrap ((bs.length : Int) - 1 - (j : Int) - 1) = (bs.length : Int) - 1 - ((j + 1 : Nat) : Int) := by rw [IntKind.wrap_i64]; omega
            generalize bs.getD (bs.length - 1 - j) 0 = zb at *
            have hlt3 : (bs.reverse.take j).length = j := by simp; omega
            have cz : (wr.alloc (.cells #[.int .u8 zb] 5)).cell? ⟨wr.heap.size, 0, none⟩ = some (.int .u8 zb) := new_cell_at _ _ _ _ rfl
            have OO := hide (own_kept hown ((Kept.refl 0 0 wr).alloc (.cells #[.int .u8 zb] 5)))
            have hlo := hown.lt
            have hsz2 := kx.size
            have KX := hide (kx.alloc (.cells #[.int .u8 zb] 5))
            have CZ := hide cz
            have HST := hide hst
            clear hown cz hst kx
            go_wp2_with (at_builtin; refine wpList_byte rfl _ _ rfl rfl _ rfl zb (unhide CZ) (unhide OO) (by simp; omega) (by omega) ?_)
            intro v7 w7 hown7 hg7
            have K7 := hide ((unhide KX).growNew hg7 (fun k e => (hlo k e).1))
            have O7 := hide hown7
            clear hown7 hg7
            go_wp2
            go_roundw
            case rel => exact ⟨j + 1, _, rfl, by omega, rfl, by rw [← unhide HST]; simpa [hlt3] using unhide O7, unhide K7⟩
            case measure => simp [intOf]; omega
          · have hjl : j = bs.length := by omega
            have hi0 : ¬ (0 : Int) ≤ (bs.length : Int) - 1 - (j : Int) := by omega
            have RR := hide (Row.own hown)
            rw [hjl, List.take_of_length_le (by simp)] at RR
            have KX := hide ((unhide KW).trans kx)
            have hsx := kx.size
            clear hown kx
            go_wp2
            go_ret
            exact ⟨_, rfl, by rw [unhide HD, unhide HT]; exact (unhide RR).wider (by omega) (Nat.le_refl _), unhide KX⟩
      · have hlp : 0 < (limbs m).length := limbs_pos' m hm
        have hlpi : (0 : Int) < ((limbs m).length : Int) := by omega
        obtain ⟨ht2, hlt2⟩ := tdig_more (unhide ht) hm
        have HT2 := hide ht2
        have sm := small_spec wr ra (limbs_lim m) la 10 (by decide) (by decide)
        rw [limbs_val] at sm
        have hz0 : ((m : Int) % 10) = ((m % 10 : Nat) : Int) := by omega
        have hq0 : ((m : Int) / 10).toNat = m / 10 := by omega
        rw [hz0, hq0] at sm
        have SM := hide sm
        have hmod : m % 10 < 10 := Nat.mod_lt _ (by decide)
        generalize hzz : m % 10 = z at *
        have hlq : (limbs (m / 10)).length ≤ 100000 := by
          have h1 := (limbs_length_le m 100000).1 la
          exact (limbs_length_le (m / 10) 100000).2 (by omega)
        have hlo := hown.lt
        have OB := hide hown
        have KW := hide kw
        clear sm hz0 hq0 ht ht2 hzz ra hown kw
        go_wp2_with fail
        refine (unhide SM).mono ?_
        rintro e w5 ⟨v5, rfl, r5, k5⟩
        obtain ⟨a5, c5, hv⟩ := Row.form' r5
        subst hv
        generalize hLQ : limbs (m / 10) = LQ at *
        have k6 : Kept 0 0 wr ((w5.alloc (.cells #[.slice a5 LQ.length c5] 26)).alloc (.cells #[.int .u8 (48 + (z : Int))] 5)) := (k5.alloc _).alloc _
        have r6 := r5.kept (((Kept.refl 0 0 w5).alloc (.cells #[.slice a5 LQ.length c5] 26)).alloc (.cells #[.int .u8 (48 + (z : Int))] 5)) (by omega)
        have cq : ((w5.alloc (.cells #[.slice a5 LQ.length c5] 26)).alloc (.cells #[.int .u8 (48 + (z : Int))] 5)).cell? ⟨w5.heap.size, 0, none⟩ = some (.slice a5 LQ.length c5) := old_cell _ (new_cell_at _ _ _ _ rfl)
        have cz : ((w5.alloc (.cells #[.slice a5 LQ.length c5] 26)).alloc (.cells #[.int .u8 (48 + (z : Int))] 5)).cell? ⟨w5.heap.size + 1, 0, none⟩ = some (.int .u8 (48 + (z : Int))) := new_cell_at _ _ _ _ (by simp)
        have hs6 : ((w5.alloc (.cells #[.slice a5 LQ.length c5] 26)).alloc (.cells #[.int .u8 (48 + (z : Int))] 5)).heap.size = w5.heap.size + 2 := by simp
        have hown6 := own_kept (unhide OB) k6
        have hce6 := k6.cell0 hce
        have hfr6 := k6.loose0 (World.block_lt_of_cell? _ _ hce) hfr
        have hw1 : IntKind.i64.wrap (48 + (z : Int)) = 48 + (z : Int) := by rw [IntKind.wrap_i64]; omega
        have hw2 : IntKind.u8.wrap (48 + (z : Int)) = 48 + (z : Int) := byte_small (by omega) (by omega)
        have hsz5 := k5.size
        have K6 := hide ((unhide KW).trans k6)
        have CZ := hide cz
        have OW := hide hown6
        clear r5 k5 k6 cz hown6 OB KW hce hfr
        go_wp2_with (at_builtin; refine wpList_byte rfl _ _ rfl rfl _ rfl (48 + (z : Int)) (unhide CZ) (unhide OW) (by omega) (by omega) ?_)
        intro v7 w7 hown7 hg7
        have kg := Kept.grown hg7 (fun k e => hlo k e)
        have hce7 := kg.cellOut (a := ⟨w.heap.size, 0, none⟩) (.inl (by dsimp only; omega)) hce6
        have hfr7 : w7.frozen? ⟨w.heap.size, 0, none⟩ = false := by
          rw [← hfr6]; exact World.frozen?_of_block (kg.block w.heap.size (World.block_lt_of_cell? _ _ hce6) (.inl (by omega)))
        have cq7 := kg.cellOut (a := ⟨w5.heap.size, 0, none⟩) (.inr (by dsimp only; omega)) cq
        have r7 := r6.kept kg (by omega)
        have hs7 := kg.size
        have hlv : lenV v7 = bs.length + 1 := by
          obtain ⟨a7, c7, hv⟩ := own_slice hown7
          rw [hv]; simp [lenV]
        have K7 := hide (((unhide K6).growNew hg7 (fun k e => by have := (hlo k e).1; omega)).setNew (p := ⟨w.heap.size, 0, none⟩) (Nat.le_refl _) (.slice a5 LQ.length c5))
        have hap : v7.ownBlock ≠ some w.heap.size := fun e => by have := (hown7.lt _ e).1; omega
        have O7 := hide (own_apart hown7 (p := ⟨w.heap.size, 0, none⟩) hap (.slice a5 LQ.length c5))
        have C7 : Hid ((w7.setCell ⟨w.heap.size, 0, none⟩ (.slice a5 LQ.length c5)).cell? ⟨w.heap.size, 0, none⟩ = some (.slice a5 LQ.length c5)) := cell_on _ _ _ _ _ hce7
        have F7 : Hid ((w7.setCell ⟨w.heap.size, 0, none⟩ (.slice a5 LQ.length c5)).frozen? ⟨w.heap.size, 0, none⟩ = false) := by show _ = _; rw [frozen_set]; exact hfr7
        have R7 := hide ((r7.set_other (p := ⟨w.heap.size, 0, none⟩) (.inl (by dsimp only; omega)) (.slice a5 LQ.length c5)).read.tight.wider (lo' := 0) (Nat.zero_le _) (Nat.le_refl _))
        have S7 : Hid (w.heap.size + 1 ≤ (w7.setCell ⟨w.heap.size, 0, none⟩ (.slice a5 LQ.length c5)).heap.size) := by show _ ≤ _; rw [size_set]; omega
        clear hown7 hg7 kg r6 r7 cq hce6 hfr6 K6 OW
        go_wp2
        go_roundw
        case rel => exact ⟨m / 10, _, bs ++ [(48 + (z : Int))], unhide C7, unhide F7, by rw [hLQ]; exact unhide R7, by rw [hLQ]; exact hlq, by simpa using unhide O7, HT2, by simp; omega, unhide S7, unhide K7⟩
        case measure => rw [hlv]; simp [lenV]; omega

end Go.Proofs.YtckolgaalkohlaaDoor
