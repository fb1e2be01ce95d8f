/-
  What is rounded: the program's rounded.
-/
import Derived.Test.YthahoabkehcgbaaGreatDoorqoRnd1
import Derived.Test.YthahoabkehcgbaaGreatDoorqoDys4
import Derived.Test.YthahoabkehcgbaaGreatDoorqoBC
import Derived.Deep.DeepCutAuto
import Derived.WalkLawsBesides
namespace Go.Proofs.YthahoabkehcgbaaGreatDoor
open Go.RowKit
set_option linter.unusedVariables false
set_option maxRecDepth 8000
set_option linter.unusedSimpArgs false

/-- What is cut off is nothing. -/
def rndX (H : Nat) (mo : Bool) : Bool := decide (H % 2 = 0) && !mo
/-- Halves, rounded to whole ones by a mode. -/
def rndN (mode : Nat) (s : Bool) (H : Nat) (mo : Bool) : Nat := H / 2 + (if (!rndX H mo && upsB mode s (decide (H / 2 % 2 = 1)) (decide (H % 2 = 1)) mo) = true then 1 else 0)

theorem bit_kept {b g : Nat} {v : Value} {zs : List Int} (w : World) (h : Work b w g v zs) (hl : Lim zs) (i : Int) (hi0 : 0 ≤ i) (hi1 : i ≤ 9223372036854775807) (c : Int) (hc : bitAt (val zs).toNat i = c) :
    Calls Tryz.prog 208 #[.pointer (some ⟨g, 0, none⟩), .int .i64 i] w fun e w' => e = .returned (.int .i64 c) ∧ Kept 0 0 w w' :=
  (bit_work w h hl i hi0 hi1).mono (fun e w' h => ⟨by rw [← hc]; exact h.1, by rw [h.2]; exact Kept.refl 0 0 _⟩)

/-- A block of four bools. -/
def Bx4 (w : World) (X : Nat) (a b c d : Bool) : Prop := w.cell? ⟨X, 0, none⟩ = some (.bool a) ∧ w.cell? ⟨X, 1, none⟩ = some (.bool b) ∧ w.cell? ⟨X, 2, none⟩ = some (.bool c) ∧ w.cell? ⟨X, 3, none⟩ = some (.bool d)
theorem Bx4.set {w : World} {X : Nat} {p q r t : Value} (a b c d : Bool) (h0 : w.cell? ⟨X, 0, none⟩ = some p) (h1 : w.cell? ⟨X, 1, none⟩ = some q) (h2 : w.cell? ⟨X, 2, none⟩ = some r) (h3 : w.cell? ⟨X, 3, none⟩ = some t) :
    Bx4 ((((w.setCell ⟨X, 0, none⟩ (.bool a)).setCell ⟨X, 1, none⟩ (.bool b)).setCell ⟨X, 2, none⟩ (.bool c)).setCell ⟨X, 3, none⟩ (.bool d)) X a b c d :=
  ⟨cell_off _ _ _ _ _ _ (cell_off _ _ _ _ _ _ (cell_off _ _ _ _ _ _ (cell_on _ _ _ _ _ h0) (by decide)) (by decide)) (by decide),
   cell_off _ _ _ _ _ _ (cell_off _ _ _ _ _ _ (cell_on _ _ _ _ _ (cell_off _ _ _ _ _ _ h1 (by decide))) (by decide)) (by decide),
   cell_off _ _ _ _ _ _ (cell_on _ _ _ _ _ (cell_off _ _ _ _ _ _ (cell_off _ _ _ _ _ _ h2 (by decide)) (by decide))) (by decide),
   cell_on _ _ _ _ _ (cell_off _ _ _ _ _ _ (cell_off _ _ _ _ _ _ (cell_off _ _ _ _ _ _ h3 (by decide)) (by decide)) (by decide))⟩
theorem Bx4.mod {S : Nat → Prop} {w w' : World} {X : Nat} {a b c d : Bool} (h : Bx4 w X a b c d) (k : Mod S w w') (hS : ¬ S X) : Bx4 w' X a b c d :=
  ⟨k.cell (a := ⟨X, 0, none⟩) hS h.1, k.cell (a := ⟨X, 1, none⟩) hS h.2.1, k.cell (a := ⟨X, 2, none⟩) hS h.2.2.1, k.cell (a := ⟨X, 3, none⟩) hS h.2.2.2⟩

theorem in_roundings : ∀ (w : World) (args : Array Value), (callFunc 209 args).run Tryz.prog w = .ok (.enter 209 args) w := enters Tryz.func209 (by decide) (fun h => by cases h)

theorem in_ups1 : ∀ (w : World) (args : Array Value), (callFunc 224 args).run Tryz.prog w = .ok (.enter 224 args) w := enters Tryz.func224 (by decide) (fun h => by cases h)

theorem in_ups2 : ∀ (w : World) (args : Array Value), (callFunc 225 args).run Tryz.prog w = .ok (.enter 225 args) w := enters Tryz.func225 (by decide) (fun h => by cases h)

theorem in_ups3 : ∀ (w : World) (args : Array Value), (callFunc 226 args).run Tryz.prog w = .ok (.enter 226 args) w := enters Tryz.func226 (by decide) (fun h => by cases h)

theorem in_ups4 : ∀ (w : World) (args : Array Value), (callFunc 227 args).run Tryz.prog w = .ok (.enter 227 args) w := enters Tryz.func227 (by decide) (fun h => by cases h)

theorem in_ups5 : ∀ (w : World) (args : Array Value), (callFunc 228 args).run Tryz.prog w = .ok (.enter 228 args) w := enters Tryz.func228 (by decide) (fun h => by cases h)

theorem idx_r0 (w : World) : (Instr.index 234 rndTab (.int .i64 0)).run Tryz.prog w = .ok (.agg #[.func (.func 224) #[] #[]]) w := by kernel_rfl

theorem fld_r0 (w : World) : (Instr.field 233 (.agg #[.func (.func 224) #[] #[]]) 0).run Tryz.prog w = .ok (.func (.func 224) #[] #[]) w := by kernel_rfl

theorem idx_r1 (w : World) : (Instr.index 234 rndTab (.int .i64 1)).run Tryz.prog w = .ok (.agg #[.func (.func 225) #[] #[]]) w := by kernel_rfl

theorem fld_r1 (w : World) : (Instr.field 233 (.agg #[.func (.func 225) #[] #[]]) 0).run Tryz.prog w = .ok (.func (.func 225) #[] #[]) w := by kernel_rfl

theorem idx_r2 (w : World) : (Instr.index 234 rndTab (.int .i64 2)).run Tryz.prog w = .ok (.agg #[.func (.func 226) #[] #[]]) w := by kernel_rfl

theorem fld_r2 (w : World) : (Instr.field 233 (.agg #[.func (.func 226) #[] #[]]) 0).run Tryz.prog w = .ok (.func (.func 226) #[] #[]) w := by kernel_rfl

theorem idx_r3 (w : World) : (Instr.index 234 rndTab (.int .i64 3)).run Tryz.prog w = .ok (.agg #[.func (.func 227) #[] #[]]) w := by kernel_rfl

theorem fld_r3 (w : World) : (Instr.field 233 (.agg #[.func (.func 227) #[] #[]]) 0).run Tryz.prog w = .ok (.func (.func 227) #[] #[]) w := by kernel_rfl

theorem idx_r4 (w : World) : (Instr.index 234 rndTab (.int .i64 4)).run Tryz.prog w = .ok (.agg #[.func (.func 228) #[] #[]]) w := by kernel_rfl

theorem fld_r4 (w : World) : (Instr.field 233 (.agg #[.func (.func 228) #[] #[]]) 0).run Tryz.prog w = .ok (.func (.func 228) #[] #[]) w := by kernel_rfl

set_option maxHeartbeats 4000000 in
theorem rounded_own {b g : Nat} {v : Value} {zs : List Int} {s mo : Bool} {low : Int} (w : World) (h : Wrk b w g v zs) (hn : Nrm zs) (nx : zs.length ≤ 90000) (d : Sd w g s) (ex : Ex w g low) (m : Mo w g mo) (hb : b ≤ w.heap.size) (mode : Int) (hm0 : 0 ≤ mode) (hm4 : mode ≤ 4) :
    Calls Tryz.prog 173 #[.pointer (some ⟨g, 0, none⟩), .int .i64 mode] w fun e w' => ∃ u, e = .returned (.agg #[u, .bool s, .int .i64 low]) ∧ OwnA b w' u (limbs (rndN mode.toNat s (val zs).toNat mo)) ∧ Mod (Own1 g v) w w' ∧ (∀ i, u.ownBlock = some i → v.ownBlock = some i ∨ w.heap.size ≤ i) := by
  have hV0 := val_nonneg hn.1
  obtain ⟨V, hV⟩ : ∃ V, (val zs).toNat = V := ⟨_, rfl⟩
  obtain ⟨B1, hB1⟩ : ∃ B1, decide (V / 2 % 2 = 1) = B1 := ⟨_, rfl⟩
  obtain ⟨B0, hB0⟩ : ∃ B0, decide (V % 2 = 1) = B0 := ⟨_, rfl⟩
  obtain ⟨EX, hEX⟩ : ∃ EX, rndX V mo = EX := ⟨_, rfl⟩
  obtain ⟨c1, hc1⟩ : ∃ c, bitAt (val zs).toNat 1 = c := ⟨_, rfl⟩
  obtain ⟨c0, hc0⟩ : ∃ c, bitAt (val zs).toNat 0 = c := ⟨_, rfl⟩
  have hb1 : (c1 == (1 : Int)) = B1 := by rw [← hc1, ← hB1, hV]; unfold bitAt; simp; rw [Bool.eq_iff_iff]; simp; omega
  have hb0 : (c0 == (1 : Int)) = B0 := by rw [← hc0, ← hB0, hV]; unfold bitAt; simp; rw [Bool.eq_iff_iff]; simp; omega
  obtain ⟨UP, hUP⟩ : ∃ UP, (!EX && upsB mode.toNat s B1 B0 mo) = UP := ⟨_, rfl⟩
  have HR : Hid (rndN mode.toNat s V mo = V / 2 + (if UP = true then 1 else 0)) := by show _ = _; unfold rndN; rw [hB1, hB0, hEX, hUP]
  rw [hV]
  have HV := hide hV
  have HUP := hide hUP
  have HC1 := hide hc1
  have HC0 := hide hc0
  have HEX := hide hEX
  clear hV hB1 hB0 hEX hUP hc1 hc0
  have lg := h.lt
  have own := fun k (e : v.ownBlock = some k) => (h.own.lt e).2
  have k0 : Kept 0 0 w (w.alloc (.cells #[.slice none 0 0, .bool false, .int .i64 0] 150)) := ((Kept.refl 0 0 w).alloc (.cells #[.slice none 0 0, .bool false, .int .i64 0] 150))
  have q0 : (w.alloc (.cells #[.slice none 0 0, .bool false, .int .i64 0] 150)).cell? ⟨w.heap.size, 0, none⟩ = some (.slice none 0 0) := new_cell2 _ _ _ _ _ _ (by simp) rfl
  have qf0 : (w.alloc (.cells #[.slice none 0 0, .bool false, .int .i64 0] 150)).frozen? ⟨w.heap.size, 0, none⟩ = false := new_loose2 _ _ _ _ _ (by simp)
  have q1 : (w.alloc (.cells #[.slice none 0 0, .bool false, .int .i64 0] 150)).cell? ⟨w.heap.size, 1, none⟩ = some (.bool false) := new_cell2 _ _ _ _ _ _ (by simp) rfl
  have qf1 : (w.alloc (.cells #[.slice none 0 0, .bool false, .int .i64 0] 150)).frozen? ⟨w.heap.size, 1, none⟩ = false := new_loose2 _ _ _ _ _ (by simp)
  have q2 : (w.alloc (.cells #[.slice none 0 0, .bool false, .int .i64 0] 150)).cell? ⟨w.heap.size, 2, none⟩ = some (.int .i64 0) := new_cell2 _ _ _ _ _ _ (by simp) rfl
  have qf2 : (w.alloc (.cells #[.slice none 0 0, .bool false, .int .i64 0] 150)).frozen? ⟨w.heap.size, 2, none⟩ = false := new_loose2 _ _ _ _ _ (by simp)
  have s0 : (w.alloc (.cells #[.slice none 0 0, .bool false, .int .i64 0] 150)).heap.size = w.heap.size + 1 := by simp
  have K := hide (k0)
  clear k0
  have S0 := hide s0
  clear s0
  have kk := (Kept.refl 0 0 w).alloc (.cells #[.slice none 0 0, .bool false, .int .i64 0] 150)
  replace h := h.kept kk
  replace d := d.kept kk
  replace ex := ex.kept kk
  replace m := m.kept kk
  clear kk
  go_enter Tryz.func173, Tryz.ntmps173
  go_wp2_with fail
  generalize (w.alloc (.cells #[.slice none 0 0, .bool false, .int .i64 0] 150)) = W at *
  have hie := isExact_impl _ h.work hn.1 m
  rw [unhide HV] at hie
  have hie2 : (decide (V % 2 = 0) && !mo) = EX := unhide HEX
  rw [hie2] at hie
  refine hie.mono ?_
  rintro e w1 ⟨rfl, rfl⟩
  clear hie hie2
  go_upto_region 2 with fail
  go_cut [6] (fun p wx => ∃ X, p = .pointer (some ⟨X, 0, none⟩) ∧ w1.heap.size ≤ X ∧ Bx4 wx X s B1 B0 mo ∧ Kept 0 0 w1 wx)
  case first =>
    have kw := Kept.refl 0 0 w1
    have hd1 := d.1
    have hm3 := m.1
    have kd := (Kept.refl 0 0 w1).drew
    replace kw := kw.trans kd
    replace h := h.kept kd
    replace d := d.kept kd
    replace ex := ex.kept kd
    replace m := m.kept kd
    replace qf0 := kd.loose0 (World.block_lt_of_cell? _ _ q0) qf0
    replace qf1 := kd.loose0 (World.block_lt_of_cell? _ _ q1) qf1
    replace qf2 := kd.loose0 (World.block_lt_of_cell? _ _ q2) qf2
    replace q0 := kd.cell0 q0
    replace q1 := kd.cell0 q1
    replace q2 := kd.cell0 q2
    replace hd1 := kd.cell0 hd1
    replace hm3 := kd.cell0 hm3
    replace K := hide ((unhide K).trans kd)
    have z1 := kd.size
    clear kd
    refine wp_region_held_drew (S := (fun w' => w'.cell? ⟨g, 1, none⟩ = some (.bool s) ∧ w'.cell? ⟨g, 3, none⟩ = some (.bool mo))) (by kernel_rfl) ?_ (fun hHeld => ?_)
    · exact ⟨hd1, hm3⟩
    generalize w1.drew = wd2 at *
    refine wpAnyH_take (i := 0) (oi := _) (v := .pointer (some ⟨g, 0, none⟩)) rfl (by kernel_rfl) (by kernel_rfl) (by kernel_rfl) (fun _ _ _ h => h) (Or.inl ⟨by rfl, ?_⟩) hHeld ?_
    · intro wq hSw
      try dsimp only at hSw
      go_simp
    try simp only [Act.put, List.getElem_toArray, List.getElem_cons_succ, List.getElem_cons_zero, List.setIfInBounds_toArray, List.set_cons_zero, List.set_cons_succ]
    refine wpAnyH_take (i := 1) (oi := _) (v := .pointer (some ⟨g, 0, none⟩)) rfl (by kernel_rfl) (by kernel_rfl) (by kernel_rfl) (fun _ _ _ h => h) (Or.inl ⟨by rfl, ?_⟩) hHeld ?_
    · intro wq hSw
      try dsimp only at hSw
      go_simp
    try simp only [Act.put, List.getElem_toArray, List.getElem_cons_succ, List.getElem_cons_zero, List.setIfInBounds_toArray, List.set_cons_zero, List.set_cons_succ]
    refine wpAnyH_take (i := 2) (oi := _) (v := .pointer (some ⟨g, 0, none⟩)) rfl (by kernel_rfl) (by kernel_rfl) (by kernel_rfl) (fun _ _ _ h => h) (Or.inl ⟨by rfl, ?_⟩) hHeld ?_
    · intro wq hSw
      try dsimp only at hSw
      go_simp
    try simp only [Act.put, List.getElem_toArray, List.getElem_cons_succ, List.getElem_cons_zero, List.setIfInBounds_toArray, List.set_cons_zero, List.set_cons_succ]
    refine wpAnyH_take (i := 3) (oi := _) (v := .pointer (some ⟨g, 1, none⟩)) rfl (by kernel_rfl) (by kernel_rfl) (by kernel_rfl) (fun _ _ _ h => h) (Or.inl ⟨by rfl, ?_⟩) hHeld ?_
    · intro wq hSw
      try dsimp only at hSw
      go_simp
    try simp only [Act.put, List.getElem_toArray, List.getElem_cons_succ, List.getElem_cons_zero, List.setIfInBounds_toArray, List.set_cons_zero, List.set_cons_succ]
    refine wpAnyH_take (i := 4) (oi := _) (v := .bool s) rfl (by kernel_rfl) (by kernel_rfl) (by kernel_rfl) (fun _ _ _ h => h) (Or.inl ⟨by rfl, ?_⟩) hHeld ?_
    · intro wq hSw
      try dsimp only at hSw
      go_simp
    try simp only [Act.put, List.getElem_toArray, List.getElem_cons_succ, List.getElem_cons_zero, List.setIfInBounds_toArray, List.set_cons_zero, List.set_cons_succ]
    refine wpAnyH_take (i := 5) (oi := _) (v := .pointer (some ⟨g, 0, none⟩)) rfl (by kernel_rfl) (by kernel_rfl) (by kernel_rfl) (fun _ _ _ h => h) (Or.inl ⟨by rfl, ?_⟩) hHeld ?_
    · intro wq hSw
      try dsimp only at hSw
      go_simp
    try simp only [Act.put, List.getElem_toArray, List.getElem_cons_succ, List.getElem_cons_zero, List.setIfInBounds_toArray, List.set_cons_zero, List.set_cons_succ]
    refine wpAnyH_take (i := 6) (oi := _) (v := .pointer (some ⟨g, 0, none⟩)) rfl (by kernel_rfl) (by kernel_rfl) (by kernel_rfl) (fun _ _ _ h => h) (Or.inl ⟨by rfl, ?_⟩) hHeld ?_
    · intro wq hSw
      try dsimp only at hSw
      go_simp
    try simp only [Act.put, List.getElem_toArray, List.getElem_cons_succ, List.getElem_cons_zero, List.setIfInBounds_toArray, List.set_cons_zero, List.set_cons_succ]
    refine wpAnyH_take (i := 7) (oi := _) (v := .pointer (some ⟨g, 0, none⟩)) rfl (by kernel_rfl) (by kernel_rfl) (by kernel_rfl) (fun _ _ _ h => h) (Or.inl ⟨by rfl, ?_⟩) hHeld ?_
    · intro wq hSw
      try dsimp only at hSw
      go_simp
    try simp only [Act.put, List.getElem_toArray, List.getElem_cons_succ, List.getElem_cons_zero, List.setIfInBounds_toArray, List.set_cons_zero, List.set_cons_succ]
    refine wpAnyH_take (i := 8) (oi := _) (v := .pointer (some ⟨g, 0, none⟩)) rfl (by kernel_rfl) (by kernel_rfl) (by kernel_rfl) (fun _ _ _ h => h) (Or.inl ⟨by rfl, ?_⟩) hHeld ?_
    · intro wq hSw
      try dsimp only at hSw
      go_simp
    try simp only [Act.put, List.getElem_toArray, List.getElem_cons_succ, List.getElem_cons_zero, List.setIfInBounds_toArray, List.set_cons_zero, List.set_cons_succ]
    refine wpAnyH_take (i := 11) (oi := _) (v := .pointer (some ⟨g, 0, none⟩)) rfl (by kernel_rfl) (by kernel_rfl) (by kernel_rfl) (fun _ _ _ h => h) (Or.inl ⟨by rfl, ?_⟩) hHeld ?_
    · intro wq hSw
      try dsimp only at hSw
      go_simp
    try simp only [Act.put, List.getElem_toArray, List.getElem_cons_succ, List.getElem_cons_zero, List.setIfInBounds_toArray, List.set_cons_zero, List.set_cons_succ]
    refine wpAnyH_take (i := 12) (oi := _) (v := .pointer (some ⟨g, 0, none⟩)) rfl (by kernel_rfl) (by kernel_rfl) (by kernel_rfl) (fun _ _ _ h => h) (Or.inl ⟨by rfl, ?_⟩) hHeld ?_
    · intro wq hSw
      try dsimp only at hSw
      go_simp
    try simp only [Act.put, List.getElem_toArray, List.getElem_cons_succ, List.getElem_cons_zero, List.setIfInBounds_toArray, List.set_cons_zero, List.set_cons_succ]
    refine wpAnyH_take (i := 13) (oi := _) (v := .pointer (some ⟨g, 0, none⟩)) rfl (by kernel_rfl) (by kernel_rfl) (by kernel_rfl) (fun _ _ _ h => h) (Or.inl ⟨by rfl, ?_⟩) hHeld ?_
    · intro wq hSw
      try dsimp only at hSw
      go_simp
    try simp only [Act.put, List.getElem_toArray, List.getElem_cons_succ, List.getElem_cons_zero, List.setIfInBounds_toArray, List.set_cons_zero, List.set_cons_succ]
    refine wpAnyH_take (i := 14) (oi := _) (v := .pointer (some ⟨g, 0, none⟩)) rfl (by kernel_rfl) (by kernel_rfl) (by kernel_rfl) (fun _ _ _ h => h) (Or.inl ⟨by rfl, ?_⟩) hHeld ?_
    · intro wq hSw
      try dsimp only at hSw
      go_simp
    try simp only [Act.put, List.getElem_toArray, List.getElem_cons_succ, List.getElem_cons_zero, List.setIfInBounds_toArray, List.set_cons_zero, List.set_cons_succ]
    refine wpAnyH_take (i := 17) (oi := _) (v := .pointer (some ⟨g, 0, none⟩)) rfl (by kernel_rfl) (by kernel_rfl) (by kernel_rfl) (fun _ _ _ h => h) (Or.inl ⟨by rfl, ?_⟩) hHeld ?_
    · intro wq hSw
      try dsimp only at hSw
      go_simp
    try simp only [Act.put, List.getElem_toArray, List.getElem_cons_succ, List.getElem_cons_zero, List.setIfInBounds_toArray, List.set_cons_zero, List.set_cons_succ]
    refine wpAnyH_take (i := 18) (oi := _) (v := .pointer (some ⟨g, 0, none⟩)) rfl (by kernel_rfl) (by kernel_rfl) (by kernel_rfl) (fun _ _ _ h => h) (Or.inl ⟨by rfl, ?_⟩) hHeld ?_
    · intro wq hSw
      try dsimp only at hSw
      go_simp
    try simp only [Act.put, List.getElem_toArray, List.getElem_cons_succ, List.getElem_cons_zero, List.setIfInBounds_toArray, List.set_cons_zero, List.set_cons_succ]
    refine wpAnyH_take (i := 19) (oi := _) (v := .pointer (some ⟨g, 3, none⟩)) rfl (by kernel_rfl) (by kernel_rfl) (by kernel_rfl) (fun _ _ _ h => h) (Or.inl ⟨by rfl, ?_⟩) hHeld ?_
    · intro wq hSw
      try dsimp only at hSw
      go_simp
    try simp only [Act.put, List.getElem_toArray, List.getElem_cons_succ, List.getElem_cons_zero, List.setIfInBounds_toArray, List.set_cons_zero, List.set_cons_succ]
    refine wpAnyH_take (i := 20) (oi := _) (v := .bool mo) rfl (by kernel_rfl) (by kernel_rfl) (by kernel_rfl) (fun _ _ _ h => h) (Or.inl ⟨by rfl, ?_⟩) hHeld ?_
    · intro wq hSw
      try dsimp only at hSw
      go_simp
    try simp only [Act.put, List.getElem_toArray, List.getElem_cons_succ, List.getElem_cons_zero, List.setIfInBounds_toArray, List.set_cons_zero, List.set_cons_succ]
    refine wpAnyH_ready (rs := [9, 22]) (by kernel_rfl) (by simp) ?_
    refine AllReadyH.cons rfl (fun KK hK => ?_) (AllReadyH.cons rfl (fun KK hK => ?_) AllReadyH.nil)
    · simp only [List.getElem_toArray, List.getElem_cons_succ, List.getElem_cons_zero]
      rw [if_pos (by rfl)]
      refine wps2 208 (.tmp 18) (.const (.int .i64 1)) _ rfl in_bit (.pointer (some ⟨g, 0, none⟩)) (.int .i64 1) rfl rfl (bit_kept _ h.work hn.1 1 (by omega) (by omega) c1 (unhide HC1)) ?_
      rintro e w3 ⟨rfl, k3⟩
      refine ⟨_, rfl, ?_⟩
      replace kw := kw.trans k3
      replace h := h.kept k3
      replace d := d.kept k3
      replace ex := ex.kept k3
      replace m := m.kept k3
      replace qf0 := k3.loose0 (World.block_lt_of_cell? _ _ q0) qf0
      replace qf1 := k3.loose0 (World.block_lt_of_cell? _ _ q1) qf1
      replace qf2 := k3.loose0 (World.block_lt_of_cell? _ _ q2) qf2
      replace q0 := k3.cell0 q0
      replace q1 := k3.cell0 q1
      replace q2 := k3.cell0 q2
      replace hd1 := k3.cell0 hd1
      replace hm3 := k3.cell0 hm3
      replace K := hide ((unhide K).trans k3)
      have z4 := k3.size
      clear k3
      clear hHeld
      refine hK.out _ _ ?_ (fun hHeld => ?_)
      · exact ⟨hd1, hm3⟩
      clear hK KK
      try simp only [Act.put, List.getElem_toArray, List.getElem_cons_succ, List.getElem_cons_zero, List.setIfInBounds_toArray, List.set_cons_zero, List.set_cons_succ]
      refine wpAnyH_take (i := 10) (oi := _) (v := .bool B1) rfl (by kernel_rfl) (by kernel_rfl) (by kernel_rfl) (fun _ _ _ h => h) (Or.inl ⟨by rfl, ?_⟩) hHeld ?_
      · intro wq hSw
        try dsimp only at hSw
        go_simp
      try simp only [Act.put, List.getElem_toArray, List.getElem_cons_succ, List.getElem_cons_zero, List.setIfInBounds_toArray, List.set_cons_zero, List.set_cons_succ]
      refine wpAnyH_ready (rs := [15, 22]) (by kernel_rfl) (by simp) ?_
      refine AllReadyH.cons rfl (fun KK hK => ?_) (AllReadyH.cons rfl (fun KK hK => ?_) AllReadyH.nil)
      · simp only [List.getElem_toArray, List.getElem_cons_succ, List.getElem_cons_zero]
        rw [if_pos (by rfl)]
        refine wps2 208 (.tmp 24) (.const (.int .i64 0)) _ rfl in_bit (.pointer (some ⟨g, 0, none⟩)) (.int .i64 0) rfl rfl (bit_kept _ h.work hn.1 0 (by omega) (by omega) c0 (unhide HC0)) ?_
        rintro e w5 ⟨rfl, k5⟩
        refine ⟨_, rfl, ?_⟩
        replace kw := kw.trans k5
        replace h := h.kept k5
        replace d := d.kept k5
        replace ex := ex.kept k5
        replace m := m.kept k5
        replace qf0 := k5.loose0 (World.block_lt_of_cell? _ _ q0) qf0
        replace qf1 := k5.loose0 (World.block_lt_of_cell? _ _ q1) qf1
        replace qf2 := k5.loose0 (World.block_lt_of_cell? _ _ q2) qf2
        replace q0 := k5.cell0 q0
        replace q1 := k5.cell0 q1
        replace q2 := k5.cell0 q2
        replace hd1 := k5.cell0 hd1
        replace hm3 := k5.cell0 hm3
        replace K := hide ((unhide K).trans k5)
        have z6 := k5.size
        clear k5
        clear hHeld
        refine hK.out _ _ ?_ (fun hHeld => ?_)
        · exact ⟨hd1, hm3⟩
        clear hK KK
        try simp only [Act.put, List.getElem_toArray, List.getElem_cons_succ, List.getElem_cons_zero, List.setIfInBounds_toArray, List.set_cons_zero, List.set_cons_succ]
        refine wpAnyH_take (i := 16) (oi := _) (v := .bool B0) rfl (by kernel_rfl) (by kernel_rfl) (by kernel_rfl) (fun _ _ _ h => h) (Or.inl ⟨by rfl, ?_⟩) hHeld ?_
        · intro wq hSw
          try dsimp only at hSw
          go_simp
        try simp only [Act.put, List.getElem_toArray, List.getElem_cons_succ, List.getElem_cons_zero, List.setIfInBounds_toArray, List.set_cons_zero, List.set_cons_succ]
        refine wpAnyH_take (i := 21) (oi := _) (v := .agg #[.bool s, .bool B1, .bool B0, .bool mo]) rfl (by kernel_rfl) (by kernel_rfl) (by kernel_rfl) (fun _ _ _ h => h) (Or.inl ⟨by rfl, ?_⟩) hHeld ?_
        · intro wq hSw
          try dsimp only at hSw
          go_simp
        try simp only [Act.put, List.getElem_toArray, List.getElem_cons_succ, List.getElem_cons_zero, List.setIfInBounds_toArray, List.set_cons_zero, List.set_cons_succ]
        refine wpAnyH_ready (rs := [22]) (by kernel_rfl) (by simp) ?_
        refine AllReadyH.cons rfl (fun KK hK => ?_) AllReadyH.nil
        simp only [List.getElem_toArray, List.getElem_cons_succ, List.getElem_cons_zero]
        rw [if_pos (by rfl)]
        go_simp
        have kn := (Kept.refl 0 0 w5).alloc (.cells #[.bool false, .bool false, .bool false, .bool false] 230)
        replace kw := kw.trans kn
        replace h := h.kept kn
        replace d := d.kept kn
        replace ex := ex.kept kn
        replace m := m.kept kn
        replace qf0 := kn.loose0 (World.block_lt_of_cell? _ _ q0) qf0
        replace qf1 := kn.loose0 (World.block_lt_of_cell? _ _ q1) qf1
        replace qf2 := kn.loose0 (World.block_lt_of_cell? _ _ q2) qf2
        replace q0 := kn.cell0 q0
        replace q1 := kn.cell0 q1
        replace q2 := kn.cell0 q2
        replace hd1 := kn.cell0 hd1
        replace hm3 := kn.cell0 hm3
        replace K := hide ((unhide K).trans kn)
        have z8 := kn.size
        clear kn
        have szy : w5.heap.size < (w5.alloc (.cells #[.bool false, .bool false, .bool false, .bool false] 230)).heap.size := by simp
        have y0 : (w5.alloc (.cells #[.bool false, .bool false, .bool false, .bool false] 230)).cell? ⟨w5.heap.size, 0, none⟩ = some (.bool false) := new_cell2 _ _ _ _ _ _ rfl rfl
        have yf0 : (w5.alloc (.cells #[.bool false, .bool false, .bool false, .bool false] 230)).frozen? ⟨w5.heap.size, 0, none⟩ = false := new_loose2 _ _ _ _ _ rfl
        have y1 : (w5.alloc (.cells #[.bool false, .bool false, .bool false, .bool false] 230)).cell? ⟨w5.heap.size, 1, none⟩ = some (.bool false) := new_cell2 _ _ _ _ _ _ rfl rfl
        have yf1 : (w5.alloc (.cells #[.bool false, .bool false, .bool false, .bool false] 230)).frozen? ⟨w5.heap.size, 1, none⟩ = false := new_loose2 _ _ _ _ _ rfl
        have y2 : (w5.alloc (.cells #[.bool false, .bool false, .bool false, .bool false] 230)).cell? ⟨w5.heap.size, 2, none⟩ = some (.bool false) := new_cell2 _ _ _ _ _ _ rfl rfl
        have yf2 : (w5.alloc (.cells #[.bool false, .bool false, .bool false, .bool false] 230)).frozen? ⟨w5.heap.size, 2, none⟩ = false := new_loose2 _ _ _ _ _ rfl
        have y3 : (w5.alloc (.cells #[.bool false, .bool false, .bool false, .bool false] 230)).cell? ⟨w5.heap.size, 3, none⟩ = some (.bool false) := new_cell2 _ _ _ _ _ _ rfl rfl
        have yf3 : (w5.alloc (.cells #[.bool false, .bool false, .bool false, .bool false] 230)).frozen? ⟨w5.heap.size, 3, none⟩ = false := new_loose2 _ _ _ _ _ rfl
        clear hHeld
        refine hK.out _ _ ?_ (fun hHeld => ?_)
        · exact ⟨hd1, hm3⟩
        clear hK KK
        try simp only [Act.put, List.getElem_toArray, List.getElem_cons_succ, List.getElem_cons_zero, List.setIfInBounds_toArray, List.set_cons_zero, List.set_cons_succ]
        generalize w5.alloc (.cells #[.bool false, .bool false, .bool false, .bool false] 230) = w7 at *
        refine wpAnyH_ready (rs := [23]) (by kernel_rfl) (by simp) ?_
        refine AllReadyH.cons rfl (fun KK hK => ?_) AllReadyH.nil
        simp only [List.getElem_toArray, List.getElem_cons_succ, List.getElem_cons_zero]
        rw [if_pos (by rfl)]
        go_simp
        clear hHeld
        refine hK.out _ _ ?_ (fun hHeld => ?_)
        · exact ⟨(cell_aside _ (by have := unhide S0; dsimp only; omega) (cell_aside _ (by have := unhide S0; dsimp only; omega) (cell_aside _ (by have := unhide S0; dsimp only; omega) (cell_aside _ (by have := unhide S0; dsimp only; omega) hd1)))), (cell_aside _ (by have := unhide S0; dsimp only; omega) (cell_aside _ (by have := unhide S0; dsimp only; omega) (cell_aside _ (by have := unhide S0; dsimp only; omega) (cell_aside _ (by have := unhide S0; dsimp only; omega) hm3))))⟩
        clear hK KK
        try simp only [Act.put, List.getElem_toArray, List.getElem_cons_succ, List.getElem_cons_zero, List.setIfInBounds_toArray, List.set_cons_zero, List.set_cons_succ]
        refine wpAnyH_done (by kernel_rfl) ?_ _
        clear hHeld
        go_wp2_with fail
        go_meet
        exact ⟨_, rfl, by omega, Bx4.set s B1 B0 mo y0 y1 y2 y3, ((((kw.setNew (p := ⟨w5.heap.size, 0, none⟩) (by have := unhide S0; dsimp only; omega) (.bool s)).setNew (p := ⟨w5.heap.size, 1, none⟩) (by have := unhide S0; dsimp only; omega) (.bool B1)).setNew (p := ⟨w5.heap.size, 2, none⟩) (by have := unhide S0; dsimp only; omega) (.bool B0)).setNew (p := ⟨w5.heap.size, 3, none⟩) (by have := unhide S0; dsimp only; omega) (.bool mo))⟩
      · simp only [List.getElem_toArray, List.getElem_cons_succ, List.getElem_cons_zero]
        rw [if_pos (by rfl)]
        go_simp
        have kn := (Kept.refl 0 0 w3).alloc (.cells #[.bool false, .bool false, .bool false, .bool false] 230)
        replace kw := kw.trans kn
        replace h := h.kept kn
        replace d := d.kept kn
        replace ex := ex.kept kn
        replace m := m.kept kn
        replace qf0 := kn.loose0 (World.block_lt_of_cell? _ _ q0) qf0
        replace qf1 := kn.loose0 (World.block_lt_of_cell? _ _ q1) qf1
        replace qf2 := kn.loose0 (World.block_lt_of_cell? _ _ q2) qf2
        replace q0 := kn.cell0 q0
        replace q1 := kn.cell0 q1
        replace q2 := kn.cell0 q2
        replace hd1 := kn.cell0 hd1
        replace hm3 := kn.cell0 hm3
        replace K := hide ((unhide K).trans kn)
        have z6 := kn.size
        clear kn
        have szy : w3.heap.size < (w3.alloc (.cells #[.bool false, .bool false, .bool false, .bool false] 230)).heap.size := by simp
        have y0 : (w3.alloc (.cells #[.bool false, .bool false, .bool false, .bool false] 230)).cell? ⟨w3.heap.size, 0, none⟩ = some (.bool false) := new_cell2 _ _ _ _ _ _ rfl rfl
        have yf0 : (w3.alloc (.cells #[.bool false, .bool false, .bool false, .bool false] 230)).frozen? ⟨w3.heap.size, 0, none⟩ = false := new_loose2 _ _ _ _ _ rfl
        have y1 : (w3.alloc (.cells #[.bool false, .bool false, .bool false, .bool false] 230)).cell? ⟨w3.heap.size, 1, none⟩ = some (.bool false) := new_cell2 _ _ _ _ _ _ rfl rfl
        have yf1 : (w3.alloc (.cells #[.bool false, .bool false, .bool false, .bool false] 230)).frozen? ⟨w3.heap.size, 1, none⟩ = false := new_loose2 _ _ _ _ _ rfl
        have y2 : (w3.alloc (.cells #[.bool false, .bool false, .bool false, .bool false] 230)).cell? ⟨w3.heap.size, 2, none⟩ = some (.bool false) := new_cell2 _ _ _ _ _ _ rfl rfl
        have yf2 : (w3.alloc (.cells #[.bool false, .bool false, .bool false, .bool false] 230)).frozen? ⟨w3.heap.size, 2, none⟩ = false := new_loose2 _ _ _ _ _ rfl
        have y3 : (w3.alloc (.cells #[.bool false, .bool false, .bool false, .bool false] 230)).cell? ⟨w3.heap.size, 3, none⟩ = some (.bool false) := new_cell2 _ _ _ _ _ _ rfl rfl
        have yf3 : (w3.alloc (.cells #[.bool false, .bool false, .bool false, .bool false] 230)).frozen? ⟨w3.heap.size, 3, none⟩ = false := new_loose2 _ _ _ _ _ rfl
        clear hHeld
        refine hK.out _ _ ?_ (fun hHeld => ?_)
        · exact ⟨hd1, hm3⟩
        clear hK KK
        try simp only [Act.put, List.getElem_toArray, List.getElem_cons_succ, List.getElem_cons_zero, List.setIfInBounds_toArray, List.set_cons_zero, List.set_cons_succ]
        generalize w3.alloc (.cells #[.bool false, .bool false, .bool false, .bool false] 230) = w5 at *
        refine wpAnyH_ready (rs := [15]) (by kernel_rfl) (by simp) ?_
        refine AllReadyH.cons rfl (fun KK hK => ?_) AllReadyH.nil
        simp only [List.getElem_toArray, List.getElem_cons_succ, List.getElem_cons_zero]
        rw [if_pos (by rfl)]
        refine wps2 208 (.tmp 24) (.const (.int .i64 0)) _ rfl in_bit (.pointer (some ⟨g, 0, none⟩)) (.int .i64 0) rfl rfl (bit_kept _ h.work hn.1 0 (by omega) (by omega) c0 (unhide HC0)) ?_
        rintro e w7 ⟨rfl, k7⟩
        refine ⟨_, rfl, ?_⟩
        replace kw := kw.trans k7
        replace h := h.kept k7
        replace d := d.kept k7
        replace ex := ex.kept k7
        replace m := m.kept k7
        replace qf0 := k7.loose0 (World.block_lt_of_cell? _ _ q0) qf0
        replace qf1 := k7.loose0 (World.block_lt_of_cell? _ _ q1) qf1
        replace qf2 := k7.loose0 (World.block_lt_of_cell? _ _ q2) qf2
        replace yf0 := k7.loose0 (World.block_lt_of_cell? _ _ y0) yf0
        replace yf1 := k7.loose0 (World.block_lt_of_cell? _ _ y1) yf1
        replace yf2 := k7.loose0 (World.block_lt_of_cell? _ _ y2) yf2
        replace yf3 := k7.loose0 (World.block_lt_of_cell? _ _ y3) yf3
        replace q0 := k7.cell0 q0
        replace q1 := k7.cell0 q1
        replace q2 := k7.cell0 q2
        replace hd1 := k7.cell0 hd1
        replace hm3 := k7.cell0 hm3
        replace y0 := k7.cell0 y0
        replace y1 := k7.cell0 y1
        replace y2 := k7.cell0 y2
        replace y3 := k7.cell0 y3
        replace K := hide ((unhide K).trans k7)
        have z8 := k7.size
        clear k7
        clear hHeld
        refine hK.out _ _ ?_ (fun hHeld => ?_)
        · exact ⟨hd1, hm3⟩
        clear hK KK
        try simp only [Act.put, List.getElem_toArray, List.getElem_cons_succ, List.getElem_cons_zero, List.setIfInBounds_toArray, List.set_cons_zero, List.set_cons_succ]
        refine wpAnyH_take (i := 16) (oi := _) (v := .bool B0) rfl (by kernel_rfl) (by kernel_rfl) (by kernel_rfl) (fun _ _ _ h => h) (Or.inl ⟨by rfl, ?_⟩) hHeld ?_
        · intro wq hSw
          try dsimp only at hSw
          go_simp
        try simp only [Act.put, List.getElem_toArray, List.getElem_cons_succ, List.getElem_cons_zero, List.setIfInBounds_toArray, List.set_cons_zero, List.set_cons_succ]
        refine wpAnyH_take (i := 21) (oi := _) (v := .agg #[.bool s, .bool B1, .bool B0, .bool mo]) rfl (by kernel_rfl) (by kernel_rfl) (by kernel_rfl) (fun _ _ _ h => h) (Or.inl ⟨by rfl, ?_⟩) hHeld ?_
        · intro wq hSw
          try dsimp only at hSw
          go_simp
        try simp only [Act.put, List.getElem_toArray, List.getElem_cons_succ, List.getElem_cons_zero, List.setIfInBounds_toArray, List.set_cons_zero, List.set_cons_succ]
        refine wpAnyH_ready (rs := [23]) (by kernel_rfl) (by simp) ?_
        refine AllReadyH.cons rfl (fun KK hK => ?_) AllReadyH.nil
        simp only [List.getElem_toArray, List.getElem_cons_succ, List.getElem_cons_zero]
        rw [if_pos (by rfl)]
        go_simp
        clear hHeld
        refine hK.out _ _ ?_ (fun hHeld => ?_)
        · exact ⟨(cell_aside _ (by have := unhide S0; dsimp only; omega) (cell_aside _ (by have := unhide S0; dsimp only; omega) (cell_aside _ (by have := unhide S0; dsimp only; omega) (cell_aside _ (by have := unhide S0; dsimp only; omega) hd1)))), (cell_aside _ (by have := unhide S0; dsimp only; omega) (cell_aside _ (by have := unhide S0; dsimp only; omega) (cell_aside _ (by have := unhide S0; dsimp only; omega) (cell_aside _ (by have := unhide S0; dsimp only; omega) hm3))))⟩
        clear hK KK
        try simp only [Act.put, List.getElem_toArray, List.getElem_cons_succ, List.getElem_cons_zero, List.setIfInBounds_toArray, List.set_cons_zero, List.set_cons_succ]
        refine wpAnyH_done (by kernel_rfl) ?_ _
        clear hHeld
        go_wp2_with fail
        go_meet
        exact ⟨_, rfl, by omega, Bx4.set s B1 B0 mo y0 y1 y2 y3, ((((kw.setNew (p := ⟨w3.heap.size, 0, none⟩) (by have := unhide S0; dsimp only; omega) (.bool s)).setNew (p := ⟨w3.heap.size, 1, none⟩) (by have := unhide S0; dsimp only; omega) (.bool B1)).setNew (p := ⟨w3.heap.size, 2, none⟩) (by have := unhide S0; dsimp only; omega) (.bool B0)).setNew (p := ⟨w3.heap.size, 3, none⟩) (by have := unhide S0; dsimp only; omega) (.bool mo))⟩
    · simp only [List.getElem_toArray, List.getElem_cons_succ, List.getElem_cons_zero]
      rw [if_pos (by rfl)]
      go_simp
      have kn := (Kept.refl 0 0 wd2).alloc (.cells #[.bool false, .bool false, .bool false, .bool false] 230)
      replace kw := kw.trans kn
      replace h := h.kept kn
      replace d := d.kept kn
      replace ex := ex.kept kn
      replace m := m.kept kn
      replace qf0 := kn.loose0 (World.block_lt_of_cell? _ _ q0) qf0
      replace qf1 := kn.loose0 (World.block_lt_of_cell? _ _ q1) qf1
      replace qf2 := kn.loose0 (World.block_lt_of_cell? _ _ q2) qf2
      replace q0 := kn.cell0 q0
      replace q1 := kn.cell0 q1
      replace q2 := kn.cell0 q2
      replace hd1 := kn.cell0 hd1
      replace hm3 := kn.cell0 hm3
      replace K := hide ((unhide K).trans kn)
      have z4 := kn.size
      clear kn
      have szy : wd2.heap.size < (wd2.alloc (.cells #[.bool false, .bool false, .bool false, .bool false] 230)).heap.size := by simp
      have y0 : (wd2.alloc (.cells #[.bool false, .bool false, .bool false, .bool false] 230)).cell? ⟨wd2.heap.size, 0, none⟩ = some (.bool false) := new_cell2 _ _ _ _ _ _ rfl rfl
      have yf0 : (wd2.alloc (.cells #[.bool false, .bool false, .bool false, .bool false] 230)).frozen? ⟨wd2.heap.size, 0, none⟩ = false := new_loose2 _ _ _ _ _ rfl
      have y1 : (wd2.alloc (.cells #[.bool false, .bool false, .bool false, .bool false] 230)).cell? ⟨wd2.heap.size, 1, none⟩ = some (.bool false) := new_cell2 _ _ _ _ _ _ rfl rfl
      have yf1 : (wd2.alloc (.cells #[.bool false, .bool false, .bool false, .bool false] 230)).frozen? ⟨wd2.heap.size, 1, none⟩ = false := new_loose2 _ _ _ _ _ rfl
      have y2 : (wd2.alloc (.cells #[.bool false, .bool false, .bool false, .bool false] 230)).cell? ⟨wd2.heap.size, 2, none⟩ = some (.bool false) := new_cell2 _ _ _ _ _ _ rfl rfl
      have yf2 : (wd2.alloc (.cells #[.bool false, .bool false, .bool false, .bool false] 230)).frozen? ⟨wd2.heap.size, 2, none⟩ = false := new_loose2 _ _ _ _ _ rfl
      have y3 : (wd2.alloc (.cells #[.bool false, .bool false, .bool false, .bool false] 230)).cell? ⟨wd2.heap.size, 3, none⟩ = some (.bool false) := new_cell2 _ _ _ _ _ _ rfl rfl
      have yf3 : (wd2.alloc (.cells #[.bool false, .bool false, .bool false, .bool false] 230)).frozen? ⟨wd2.heap.size, 3, none⟩ = false := new_loose2 _ _ _ _ _ rfl
      clear hHeld
      refine hK.out _ _ ?_ (fun hHeld => ?_)
      · exact ⟨hd1, hm3⟩
      clear hK KK
      try simp only [Act.put, List.getElem_toArray, List.getElem_cons_succ, List.getElem_cons_zero, List.setIfInBounds_toArray, List.set_cons_zero, List.set_cons_succ]
      generalize wd2.alloc (.cells #[.bool false, .bool false, .bool false, .bool false] 230) = w3 at *
      refine wpAnyH_ready (rs := [9]) (by kernel_rfl) (by simp) ?_
      refine AllReadyH.cons rfl (fun KK hK => ?_) AllReadyH.nil
      simp only [List.getElem_toArray, List.getElem_cons_succ, List.getElem_cons_zero]
      rw [if_pos (by rfl)]
      refine wps2 208 (.tmp 18) (.const (.int .i64 1)) _ rfl in_bit (.pointer (some ⟨g, 0, none⟩)) (.int .i64 1) rfl rfl (bit_kept _ h.work hn.1 1 (by omega) (by omega) c1 (unhide HC1)) ?_
      rintro e w5 ⟨rfl, k5⟩
      refine ⟨_, rfl, ?_⟩
      replace kw := kw.trans k5
      replace h := h.kept k5
      replace d := d.kept k5
      replace ex := ex.kept k5
      replace m := m.kept k5
      replace qf0 := k5.loose0 (World.block_lt_of_cell? _ _ q0) qf0
      replace qf1 := k5.loose0 (World.block_lt_of_cell? _ _ q1) qf1
      replace qf2 := k5.loose0 (World.block_lt_of_cell? _ _ q2) qf2
      replace yf0 := k5.loose0 (World.block_lt_of_cell? _ _ y0) yf0
      replace yf1 := k5.loose0 (World.block_lt_of_cell? _ _ y1) yf1
      replace yf2 := k5.loose0 (World.block_lt_of_cell? _ _ y2) yf2
      replace yf3 := k5.loose0 (World.block_lt_of_cell? _ _ y3) yf3
      replace q0 := k5.cell0 q0
      replace q1 := k5.cell0 q1
      replace q2 := k5.cell0 q2
      replace hd1 := k5.cell0 hd1
      replace hm3 := k5.cell0 hm3
      replace y0 := k5.cell0 y0
      replace y1 := k5.cell0 y1
      replace y2 := k5.cell0 y2
      replace y3 := k5.cell0 y3
      replace K := hide ((unhide K).trans k5)
      have z6 := k5.size
      clear k5
      clear hHeld
      refine hK.out _ _ ?_ (fun hHeld => ?_)
      · exact ⟨hd1, hm3⟩
      clear hK KK
      try simp only [Act.put, List.getElem_toArray, List.getElem_cons_succ, List.getElem_cons_zero, List.setIfInBounds_toArray, List.set_cons_zero, List.set_cons_succ]
      refine wpAnyH_take (i := 10) (oi := _) (v := .bool B1) rfl (by kernel_rfl) (by kernel_rfl) (by kernel_rfl) (fun _ _ _ h => h) (Or.inl ⟨by rfl, ?_⟩) hHeld ?_
      · intro wq hSw
        try dsimp only at hSw
        go_simp
      try simp only [Act.put, List.getElem_toArray, List.getElem_cons_succ, List.getElem_cons_zero, List.setIfInBounds_toArray, List.set_cons_zero, List.set_cons_succ]
      refine wpAnyH_ready (rs := [15]) (by kernel_rfl) (by simp) ?_
      refine AllReadyH.cons rfl (fun KK hK => ?_) AllReadyH.nil
      simp only [List.getElem_toArray, List.getElem_cons_succ, List.getElem_cons_zero]
      rw [if_pos (by rfl)]
      refine wps2 208 (.tmp 24) (.const (.int .i64 0)) _ rfl in_bit (.pointer (some ⟨g, 0, none⟩)) (.int .i64 0) rfl rfl (bit_kept _ h.work hn.1 0 (by omega) (by omega) c0 (unhide HC0)) ?_
      rintro e w7 ⟨rfl, k7⟩
      refine ⟨_, rfl, ?_⟩
      replace kw := kw.trans k7
      replace h := h.kept k7
      replace d := d.kept k7
      replace ex := ex.kept k7
      replace m := m.kept k7
      replace qf0 := k7.loose0 (World.block_lt_of_cell? _ _ q0) qf0
      replace qf1 := k7.loose0 (World.block_lt_of_cell? _ _ q1) qf1
      replace qf2 := k7.loose0 (World.block_lt_of_cell? _ _ q2) qf2
      replace yf0 := k7.loose0 (World.block_lt_of_cell? _ _ y0) yf0
      replace yf1 := k7.loose0 (World.block_lt_of_cell? _ _ y1) yf1
      replace yf2 := k7.loose0 (World.block_lt_of_cell? _ _ y2) yf2
      replace yf3 := k7.loose0 (World.block_lt_of_cell? _ _ y3) yf3
      replace q0 := k7.cell0 q0
      replace q1 := k7.cell0 q1
      replace q2 := k7.cell0 q2
      replace hd1 := k7.cell0 hd1
      replace hm3 := k7.cell0 hm3
      replace y0 := k7.cell0 y0
      replace y1 := k7.cell0 y1
      replace y2 := k7.cell0 y2
      replace y3 := k7.cell0 y3
      replace K := hide ((unhide K).trans k7)
      have z8 := k7.size
      clear k7
      clear hHeld
      refine hK.out _ _ ?_ (fun hHeld => ?_)
      · exact ⟨hd1, hm3⟩
      clear hK KK
      try simp only [Act.put, List.getElem_toArray, List.getElem_cons_succ, List.getElem_cons_zero, List.setIfInBounds_toArray, List.set_cons_zero, List.set_cons_succ]
      refine wpAnyH_take (i := 16) (oi := _) (v := .bool B0) rfl (by kernel_rfl) (by kernel_rfl) (by kernel_rfl) (fun _ _ _ h => h) (Or.inl ⟨by rfl, ?_⟩) hHeld ?_
      · intro wq hSw
        try dsimp only at hSw
        go_simp
      try simp only [Act.put, List.getElem_toArray, List.getElem_cons_succ, List.getElem_cons_zero, List.setIfInBounds_toArray, List.set_cons_zero, List.set_cons_succ]
      refine wpAnyH_take (i := 21) (oi := _) (v := .agg #[.bool s, .bool B1, .bool B0, .bool mo]) rfl (by kernel_rfl) (by kernel_rfl) (by kernel_rfl) (fun _ _ _ h => h) (Or.inl ⟨by rfl, ?_⟩) hHeld ?_
      · intro wq hSw
        try dsimp only at hSw
        go_simp
      try simp only [Act.put, List.getElem_toArray, List.getElem_cons_succ, List.getElem_cons_zero, List.setIfInBounds_toArray, List.set_cons_zero, List.set_cons_succ]
      refine wpAnyH_ready (rs := [23]) (by kernel_rfl) (by simp) ?_
      refine AllReadyH.cons rfl (fun KK hK => ?_) AllReadyH.nil
      simp only [List.getElem_toArray, List.getElem_cons_succ, List.getElem_cons_zero]
      rw [if_pos (by rfl)]
      go_simp
      clear hHeld
      refine hK.out _ _ ?_ (fun hHeld => ?_)
      · exact ⟨(cell_aside _ (by have := unhide S0; dsimp only; omega) (cell_aside _ (by have := unhide S0; dsimp only; omega) (cell_aside _ (by have := unhide S0; dsimp only; omega) (cell_aside _ (by have := unhide S0; dsimp only; omega) hd1)))), (cell_aside _ (by have := unhide S0; dsimp only; omega) (cell_aside _ (by have := unhide S0; dsimp only; omega) (cell_aside _ (by have := unhide S0; dsimp only; omega) (cell_aside _ (by have := unhide S0; dsimp only; omega) hm3))))⟩
      clear hK KK
      try simp only [Act.put, List.getElem_toArray, List.getElem_cons_succ, List.getElem_cons_zero, List.setIfInBounds_toArray, List.set_cons_zero, List.set_cons_succ]
      refine wpAnyH_done (by kernel_rfl) ?_ _
      clear hHeld
      go_wp2_with fail
      go_meet
      exact ⟨_, rfl, by omega, Bx4.set s B1 B0 mo y0 y1 y2 y3, ((((kw.setNew (p := ⟨wd2.heap.size, 0, none⟩) (by have := unhide S0; dsimp only; omega) (.bool s)).setNew (p := ⟨wd2.heap.size, 1, none⟩) (by have := unhide S0; dsimp only; omega) (.bool B1)).setNew (p := ⟨wd2.heap.size, 2, none⟩) (by have := unhide S0; dsimp only; omega) (.bool B0)).setNew (p := ⟨wd2.heap.size, 3, none⟩) (by have := unhide S0; dsimp only; omega) (.bool mo))⟩
  case rest =>
    obtain ⟨X, rfl, hX, bx, kx⟩ := hcut
    replace h := h.kept kx
    replace d := d.kept kx
    replace ex := ex.kept kx
    replace m := m.kept kx
    replace qf0 := kx.loose0 (World.block_lt_of_cell? _ _ q0) qf0
    replace qf1 := kx.loose0 (World.block_lt_of_cell? _ _ q1) qf1
    replace qf2 := kx.loose0 (World.block_lt_of_cell? _ _ q2) qf2
    replace q0 := kx.cell0 q0
    replace q1 := kx.cell0 q1
    replace q2 := kx.cell0 q2
    replace K := hide ((unhide K).trans kx)
    have z1 := kx.size
    clear kx HC1 HC0 hb1 hb0
    go_wp2_with fail
    refine (shiftDown_wrk _ h hn.1 (by omega) 1 (by omega)).mono ?_
    rintro e w2 ⟨⟨r2, rfl⟩, u2, n2, o2, m2, sd2⟩
    rw [unhide HV, show V / 2 ^ 1 = V / 2 from rfl] at n2
    have hS0 := unhide S0
    have nX : ¬ Own1 g v X := fun e => e.elim (fun e => by omega) (fun e => by have := own _ e; omega)
    have nR : ¬ Own1 g v w.heap.size := fun e => e.elim (fun e => by omega) (fun e => by have := own _ e; omega)
    replace d := d.same sd2
    replace ex := ex.tail sd2.tail
    replace bx := bx.mod m2 nX
    replace qf0 := m2.loose (a := ⟨w.heap.size, 0, none⟩) nR (World.block_lt_of_cell? _ _ q0) qf0
    replace qf1 := m2.loose (a := ⟨w.heap.size, 1, none⟩) nR (World.block_lt_of_cell? _ _ q1) qf1
    replace qf2 := m2.loose (a := ⟨w.heap.size, 2, none⟩) nR (World.block_lt_of_cell? _ _ q2) qf2
    replace q0 := m2.cell (a := ⟨w.heap.size, 0, none⟩) nR q0
    replace q1 := m2.cell (a := ⟨w.heap.size, 1, none⟩) nR q1
    replace q2 := m2.cell (a := ⟨w.heap.size, 2, none⟩) nR q2
    have MM : Hid (Mod (Own1 g v) w w2) := Mod.trans (unhide K).toMod m2
    have zm := m2.size
    clear h m m2 sd2 K nX nR
    obtain ⟨bx0, bx1, bx2, bx3⟩ := bx
    go_upto_region 4 with fail
    go_cut [5, 46] (fun e5 p wx => p = .bool UP ∧ Kept 0 0 w2 wx)
    case first =>
      have kw := Kept.refl 0 0 w2
      have K := hide (Kept.refl 0 0 w2)
      clear MM n2 o2 d ex
      cases hE : EX
      · rw [hE] at HUP
        have hup := unhide HUP
        simp only [Bool.not_false, Bool.true_and] at hup
        clear HUP HEX
        have kd := (Kept.refl 0 0 w2).drew
        replace kw := kw.trans kd
        replace bx0 := kd.cell0 bx0
        replace bx1 := kd.cell0 bx1
        replace bx2 := kd.cell0 bx2
        replace bx3 := kd.cell0 bx3
        replace K := hide ((unhide K).trans kd)
        have z2 := kd.size
        clear kd
        obtain rfl | rfl | rfl | rfl | rfl : mode = 0 ∨ mode = 1 ∨ mode = 2 ∨ mode = 3 ∨ mode = 4 := by omega
        · skip
          refine wp_region_held_drew (S := (fun w' => w'.cell? ⟨X, 0, none⟩ = some (.bool s) ∧ w'.cell? ⟨X, 1, none⟩ = some (.bool B1) ∧ w'.cell? ⟨X, 2, none⟩ = some (.bool B0) ∧ w'.cell? ⟨X, 3, none⟩ = some (.bool mo))) (by kernel_rfl) ?_ (fun hHeld => ?_)
          · exact ⟨bx0, bx1, bx2, bx3⟩
          generalize w2.drew = wd at *
          refine wpAnyH_take (i := 0) (oi := _) (v := .bool false) rfl (by kernel_rfl) (by kernel_rfl) (by kernel_rfl) (fun _ _ _ h => h) (Or.inl ⟨by rfl, ?_⟩) hHeld ?_
          · intro wq hSw
            try dsimp only at hSw
            go_simp
          try simp only [Act.put, List.getElem_toArray, List.getElem_cons_succ, List.getElem_cons_zero, List.setIfInBounds_toArray, List.set_cons_zero, List.set_cons_succ]
          refine wpAnyH_take (i := 1) (oi := _) (v := .bool true) rfl (by kernel_rfl) (by kernel_rfl) (by kernel_rfl) (fun _ _ _ h => h) (Or.inl ⟨by rfl, ?_⟩) hHeld ?_
          · intro wq hSw
            try dsimp only at hSw
            go_simp
          try simp only [Act.put, List.getElem_toArray, List.getElem_cons_succ, List.getElem_cons_zero, List.setIfInBounds_toArray, List.set_cons_zero, List.set_cons_succ]
          refine wpAnyH_take (i := 2) (oi := _) (v := .bool true) rfl (by kernel_rfl) (by kernel_rfl) (by kernel_rfl) (fun _ _ _ h => h) (Or.inl ⟨by rfl, ?_⟩) hHeld ?_
          · intro wq hSw
            try dsimp only at hSw
            go_simp
          try simp only [Act.put, List.getElem_toArray, List.getElem_cons_succ, List.getElem_cons_zero, List.setIfInBounds_toArray, List.set_cons_zero, List.set_cons_succ]
          refine wpAnyH_take (i := 4) (oi := _) (v := .int .i64 0) rfl (by kernel_rfl) (by kernel_rfl) (by kernel_rfl) (fun _ _ _ h => h) (Or.inl ⟨by rfl, ?_⟩) hHeld ?_
          · intro wq hSw
            try dsimp only at hSw
            go_simp
          try simp only [Act.put, List.getElem_toArray, List.getElem_cons_succ, List.getElem_cons_zero, List.setIfInBounds_toArray, List.set_cons_zero, List.set_cons_succ]
          refine wpAnyH_take (i := 7) (oi := _) (v := .agg #[.bool s, .bool B1, .bool B0, .bool mo]) rfl (by kernel_rfl) (by kernel_rfl) (by kernel_rfl) (fun _ _ _ h => h) (Or.inl ⟨by rfl, ?_⟩) hHeld ?_
          · intro wq hSw
            try dsimp only at hSw
            go_simp
          try simp only [Act.put, List.getElem_toArray, List.getElem_cons_succ, List.getElem_cons_zero, List.setIfInBounds_toArray, List.set_cons_zero, List.set_cons_succ]
          refine wpAnyH_ready (rs := [3]) (by kernel_rfl) (by simp) ?_
          refine AllReadyH.cons rfl (fun KK hK => ?_) AllReadyH.nil
          simp only [List.getElem_toArray, List.getElem_cons_succ, List.getElem_cons_zero]
          rw [if_pos (by rfl)]
          refine wps0 209 _ rfl in_roundings (roundings_impl _) ?_
          rintro e w3 ⟨rfl, k3⟩
          refine ⟨_, rfl, ?_⟩
          replace kw := kw.trans k3
          replace bx0 := k3.cell0 bx0
          replace bx1 := k3.cell0 bx1
          replace bx2 := k3.cell0 bx2
          replace bx3 := k3.cell0 bx3
          replace K := hide ((unhide K).trans k3)
          have z3 := k3.size
          clear k3
          clear hHeld
          refine hK.out _ _ ?_ (fun hHeld => ?_)
          · exact ⟨bx0, bx1, bx2, bx3⟩
          clear hK KK
          try simp only [Act.put, List.getElem_toArray, List.getElem_cons_succ, List.getElem_cons_zero, List.setIfInBounds_toArray, List.set_cons_zero, List.set_cons_succ]
          have hix := idx_r0
          have hfl := fld_r0
          refine wpAnyH_take (i := 5) (oi := _) (v := .agg #[.func (.func 224) #[] #[]]) rfl (by kernel_rfl) (by kernel_rfl) (by kernel_rfl) (fun _ _ _ h => h) (Or.inl ⟨by rfl, ?_⟩) hHeld ?_
          · intro wq hSw
            try dsimp only at hSw
            go_simp
          try simp only [Act.put, List.getElem_toArray, List.getElem_cons_succ, List.getElem_cons_zero, List.setIfInBounds_toArray, List.set_cons_zero, List.set_cons_succ]
          refine wpAnyH_take (i := 6) (oi := _) (v := .func (.func 224) #[] #[]) rfl (by kernel_rfl) (by kernel_rfl) (by kernel_rfl) (fun _ _ _ h => h) (Or.inl ⟨by rfl, ?_⟩) hHeld ?_
          · intro wq hSw
            try dsimp only at hSw
            go_simp
          try simp only [Act.put, List.getElem_toArray, List.getElem_cons_succ, List.getElem_cons_zero, List.setIfInBounds_toArray, List.set_cons_zero, List.set_cons_succ]
          refine wpAnyH_ready (rs := [8]) (by kernel_rfl) (by simp) ?_
          refine AllReadyH.cons rfl (fun KK hK => ?_) AllReadyH.nil
          simp only [List.getElem_toArray, List.getElem_cons_succ, List.getElem_cons_zero]
          rw [if_pos (by rfl)]
          refine wpv1 224 (.tmp 43) (.tmp 44) _ rfl rfl in_ups1 (exv s B1 B0 mo) rfl (ups1 s B1 B0 mo _) ?_
          rintro e w4 ⟨rfl, k4⟩
          refine ⟨_, rfl, ?_⟩
          replace kw := kw.trans k4
          replace bx0 := k4.cell0 bx0
          replace bx1 := k4.cell0 bx1
          replace bx2 := k4.cell0 bx2
          replace bx3 := k4.cell0 bx3
          replace K := hide ((unhide K).trans k4)
          have z4 := k4.size
          clear k4
          clear hHeld
          refine hK.out _ _ ?_ (fun hHeld => ?_)
          · exact ⟨bx0, bx1, bx2, bx3⟩
          clear hK KK
          try simp only [Act.put, List.getElem_toArray, List.getElem_cons_succ, List.getElem_cons_zero, List.setIfInBounds_toArray, List.set_cons_zero, List.set_cons_succ]
          rw [show upsB 0 s B1 B0 mo = UP from hup]
          refine wpAnyH_take (i := 9) (oi := _) (v := .bool UP) rfl (by kernel_rfl) (by kernel_rfl) (by kernel_rfl) (fun _ _ _ h => h) (Or.inl ⟨by rfl, ?_⟩) hHeld ?_
          · intro wq hSw
            try dsimp only at hSw
            go_simp
          try simp only [Act.put, List.getElem_toArray, List.getElem_cons_succ, List.getElem_cons_zero, List.setIfInBounds_toArray, List.set_cons_zero, List.set_cons_succ]
          refine wpAnyH_done (by kernel_rfl) ?_ _
          clear hHeld
          go_wp2_with fail
          go_meet
          exact ⟨rfl, kw⟩
        · skip
          refine wp_region_held_drew (S := (fun w' => w'.cell? ⟨X, 0, none⟩ = some (.bool s) ∧ w'.cell? ⟨X, 1, none⟩ = some (.bool B1) ∧ w'.cell? ⟨X, 2, none⟩ = some (.bool B0) ∧ w'.cell? ⟨X, 3, none⟩ = some (.bool mo))) (by kernel_rfl) ?_ (fun hHeld => ?_)
          · exact ⟨bx0, bx1, bx2, bx3⟩
          generalize w2.drew = wd at *
          refine wpAnyH_take (i := 0) (oi := _) (v := .bool false) rfl (by kernel_rfl) (by kernel_rfl) (by kernel_rfl) (fun _ _ _ h => h) (Or.inl ⟨by rfl, ?_⟩) hHeld ?_
          · intro wq hSw
            try dsimp only at hSw
            go_simp
          try simp only [Act.put, List.getElem_toArray, List.getElem_cons_succ, List.getElem_cons_zero, List.setIfInBounds_toArray, List.set_cons_zero, List.set_cons_succ]
          refine wpAnyH_take (i := 1) (oi := _) (v := .bool true) rfl (by kernel_rfl) (by kernel_rfl) (by kernel_rfl) (fun _ _ _ h => h) (Or.inl ⟨by rfl, ?_⟩) hHeld ?_
          · intro wq hSw
            try dsimp only at hSw
            go_simp
          try simp only [Act.put, List.getElem_toArray, List.getElem_cons_succ, List.getElem_cons_zero, List.setIfInBounds_toArray, List.set_cons_zero, List.set_cons_succ]
          refine wpAnyH_take (i := 2) (oi := _) (v := .bool true) rfl (by kernel_rfl) (by kernel_rfl) (by kernel_rfl) (fun _ _ _ h => h) (Or.inl ⟨by rfl, ?_⟩) hHeld ?_
          · intro wq hSw
            try dsimp only at hSw
            go_simp
          try simp only [Act.put, List.getElem_toArray, List.getElem_cons_succ, List.getElem_cons_zero, List.setIfInBounds_toArray, List.set_cons_zero, List.set_cons_succ]
          refine wpAnyH_take (i := 4) (oi := _) (v := .int .i64 1) rfl (by kernel_rfl) (by kernel_rfl) (by kernel_rfl) (fun _ _ _ h => h) (Or.inl ⟨by rfl, ?_⟩) hHeld ?_
          · intro wq hSw
            try dsimp only at hSw
            go_simp
          try simp only [Act.put, List.getElem_toArray, List.getElem_cons_succ, List.getElem_cons_zero, List.setIfInBounds_toArray, List.set_cons_zero, List.set_cons_succ]
          refine wpAnyH_take (i := 7) (oi := _) (v := .agg #[.bool s, .bool B1, .bool B0, .bool mo]) rfl (by kernel_rfl) (by kernel_rfl) (by kernel_rfl) (fun _ _ _ h => h) (Or.inl ⟨by rfl, ?_⟩) hHeld ?_
          · intro wq hSw
            try dsimp only at hSw
            go_simp
          try simp only [Act.put, List.getElem_toArray, List.getElem_cons_succ, List.getElem_cons_zero, List.setIfInBounds_toArray, List.set_cons_zero, List.set_cons_succ]
          refine wpAnyH_ready (rs := [3]) (by kernel_rfl) (by simp) ?_
          refine AllReadyH.cons rfl (fun KK hK => ?_) AllReadyH.nil
          simp only [List.getElem_toArray, List.getElem_cons_succ, List.getElem_cons_zero]
          rw [if_pos (by rfl)]
          refine wps0 209 _ rfl in_roundings (roundings_impl _) ?_
          rintro e w3 ⟨rfl, k3⟩
          refine ⟨_, rfl, ?_⟩
          replace kw := kw.trans k3
          replace bx0 := k3.cell0 bx0
          replace bx1 := k3.cell0 bx1
          replace bx2 := k3.cell0 bx2
          replace bx3 := k3.cell0 bx3
          replace K := hide ((unhide K).trans k3)
          have z3 := k3.size
          clear k3
          clear hHeld
          refine hK.out _ _ ?_ (fun hHeld => ?_)
          · exact ⟨bx0, bx1, bx2, bx3⟩
          clear hK KK
          try simp only [Act.put, List.getElem_toArray, List.getElem_cons_succ, List.getElem_cons_zero, List.setIfInBounds_toArray, List.set_cons_zero, List.set_cons_succ]
          have hix := idx_r1
          have hfl := fld_r1
          refine wpAnyH_take (i := 5) (oi := _) (v := .agg #[.func (.func 225) #[] #[]]) rfl (by kernel_rfl) (by kernel_rfl) (by kernel_rfl) (fun _ _ _ h => h) (Or.inl ⟨by rfl, ?_⟩) hHeld ?_
          · intro wq hSw
            try dsimp only at hSw
            go_simp
          try simp only [Act.put, List.getElem_toArray, List.getElem_cons_succ, List.getElem_cons_zero, List.setIfInBounds_toArray, List.set_cons_zero, List.set_cons_succ]
          refine wpAnyH_take (i := 6) (oi := _) (v := .func (.func 225) #[] #[]) rfl (by kernel_rfl) (by kernel_rfl) (by kernel_rfl) (fun _ _ _ h => h) (Or.inl ⟨by rfl, ?_⟩) hHeld ?_
          · intro wq hSw
            try dsimp only at hSw
            go_simp
          try simp only [Act.put, List.getElem_toArray, List.getElem_cons_succ, List.getElem_cons_zero, List.setIfInBounds_toArray, List.set_cons_zero, List.set_cons_succ]
          refine wpAnyH_ready (rs := [8]) (by kernel_rfl) (by simp) ?_
          refine AllReadyH.cons rfl (fun KK hK => ?_) AllReadyH.nil
          simp only [List.getElem_toArray, List.getElem_cons_succ, List.getElem_cons_zero]
          rw [if_pos (by rfl)]
          refine wpv1 225 (.tmp 43) (.tmp 44) _ rfl rfl in_ups2 (exv s B1 B0 mo) rfl (ups2 s B1 B0 mo _) ?_
          rintro e w4 ⟨rfl, k4⟩
          refine ⟨_, rfl, ?_⟩
          replace kw := kw.trans k4
          replace bx0 := k4.cell0 bx0
          replace bx1 := k4.cell0 bx1
          replace bx2 := k4.cell0 bx2
          replace bx3 := k4.cell0 bx3
          replace K := hide ((unhide K).trans k4)
          have z4 := k4.size
          clear k4
          clear hHeld
          refine hK.out _ _ ?_ (fun hHeld => ?_)
          · exact ⟨bx0, bx1, bx2, bx3⟩
          clear hK KK
          try simp only [Act.put, List.getElem_toArray, List.getElem_cons_succ, List.getElem_cons_zero, List.setIfInBounds_toArray, List.set_cons_zero, List.set_cons_succ]
          rw [show upsB 1 s B1 B0 mo = UP from hup]
          refine wpAnyH_take (i := 9) (oi := _) (v := .bool UP) rfl (by kernel_rfl) (by kernel_rfl) (by kernel_rfl) (fun _ _ _ h => h) (Or.inl ⟨by rfl, ?_⟩) hHeld ?_
          · intro wq hSw
            try dsimp only at hSw
            go_simp
          try simp only [Act.put, List.getElem_toArray, List.getElem_cons_succ, List.getElem_cons_zero, List.setIfInBounds_toArray, List.set_cons_zero, List.set_cons_succ]
          refine wpAnyH_done (by kernel_rfl) ?_ _
          clear hHeld
          go_wp2_with fail
          go_meet
          exact ⟨rfl, kw⟩
        · skip
          refine wp_region_held_drew (S := (fun w' => w'.cell? ⟨X, 0, none⟩ = some (.bool s) ∧ w'.cell? ⟨X, 1, none⟩ = some (.bool B1) ∧ w'.cell? ⟨X, 2, none⟩ = some (.bool B0) ∧ w'.cell? ⟨X, 3, none⟩ = some (.bool mo))) (by kernel_rfl) ?_ (fun hHeld => ?_)
          · exact ⟨bx0, bx1, bx2, bx3⟩
          generalize w2.drew = wd at *
          refine wpAnyH_take (i := 0) (oi := _) (v := .bool false) rfl (by kernel_rfl) (by kernel_rfl) (by kernel_rfl) (fun _ _ _ h => h) (Or.inl ⟨by rfl, ?_⟩) hHeld ?_
          · intro wq hSw
            try dsimp only at hSw
            go_simp
          try simp only [Act.put, List.getElem_toArray, List.getElem_cons_succ, List.getElem_cons_zero, List.setIfInBounds_toArray, List.set_cons_zero, List.set_cons_succ]
          refine wpAnyH_take (i := 1) (oi := _) (v := .bool true) rfl (by kernel_rfl) (by kernel_rfl) (by kernel_rfl) (fun _ _ _ h => h) (Or.inl ⟨by rfl, ?_⟩) hHeld ?_
          · intro wq hSw
            try dsimp only at hSw
            go_simp
          try simp only [Act.put, List.getElem_toArray, List.getElem_cons_succ, List.getElem_cons_zero, List.setIfInBounds_toArray, List.set_cons_zero, List.set_cons_succ]
          refine wpAnyH_take (i := 2) (oi := _) (v := .bool true) rfl (by kernel_rfl) (by kernel_rfl) (by kernel_rfl) (fun _ _ _ h => h) (Or.inl ⟨by rfl, ?_⟩) hHeld ?_
          · intro wq hSw
            try dsimp only at hSw
            go_simp
          try simp only [Act.put, List.getElem_toArray, List.getElem_cons_succ, List.getElem_cons_zero, List.setIfInBounds_toArray, List.set_cons_zero, List.set_cons_succ]
          refine wpAnyH_take (i := 4) (oi := _) (v := .int .i64 2) rfl (by kernel_rfl) (by kernel_rfl) (by kernel_rfl) (fun _ _ _ h => h) (Or.inl ⟨by rfl, ?_⟩) hHeld ?_
          · intro wq hSw
            try dsimp only at hSw
            go_simp
          try simp only [Act.put, List.getElem_toArray, List.getElem_cons_succ, List.getElem_cons_zero, List.setIfInBounds_toArray, List.set_cons_zero, List.set_cons_succ]
          refine wpAnyH_take (i := 7) (oi := _) (v := .agg #[.bool s, .bool B1, .bool B0, .bool mo]) rfl (by kernel_rfl) (by kernel_rfl) (by kernel_rfl) (fun _ _ _ h => h) (Or.inl ⟨by rfl, ?_⟩) hHeld ?_
          · intro wq hSw
            try dsimp only at hSw
            go_simp
          try simp only [Act.put, List.getElem_toArray, List.getElem_cons_succ, List.getElem_cons_zero, List.setIfInBounds_toArray, List.set_cons_zero, List.set_cons_succ]
          refine wpAnyH_ready (rs := [3]) (by kernel_rfl) (by simp) ?_
          refine AllReadyH.cons rfl (fun KK hK => ?_) AllReadyH.nil
          simp only [List.getElem_toArray, List.getElem_cons_succ, List.getElem_cons_zero]
          rw [if_pos (by rfl)]
          refine wps0 209 _ rfl in_roundings (roundings_impl _) ?_
          rintro e w3 ⟨rfl, k3⟩
          refine ⟨_, rfl, ?_⟩
          replace kw := kw.trans k3
          replace bx0 := k3.cell0 bx0
          replace bx1 := k3.cell0 bx1
          replace bx2 := k3.cell0 bx2
          replace bx3 := k3.cell0 bx3
          replace K := hide ((unhide K).trans k3)
          have z3 := k3.size
          clear k3
          clear hHeld
          refine hK.out _ _ ?_ (fun hHeld => ?_)
          · exact ⟨bx0, bx1, bx2, bx3⟩
          clear hK KK
          try simp only [Act.put, List.getElem_toArray, List.getElem_cons_succ, List.getElem_cons_zero, List.setIfInBounds_toArray, List.set_cons_zero, List.set_cons_succ]
          have hix := idx_r2
          have hfl := fld_r2
          refine wpAnyH_take (i := 5) (oi := _) (v := .agg #[.func (.func 226) #[] #[]]) rfl (by kernel_rfl) (by kernel_rfl) (by kernel_rfl) (fun _ _ _ h => h) (Or.inl ⟨by rfl, ?_⟩) hHeld ?_
          · intro wq hSw
            try dsimp only at hSw
            go_simp
          try simp only [Act.put, List.getElem_toArray, List.getElem_cons_succ, List.getElem_cons_zero, List.setIfInBounds_toArray, List.set_cons_zero, List.set_cons_succ]
          refine wpAnyH_take (i := 6) (oi := _) (v := .func (.func 226) #[] #[]) rfl (by kernel_rfl) (by kernel_rfl) (by kernel_rfl) (fun _ _ _ h => h) (Or.inl ⟨by rfl, ?_⟩) hHeld ?_
          · intro wq hSw
            try dsimp only at hSw
            go_simp
          try simp only [Act.put, List.getElem_toArray, List.getElem_cons_succ, List.getElem_cons_zero, List.setIfInBounds_toArray, List.set_cons_zero, List.set_cons_succ]
          refine wpAnyH_ready (rs := [8]) (by kernel_rfl) (by simp) ?_
          refine AllReadyH.cons rfl (fun KK hK => ?_) AllReadyH.nil
          simp only [List.getElem_toArray, List.getElem_cons_succ, List.getElem_cons_zero]
          rw [if_pos (by rfl)]
          refine wpv1 226 (.tmp 43) (.tmp 44) _ rfl rfl in_ups3 (exv s B1 B0 mo) rfl (ups3 s B1 B0 mo _) ?_
          rintro e w4 ⟨rfl, k4⟩
          refine ⟨_, rfl, ?_⟩
          replace kw := kw.trans k4
          replace bx0 := k4.cell0 bx0
          replace bx1 := k4.cell0 bx1
          replace bx2 := k4.cell0 bx2
          replace bx3 := k4.cell0 bx3
          replace K := hide ((unhide K).trans k4)
          have z4 := k4.size
          clear k4
          clear hHeld
          refine hK.out _ _ ?_ (fun hHeld => ?_)
          · exact ⟨bx0, bx1, bx2, bx3⟩
          clear hK KK
          try simp only [Act.put, List.getElem_toArray, List.getElem_cons_succ, List.getElem_cons_zero, List.setIfInBounds_toArray, List.set_cons_zero, List.set_cons_succ]
          rw [show upsB 2 s B1 B0 mo = UP from hup]
          refine wpAnyH_take (i := 9) (oi := _) (v := .bool UP) rfl (by kernel_rfl) (by kernel_rfl) (by kernel_rfl) (fun _ _ _ h => h) (Or.inl ⟨by rfl, ?_⟩) hHeld ?_
          · intro wq hSw
            try dsimp only at hSw
            go_simp
          try simp only [Act.put, List.getElem_toArray, List.getElem_cons_succ, List.getElem_cons_zero, List.setIfInBounds_toArray, List.set_cons_zero, List.set_cons_succ]
          refine wpAnyH_done (by kernel_rfl) ?_ _
          clear hHeld
          go_wp2_with fail
          go_meet
          exact ⟨rfl, kw⟩
        · skip
          refine wp_region_held_drew (S := (fun w' => w'.cell? ⟨X, 0, none⟩ = some (.bool s) ∧ w'.cell? ⟨X, 1, none⟩ = some (.bool B1) ∧ w'.cell? ⟨X, 2, none⟩ = some (.bool B0) ∧ w'.cell? ⟨X, 3, none⟩ = some (.bool mo))) (by kernel_rfl) ?_ (fun hHeld => ?_)
          · exact ⟨bx0, bx1, bx2, bx3⟩
          generalize w2.drew = wd at *
          refine wpAnyH_take (i := 0) (oi := _) (v := .bool false) rfl (by kernel_rfl) (by kernel_rfl) (by kernel_rfl) (fun _ _ _ h => h) (Or.inl ⟨by rfl, ?_⟩) hHeld ?_
          · intro wq hSw
            try dsimp only at hSw
            go_simp
          try simp only [Act.put, List.getElem_toArray, List.getElem_cons_succ, List.getElem_cons_zero, List.setIfInBounds_toArray, List.set_cons_zero, List.set_cons_succ]
          refine wpAnyH_take (i := 1) (oi := _) (v := .bool true) rfl (by kernel_rfl) (by kernel_rfl) (by kernel_rfl) (fun _ _ _ h => h) (Or.inl ⟨by rfl, ?_⟩) hHeld ?_
          · intro wq hSw
            try dsimp only at hSw
            go_simp
          try simp only [Act.put, List.getElem_toArray, List.getElem_cons_succ, List.getElem_cons_zero, List.setIfInBounds_toArray, List.set_cons_zero, List.set_cons_succ]
          refine wpAnyH_take (i := 2) (oi := _) (v := .bool true) rfl (by kernel_rfl) (by kernel_rfl) (by kernel_rfl) (fun _ _ _ h => h) (Or.inl ⟨by rfl, ?_⟩) hHeld ?_
          · intro wq hSw
            try dsimp only at hSw
            go_simp
          try simp only [Act.put, List.getElem_toArray, List.getElem_cons_succ, List.getElem_cons_zero, List.setIfInBounds_toArray, List.set_cons_zero, List.set_cons_succ]
          refine wpAnyH_take (i := 4) (oi := _) (v := .int .i64 3) rfl (by kernel_rfl) (by kernel_rfl) (by kernel_rfl) (fun _ _ _ h => h) (Or.inl ⟨by rfl, ?_⟩) hHeld ?_
          · intro wq hSw
            try dsimp only at hSw
            go_simp
          try simp only [Act.put, List.getElem_toArray, List.getElem_cons_succ, List.getElem_cons_zero, List.setIfInBounds_toArray, List.set_cons_zero, List.set_cons_succ]
          refine wpAnyH_take (i := 7) (oi := _) (v := .agg #[.bool s, .bool B1, .bool B0, .bool mo]) rfl (by kernel_rfl) (by kernel_rfl) (by kernel_rfl) (fun _ _ _ h => h) (Or.inl ⟨by rfl, ?_⟩) hHeld ?_
          · intro wq hSw
            try dsimp only at hSw
            go_simp
          try simp only [Act.put, List.getElem_toArray, List.getElem_cons_succ, List.getElem_cons_zero, List.setIfInBounds_toArray, List.set_cons_zero, List.set_cons_succ]
          refine wpAnyH_ready (rs := [3]) (by kernel_rfl) (by simp) ?_
          refine AllReadyH.cons rfl (fun KK hK => ?_) AllReadyH.nil
          simp only [List.getElem_toArray, List.getElem_cons_succ, List.getElem_cons_zero]
          rw [if_pos (by rfl)]
          refine wps0 209 _ rfl in_roundings (roundings_impl _) ?_
          rintro e w3 ⟨rfl, k3⟩
          refine ⟨_, rfl, ?_⟩
          replace kw := kw.trans k3
          replace bx0 := k3.cell0 bx0
          replace bx1 := k3.cell0 bx1
          replace bx2 := k3.cell0 bx2
          replace bx3 := k3.cell0 bx3
          replace K := hide ((unhide K).trans k3)
          have z3 := k3.size
          clear k3
          clear hHeld
          refine hK.out _ _ ?_ (fun hHeld => ?_)
          · exact ⟨bx0, bx1, bx2, bx3⟩
          clear hK KK
          try simp only [Act.put, List.getElem_toArray, List.getElem_cons_succ, List.getElem_cons_zero, List.setIfInBounds_toArray, List.set_cons_zero, List.set_cons_succ]
          have hix := idx_r3
          have hfl := fld_r3
          refine wpAnyH_take (i := 5) (oi := _) (v := .agg #[.func (.func 227) #[] #[]]) rfl (by kernel_rfl) (by kernel_rfl) (by kernel_rfl) (fun _ _ _ h => h) (Or.inl ⟨by rfl, ?_⟩) hHeld ?_
          · intro wq hSw
            try dsimp only at hSw
            go_simp
          try simp only [Act.put, List.getElem_toArray, List.getElem_cons_succ, List.getElem_cons_zero, List.setIfInBounds_toArray, List.set_cons_zero, List.set_cons_succ]
          refine wpAnyH_take (i := 6) (oi := _) (v := .func (.func 227) #[] #[]) rfl (by kernel_rfl) (by kernel_rfl) (by kernel_rfl) (fun _ _ _ h => h) (Or.inl ⟨by rfl, ?_⟩) hHeld ?_
          · intro wq hSw
            try dsimp only at hSw
            go_simp
          try simp only [Act.put, List.getElem_toArray, List.getElem_cons_succ, List.getElem_cons_zero, List.setIfInBounds_toArray, List.set_cons_zero, List.set_cons_succ]
          refine wpAnyH_ready (rs := [8]) (by kernel_rfl) (by simp) ?_
          refine AllReadyH.cons rfl (fun KK hK => ?_) AllReadyH.nil
          simp only [List.getElem_toArray, List.getElem_cons_succ, List.getElem_cons_zero]
          rw [if_pos (by rfl)]
          refine wpv1 227 (.tmp 43) (.tmp 44) _ rfl rfl in_ups4 (exv s B1 B0 mo) rfl (ups4 s B1 B0 mo _) ?_
          rintro e w4 ⟨rfl, k4⟩
          refine ⟨_, rfl, ?_⟩
          replace kw := kw.trans k4
          replace bx0 := k4.cell0 bx0
          replace bx1 := k4.cell0 bx1
          replace bx2 := k4.cell0 bx2
          replace bx3 := k4.cell0 bx3
          replace K := hide ((unhide K).trans k4)
          have z4 := k4.size
          clear k4
          clear hHeld
          refine hK.out _ _ ?_ (fun hHeld => ?_)
          · exact ⟨bx0, bx1, bx2, bx3⟩
          clear hK KK
          try simp only [Act.put, List.getElem_toArray, List.getElem_cons_succ, List.getElem_cons_zero, List.setIfInBounds_toArray, List.set_cons_zero, List.set_cons_succ]
          rw [show upsB 3 s B1 B0 mo = UP from hup]
          refine wpAnyH_take (i := 9) (oi := _) (v := .bool UP) rfl (by kernel_rfl) (by kernel_rfl) (by kernel_rfl) (fun _ _ _ h => h) (Or.inl ⟨by rfl, ?_⟩) hHeld ?_
          · intro wq hSw
            try dsimp only at hSw
            go_simp
          try simp only [Act.put, List.getElem_toArray, List.getElem_cons_succ, List.getElem_cons_zero, List.setIfInBounds_toArray, List.set_cons_zero, List.set_cons_succ]
          refine wpAnyH_done (by kernel_rfl) ?_ _
          clear hHeld
          go_wp2_with fail
          go_meet
          exact ⟨rfl, kw⟩
        · skip
          refine wp_region_held_drew (S := (fun w' => w'.cell? ⟨X, 0, none⟩ = some (.bool s) ∧ w'.cell? ⟨X, 1, none⟩ = some (.bool B1) ∧ w'.cell? ⟨X, 2, none⟩ = some (.bool B0) ∧ w'.cell? ⟨X, 3, none⟩ = some (.bool mo))) (by kernel_rfl) ?_ (fun hHeld => ?_)
          · exact ⟨bx0, bx1, bx2, bx3⟩
          generalize w2.drew = wd at *
          refine wpAnyH_take (i := 0) (oi := _) (v := .bool false) rfl (by kernel_rfl) (by kernel_rfl) (by kernel_rfl) (fun _ _ _ h => h) (Or.inl ⟨by rfl, ?_⟩) hHeld ?_
          · intro wq hSw
            try dsimp only at hSw
            go_simp
          try simp only [Act.put, List.getElem_toArray, List.getElem_cons_succ, List.getElem_cons_zero, List.setIfInBounds_toArray, List.set_cons_zero, List.set_cons_succ]
          refine wpAnyH_take (i := 1) (oi := _) (v := .bool true) rfl (by kernel_rfl) (by kernel_rfl) (by kernel_rfl) (fun _ _ _ h => h) (Or.inl ⟨by rfl, ?_⟩) hHeld ?_
          · intro wq hSw
            try dsimp only at hSw
            go_simp
          try simp only [Act.put, List.getElem_toArray, List.getElem_cons_succ, List.getElem_cons_zero, List.setIfInBounds_toArray, List.set_cons_zero, List.set_cons_succ]
          refine wpAnyH_take (i := 2) (oi := _) (v := .bool true) rfl (by kernel_rfl) (by kernel_rfl) (by kernel_rfl) (fun _ _ _ h => h) (Or.inl ⟨by rfl, ?_⟩) hHeld ?_
          · intro wq hSw
            try dsimp only at hSw
            go_simp
          try simp only [Act.put, List.getElem_toArray, List.getElem_cons_succ, List.getElem_cons_zero, List.setIfInBounds_toArray, List.set_cons_zero, List.set_cons_succ]
          refine wpAnyH_take (i := 4) (oi := _) (v := .int .i64 4) rfl (by kernel_rfl) (by kernel_rfl) (by kernel_rfl) (fun _ _ _ h => h) (Or.inl ⟨by rfl, ?_⟩) hHeld ?_
          · intro wq hSw
            try dsimp only at hSw
            go_simp
          try simp only [Act.put, List.getElem_toArray, List.getElem_cons_succ, List.getElem_cons_zero, List.setIfInBounds_toArray, List.set_cons_zero, List.set_cons_succ]
          refine wpAnyH_take (i := 7) (oi := _) (v := .agg #[.bool s, .bool B1, .bool B0, .bool mo]) rfl (by kernel_rfl) (by kernel_rfl) (by kernel_rfl) (fun _ _ _ h => h) (Or.inl ⟨by rfl, ?_⟩) hHeld ?_
          · intro wq hSw
            try dsimp only at hSw
            go_simp
          try simp only [Act.put, List.getElem_toArray, List.getElem_cons_succ, List.getElem_cons_zero, List.setIfInBounds_toArray, List.set_cons_zero, List.set_cons_succ]
          refine wpAnyH_ready (rs := [3]) (by kernel_rfl) (by simp) ?_
          refine AllReadyH.cons rfl (fun KK hK => ?_) AllReadyH.nil
          simp only [List.getElem_toArray, List.getElem_cons_succ, List.getElem_cons_zero]
          rw [if_pos (by rfl)]
          refine wps0 209 _ rfl in_roundings (roundings_impl _) ?_
          rintro e w3 ⟨rfl, k3⟩
          refine ⟨_, rfl, ?_⟩
          replace kw := kw.trans k3
          replace bx0 := k3.cell0 bx0
          replace bx1 := k3.cell0 bx1
          replace bx2 := k3.cell0 bx2
          replace bx3 := k3.cell0 bx3
          replace K := hide ((unhide K).trans k3)
          have z3 := k3.size
          clear k3
          clear hHeld
          refine hK.out _ _ ?_ (fun hHeld => ?_)
          · exact ⟨bx0, bx1, bx2, bx3⟩
          clear hK KK
          try simp only [Act.put, List.getElem_toArray, List.getElem_cons_succ, List.getElem_cons_zero, List.setIfInBounds_toArray, List.set_cons_zero, List.set_cons_succ]
          have hix := idx_r4
          have hfl := fld_r4
          refine wpAnyH_take (i := 5) (oi := _) (v := .agg #[.func (.func 228) #[] #[]]) rfl (by kernel_rfl) (by kernel_rfl) (by kernel_rfl) (fun _ _ _ h => h) (Or.inl ⟨by rfl, ?_⟩) hHeld ?_
          · intro wq hSw
            try dsimp only at hSw
            go_simp
          try simp only [Act.put, List.getElem_toArray, List.getElem_cons_succ, List.getElem_cons_zero, List.setIfInBounds_toArray, List.set_cons_zero, List.set_cons_succ]
          refine wpAnyH_take (i := 6) (oi := _) (v := .func (.func 228) #[] #[]) rfl (by kernel_rfl) (by kernel_rfl) (by kernel_rfl) (fun _ _ _ h => h) (Or.inl ⟨by rfl, ?_⟩) hHeld ?_
          · intro wq hSw
            try dsimp only at hSw
            go_simp
          try simp only [Act.put, List.getElem_toArray, List.getElem_cons_succ, List.getElem_cons_zero, List.setIfInBounds_toArray, List.set_cons_zero, List.set_cons_succ]
          refine wpAnyH_ready (rs := [8]) (by kernel_rfl) (by simp) ?_
          refine AllReadyH.cons rfl (fun KK hK => ?_) AllReadyH.nil
          simp only [List.getElem_toArray, List.getElem_cons_succ, List.getElem_cons_zero]
          rw [if_pos (by rfl)]
          refine wpv1 228 (.tmp 43) (.tmp 44) _ rfl rfl in_ups5 (exv s B1 B0 mo) rfl (ups5 s B1 B0 mo _) ?_
          rintro e w4 ⟨rfl, k4⟩
          refine ⟨_, rfl, ?_⟩
          replace kw := kw.trans k4
          replace bx0 := k4.cell0 bx0
          replace bx1 := k4.cell0 bx1
          replace bx2 := k4.cell0 bx2
          replace bx3 := k4.cell0 bx3
          replace K := hide ((unhide K).trans k4)
          have z4 := k4.size
          clear k4
          clear hHeld
          refine hK.out _ _ ?_ (fun hHeld => ?_)
          · exact ⟨bx0, bx1, bx2, bx3⟩
          clear hK KK
          try simp only [Act.put, List.getElem_toArray, List.getElem_cons_succ, List.getElem_cons_zero, List.setIfInBounds_toArray, List.set_cons_zero, List.set_cons_succ]
          rw [show upsB 4 s B1 B0 mo = UP from hup]
          refine wpAnyH_take (i := 9) (oi := _) (v := .bool UP) rfl (by kernel_rfl) (by kernel_rfl) (by kernel_rfl) (fun _ _ _ h => h) (Or.inl ⟨by rfl, ?_⟩) hHeld ?_
          · intro wq hSw
            try dsimp only at hSw
            go_simp
          try simp only [Act.put, List.getElem_toArray, List.getElem_cons_succ, List.getElem_cons_zero, List.setIfInBounds_toArray, List.set_cons_zero, List.set_cons_succ]
          refine wpAnyH_done (by kernel_rfl) ?_ _
          clear hHeld
          go_wp2_with fail
          go_meet
          exact ⟨rfl, kw⟩
      · rw [hE] at HUP
        have hup := unhide HUP
        simp only [Bool.not_true, Bool.false_and] at hup
        subst hup
        clear HUP HEX
        have kd := (Kept.refl 0 0 w2).drew
        replace kw := kw.trans kd
        replace bx0 := kd.cell0 bx0
        replace bx1 := kd.cell0 bx1
        replace bx2 := kd.cell0 bx2
        replace bx3 := kd.cell0 bx3
        replace K := hide ((unhide K).trans kd)
        have z2 := kd.size
        clear kd
        refine wp_region_held_drew (S := (fun w' => w'.cell? ⟨X, 0, none⟩ = some (.bool s) ∧ w'.cell? ⟨X, 1, none⟩ = some (.bool B1) ∧ w'.cell? ⟨X, 2, none⟩ = some (.bool B0) ∧ w'.cell? ⟨X, 3, none⟩ = some (.bool mo))) (by kernel_rfl) ?_ (fun hHeld => ?_)
        · exact ⟨bx0, bx1, bx2, bx3⟩
        generalize w2.drew = wd at *
        refine wpAnyH_take (i := 0) (oi := _) (v := .bool true) rfl (by kernel_rfl) (by kernel_rfl) (by kernel_rfl) (fun _ _ _ h => h) (Or.inl ⟨by rfl, ?_⟩) hHeld ?_
        · intro wq hSw
          try dsimp only at hSw
          go_simp
        try simp only [Act.put, List.getElem_toArray, List.getElem_cons_succ, List.getElem_cons_zero, List.setIfInBounds_toArray, List.set_cons_zero, List.set_cons_succ]
        refine wpAnyH_take (i := 1) (oi := _) (v := .bool false) rfl (by kernel_rfl) (by kernel_rfl) (by kernel_rfl) (fun _ _ _ h => h) (Or.inl ⟨by rfl, ?_⟩) hHeld ?_
        · intro wq hSw
          try dsimp only at hSw
          go_simp
        try simp only [Act.put, List.getElem_toArray, List.getElem_cons_succ, List.getElem_cons_zero, List.setIfInBounds_toArray, List.set_cons_zero, List.set_cons_succ]
        refine wpAnyH_take (i := 2) (oi := _) (v := .bool false) rfl (by kernel_rfl) (by kernel_rfl) (by kernel_rfl) (fun _ _ _ h => h) (Or.inl ⟨by rfl, ?_⟩) hHeld ?_
        · intro wq hSw
          try dsimp only at hSw
          go_simp
        try simp only [Act.put, List.getElem_toArray, List.getElem_cons_succ, List.getElem_cons_zero, List.setIfInBounds_toArray, List.set_cons_zero, List.set_cons_succ]
        refine wpAnyH_take (i := 3) (v := undef) rfl (by kernel_rfl) (by kernel_rfl) (by kernel_rfl) (fun _ _ _ h => h) (Or.inr ⟨by rfl, rfl⟩) hHeld ?_
        try simp only [Act.put, List.getElem_toArray, List.getElem_cons_succ, List.getElem_cons_zero, List.setIfInBounds_toArray, List.set_cons_zero, List.set_cons_succ]
        refine wpAnyH_take (i := 4) (v := undef) rfl (by kernel_rfl) (by kernel_rfl) (by kernel_rfl) (fun _ _ _ h => h) (Or.inr ⟨by rfl, rfl⟩) hHeld ?_
        try simp only [Act.put, List.getElem_toArray, List.getElem_cons_succ, List.getElem_cons_zero, List.setIfInBounds_toArray, List.set_cons_zero, List.set_cons_succ]
        refine wpAnyH_take (i := 5) (v := undef) rfl (by kernel_rfl) (by kernel_rfl) (by kernel_rfl) (fun _ _ _ h => h) (Or.inr ⟨by rfl, rfl⟩) hHeld ?_
        try simp only [Act.put, List.getElem_toArray, List.getElem_cons_succ, List.getElem_cons_zero, List.setIfInBounds_toArray, List.set_cons_zero, List.set_cons_succ]
        refine wpAnyH_take (i := 6) (v := undef) rfl (by kernel_rfl) (by kernel_rfl) (by kernel_rfl) (fun _ _ _ h => h) (Or.inr ⟨by rfl, rfl⟩) hHeld ?_
        try simp only [Act.put, List.getElem_toArray, List.getElem_cons_succ, List.getElem_cons_zero, List.setIfInBounds_toArray, List.set_cons_zero, List.set_cons_succ]
        refine wpAnyH_take (i := 7) (v := undef) rfl (by kernel_rfl) (by kernel_rfl) (by kernel_rfl) (fun _ _ _ h => h) (Or.inr ⟨by rfl, rfl⟩) hHeld ?_
        try simp only [Act.put, List.getElem_toArray, List.getElem_cons_succ, List.getElem_cons_zero, List.setIfInBounds_toArray, List.set_cons_zero, List.set_cons_succ]
        refine wpAnyH_take (i := 8) (v := undef) rfl (by kernel_rfl) (by kernel_rfl) (by kernel_rfl) (fun _ _ _ h => h) (Or.inr ⟨by rfl, rfl⟩) hHeld ?_
        try simp only [Act.put, List.getElem_toArray, List.getElem_cons_succ, List.getElem_cons_zero, List.setIfInBounds_toArray, List.set_cons_zero, List.set_cons_succ]
        refine wpAnyH_take (i := 9) (oi := _) (v := .bool false) rfl (by kernel_rfl) (by kernel_rfl) (by kernel_rfl) (fun _ _ _ h => h) (Or.inl ⟨by rfl, ?_⟩) hHeld ?_
        · intro wq hSw
          try dsimp only at hSw
          go_simp
        try simp only [Act.put, List.getElem_toArray, List.getElem_cons_succ, List.getElem_cons_zero, List.setIfInBounds_toArray, List.set_cons_zero, List.set_cons_succ]
        refine wpAnyH_done (by kernel_rfl) ?_ _
        clear hHeld
        go_wp2_with fail
        go_meet
        exact ⟨rfl, kw⟩
    case rest =>
      obtain ⟨rfl, kx⟩ := hcut
      replace d := d.kept kx
      replace ex := ex.kept kx
      replace n2 := n2.kept kx
      replace MM := hide ((unhide MM).kept kx)
      replace qf0 := kx.loose0 (World.block_lt_of_cell? _ _ q0) qf0
      replace qf1 := kx.loose0 (World.block_lt_of_cell? _ _ q1) qf1
      replace qf2 := kx.loose0 (World.block_lt_of_cell? _ _ q2) qf2
      replace q0 := kx.cell0 q0
      replace q1 := kx.cell0 q1
      replace q2 := kx.cell0 q2
      have zx := kx.size
      clear kx bx0 bx1 bx2 bx3 HUP HEX
      cases UP
      · obtain ⟨LL, hLL⟩ : ∃ LL, limbs (V / 2) = LL := ⟨_, rfl⟩
        have HZ : Hid (LL = limbs (rndN mode.toNat s V mo)) := by show _ = _; rw [unhide HR, ← hLL]; simp
        rw [hLL] at n2
        clear hLL HR HV
        have cc0 := n2.cell
        have cc1 := d.1
        have cc2 := ex.1
        obtain ⟨a5, c5, hu⟩ := n2.form
        subst hu
        have ao := n2.own
        have ap : (Value.slice a5 LL.length c5).ownBlock ≠ some w.heap.size := fun e => by have h1 : v.ownBlock = some w.heap.size := (by rw [← o2]; exact e); have h2 := own _ h1; omega
        have hgR : ¬ g = w.heap.size := by omega
        have hgR' : ¬ w.heap.size = g := by omega
        have FIN : Hid (OwnA b (((wc.setCell ⟨w.heap.size, 0, none⟩ (.slice a5 LL.length c5)).setCell ⟨w.heap.size, 1, none⟩ (.bool s)).setCell ⟨w.heap.size, 2, none⟩ (.int .i64 low)) (.slice a5 LL.length c5) LL ∧ Mod (Own1 g v) w (((wc.setCell ⟨w.heap.size, 0, none⟩ (.slice a5 LL.length c5)).setCell ⟨w.heap.size, 1, none⟩ (.bool s)).setCell ⟨w.heap.size, 2, none⟩ (.int .i64 low))) :=
          ⟨((ao.aside ap _).aside ap _).aside ap _, Mod.set (S := Own1 g v) (Mod.set (S := Own1 g v) (Mod.set (S := Own1 g v) (unhide MM) (p := ⟨w.heap.size, 0, none⟩) (.inr (Nat.le_refl _)) _) (p := ⟨w.heap.size, 1, none⟩) (.inr (Nat.le_refl _)) _) (p := ⟨w.heap.size, 2, none⟩) (.inr (Nat.le_refl _)) _⟩
        have OO : Hid (∀ i, (Value.slice a5 LL.length c5).ownBlock = some i → v.ownBlock = some i ∨ w.heap.size ≤ i) := fun i e => .inl (by rw [← o2]; exact e)
        clear ao ap n2 d ex MM own
        go_wp2_with fail
        go_region
        go_wp2_with fail
        exact bodyPost_ret (v := .agg #[.slice a5 LL.length c5, .bool s, .int .i64 low]) (by simp [results, Tryz.results173, go_sem, q0, q1, q2]) rfl ⟨_, rfl, by rw [← unhide HZ]; exact (unhide FIN).1.kept (Kept.refl 0 0 _).drew, (unhide FIN).2.kept (Kept.refl 0 0 _).drew, unhide OO⟩
      · go_wp2_with fail
        refine (limbsOfInt_impl _ 1 (by omega)).mono ?_
        rintro e w3 ⟨v3, rfl, o3, k3⟩
        obtain ⟨L1, hL1⟩ : ∃ L, limbs (1 : Int).toNat = L := ⟨_, rfl⟩
        rw [hL1] at o3
        have nL1 : Nrm L1 := by rw [← hL1]; exact limbs_nrm _
        have vL1 : val L1 = 1 := by rw [← hL1, limbs_val]; rfl
        have lL1 : L1.length ≤ 1 := by rw [← hL1]; exact (limbs_length_le _ _).2 (by decide)
        clear hL1
        replace d := d.kept k3
        replace ex := ex.kept k3
        replace n2 := n2.kept k3
        replace MM := hide ((unhide MM).kept k3)
        replace qf0 := k3.loose0 (World.block_lt_of_cell? _ _ q0) qf0
        replace qf1 := k3.loose0 (World.block_lt_of_cell? _ _ q1) qf1
        replace qf2 := k3.loose0 (World.block_lt_of_cell? _ _ q2) qf2
        replace q0 := k3.cell0 q0
        replace q1 := k3.cell0 q1
        replace q2 := k3.cell0 q2
        have z3 := k3.size
        clear k3
        obtain ⟨a3, c3, hv3⟩ := own_slice o3
        subst hv3
        have n3 := Num.new (w := w3) 145 o3
        have k4 := (Kept.refl 0 0 w3).alloc (.cells #[.slice a3 L1.length c3] 145)
        have z4 : (w3.alloc (.cells #[.slice a3 L1.length c3] 145)).heap.size = w3.heap.size + 1 := by simp
        replace d := d.kept k4
        replace ex := ex.kept k4
        replace n2 := n2.kept k4
        replace MM := hide ((unhide MM).kept k4)
        replace qf0 := k4.loose0 (World.block_lt_of_cell? _ _ q0) qf0
        replace qf1 := k4.loose0 (World.block_lt_of_cell? _ _ q1) qf1
        replace qf2 := k4.loose0 (World.block_lt_of_cell? _ _ q2) qf2
        replace q0 := k4.cell0 q0
        replace q1 := k4.cell0 q1
        replace q2 := k4.cell0 q2
        have l3 := fun k e => n3.own.lt k e
        have lg3 := (n2.lt)
        clear k4 o3
        go_wp2_with fail
        generalize hW4 : w3.alloc (.cells #[.slice a3 L1.length c3] 145) = W4 at *
        have t2 : TwoA W4 (Own1 g v) b wc.heap.size W4 g w3.heap.size u2 (.slice a3 L1.length c3) (limbs (V / 2)) L1 := by
          have ho2 : ∀ i, u2.ownBlock = some i → v.ownBlock = some i := fun i e => by rw [← o2]; exact e
          refine ⟨n2, n3, by omega, fun e => by have := own _ (ho2 _ e); omega, fun e => by have := (l3 _ e).1; omega, fun i e e2 => by have := own _ (ho2 _ e); have := (l3 _ e2).1; omega, fun i e => .inl (.inr (ho2 _ e)), .inl rfl, Mod.refl _ _, SameSide.refl _ _, by omega⟩
        have n1lim : Nrm (limbs (V / 2)) := limbs_nrm _
        have hlen2 : (limbs (V / 2)).length ≤ 100000 := by rw [← unhide HV]; exact Nat.le_trans (limbs_len_le (Nat.div_le_self _ _)) (by rw [← nrm_limbs hn]; omega)
        refine (add_twoA t2 n1lim nL1 hlen2 (by omega)).mono ?_
        rintro e w5 ⟨⟨r5, rfl⟩, u5, t5⟩
        have eV : (val (limbs (V / 2)) + val L1).toNat = V / 2 + 1 := by rw [limbs_val, vL1]; omega
        rw [eV] at t5
        have n5 := t5.n1
        have m5 := t5.m
        have s5 := t5.sd
        have o5 := t5.o1
        clear t2 t5 n2 n3 n1lim hlen2 eV
        have nR5 : ¬ Own1 g v w.heap.size := fun e => e.elim (fun e => by omega) (fun e => by have := own _ e; omega)
        replace d := d.same s5
        replace ex := ex.tail s5.tail
        replace MM := hide (Mod.trans (unhide MM) m5)
        replace qf0 := m5.loose (a := ⟨w.heap.size, 0, none⟩) nR5 (World.block_lt_of_cell? _ _ q0) qf0
        replace qf1 := m5.loose (a := ⟨w.heap.size, 1, none⟩) nR5 (World.block_lt_of_cell? _ _ q1) qf1
        replace qf2 := m5.loose (a := ⟨w.heap.size, 2, none⟩) nR5 (World.block_lt_of_cell? _ _ q2) qf2
        replace q0 := m5.cell (a := ⟨w.heap.size, 0, none⟩) nR5 q0
        replace q1 := m5.cell (a := ⟨w.heap.size, 1, none⟩) nR5 q1
        replace q2 := m5.cell (a := ⟨w.heap.size, 2, none⟩) nR5 q2
        obtain ⟨LL, hLL⟩ : ∃ LL, limbs (V / 2 + 1) = LL := ⟨_, rfl⟩
        have HZ : Hid (LL = limbs (rndN mode.toNat s V mo)) := by show _ = _; rw [unhide HR, ← hLL]; simp
        rw [hLL] at n5
        clear hLL HR HV m5 s5 l3
        have cc0 := n5.cell
        have cc1 := d.1
        have cc2 := ex.1
        obtain ⟨a5, c5, hu⟩ := n5.form
        subst hu
        have ao := n5.own
        have ap : (Value.slice a5 LL.length c5).ownBlock ≠ some w.heap.size := fun e => (o5 _ e).elim nR5 (fun e => by omega)
        have hgR : ¬ g = w.heap.size := by omega
        have hgR' : ¬ w.heap.size = g := by omega
        have FIN : Hid (OwnA b (((w5.setCell ⟨w.heap.size, 0, none⟩ (.slice a5 LL.length c5)).setCell ⟨w.heap.size, 1, none⟩ (.bool s)).setCell ⟨w.heap.size, 2, none⟩ (.int .i64 low)) (.slice a5 LL.length c5) LL ∧ Mod (Own1 g v) w (((w5.setCell ⟨w.heap.size, 0, none⟩ (.slice a5 LL.length c5)).setCell ⟨w.heap.size, 1, none⟩ (.bool s)).setCell ⟨w.heap.size, 2, none⟩ (.int .i64 low))) :=
          ⟨((ao.aside ap _).aside ap _).aside ap _, Mod.set (S := Own1 g v) (Mod.set (S := Own1 g v) (Mod.set (S := Own1 g v) (unhide MM) (p := ⟨w.heap.size, 0, none⟩) (.inr (Nat.le_refl _)) _) (p := ⟨w.heap.size, 1, none⟩) (.inr (Nat.le_refl _)) _) (p := ⟨w.heap.size, 2, none⟩) (.inr (Nat.le_refl _)) _⟩
        have OO : Hid (∀ i, (Value.slice a5 LL.length c5).ownBlock = some i → v.ownBlock = some i ∨ w.heap.size ≤ i) := fun i e => (o5 _ e).elim (fun e2 => e2.elim (fun e3 => absurd (by rw [← e3]; exact e) n5.apart) .inl) (fun e2 => .inr (by omega))
        clear ao ap n5 d ex MM own
        go_wp2_with fail
        go_region
        go_wp2_with fail
        exact bodyPost_ret (v := .agg #[.slice a5 LL.length c5, .bool s, .int .i64 low]) (by simp [results, Tryz.results173, go_sem, q0, q1, q2]) rfl ⟨_, rfl, by rw [← unhide HZ]; exact (unhide FIN).1.kept (Kept.refl 0 0 _).drew, (unhide FIN).2.kept (Kept.refl 0 0 _).drew, unhide OO⟩

end Go.Proofs.YthahoabkehcgbaaGreatDoor

