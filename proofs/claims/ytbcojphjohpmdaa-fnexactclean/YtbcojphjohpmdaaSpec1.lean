/-
  Contracts of the model's l1tail, l1rune and RuneAt over a slice of bytes that can be read.
-/
import Derived.Test.YtbcojphjohpmdaaRB
namespace Go.Proofs.Ytbcojphjohpmdaa
open Go.RowKit

set_option maxHeartbeats 400000 in
theorem tail_any {bw : Bool} {lo hi : Nat} {v : Value} {zs : List Int} (w : World) (r : Row .u8 bw lo hi w v zs) (hb : Bytes zs) (j : Nat) :
    Calls Try.prog 43 #[v, .int .i64 (j : Int)] w fun e w' => e = .returned (.int .i64 (tl zs j)) ∧ w' = w := by
  obtain ⟨a, c, rfl, q1, m1, q3⟩ := r
  have hat := (row_cell (r := ⟨a, c, rfl, q1, m1, q3⟩)).2.2.2
  have hz := hb.at j
  unfold maxLen at m1
  clear q3
  by_cases h1 : j < zs.length
  · obtain ⟨g, off, rfl, hc⟩ := hat j h1
    clear hat
    have h1' : (j : Int) < (zs.length : Int) := by omega
    have HT : Hid (tl zs j = if j < zs.length ∧ 128 ≤ zs.getD j 0 ∧ zs.getD j 0 ≤ 191 then zs.getD j 0 % 64 else -1) := rfl
    generalize zs.getD j 0 = z at hc hz HT
    obtain ⟨z0, z1⟩ := hz
    by_cases h2 : z < 128
    · go_enter Try.func43, Try.ntmps43
      go_wp2
      go_ret
      exact ⟨ret_int (by rw [HT.out, if_neg (by omega)]), rfl⟩
    · by_cases h3 : 191 < z
      · go_enter Try.func43, Try.ntmps43
        go_wp2
        go_ret
        exact ⟨ret_int (by rw [HT.out, if_neg (by omega)]), rfl⟩
      · go_enter Try.func43, Try.ntmps43
        go_wp2
        go_ret
        exact ⟨ret_int (by rw [HT.out, if_pos (by omega), and63]), rfl⟩
  · have h1' : ¬ (j : Int) < (zs.length : Int) := by omega
    have HT : Hid (tl zs j = -1) := by unfold tl; exact if_neg (by omega)
    clear hat
    go_enter Try.func43, Try.ntmps43
    go_wp2
    go_ret
    exact ⟨ret_int HT.out.symm, rfl⟩

end Go.Proofs.Ytbcojphjohpmdaa
