/-
  Intervals of the model: IvMul.
-/
import Derived.Test.YtpognolidbgkkaaDoorPq8
import Derived.Deep.DeepCutAuto
import Derived.Deep.RegionHeld3
namespace Go.Proofs.YtpognolidbgkkaaDoor
open Go.RowKit
set_option linter.unusedVariables false
set_option maxRecDepth 8000
set_option linter.unusedSimpArgs false

set_option maxHeartbeats 4000000 in
theorem ivmul_spec {b1 b2 b3 b4 : Bool} {w1l w1h w2l w2h w3l w3h w4l w4h : Nat} {v1 v2 v3 v4 : Value} {l1 l2 l3 l4 : List Int} (s1 : Bool) (e1 : Int) (hu1 : e1 ≤ 9223372036854775807) (hd1 : -9223372036854775808 ≤ e1) (s2 : Bool) (e2 : Int) (hu2 : e2 ≤ 9223372036854775807) (hd2 : -9223372036854775808 ≤ e2) (s3 : Bool) (e3 : Int) (hu3 : e3 ≤ 9223372036854775807) (hd3 : -9223372036854775808 ≤ e3) (s4 : Bool) (e4 : Int) (hu4 : e4 ≤ 9223372036854775807) (hd4 : -9223372036854775808 ≤ e4) (w : World) (r1 : Row .i64 b1 w1l w1h w v1 l1) (r2 : Row .i64 b2 w2l w2h w v2 l2) (r3 : Row .i64 b3 w3l w3h w v3 l3) (r4 : Row .i64 b4 w4l w4h w v4 l4) :
    Calls Tryd.prog 5 #[.agg #[.bool s1, v1, .int .i64 e1, .bool s2, v2, .int .i64 e2], .agg #[.bool s3, v3, .int .i64 e3, .bool s4, v4, .int .i64 e4]] w fun e w' => IvAnsS (ivC (iokB s1 l1 e1 s2 l2 e2 && iokB s3 l3 e3 s4 l4 e4) (wval ((f4 s1 s1 s2 s2) (selP (fun i j => decide ((fun i j => cmpDI (wval ((f4 s1 s1 s2 s2) i) ((f4 l1 l1 l2 l2) i) * wval ((f4 s3 s4 s3 s4) i) ((f4 l3 l4 l3 l4) i)) ((f4 e1 e1 e2 e2) i + (f4 e3 e4 e3 e4) i) (wval ((f4 s1 s1 s2 s2) j) ((f4 l1 l1 l2 l2) j) * wval ((f4 s3 s4 s3 s4) j) ((f4 l3 l4 l3 l4) j)) ((f4 e1 e1 e2 e2) j + (f4 e3 e4 e3 e4) j)) i j < 0)) 4)) ((f4 l1 l1 l2 l2) (selP (fun i j => decide ((fun i j => cmpDI (wval ((f4 s1 s1 s2 s2) i) ((f4 l1 l1 l2 l2) i) * wval ((f4 s3 s4 s3 s4) i) ((f4 l3 l4 l3 l4) i)) ((f4 e1 e1 e2 e2) i + (f4 e3 e4 e3 e4) i) (wval ((f4 s1 s1 s2 s2) j) ((f4 l1 l1 l2 l2) j) * wval ((f4 s3 s4 s3 s4) j) ((f4 l3 l4 l3 l4) j)) ((f4 e1 e1 e2 e2) j + (f4 e3 e4 e3 e4) j)) i j < 0)) 4)) * wval ((f4 s3 s4 s3 s4) (selP (fun i j => decide ((fun i j => cmpDI (wval ((f4 s1 s1 s2 s2) i) ((f4 l1 l1 l2 l2) i) * wval ((f4 s3 s4 s3 s4) i) ((f4 l3 l4 l3 l4) i)) ((f4 e1 e1 e2 e2) i + (f4 e3 e4 e3 e4) i) (wval ((f4 s1 s1 s2 s2) j) ((f4 l1 l1 l2 l2) j) * wval ((f4 s3 s4 s3 s4) j) ((f4 l3 l4 l3 l4) j)) ((f4 e1 e1 e2 e2) j + (f4 e3 e4 e3 e4) j)) i j < 0)) 4)) ((f4 l3 l4 l3 l4) (selP (fun i j => decide ((fun i j => cmpDI (wval ((f4 s1 s1 s2 s2) i) ((f4 l1 l1 l2 l2) i) * wval ((f4 s3 s4 s3 s4) i) ((f4 l3 l4 l3 l4) i)) ((f4 e1 e1 e2 e2) i + (f4 e3 e4 e3 e4) i) (wval ((f4 s1 s1 s2 s2) j) ((f4 l1 l1 l2 l2) j) * wval ((f4 s3 s4 s3 s4) j) ((f4 l3 l4 l3 l4) j)) ((f4 e1 e1 e2 e2) j + (f4 e3 e4 e3 e4) j)) i j < 0)) 4))) ((f4 e1 e1 e2 e2) (selP (fun i j => decide ((fun i j => cmpDI (wval ((f4 s1 s1 s2 s2) i) ((f4 l1 l1 l2 l2) i) * wval ((f4 s3 s4 s3 s4) i) ((f4 l3 l4 l3 l4) i)) ((f4 e1 e1 e2 e2) i + (f4 e3 e4 e3 e4) i) (wval ((f4 s1 s1 s2 s2) j) ((f4 l1 l1 l2 l2) j) * wval ((f4 s3 s4 s3 s4) j) ((f4 l3 l4 l3 l4) j)) ((f4 e1 e1 e2 e2) j + (f4 e3 e4 e3 e4) j)) i j < 0)) 4) + (f4 e3 e4 e3 e4) (selP (fun i j => decide ((fun i j => cmpDI (wval ((f4 s1 s1 s2 s2) i) ((f4 l1 l1 l2 l2) i) * wval ((f4 s3 s4 s3 s4) i) ((f4 l3 l4 l3 l4) i)) ((f4 e1 e1 e2 e2) i + (f4 e3 e4 e3 e4) i) (wval ((f4 s1 s1 s2 s2) j) ((f4 l1 l1 l2 l2) j) * wval ((f4 s3 s4 s3 s4) j) ((f4 l3 l4 l3 l4) j)) ((f4 e1 e1 e2 e2) j + (f4 e3 e4 e3 e4) j)) i j < 0)) 4)) (wval ((f4 s1 s1 s2 s2) (selP (fun i j => decide (0 < (fun i j => cmpDI (wval ((f4 s1 s1 s2 s2) i) ((f4 l1 l1 l2 l2) i) * wval ((f4 s3 s4 s3 s4) i) ((f4 l3 l4 l3 l4) i)) ((f4 e1 e1 e2 e2) i + (f4 e3 e4 e3 e4) i) (wval ((f4 s1 s1 s2 s2) j) ((f4 l1 l1 l2 l2) j) * wval ((f4 s3 s4 s3 s4) j) ((f4 l3 l4 l3 l4) j)) ((f4 e1 e1 e2 e2) j + (f4 e3 e4 e3 e4) j)) i j)) 4)) ((f4 l1 l1 l2 l2) (selP (fun i j => decide (0 < (fun i j => cmpDI (wval ((f4 s1 s1 s2 s2) i) ((f4 l1 l1 l2 l2) i) * wval ((f4 s3 s4 s3 s4) i) ((f4 l3 l4 l3 l4) i)) ((f4 e1 e1 e2 e2) i + (f4 e3 e4 e3 e4) i) (wval ((f4 s1 s1 s2 s2) j) ((f4 l1 l1 l2 l2) j) * wval ((f4 s3 s4 s3 s4) j) ((f4 l3 l4 l3 l4) j)) ((f4 e1 e1 e2 e2) j + (f4 e3 e4 e3 e4) j)) i j)) 4)) * wval ((f4 s3 s4 s3 s4) (selP (fun i j => decide (0 < (fun i j => cmpDI (wval ((f4 s1 s1 s2 s2) i) ((f4 l1 l1 l2 l2) i) * wval ((f4 s3 s4 s3 s4) i) ((f4 l3 l4 l3 l4) i)) ((f4 e1 e1 e2 e2) i + (f4 e3 e4 e3 e4) i) (wval ((f4 s1 s1 s2 s2) j) ((f4 l1 l1 l2 l2) j) * wval ((f4 s3 s4 s3 s4) j) ((f4 l3 l4 l3 l4) j)) ((f4 e1 e1 e2 e2) j + (f4 e3 e4 e3 e4) j)) i j)) 4)) ((f4 l3 l4 l3 l4) (selP (fun i j => decide (0 < (fun i j => cmpDI (wval ((f4 s1 s1 s2 s2) i) ((f4 l1 l1 l2 l2) i) * wval ((f4 s3 s4 s3 s4) i) ((f4 l3 l4 l3 l4) i)) ((f4 e1 e1 e2 e2) i + (f4 e3 e4 e3 e4) i) (wval ((f4 s1 s1 s2 s2) j) ((f4 l1 l1 l2 l2) j) * wval ((f4 s3 s4 s3 s4) j) ((f4 l3 l4 l3 l4) j)) ((f4 e1 e1 e2 e2) j + (f4 e3 e4 e3 e4) j)) i j)) 4))) ((f4 e1 e1 e2 e2) (selP (fun i j => decide (0 < (fun i j => cmpDI (wval ((f4 s1 s1 s2 s2) i) ((f4 l1 l1 l2 l2) i) * wval ((f4 s3 s4 s3 s4) i) ((f4 l3 l4 l3 l4) i)) ((f4 e1 e1 e2 e2) i + (f4 e3 e4 e3 e4) i) (wval ((f4 s1 s1 s2 s2) j) ((f4 l1 l1 l2 l2) j) * wval ((f4 s3 s4 s3 s4) j) ((f4 l3 l4 l3 l4) j)) ((f4 e1 e1 e2 e2) j + (f4 e3 e4 e3 e4) j)) i j)) 4) + (f4 e3 e4 e3 e4) (selP (fun i j => decide (0 < (fun i j => cmpDI (wval ((f4 s1 s1 s2 s2) i) ((f4 l1 l1 l2 l2) i) * wval ((f4 s3 s4 s3 s4) i) ((f4 l3 l4 l3 l4) i)) ((f4 e1 e1 e2 e2) i + (f4 e3 e4 e3 e4) i) (wval ((f4 s1 s1 s2 s2) j) ((f4 l1 l1 l2 l2) j) * wval ((f4 s3 s4 s3 s4) j) ((f4 l3 l4 l3 l4) j)) ((f4 e1 e1 e2 e2) j + (f4 e3 e4 e3 e4) j)) i j)) 4))) (wsg (wval ((f4 s1 s1 s2 s2) (selP (fun i j => decide ((fun i j => cmpDI (wval ((f4 s1 s1 s2 s2) i) ((f4 l1 l1 l2 l2) i) * wval ((f4 s3 s4 s3 s4) i) ((f4 l3 l4 l3 l4) i)) ((f4 e1 e1 e2 e2) i + (f4 e3 e4 e3 e4) i) (wval ((f4 s1 s1 s2 s2) j) ((f4 l1 l1 l2 l2) j) * wval ((f4 s3 s4 s3 s4) j) ((f4 l3 l4 l3 l4) j)) ((f4 e1 e1 e2 e2) j + (f4 e3 e4 e3 e4) j)) i j < 0)) 4)) ((f4 l1 l1 l2 l2) (selP (fun i j => decide ((fun i j => cmpDI (wval ((f4 s1 s1 s2 s2) i) ((f4 l1 l1 l2 l2) i) * wval ((f4 s3 s4 s3 s4) i) ((f4 l3 l4 l3 l4) i)) ((f4 e1 e1 e2 e2) i + (f4 e3 e4 e3 e4) i) (wval ((f4 s1 s1 s2 s2) j) ((f4 l1 l1 l2 l2) j) * wval ((f4 s3 s4 s3 s4) j) ((f4 l3 l4 l3 l4) j)) ((f4 e1 e1 e2 e2) j + (f4 e3 e4 e3 e4) j)) i j < 0)) 4)) * wval ((f4 s3 s4 s3 s4) (selP (fun i j => decide ((fun i j => cmpDI (wval ((f4 s1 s1 s2 s2) i) ((f4 l1 l1 l2 l2) i) * wval ((f4 s3 s4 s3 s4) i) ((f4 l3 l4 l3 l4) i)) ((f4 e1 e1 e2 e2) i + (f4 e3 e4 e3 e4) i) (wval ((f4 s1 s1 s2 s2) j) ((f4 l1 l1 l2 l2) j) * wval ((f4 s3 s4 s3 s4) j) ((f4 l3 l4 l3 l4) j)) ((f4 e1 e1 e2 e2) j + (f4 e3 e4 e3 e4) j)) i j < 0)) 4)) ((f4 l3 l4 l3 l4) (selP (fun i j => decide ((fun i j => cmpDI (wval ((f4 s1 s1 s2 s2) i) ((f4 l1 l1 l2 l2) i) * wval ((f4 s3 s4 s3 s4) i) ((f4 l3 l4 l3 l4) i)) ((f4 e1 e1 e2 e2) i + (f4 e3 e4 e3 e4) i) (wval ((f4 s1 s1 s2 s2) j) ((f4 l1 l1 l2 l2) j) * wval ((f4 s3 s4 s3 s4) j) ((f4 l3 l4 l3 l4) j)) ((f4 e1 e1 e2 e2) j + (f4 e3 e4 e3 e4) j)) i j < 0)) 4)))) (dex (wval ((f4 s1 s1 s2 s2) (selP (fun i j => decide ((fun i j => cmpDI (wval ((f4 s1 s1 s2 s2) i) ((f4 l1 l1 l2 l2) i) * wval ((f4 s3 s4 s3 s4) i) ((f4 l3 l4 l3 l4) i)) ((f4 e1 e1 e2 e2) i + (f4 e3 e4 e3 e4) i) (wval ((f4 s1 s1 s2 s2) j) ((f4 l1 l1 l2 l2) j) * wval ((f4 s3 s4 s3 s4) j) ((f4 l3 l4 l3 l4) j)) ((f4 e1 e1 e2 e2) j + (f4 e3 e4 e3 e4) j)) i j < 0)) 4)) ((f4 l1 l1 l2 l2) (selP (fun i j => decide ((fun i j => cmpDI (wval ((f4 s1 s1 s2 s2) i) ((f4 l1 l1 l2 l2) i) * wval ((f4 s3 s4 s3 s4) i) ((f4 l3 l4 l3 l4) i)) ((f4 e1 e1 e2 e2) i + (f4 e3 e4 e3 e4) i) (wval ((f4 s1 s1 s2 s2) j) ((f4 l1 l1 l2 l2) j) * wval ((f4 s3 s4 s3 s4) j) ((f4 l3 l4 l3 l4) j)) ((f4 e1 e1 e2 e2) j + (f4 e3 e4 e3 e4) j)) i j < 0)) 4)) * wval ((f4 s3 s4 s3 s4) (selP (fun i j => decide ((fun i j => cmpDI (wval ((f4 s1 s1 s2 s2) i) ((f4 l1 l1 l2 l2) i) * wval ((f4 s3 s4 s3 s4) i) ((f4 l3 l4 l3 l4) i)) ((f4 e1 e1 e2 e2) i + (f4 e3 e4 e3 e4) i) (wval ((f4 s1 s1 s2 s2) j) ((f4 l1 l1 l2 l2) j) * wval ((f4 s3 s4 s3 s4) j) ((f4 l3 l4 l3 l4) j)) ((f4 e1 e1 e2 e2) j + (f4 e3 e4 e3 e4) j)) i j < 0)) 4)) ((f4 l3 l4 l3 l4) (selP (fun i j => decide ((fun i j => cmpDI (wval ((f4 s1 s1 s2 s2) i) ((f4 l1 l1 l2 l2) i) * wval ((f4 s3 s4 s3 s4) i) ((f4 l3 l4 l3 l4) i)) ((f4 e1 e1 e2 e2) i + (f4 e3 e4 e3 e4) i) (wval ((f4 s1 s1 s2 s2) j) ((f4 l1 l1 l2 l2) j) * wval ((f4 s3 s4 s3 s4) j) ((f4 l3 l4 l3 l4) j)) ((f4 e1 e1 e2 e2) j + (f4 e3 e4 e3 e4) j)) i j < 0)) 4))) ((f4 e1 e1 e2 e2) (selP (fun i j => decide ((fun i j => cmpDI (wval ((f4 s1 s1 s2 s2) i) ((f4 l1 l1 l2 l2) i) * wval ((f4 s3 s4 s3 s4) i) ((f4 l3 l4 l3 l4) i)) ((f4 e1 e1 e2 e2) i + (f4 e3 e4 e3 e4) i) (wval ((f4 s1 s1 s2 s2) j) ((f4 l1 l1 l2 l2) j) * wval ((f4 s3 s4 s3 s4) j) ((f4 l3 l4 l3 l4) j)) ((f4 e1 e1 e2 e2) j + (f4 e3 e4 e3 e4) j)) i j < 0)) 4) + (f4 e3 e4 e3 e4) (selP (fun i j => decide ((fun i j => cmpDI (wval ((f4 s1 s1 s2 s2) i) ((f4 l1 l1 l2 l2) i) * wval ((f4 s3 s4 s3 s4) i) ((f4 l3 l4 l3 l4) i)) ((f4 e1 e1 e2 e2) i + (f4 e3 e4 e3 e4) i) (wval ((f4 s1 s1 s2 s2) j) ((f4 l1 l1 l2 l2) j) * wval ((f4 s3 s4 s3 s4) j) ((f4 l3 l4 l3 l4) j)) ((f4 e1 e1 e2 e2) j + (f4 e3 e4 e3 e4) j)) i j < 0)) 4))) (dlm (wval ((f4 s1 s1 s2 s2) (selP (fun i j => decide ((fun i j => cmpDI (wval ((f4 s1 s1 s2 s2) i) ((f4 l1 l1 l2 l2) i) * wval ((f4 s3 s4 s3 s4) i) ((f4 l3 l4 l3 l4) i)) ((f4 e1 e1 e2 e2) i + (f4 e3 e4 e3 e4) i) (wval ((f4 s1 s1 s2 s2) j) ((f4 l1 l1 l2 l2) j) * wval ((f4 s3 s4 s3 s4) j) ((f4 l3 l4 l3 l4) j)) ((f4 e1 e1 e2 e2) j + (f4 e3 e4 e3 e4) j)) i j < 0)) 4)) ((f4 l1 l1 l2 l2) (selP (fun i j => decide ((fun i j => cmpDI (wval ((f4 s1 s1 s2 s2) i) ((f4 l1 l1 l2 l2) i) * wval ((f4 s3 s4 s3 s4) i) ((f4 l3 l4 l3 l4) i)) ((f4 e1 e1 e2 e2) i + (f4 e3 e4 e3 e4) i) (wval ((f4 s1 s1 s2 s2) j) ((f4 l1 l1 l2 l2) j) * wval ((f4 s3 s4 s3 s4) j) ((f4 l3 l4 l3 l4) j)) ((f4 e1 e1 e2 e2) j + (f4 e3 e4 e3 e4) j)) i j < 0)) 4)) * wval ((f4 s3 s4 s3 s4) (selP (fun i j => decide ((fun i j => cmpDI (wval ((f4 s1 s1 s2 s2) i) ((f4 l1 l1 l2 l2) i) * wval ((f4 s3 s4 s3 s4) i) ((f4 l3 l4 l3 l4) i)) ((f4 e1 e1 e2 e2) i + (f4 e3 e4 e3 e4) i) (wval ((f4 s1 s1 s2 s2) j) ((f4 l1 l1 l2 l2) j) * wval ((f4 s3 s4 s3 s4) j) ((f4 l3 l4 l3 l4) j)) ((f4 e1 e1 e2 e2) j + (f4 e3 e4 e3 e4) j)) i j < 0)) 4)) ((f4 l3 l4 l3 l4) (selP (fun i j => decide ((fun i j => cmpDI (wval ((f4 s1 s1 s2 s2) i) ((f4 l1 l1 l2 l2) i) * wval ((f4 s3 s4 s3 s4) i) ((f4 l3 l4 l3 l4) i)) ((f4 e1 e1 e2 e2) i + (f4 e3 e4 e3 e4) i) (wval ((f4 s1 s1 s2 s2) j) ((f4 l1 l1 l2 l2) j) * wval ((f4 s3 s4 s3 s4) j) ((f4 l3 l4 l3 l4) j)) ((f4 e1 e1 e2 e2) j + (f4 e3 e4 e3 e4) j)) i j < 0)) 4)))) (wsg (wval ((f4 s1 s1 s2 s2) (selP (fun i j => decide (0 < (fun i j => cmpDI (wval ((f4 s1 s1 s2 s2) i) ((f4 l1 l1 l2 l2) i) * wval ((f4 s3 s4 s3 s4) i) ((f4 l3 l4 l3 l4) i)) ((f4 e1 e1 e2 e2) i + (f4 e3 e4 e3 e4) i) (wval ((f4 s1 s1 s2 s2) j) ((f4 l1 l1 l2 l2) j) * wval ((f4 s3 s4 s3 s4) j) ((f4 l3 l4 l3 l4) j)) ((f4 e1 e1 e2 e2) j + (f4 e3 e4 e3 e4) j)) i j)) 4)) ((f4 l1 l1 l2 l2) (selP (fun i j => decide (0 < (fun i j => cmpDI (wval ((f4 s1 s1 s2 s2) i) ((f4 l1 l1 l2 l2) i) * wval ((f4 s3 s4 s3 s4) i) ((f4 l3 l4 l3 l4) i)) ((f4 e1 e1 e2 e2) i + (f4 e3 e4 e3 e4) i) (wval ((f4 s1 s1 s2 s2) j) ((f4 l1 l1 l2 l2) j) * wval ((f4 s3 s4 s3 s4) j) ((f4 l3 l4 l3 l4) j)) ((f4 e1 e1 e2 e2) j + (f4 e3 e4 e3 e4) j)) i j)) 4)) * wval ((f4 s3 s4 s3 s4) (selP (fun i j => decide (0 < (fun i j => cmpDI (wval ((f4 s1 s1 s2 s2) i) ((f4 l1 l1 l2 l2) i) * wval ((f4 s3 s4 s3 s4) i) ((f4 l3 l4 l3 l4) i)) ((f4 e1 e1 e2 e2) i + (f4 e3 e4 e3 e4) i) (wval ((f4 s1 s1 s2 s2) j) ((f4 l1 l1 l2 l2) j) * wval ((f4 s3 s4 s3 s4) j) ((f4 l3 l4 l3 l4) j)) ((f4 e1 e1 e2 e2) j + (f4 e3 e4 e3 e4) j)) i j)) 4)) ((f4 l3 l4 l3 l4) (selP (fun i j => decide (0 < (fun i j => cmpDI (wval ((f4 s1 s1 s2 s2) i) ((f4 l1 l1 l2 l2) i) * wval ((f4 s3 s4 s3 s4) i) ((f4 l3 l4 l3 l4) i)) ((f4 e1 e1 e2 e2) i + (f4 e3 e4 e3 e4) i) (wval ((f4 s1 s1 s2 s2) j) ((f4 l1 l1 l2 l2) j) * wval ((f4 s3 s4 s3 s4) j) ((f4 l3 l4 l3 l4) j)) ((f4 e1 e1 e2 e2) j + (f4 e3 e4 e3 e4) j)) i j)) 4)))) (dex (wval ((f4 s1 s1 s2 s2) (selP (fun i j => decide (0 < (fun i j => cmpDI (wval ((f4 s1 s1 s2 s2) i) ((f4 l1 l1 l2 l2) i) * wval ((f4 s3 s4 s3 s4) i) ((f4 l3 l4 l3 l4) i)) ((f4 e1 e1 e2 e2) i + (f4 e3 e4 e3 e4) i) (wval ((f4 s1 s1 s2 s2) j) ((f4 l1 l1 l2 l2) j) * wval ((f4 s3 s4 s3 s4) j) ((f4 l3 l4 l3 l4) j)) ((f4 e1 e1 e2 e2) j + (f4 e3 e4 e3 e4) j)) i j)) 4)) ((f4 l1 l1 l2 l2) (selP (fun i j => decide (0 < (fun i j => cmpDI (wval ((f4 s1 s1 s2 s2) i) ((f4 l1 l1 l2 l2) i) * wval ((f4 s3 s4 s3 s4) i) ((f4 l3 l4 l3 l4) i)) ((f4 e1 e1 e2 e2) i + (f4 e3 e4 e3 e4) i) (wval ((f4 s1 s1 s2 s2) j) ((f4 l1 l1 l2 l2) j) * wval ((f4 s3 s4 s3 s4) j) ((f4 l3 l4 l3 l4) j)) ((f4 e1 e1 e2 e2) j + (f4 e3 e4 e3 e4) j)) i j)) 4)) * wval ((f4 s3 s4 s3 s4) (selP (fun i j => decide (0 < (fun i j => cmpDI (wval ((f4 s1 s1 s2 s2) i) ((f4 l1 l1 l2 l2) i) * wval ((f4 s3 s4 s3 s4) i) ((f4 l3 l4 l3 l4) i)) ((f4 e1 e1 e2 e2) i + (f4 e3 e4 e3 e4) i) (wval ((f4 s1 s1 s2 s2) j) ((f4 l1 l1 l2 l2) j) * wval ((f4 s3 s4 s3 s4) j) ((f4 l3 l4 l3 l4) j)) ((f4 e1 e1 e2 e2) j + (f4 e3 e4 e3 e4) j)) i j)) 4)) ((f4 l3 l4 l3 l4) (selP (fun i j => decide (0 < (fun i j => cmpDI (wval ((f4 s1 s1 s2 s2) i) ((f4 l1 l1 l2 l2) i) * wval ((f4 s3 s4 s3 s4) i) ((f4 l3 l4 l3 l4) i)) ((f4 e1 e1 e2 e2) i + (f4 e3 e4 e3 e4) i) (wval ((f4 s1 s1 s2 s2) j) ((f4 l1 l1 l2 l2) j) * wval ((f4 s3 s4 s3 s4) j) ((f4 l3 l4 l3 l4) j)) ((f4 e1 e1 e2 e2) j + (f4 e3 e4 e3 e4) j)) i j)) 4))) ((f4 e1 e1 e2 e2) (selP (fun i j => decide (0 < (fun i j => cmpDI (wval ((f4 s1 s1 s2 s2) i) ((f4 l1 l1 l2 l2) i) * wval ((f4 s3 s4 s3 s4) i) ((f4 l3 l4 l3 l4) i)) ((f4 e1 e1 e2 e2) i + (f4 e3 e4 e3 e4) i) (wval ((f4 s1 s1 s2 s2) j) ((f4 l1 l1 l2 l2) j) * wval ((f4 s3 s4 s3 s4) j) ((f4 l3 l4 l3 l4) j)) ((f4 e1 e1 e2 e2) j + (f4 e3 e4 e3 e4) j)) i j)) 4) + (f4 e3 e4 e3 e4) (selP (fun i j => decide (0 < (fun i j => cmpDI (wval ((f4 s1 s1 s2 s2) i) ((f4 l1 l1 l2 l2) i) * wval ((f4 s3 s4 s3 s4) i) ((f4 l3 l4 l3 l4) i)) ((f4 e1 e1 e2 e2) i + (f4 e3 e4 e3 e4) i) (wval ((f4 s1 s1 s2 s2) j) ((f4 l1 l1 l2 l2) j) * wval ((f4 s3 s4 s3 s4) j) ((f4 l3 l4 l3 l4) j)) ((f4 e1 e1 e2 e2) j + (f4 e3 e4 e3 e4) j)) i j)) 4))) (dlm (wval ((f4 s1 s1 s2 s2) (selP (fun i j => decide (0 < (fun i j => cmpDI (wval ((f4 s1 s1 s2 s2) i) ((f4 l1 l1 l2 l2) i) * wval ((f4 s3 s4 s3 s4) i) ((f4 l3 l4 l3 l4) i)) ((f4 e1 e1 e2 e2) i + (f4 e3 e4 e3 e4) i) (wval ((f4 s1 s1 s2 s2) j) ((f4 l1 l1 l2 l2) j) * wval ((f4 s3 s4 s3 s4) j) ((f4 l3 l4 l3 l4) j)) ((f4 e1 e1 e2 e2) j + (f4 e3 e4 e3 e4) j)) i j)) 4)) ((f4 l1 l1 l2 l2) (selP (fun i j => decide (0 < (fun i j => cmpDI (wval ((f4 s1 s1 s2 s2) i) ((f4 l1 l1 l2 l2) i) * wval ((f4 s3 s4 s3 s4) i) ((f4 l3 l4 l3 l4) i)) ((f4 e1 e1 e2 e2) i + (f4 e3 e4 e3 e4) i) (wval ((f4 s1 s1 s2 s2) j) ((f4 l1 l1 l2 l2) j) * wval ((f4 s3 s4 s3 s4) j) ((f4 l3 l4 l3 l4) j)) ((f4 e1 e1 e2 e2) j + (f4 e3 e4 e3 e4) j)) i j)) 4)) * wval ((f4 s3 s4 s3 s4) (selP (fun i j => decide (0 < (fun i j => cmpDI (wval ((f4 s1 s1 s2 s2) i) ((f4 l1 l1 l2 l2) i) * wval ((f4 s3 s4 s3 s4) i) ((f4 l3 l4 l3 l4) i)) ((f4 e1 e1 e2 e2) i + (f4 e3 e4 e3 e4) i) (wval ((f4 s1 s1 s2 s2) j) ((f4 l1 l1 l2 l2) j) * wval ((f4 s3 s4 s3 s4) j) ((f4 l3 l4 l3 l4) j)) ((f4 e1 e1 e2 e2) j + (f4 e3 e4 e3 e4) j)) i j)) 4)) ((f4 l3 l4 l3 l4) (selP (fun i j => decide (0 < (fun i j => cmpDI (wval ((f4 s1 s1 s2 s2) i) ((f4 l1 l1 l2 l2) i) * wval ((f4 s3 s4 s3 s4) i) ((f4 l3 l4 l3 l4) i)) ((f4 e1 e1 e2 e2) i + (f4 e3 e4 e3 e4) i) (wval ((f4 s1 s1 s2 s2) j) ((f4 l1 l1 l2 l2) j) * wval ((f4 s3 s4 s3 s4) j) ((f4 l3 l4 l3 l4) j)) ((f4 e1 e1 e2 e2) j + (f4 e3 e4 e3 e4) j)) i j)) 4)))) w e w' := by
  replace r1 := r1.tight
  replace r2 := r2.tight
  replace r3 := r3.tight
  replace r4 := r4.tight
  obtain ⟨i0, hi0⟩ : ∃ i, (selP (fun i j => decide ((fun i j => cmpDI (wval ((f4 s1 s1 s2 s2) i) ((f4 l1 l1 l2 l2) i) * wval ((f4 s3 s4 s3 s4) i) ((f4 l3 l4 l3 l4) i)) ((f4 e1 e1 e2 e2) i + (f4 e3 e4 e3 e4) i) (wval ((f4 s1 s1 s2 s2) j) ((f4 l1 l1 l2 l2) j) * wval ((f4 s3 s4 s3 s4) j) ((f4 l3 l4 l3 l4) j)) ((f4 e1 e1 e2 e2) j + (f4 e3 e4 e3 e4) j)) i j < 0)) 4) = i := ⟨_, rfl⟩
  obtain ⟨i1, hi1⟩ : ∃ i, (selP (fun i j => decide (0 < (fun i j => cmpDI (wval ((f4 s1 s1 s2 s2) i) ((f4 l1 l1 l2 l2) i) * wval ((f4 s3 s4 s3 s4) i) ((f4 l3 l4 l3 l4) i)) ((f4 e1 e1 e2 e2) i + (f4 e3 e4 e3 e4) i) (wval ((f4 s1 s1 s2 s2) j) ((f4 l1 l1 l2 l2) j) * wval ((f4 s3 s4 s3 s4) j) ((f4 l3 l4 l3 l4) j)) ((f4 e1 e1 e2 e2) j + (f4 e3 e4 e3 e4) j)) i j)) 4) = i := ⟨_, rfl⟩
  rw [hi0, hi1]
  have HI0 := hide hi0
  have HI1 := hide hi1
  clear hi0 hi1
  obtain ⟨CC, hCC⟩ : ∃ c, ivC (iokB s1 l1 e1 s2 l2 e2 && iokB s3 l3 e3 s4 l4 e4) (wval ((f4 s1 s1 s2 s2) i0) ((f4 l1 l1 l2 l2) i0) * wval ((f4 s3 s4 s3 s4) i0) ((f4 l3 l4 l3 l4) i0)) ((f4 e1 e1 e2 e2) i0 + (f4 e3 e4 e3 e4) i0) (wval ((f4 s1 s1 s2 s2) i1) ((f4 l1 l1 l2 l2) i1) * wval ((f4 s3 s4 s3 s4) i1) ((f4 l3 l4 l3 l4) i1)) ((f4 e1 e1 e2 e2) i1 + (f4 e3 e4 e3 e4) i1) = c := ⟨_, rfl⟩
  rw [hCC]
  have HCC := hide hCC
  clear hCC
  obtain ⟨W1, hW1⟩ : ∃ c, wsg (wval ((f4 s1 s1 s2 s2) i0) ((f4 l1 l1 l2 l2) i0) * wval ((f4 s3 s4 s3 s4) i0) ((f4 l3 l4 l3 l4) i0)) = c := ⟨_, rfl⟩
  obtain ⟨D1, hD1⟩ : ∃ c, dex (wval ((f4 s1 s1 s2 s2) i0) ((f4 l1 l1 l2 l2) i0) * wval ((f4 s3 s4 s3 s4) i0) ((f4 l3 l4 l3 l4) i0)) ((f4 e1 e1 e2 e2) i0 + (f4 e3 e4 e3 e4) i0) = c := ⟨_, rfl⟩
  obtain ⟨Q1, hQ1⟩ : ∃ c, dlm (wval ((f4 s1 s1 s2 s2) i0) ((f4 l1 l1 l2 l2) i0) * wval ((f4 s3 s4 s3 s4) i0) ((f4 l3 l4 l3 l4) i0)) = c := ⟨_, rfl⟩
  obtain ⟨W2, hW2⟩ : ∃ c, wsg (wval ((f4 s1 s1 s2 s2) i1) ((f4 l1 l1 l2 l2) i1) * wval ((f4 s3 s4 s3 s4) i1) ((f4 l3 l4 l3 l4) i1)) = c := ⟨_, rfl⟩
  obtain ⟨D2, hD2⟩ : ∃ c, dex (wval ((f4 s1 s1 s2 s2) i1) ((f4 l1 l1 l2 l2) i1) * wval ((f4 s3 s4 s3 s4) i1) ((f4 l3 l4 l3 l4) i1)) ((f4 e1 e1 e2 e2) i1 + (f4 e3 e4 e3 e4) i1) = c := ⟨_, rfl⟩
  obtain ⟨Q2, hQ2⟩ : ∃ c, dlm (wval ((f4 s1 s1 s2 s2) i1) ((f4 l1 l1 l2 l2) i1) * wval ((f4 s3 s4 s3 s4) i1) ((f4 l3 l4 l3 l4) i1)) = c := ⟨_, rfl⟩
  try rw [hW1]
  try rw [hD1]
  try rw [hQ1]
  try rw [hW2]
  try rw [hD2]
  try rw [hQ2]
  have HW1 := hide hW1
  clear hW1
  have HD1 := hide hD1
  clear hD1
  have HQ1 := hide hQ1
  clear hQ1
  have HW2 := hide hW2
  clear hW2
  have HD2 := hide hD2
  clear hD2
  have HQ2 := hide hQ2
  clear hQ2
  obtain ⟨Wn, hn0⟩ : ∃ wz, wz = (((w.alloc (.cells #[.bool s1, v1, .int .i64 e1, .bool s2, v2, .int .i64 e2] 38)).alloc (.cells #[.bool s3, v3, .int .i64 e3, .bool s4, v4, .int .i64 e4] 38)).alloc (.cells #[.bool false, .slice none 0 0, .int .i64 0, .bool false, .slice none 0 0, .int .i64 0] 38)) := ⟨_, rfl⟩
  have k0 : Kept 0 0 w Wn := by rw [hn0]; exact ((((Kept.refl 0 0 w).alloc _).alloc _).alloc _)
  have bp0 : Wn.cell? ⟨w.heap.size, 0, none⟩ = some (.bool s1) := by rw [hn0]; exact old_cell _ (old_cell _ (new_cell2 _ _ _ _ _ _ (by simp) rfl))
  have bp1 : Wn.cell? ⟨w.heap.size, 1, none⟩ = some (v1) := by rw [hn0]; exact old_cell _ (old_cell _ (new_cell2 _ _ _ _ _ _ (by simp) rfl))
  have bp2 : Wn.cell? ⟨w.heap.size, 2, none⟩ = some (.int .i64 e1) := by rw [hn0]; exact old_cell _ (old_cell _ (new_cell2 _ _ _ _ _ _ (by simp) rfl))
  have bp3 : Wn.cell? ⟨w.heap.size, 3, none⟩ = some (.bool s2) := by rw [hn0]; exact old_cell _ (old_cell _ (new_cell2 _ _ _ _ _ _ (by simp) rfl))
  have bp4 : Wn.cell? ⟨w.heap.size, 4, none⟩ = some (v2) := by rw [hn0]; exact old_cell _ (old_cell _ (new_cell2 _ _ _ _ _ _ (by simp) rfl))
  have bp5 : Wn.cell? ⟨w.heap.size, 5, none⟩ = some (.int .i64 e2) := by rw [hn0]; exact old_cell _ (old_cell _ (new_cell2 _ _ _ _ _ _ (by simp) rfl))
  have bq0 : Wn.cell? ⟨w.heap.size + 1, 0, none⟩ = some (.bool s3) := by rw [hn0]; exact old_cell _ (new_cell2 _ _ _ _ _ _ (by simp) rfl)
  have bq1 : Wn.cell? ⟨w.heap.size + 1, 1, none⟩ = some (v3) := by rw [hn0]; exact old_cell _ (new_cell2 _ _ _ _ _ _ (by simp) rfl)
  have bq2 : Wn.cell? ⟨w.heap.size + 1, 2, none⟩ = some (.int .i64 e3) := by rw [hn0]; exact old_cell _ (new_cell2 _ _ _ _ _ _ (by simp) rfl)
  have bq3 : Wn.cell? ⟨w.heap.size + 1, 3, none⟩ = some (.bool s4) := by rw [hn0]; exact old_cell _ (new_cell2 _ _ _ _ _ _ (by simp) rfl)
  have bq4 : Wn.cell? ⟨w.heap.size + 1, 4, none⟩ = some (v4) := by rw [hn0]; exact old_cell _ (new_cell2 _ _ _ _ _ _ (by simp) rfl)
  have bq5 : Wn.cell? ⟨w.heap.size + 1, 5, none⟩ = some (.int .i64 e4) := by rw [hn0]; exact old_cell _ (new_cell2 _ _ _ _ _ _ (by simp) rfl)
  have R0 : Wn.cell? ⟨w.heap.size + 2, 0, none⟩ = some (.bool false) := by rw [hn0]; exact new_cell2 _ _ _ _ _ _ (by simp) rfl
  have Ba : Wn.frozen? ⟨w.heap.size + 2, 0, none⟩ = false := by rw [hn0]; exact new_loose2 _ _ _ _ _ (by simp)
  have R1 : Wn.cell? ⟨w.heap.size + 2, 1, none⟩ = some (.slice none 0 0) := by rw [hn0]; exact new_cell2 _ _ _ _ _ _ (by simp) rfl
  have Bb : Wn.frozen? ⟨w.heap.size + 2, 1, none⟩ = false := by rw [hn0]; exact new_loose2 _ _ _ _ _ (by simp)
  have R2 : Wn.cell? ⟨w.heap.size + 2, 2, none⟩ = some (.int .i64 0) := by rw [hn0]; exact new_cell2 _ _ _ _ _ _ (by simp) rfl
  have Bc : Wn.frozen? ⟨w.heap.size + 2, 2, none⟩ = false := by rw [hn0]; exact new_loose2 _ _ _ _ _ (by simp)
  have R3 : Wn.cell? ⟨w.heap.size + 2, 3, none⟩ = some (.bool false) := by rw [hn0]; exact new_cell2 _ _ _ _ _ _ (by simp) rfl
  have Bd : Wn.frozen? ⟨w.heap.size + 2, 3, none⟩ = false := by rw [hn0]; exact new_loose2 _ _ _ _ _ (by simp)
  have R4 : Wn.cell? ⟨w.heap.size + 2, 4, none⟩ = some (.slice none 0 0) := by rw [hn0]; exact new_cell2 _ _ _ _ _ _ (by simp) rfl
  have Be : Wn.frozen? ⟨w.heap.size + 2, 4, none⟩ = false := by rw [hn0]; exact new_loose2 _ _ _ _ _ (by simp)
  have R5 : Wn.cell? ⟨w.heap.size + 2, 5, none⟩ = some (.int .i64 0) := by rw [hn0]; exact new_cell2 _ _ _ _ _ _ (by simp) rfl
  have Bf : Wn.frozen? ⟨w.heap.size + 2, 5, none⟩ = false := by rw [hn0]; exact new_loose2 _ _ _ _ _ (by simp)
  subst hn0
  replace r1 := r1.kept k0 (by omega)
  replace r2 := r2.kept k0 (by omega)
  replace r3 := r3.kept k0 (by omega)
  replace r4 := r4.kept k0 (by omega)
  have s0 : (((w.alloc (.cells #[.bool s1, v1, .int .i64 e1, .bool s2, v2, .int .i64 e2] 38)).alloc (.cells #[.bool s3, v3, .int .i64 e3, .bool s4, v4, .int .i64 e4] 38)).alloc (.cells #[.bool false, .slice none 0 0, .int .i64 0, .bool false, .slice none 0 0, .int .i64 0] 38)).heap.size = w.heap.size + 3 := by simp
  obtain ⟨a1, c1, hv⟩ := r1.form'
  subst hv
  obtain ⟨a2, c2, hv⟩ := r2.form'
  subst hv
  obtain ⟨a3, c3, hv⟩ := r3.form'
  subst hv
  obtain ⟨a4, c4, hv⟩ := r4.form'
  subst hv
  have K := hide (k0)
  clear k0
  have S0 := hide s0
  clear s0
  go_enter Tryd.func5, Tryd.ntmps5
  go_wp2_with fail
  generalize (((w.alloc (.cells #[.bool s1, .slice a1 l1.length c1, .int .i64 e1, .bool s2, .slice a2 l2.length c2, .int .i64 e2] 38)).alloc (.cells #[.bool s3, .slice a3 l3.length c3, .int .i64 e3, .bool s4, .slice a4 l4.length c4, .int .i64 e4] 38)).alloc (.cells #[.bool false, .slice none 0 0, .int .i64 0, .bool false, .slice none 0 0, .int .i64 0] 38)) = W at *
  refine (ivok_spec s1 e1 hu1 hd1 s2 e2 hu2 hd2 _ r1 r2).mono ?_
  rintro e w1 ⟨rfl, k1⟩
  revert r1 r2 r3 r4; refine k1.n4 ?_; intro r1 r2 r3 r4
  replace Ba := k1.loose0 (zbl R0) Ba
  replace Bb := k1.loose0 (zbl R1) Bb
  replace Bc := k1.loose0 (zbl R2) Bc
  replace Bd := k1.loose0 (zbl R3) Bd
  replace Be := k1.loose0 (zbl R4) Be
  replace Bf := k1.loose0 (zbl R5) Bf
  revert bp0 bp1 bp2 bp3 bp4 bp5 bq0 bq1 bq2 bq3 bq4 bq5; refine k1.m12 ?_; intro bp0 bp1 bp2 bp3 bp4 bp5 bq0 bq1 bq2 bq3 bq4 bq5
  revert R0 R1 R2 R3 R4 R5; refine k1.m6 ?_; intro R0 R1 R2 R3 R4 R5
  replace K := hide ((unhide K).trans k1)
  have z2 := k1.size
  clear k1
  cases ho : iokB s1 l1 e1 s2 l2 e2
  ·have EC : Hid (CC = false) := by show _ = _; rw [← unhide HCC]; exact ivC_no (by rw [ho]; rfl)
   have K7 := hide (((((((unhide K).setNew (p := ⟨w.heap.size + 2, 0, none⟩) (by simp) (.bool false)).setNew (p := ⟨w.heap.size + 2, 1, none⟩) (by simp) (.slice none 0 0)).setNew (p := ⟨w.heap.size + 2, 2, none⟩) (by simp) (.int .i64 0)).setNew (p := ⟨w.heap.size + 2, 3, none⟩) (by simp) (.bool false)).setNew (p := ⟨w.heap.size + 2, 4, none⟩) (by simp) (.slice none 0 0)).setNew (p := ⟨w.heap.size + 2, 5, none⟩) (by simp) (.int .i64 0))
   clear r1 r2 r3 r4 K
   go_wp2_with fail
   exact bodyPost_ret (v := .tuple #[.agg #[.bool false, .slice none 0 0, .int .i64 0, .bool false, .slice none 0 0, .int .i64 0], .bool false]) (by simp [results, Tryd.results5, go_sem, R0, R1, R2, R3, R4, R5]) rfl (by rw [unhide EC]; exact ivS_no (unhide K7))
  obtain ⟨j1, j2, -⟩ := iok_parts ho
  have I1 := hide j1
  have I2 := hide j2
  have HO := hide ho
  clear ho j1 j2
  go_wp2_with fail
  refine (ivok_spec s3 e3 hu3 hd3 s4 e4 hu4 hd4 _ r3 r4).mono ?_
  rintro e w3 ⟨rfl, k3⟩
  revert r1 r2 r3 r4; refine k3.n4 ?_; intro r1 r2 r3 r4
  replace Ba := k3.loose0 (zbl R0) Ba
  replace Bb := k3.loose0 (zbl R1) Bb
  replace Bc := k3.loose0 (zbl R2) Bc
  replace Bd := k3.loose0 (zbl R3) Bd
  replace Be := k3.loose0 (zbl R4) Be
  replace Bf := k3.loose0 (zbl R5) Bf
  revert bp0 bp1 bp2 bp3 bp4 bp5 bq0 bq1 bq2 bq3 bq4 bq5; refine k3.m12 ?_; intro bp0 bp1 bp2 bp3 bp4 bp5 bq0 bq1 bq2 bq3 bq4 bq5
  revert R0 R1 R2 R3 R4 R5; refine k3.m6 ?_; intro R0 R1 R2 R3 R4 R5
  replace K := hide ((unhide K).trans k3)
  have z4 := k3.size
  clear k3
  cases ho : iokB s3 l3 e3 s4 l4 e4
  ·have EC : Hid (CC = false) := by show _ = _; rw [← unhide HCC]; exact ivC_no (by rw [ho, unhide HO]; rfl)
   have K7 := hide (((((((unhide K).setNew (p := ⟨w.heap.size + 2, 0, none⟩) (by simp) (.bool false)).setNew (p := ⟨w.heap.size + 2, 1, none⟩) (by simp) (.slice none 0 0)).setNew (p := ⟨w.heap.size + 2, 2, none⟩) (by simp) (.int .i64 0)).setNew (p := ⟨w.heap.size + 2, 3, none⟩) (by simp) (.bool false)).setNew (p := ⟨w.heap.size + 2, 4, none⟩) (by simp) (.slice none 0 0)).setNew (p := ⟨w.heap.size + 2, 5, none⟩) (by simp) (.int .i64 0))
   clear r1 r2 r3 r4 K
   go_wp2_with fail
   exact bodyPost_ret (v := .tuple #[.agg #[.bool false, .slice none 0 0, .int .i64 0, .bool false, .slice none 0 0, .int .i64 0], .bool false]) (by simp [results, Tryd.results5, go_sem, R0, R1, R2, R3, R4, R5]) rfl (by rw [unhide EC]; exact ivS_no (unhide K7))
  obtain ⟨j3, j4, -⟩ := iok_parts ho
  have I3 := hide j3
  have I4 := hide j4
  have HC : Hid ((iokB s1 l1 e1 s2 l2 e2 && iokB s3 l3 e3 s4 l4 e4) = true) := by show _ = _; rw [ho, unhide HO]; rfl
  clear ho j3 j4
  have mkf : ∀ w' vA vB lo' hi' b' lo'' hi'' b'', Row .i64 b' lo' hi' w' vA Q1 → Row .i64 b'' lo'' hi'' w' vB Q2 → Calls Tryd.prog 13 #[.agg #[.bool W1, vA, .int .i64 D1, .bool W2, vB, .int .i64 D2]] w' fun e w'' => IvAnsS CC W1 D1 Q1 W2 D2 Q2 w' e w'' := fun w' vA vB lo' hi' b' lo'' hi'' b'' rA' rB' => by
   have rg1 := (show dex (wval ((f4 s1 s1 s2 s2) i0) ((f4 l1 l1 l2 l2) i0) * wval ((f4 s3 s4 s3 s4) i0) ((f4 l3 l4 l3 l4) i0)) ((f4 e1 e1 e2 e2) i0 + (f4 e3 e4 e3 e4) i0) ≤ 9223372036854775807 ∧ -9223372036854775808 ≤ dex (wval ((f4 s1 s1 s2 s2) i0) ((f4 l1 l1 l2 l2) i0) * wval ((f4 s3 s4 s3 s4) i0) ((f4 l3 l4 l3 l4) i0)) ((f4 e1 e1 e2 e2) i0 + (f4 e3 e4 e3 e4) i0) from by have h := (prod_wb (dok_f4 (unhide I1) (unhide I1) (unhide I2) (unhide I2) i0) (dok_f4 (unhide I3) (unhide I4) (unhide I3) (unhide I4) i0)).1; have h1 := h.2.2.1; have h2 := h.2.2.2; exact ⟨by omega, by omega⟩)
   have rg2 := (show dex (wval ((f4 s1 s1 s2 s2) i1) ((f4 l1 l1 l2 l2) i1) * wval ((f4 s3 s4 s3 s4) i1) ((f4 l3 l4 l3 l4) i1)) ((f4 e1 e1 e2 e2) i1 + (f4 e3 e4 e3 e4) i1) ≤ 9223372036854775807 ∧ -9223372036854775808 ≤ dex (wval ((f4 s1 s1 s2 s2) i1) ((f4 l1 l1 l2 l2) i1) * wval ((f4 s3 s4 s3 s4) i1) ((f4 l3 l4 l3 l4) i1)) ((f4 e1 e1 e2 e2) i1 + (f4 e3 e4 e3 e4) i1) from by have h := (prod_wb (dok_f4 (unhide I1) (unhide I1) (unhide I2) (unhide I2) i1) (dok_f4 (unhide I3) (unhide I4) (unhide I3) (unhide I4) i1)).1; have h1 := h.2.2.1; have h2 := h.2.2.2; exact ⟨by omega, by omega⟩)
   rw [unhide HD1] at rg1
   rw [unhide HD2] at rg2
   have mk := fits7_spec W1 D1 rg1.1 rg1.2 W2 D2 rg2.1 rg2.2 w' rA' rB'
   have hcc := unhide HCC
   unfold ivC at hcc
   rw [unhide HC, unhide HW1, unhide HD1, unhide HQ1, unhide HW2, unhide HD2, unhide HQ2, Bool.true_and] at hcc
   rw [hcc] at mk
   exact mk
  go_wp2_with fail
  have mk := mul7_spec s1 e1 s2 e2 s3 e3 s4 e4 w3 r1 r2 r3 r4 (unhide I1) (unhide I2) (unhide I3) (unhide I4)
  rw [unhide HI0, unhide HI1, unhide HW1, unhide HD1, unhide HQ1, unhide HW2, unhide HD2, unhide HQ2] at mk
  refine (mk).mono ?_
  rintro e w5 ⟨vA, vB, rfl, rA, rB, k5⟩
  revert r1 r2 r3 r4; refine k5.n4 ?_; intro r1 r2 r3 r4
  replace Ba := k5.loose0 (zbl R0) Ba
  replace Bb := k5.loose0 (zbl R1) Bb
  replace Bc := k5.loose0 (zbl R2) Bc
  replace Bd := k5.loose0 (zbl R3) Bd
  replace Be := k5.loose0 (zbl R4) Be
  replace Bf := k5.loose0 (zbl R5) Bf
  revert bp0 bp1 bp2 bp3 bp4 bp5 bq0 bq1 bq2 bq3 bq4 bq5; refine k5.m12 ?_; intro bp0 bp1 bp2 bp3 bp4 bp5 bq0 bq1 bq2 bq3 bq4 bq5
  revert R0 R1 R2 R3 R4 R5; refine k5.m6 ?_; intro R0 R1 R2 R3 R4 R5
  replace K := hide ((unhide K).trans k5)
  have z6 := k5.size
  clear k5
  clear mk
  go_wp2_with fail
  refine (mkf _ _ _ _ _ _ _ _ _ rA rB).mono ?_
  rintro e w7 h5
  obtain ⟨q1, y1, M1, q2, y2, M2, vL, vM, rfl, rL, rM, k5, hq⟩ := ivS_open h5
  have HQ := hide hq
  clear hq h5
  replace r1 := r1.kp k5
  replace r2 := r2.kp k5
  replace r3 := r3.kp k5
  replace r4 := r4.kp k5
  replace rA := rA.kp k5
  replace rB := rB.kp k5
  replace Ba := k5.loose0 (zbl R0) Ba
  replace Bb := k5.loose0 (zbl R1) Bb
  replace Bc := k5.loose0 (zbl R2) Bc
  replace Bd := k5.loose0 (zbl R3) Bd
  replace Be := k5.loose0 (zbl R4) Be
  replace Bf := k5.loose0 (zbl R5) Bf
  revert bp0 bp1 bp2 bp3 bp4 bp5 bq0 bq1 bq2 bq3 bq4 bq5; refine k5.m12 ?_; intro bp0 bp1 bp2 bp3 bp4 bp5 bq0 bq1 bq2 bq3 bq4 bq5
  revert R0 R1 R2 R3 R4 R5; refine k5.m6 ?_; intro R0 R1 R2 R3 R4 R5
  replace K := hide ((unhide K).trans k5)
  have z8 := k5.size
  clear k5
  obtain ⟨aL, dL, hv⟩ := Row.form' rL
  subst hv
  obtain ⟨aM, dM, hv⟩ := Row.form' rM
  subst hv
  have RA := hide (((((((rL.set_other (p := ⟨w.heap.size + 2, 0, none⟩) (.inl (by have := unhide S0; dsimp only; omega)) (.bool q1)).set_other (p := ⟨w.heap.size + 2, 1, none⟩) (.inl (by have := unhide S0; dsimp only; omega)) (.slice aL M1.length dL)).set_other (p := ⟨w.heap.size + 2, 2, none⟩) (.inl (by have := unhide S0; dsimp only; omega)) (.int .i64 y1)).set_other (p := ⟨w.heap.size + 2, 3, none⟩) (.inl (by have := unhide S0; dsimp only; omega)) (.bool q2)).set_other (p := ⟨w.heap.size + 2, 4, none⟩) (.inl (by have := unhide S0; dsimp only; omega)) (.slice aM M2.length dM)).set_other (p := ⟨w.heap.size + 2, 5, none⟩) (.inl (by have := unhide S0; dsimp only; omega)) (.int .i64 y2)).tight.wider (lo' := w.heap.size) (by have := unhide S0; omega) (Nat.le_refl _))
  have RB := hide (((((((rM.set_other (p := ⟨w.heap.size + 2, 0, none⟩) (.inl (by have := unhide S0; dsimp only; omega)) (.bool q1)).set_other (p := ⟨w.heap.size + 2, 1, none⟩) (.inl (by have := unhide S0; dsimp only; omega)) (.slice aL M1.length dL)).set_other (p := ⟨w.heap.size + 2, 2, none⟩) (.inl (by have := unhide S0; dsimp only; omega)) (.int .i64 y1)).set_other (p := ⟨w.heap.size + 2, 3, none⟩) (.inl (by have := unhide S0; dsimp only; omega)) (.bool q2)).set_other (p := ⟨w.heap.size + 2, 4, none⟩) (.inl (by have := unhide S0; dsimp only; omega)) (.slice aM M2.length dM)).set_other (p := ⟨w.heap.size + 2, 5, none⟩) (.inl (by have := unhide S0; dsimp only; omega)) (.int .i64 y2)).tight.wider (lo' := w.heap.size) (by have := unhide S0; omega) (Nat.le_refl _))
  have K7 := hide (((((((unhide K).setNew (p := ⟨w.heap.size + 2, 0, none⟩) (by simp) (.bool q1)).setNew (p := ⟨w.heap.size + 2, 1, none⟩) (by simp) (.slice aL M1.length dL)).setNew (p := ⟨w.heap.size + 2, 2, none⟩) (by simp) (.int .i64 y1)).setNew (p := ⟨w.heap.size + 2, 3, none⟩) (by simp) (.bool q2)).setNew (p := ⟨w.heap.size + 2, 4, none⟩) (by simp) (.slice aM M2.length dM)).setNew (p := ⟨w.heap.size + 2, 5, none⟩) (by simp) (.int .i64 y2))
  clear r1 r2 r3 r4 rA rB rL rM K
  go_wp2_with fail
  exact bodyPost_ret (v := .tuple #[.agg #[.bool q1, .slice aL M1.length dL, .int .i64 y1, .bool q2, .slice aM M2.length dM, .int .i64 y2], .bool CC]) (by simp [results, Tryd.results5, go_sem, R0, R1, R2, R3, R4, R5]) rfl (ivS_shut (unhide HQ) (unhide RA) (unhide RB) (unhide K7))

end Go.Proofs.YtpognolidbgkkaaDoor

