/-
  Contracts that the proofs of this seat share: Open, OpenN, OpenW, Init.
-/
