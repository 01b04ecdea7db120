/- The numbers of the primes' roots, told. -/
import Derived.Test.YtklddcicfeakfaaDH
namespace Go.Proofs.Ytklddcicfeakfaa.fpn
open Go.RowKit Pl
set_option linter.unusedVariables false
set_option maxRecDepth 10000
/-- The first state; the rounds' numbers. -/
def hT : List (BitVec 32) := [0x6a09e667#32, 0xbb67ae85#32, 0x3c6ef372#32, 0xa54ff53a#32, 0x510e527f#32, 0x9b05688c#32, 0x1f83d9ab#32, 0x5be0cd19#32]
def kT : List (BitVec 32) := [0x428a2f98#32, 0x71374491#32, 0xb5c0fbcf#32, 0xe9b5dba5#32, 0x3956c25b#32, 0x59f111f1#32, 0x923f82a4#32, 0xab1c5ed5#32, 0xd807aa98#32, 0x12835b01#32, 0x243185be#32, 0x550c7dc3#32, 0x72be5d74#32, 0x80deb1fe#32, 0x9bdc06a7#32, 0xc19bf174#32, 0xe49b69c1#32, 0xefbe4786#32, 0xfc19dc6#32, 0x240ca1cc#32, 0x2de92c6f#32, 0x4a7484aa#32, 0x5cb0a9dc#32, 0x76f988da#32, 0x983e5152#32, 0xa831c66d#32, 0xb00327c8#32, 0xbf597fc7#32, 0xc6e00bf3#32, 0xd5a79147#32, 0x6ca6351#32, 0x14292967#32, 0x27b70a85#32, 0x2e1b2138#32, 0x4d2c6dfc#32, 0x53380d13#32, 0x650a7354#32, 0x766a0abb#32, 0x81c2c92e#32, 0x92722c85#32, 0xa2bfe8a1#32, 0xa81a664b#32, 0xc24b8b70#32, 0xc76c51a3#32, 0xd192e819#32, 0xd6990624#32, 0xf40e3585#32, 0x106aa070#32, 0x19a4c116#32, 0x1e376c08#32, 0x2748774c#32, 0x34b0bcb5#32, 0x391c0cb3#32, 0x4ed8aa4a#32, 0x5b9cca4f#32, 0x682e6ff3#32, 0x748f82ee#32, 0x78a5636f#32, 0x84c87814#32, 0x8cc70208#32, 0x90befffa#32, 0xa4506ceb#32, 0xbef9a3f7#32, 0xc67178f2#32]
theorem kz_false : ∀ i, i < 8 → kz false i = hT.getD i 0 := by decide +kernel
theorem kz_true : ∀ i, i < 64 → kz true i = kT.getD i 0 := by decide +kernel
theorem first_at {i : Nat} (h : i < 8) : hz false 8 i = hT.getD i 0 := (hz_at false 8 i h).trans (kz_false i h)
theorem rounds_at {i : Nat} (h : i < 64) : hz true 64 i = kT.getD i 0 := (hz_at true 64 i h).trans (kz_true i h)
/-- Only the numbers that are asked count. -/
theorem rr_congr {h k k' w : Nat → BitVec 32} (e : ∀ i, i < 64 → k i = k' i) : ∀ m, m ≤ 64 → rr h k w m = rr h k' w m
  | 0, _ => by rw [rr_0, rr_0]
  | m + 1, hm => by rw [rr_s, rr_s, rr_congr e m (by omega), e m (by omega)]
theorem blk_congr {h k k' : Nat → BitVec 32} {c : Nat → Int} (e : ∀ i, i < 64 → k i = k' i) : blk h c k = blk h c k' := by
  unfold blk; rw [rr_congr e 64 (Nat.le_refl _)]
end Go.Proofs.Ytklddcicfeakfaa.fpn
