/- Digests as the document has them: a block's words, its rounds. No program is named here. -/
import Derived.Test.YtklddcicfeakfaaDA
namespace Go.Proofs.Ytklddcicfeakfaa.Pl
open Go
set_option linter.unusedVariables false
/-- The words that bytes make, by bytes. -/
def wstR (c : Nat → Int) : Nat → Nat → BitVec 32
  | 0 => fun _ => 0
  | i + 1 => wup (wstR c i) (i / 4) (wstR c i (i / 4) <<< 8 + zx (c i))
@[irreducible] def wst (c : Nat → Int) (i : Nat) : Nat → BitVec 32 := wstR c i
theorem wst_0 (c : Nat → Int) : wst c 0 = fun _ => 0 := by unfold wst; rfl
theorem wst_s (c : Nat → Int) (i : Nat) : wst c (i + 1) = wup (wst c i) (i / 4) (wst c i (i / 4) <<< 8 + zx (c i)) := by unfold wst; rfl
/-- The words behind the first sixteen. -/
@[irreducible] def wnx (w : Nat → BitVec 32) (m : Nat) : BitVec 32 := w m + (rot (w (m + 1)) 7 ^^^ rot (w (m + 1)) 18 ^^^ w (m + 1) >>> 3) + w (m + 9) + (rot (w (m + 14)) 17 ^^^ rot (w (m + 14)) 19 ^^^ w (m + 14) >>> 10)
def wexR (w : Nat → BitVec 32) : Nat → Nat → BitVec 32
  | 0 => w
  | m + 1 => wup (wexR w m) (m + 16) (wnx (wexR w m) m)
@[irreducible] def wex (w : Nat → BitVec 32) (i : Nat) : Nat → BitVec 32 := wexR w i
theorem wex_0 (w : Nat → BitVec 32) : wex w 0 = w := by unfold wex; rfl
theorem wex_s (w : Nat → BitVec 32) (m : Nat) : wex w (m + 1) = wup (wex w m) (m + 16) (wnx (wex w m) m) := by unfold wex; rfl
/-- A round. -/
@[irreducible] def rT (s : Nat → BitVec 32) (k w : BitVec 32) : BitVec 32 := s 7 + (rot (s 4) 6 ^^^ rot (s 4) 11 ^^^ rot (s 4) 25) + (s 4 &&& s 5 ^^^ ~~~(s 4) &&& s 6) + k + w
@[irreducible] def rU (s : Nat → BitVec 32) : BitVec 32 := (rot (s 0) 2 ^^^ rot (s 0) 13 ^^^ rot (s 0) 22) + (s 0 &&& s 1 ^^^ s 0 &&& s 2 ^^^ s 1 &&& s 2)
def rnd (s : Nat → BitVec 32) (k w : BitVec 32) : Nat → BitVec 32 := mk8 (rT s k w + rU s) (s 0) (s 1) (s 2) (s 3 + rT s k w) (s 4) (s 5) (s 6)
def rrR (h k w : Nat → BitVec 32) : Nat → Nat → BitVec 32
  | 0 => h
  | m + 1 => rnd (rrR h k w m) (k m) (w m)
@[irreducible] def rr (h k w : Nat → BitVec 32) (i : Nat) : Nat → BitVec 32 := rrR h k w i
theorem rr_0 (h k w : Nat → BitVec 32) : rr h k w 0 = h := by unfold rr; rfl
theorem rr_s (h k w : Nat → BitVec 32) (m : Nat) : rr h k w (m + 1) = rnd (rr h k w m) (k m) (w m) := by unfold rr; rfl
/-- What was there ahead is added. -/
def fin8R (s h : Nat → BitVec 32) : Nat → Nat → BitVec 32
  | 0 => s
  | m + 1 => wup (fin8R s h m) m (fin8R s h m m + h m)
@[irreducible] def fin8 (s h : Nat → BitVec 32) (i : Nat) : Nat → BitVec 32 := fin8R s h i
theorem fin8_0 (s h : Nat → BitVec 32) : fin8 s h 0 = s := by unfold fin8; rfl
theorem fin8_s (s h : Nat → BitVec 32) (m : Nat) : fin8 s h (m + 1) = wup (fin8 s h m) m (fin8 s h m m + h m) := by unfold fin8; rfl
/-- A block. -/
def blk (h : Nat → BitVec 32) (c : Nat → Int) (k : Nat → BitVec 32) : Nat → BitVec 32 := fin8 (rr h k (wex (wst c 64) 48) 64) h 8
end Go.Proofs.Ytklddcicfeakfaa.Pl
