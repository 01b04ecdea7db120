/- What math/bits.Mul64 and limb.addTimes do, for every call. -/
import Derived.Test.YtfbdbkookbmdgaaDoorWB
namespace Go.Proofs.YtfbdbkookbmdgaaDoor
open Go.RowKit

theorem mul64_top (x y : Int) (hx : 0 ≤ x ∧ x < B64) (hy : 0 ≤ y ∧ y < B64) :
    IntKind.u64.wrap (IntKind.u64.wrap (IntKind.u64.wrap (x / 4294967296 * (y / 4294967296)) +
      IntKind.u64.wrap (IntKind.u64.wrap (x / 4294967296 * bits BinOp.and IntKind.u64 y 4294967295) + IntKind.u64.wrap (bits BinOp.and IntKind.u64 x 4294967295 * bits BinOp.and IntKind.u64 y 4294967295) / 4294967296) / 4294967296) +
      IntKind.u64.wrap (bits BinOp.and IntKind.u64 (IntKind.u64.wrap (IntKind.u64.wrap (x / 4294967296 * bits BinOp.and IntKind.u64 y 4294967295) + IntKind.u64.wrap (bits BinOp.and IntKind.u64 x 4294967295 * bits BinOp.and IntKind.u64 y 4294967295) / 4294967296)) 4294967295 +
        IntKind.u64.wrap (bits BinOp.and IntKind.u64 x 4294967295 * (y / 4294967296))) / 4294967296) = x * y / B64 := by
  rw [B64_eq] at *
  simp only [IntKind.wrap_u64]
  rw [and_low32 x hx.1 hx.2, and_low32 y hy.1 hy.2, and_low32 _ (Int.emod_nonneg _ (by decide)) (Int.emod_lt_of_pos _ (by decide))]
  exact mul64_arith x y hx.1 hx.2 hy.1 hy.2

theorem mul64_any (x y : Int) (hx : 0 ≤ x ∧ x < B64) (hy : 0 ≤ y ∧ y < B64) (w : World) :
    Calls Tryd.prog 73 #[.int .u64 x, .int .u64 y] w fun e w' => e = .returned (.tuple #[.int .u64 (x * y / B64), .int .u64 (x * y % B64)]) ∧ w' = w := by
  rw [← mul64_top x y hx hy, show x * y % B64 = IntKind.u64.wrap (x * y) by rw [IntKind.wrap_u64, B64_eq]]
  clear hx hy
  go_enter Tryd.func73, Tryd.ntmps73
  go_wp2
  go_ret2
  exact ⟨rfl, rfl⟩

/-- What addTimes leaves: the limbs of s + k f, the last carry above them, the rest as it was. -/
def atR (s f : Nat → Int) (k : Int) (n : Nat) : Nat → Int := up (mix (tm s f k) s n) n (ct s f k n)

def addTimesJ (b off ns cs : Nat) (s : Nat → Int) (pa : Option Addr) (n ca : Nat) (f : Nat → Int) (k : Int) (w : World) : Act → World → Prop := fun a' w' => ∃ (i : Nat) (u8 u9 u10 u11 u12 u13 u14 u15 u16 u17 u18 u19 u20 u21 u22 u23 u24 u25 u26 u27 u28 u29 u30 u31 u32 u33 u34 u35 u36 u37 u38 u39 u40 u41 u42 u43 u44 u45 u46 u47 u48 u49 u50 u51 u52 u53 u54 : Value), a' = { tmps := #[.slice (some ⟨b, off, none⟩) ns cs, .slice pa n ca, .int .u64 k, undef, undef, undef, .int .u64 (ct s f k i), .int .i64 i, u8, u9, u10, u11, u12, u13, u14, u15, u16, u17, u18, u19, u20, u21, u22, u23, u24, u25, u26, u27, u28, u29, u30, u31, u32, u33, u34, u35, u36, u37, u38, u39, u40, u41, u42, u43, u44, u45, u46, u47, u48, u49, u50, u51, u52, u53, u54], defers := [] } ∧ i ≤ n ∧ Upd b off (off + (n + 1)) w w' ∧ Mut w' b off ns (mix (tm s f k) s i)

end Go.Proofs.YtfbdbkookbmdgaaDoor
