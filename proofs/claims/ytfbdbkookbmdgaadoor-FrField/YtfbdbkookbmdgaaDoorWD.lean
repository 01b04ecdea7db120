/- What limb.Add answers, for every call. -/
import Derived.Test.YtfbdbkookbmdgaaDoorWC
namespace Go.Proofs.YtfbdbkookbmdgaaDoor
open Go.RowKit
attribute [local go_sem ↓] Go.wp_at_zero Go.wp_at_succ

theorem info64 : (Tryd.prog.info? 22).map (fun i => (i.zero, i.size, i.bytes)) = some (some (.int .u64 0), 1, 8) := by kernel_rfl

/-- The value v is a slice in new memory of w', written by nobody else: the number x, with no nought on top. -/
def New (w w' : World) (v : Value) (N : Nat) (x : Int) : Prop :=
  Below w.heap.size w w' ∧ ∃ (b off n c : Nat) (h : Nat → Int), v = .slice (some ⟨b, off, none⟩) n c ∧ w.heap.size ≤ b ∧ b < w'.heap.size ∧ n ≤ c ∧ c ≤ N ∧ Mut w' b off n h ∧ Rg h n ∧ Nm h n ∧ val h n = x

def addJ (V : Int) (N : Nat) (w : World) : Act → World → Prop := fun a' w' => ∃ (p1 p2 : Option Addr) (n1 n2 c1 c2 : Nat) (f1 f2 : Nat → Int) (i : Nat) (u8 u9 u10 u11 u12 u13 u14 u15 u16 u17 u18 u19 u20 u21 u22 u23 u24 u25 u26 u27 u28 u29 u30 u31 u32 u33 u34 u35 u36 u37 u38 u39 u40 u41 u42 u43 u44 u45 u46 u47 u48 u49 u50 : Value),
  a' = { tmps := #[.slice p1 n1 c1, .slice p2 n2 c2, undef, undef, .slice none 0 0, .slice (some ⟨w.heap.size, 0, none⟩) (n1 + 1) (n1 + 1), .int .u64 (cy f1 (lm f2 n2) 0 i), .int .i64 i, u8, u9, u10, u11, u12, u13, u14, u15, u16, u17, u18, u19, u20, u21, u22, u23, u24, u25, u26, u27, u28, u29, u30, u31, u32, u33, u34, u35, u36, u37, u38, u39, u40, u41, u42, u43, u44, u45, u46, u47, u48, u49, u50], defers := [] } ∧
  n2 ≤ n1 ∧ n1 ≤ N ∧ At w p1 n1 f1 ∧ At w p2 n2 f2 ∧ Rg f1 n1 ∧ Rg f2 n2 ∧ val f1 n1 + val f2 n2 = V ∧ i ≤ n1 ∧ Below w.heap.size w w' ∧ Mut w' w.heap.size 0 (n1 + 1) (mix (sm f1 (lm f2 n2) 0) Z i)

end Go.Proofs.YtfbdbkookbmdgaaDoor
