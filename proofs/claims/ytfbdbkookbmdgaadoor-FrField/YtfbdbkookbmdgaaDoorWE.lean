/- What limb.Sub and limb.Mul answer, for every call. -/
import Derived.Test.YtfbdbkookbmdgaaDoorWD
namespace Go.Proofs.YtfbdbkookbmdgaaDoor
open Go.RowKit
attribute [local go_sem ↓] Go.wp_at_zero Go.wp_at_succ

/-- The slice at p has its cells below block B. -/
theorem AtK.apart {k : IntKind} {w : World} {p : Option Addr} {n : Nat} {f : Nat → Int} (h : AtK k w p n f) (h0 : 0 < n) : ∀ b' o', p = some ⟨b', o', none⟩ → b' ≠ w.heap.size := by
  obtain ⟨b, off, e, hl, _⟩ := h.lt h0
  intro b' o' e'
  rw [e] at e'
  injection e' with e'
  injection e' with e1
  omega


def mulJ (pa pb : Option Addr) (na nb ca cb : Nat) (f g : Nat → Int) (w : World) : Act → World → Prop := fun a' w' => ∃ (i : Nat) (h : Nat → Int) (u7 u8 u9 u10 u11 u12 u13 u14 u15 u16 u17 u18 u19 u20 u21 u22 u23 u24 u25 u26 u27 u28 u29 u30 u31 u32 u33 : Value),
  a' = { tmps := #[.slice pa na ca, .slice pb nb cb, undef, undef, .slice none 0 0, .slice (some ⟨w.heap.size, 0, none⟩) (na + nb) (na + nb), .int .i64 i, u7, u8, u9, u10, u11, u12, u13, u14, u15, u16, u17, u18, u19, u20, u21, u22, u23, u24, u25, u26, u27, u28, u29, u30, u31, u32, u33], defers := [] } ∧
  i ≤ nb ∧ Below w.heap.size w w' ∧ w'.heap.size = w.heap.size + 1 ∧ Mut w' w.heap.size 0 (na + nb) h ∧ Rg h (na + nb) ∧ val h (na + i) = val f na * val g i ∧ ∀ j, na + i ≤ j → j < na + nb → h j = 0

/-- One row of a product. -/
theorem mul_row {h f g : Nat → Int} {n i N : Nat} (hi : n + i + 1 ≤ N) (hv : val h (n + i) = val f n * val g i) (hz : ∀ j, n + i ≤ j → j < N → h j = 0) (rh : Rg h N) (rf : Rg f n) (hk : 0 ≤ g i ∧ g i < B64) :
    let h' := fun j => if j < i then h j else atR (sh h i) f (g i) n (j - i)
    val h' (n + (i + 1)) = val f n * val g (i + 1) ∧ Rg h' N ∧ ∀ j, n + (i + 1) ≤ j → j < N → h' j = 0 := by
  intro h'
  have rs : Rg (sh h i) n := fun j hj => rh (i + j) (by omega)
  have cb := ct_bd rs rf hk
  have lo : ∀ j, j < i → h' j = h j := fun j hj => by show (if _ then _ else _) = _; rw [if_pos hj]
  have mid : ∀ j, j < n → h' (i + j) = tm (sh h i) f (g i) j := fun j hj => by
    show (if _ then _ else _) = _
    rw [if_neg (by omega), show i + j - i = j by omega, atR, up_ne (by omega), mix_lo hj]
  have top : h' (i + n) = ct (sh h i) f (g i) n := by
    show (if _ then _ else _) = _
    rw [if_neg (by omega), show i + n - i = n by omega, atR, up_at]
  have hi' : ∀ j, n < j → i + j < N → h' (i + j) = h (i + j) := fun j hj _ => by
    show (if _ then _ else _) = _
    rw [if_neg (by omega), show i + j - i = j by omega, atR, up_ne (by omega), mix_hi (by omega)]; rfl
  refine ⟨?_, ?_, ?_⟩
  · rw [show n + (i + 1) = i + (n + 1) by omega, val_sh, val_congr lo, val]
    rw [show val (sh h' i) n = val (tm (sh h i) f (g i)) n from val_congr mid, show sh h' i n = ct (sh h i) f (g i) n from top, val_tm, val]
    have e := val_sh h i n
    rw [show i + n = n + i by omega, hv] at e
    rw [Int.mul_add, Int.mul_add, e]
    grind
  · intro j hj
    by_cases h1 : j < i
    · rw [lo j h1]; exact rh j hj
    · obtain ⟨q, rfl⟩ : ∃ q, j = i + q := ⟨j - i, by omega⟩
      rcases Nat.lt_trichotomy q n with c | c | c
      · rw [mid q c]; exact tm_rg _ _ _ n q c
      · subst c; rw [top]; exact cb
      · rw [hi' q c hj]; exact rh _ hj
  · intro j h1 h2
    obtain ⟨q, rfl⟩ : ∃ q, j = i + q := ⟨j - i, by omega⟩
    rw [hi' q (by omega) h2]; exact hz _ (by omega) h2

end Go.Proofs.YtfbdbkookbmdgaaDoor
