import Derived.Test.YtklddcicfeakfaaMem
import Derived.Test.YtklddcicfeakfaaChecked
import Derived.Deep.QuietTactic
import Derived.BigQuiet
import Derived.Deep.RegionWith
import Derived.Deep.DrawnRows
import Derived.Laws.BytesArg
import Derived.OpenShut
/- What limb.trim, limbAt, order and Compare answer, for every call. -/
namespace Go.Proofs.Ytklddcicfeakfaa
set_option maxRecDepth 4000
open Go.RowKit

def trimJ (p : Option Addr) (n cap : Nat) (f : Nat → Int) (w : World) : Act → World → Prop := fun a' w' => w' = w ∧ ∃ (m : Nat) (u4 u5 u6 u7 u8 u9 u10 u11 u12 u13 u14 u15 u16 u17 u18 u19 u20 : Value), a' = { tmps := #[.slice p n cap, undef, .slice none 0 0, .int .i64 m, u4, u5, u6, u7, u8, u9, u10, u11, u12, u13, u14, u15, u16, u17, u18, u19, u20], defers := [] } ∧ m ≤ n ∧ tl f m = tl f n
def cmpJ (pa pb : Option Addr) (n ca cb : Nat) (f g : Nat → Int) (w : World) : Act → World → Prop := fun a' w' => (∃ q, w' = w.drewN q) ∧ ∃ (m : Nat) (u6 u7 u8 u9 u10 u11 u12 u13 u14 u15 u16 u17 u18 u19 u20 u21 u22 u23 u24 u25 u26 u27 u28 u29 u30 u31 u32 u33 u34 u35 u36 u37 u38 u39 u40 u41 u42 u43 u44 u45 : Value), a' = { tmps := #[.slice pa n ca, .slice pb n cb, undef, undef, .int .i64 0, .int .i64 m, u6, u7, u8, u9, u10, u11, u12, u13, u14, u15, u16, u17, u18, u19, u20, u21, u22, u23, u24, u25, u26, u27, u28, u29, u30, u31, u32, u33, u34, u35, u36, u37, u38, u39, u40, u41, u42, u43, u44, u45], defers := [] } ∧ m ≤ n ∧ (∀ i, m ≤ i → i < n → f i = g i)

end Go.Proofs.Ytklddcicfeakfaa

/- What limb.lessen and double do, for every call. -/
namespace Go.Proofs.Ytklddcicfeakfaa
set_option maxRecDepth 4000
open Go.RowKit
attribute [local go_sem ↓] Go.wp_at_zero Go.wp_at_succ

theorem add64_call (x y c : Int) (hx : 0 ≤ x) (hy : 0 ≤ y) (hc : 0 ≤ c ∧ c ≤ 1) (w : World) :
    (callFunc 31 #[.int .u64 x, .int .u64 y, .int .u64 c]).run Try.prog w = .ok (.value (.tuple #[.int .u64 ((x + y + c) % B64), .int .u64 ((x + y + c) / B64)])) w := by
  rw [run_callFunc_extern Try.func31 (by kernel_rfl) (by kernel_rfl) (by kernel_rfl) (e := add64Entry) (by kernel_rfl), run_add64 x y c hx hy hc.1 hc.2]
  rfl

def lessenJ (b off n cap : Nat) (f : Nat → Int) (pb : Option Addr) (nb cb : Nat) (g : Nat → Int) (w : World) : Act → World → Prop := fun a' w' => ∃ (i : Nat) (u6 u7 u8 u9 u10 u11 u12 u13 u14 u15 u16 u17 u18 u19 u20 u21 u22 u23 u24 u25 u26 : Value), a' = { tmps := #[.slice (some ⟨b, off, none⟩) n cap, .slice pb nb cb, undef, undef, .int .u64 (bw f g i), .int .i64 i, u6, u7, u8, u9, u10, u11, u12, u13, u14, u15, u16, u17, u18, u19, u20, u21, u22, u23, u24, u25, u26], defers := [] } ∧ i ≤ n ∧ Upd b off (off + n) w w' ∧ Mut w' b off n (mix (df f g) f i)

def doubleJ (b off n cap : Nat) (f : Nat → Int) (c : Int) (w : World) : Act → World → Prop := fun a' w' => ∃ (i : Nat) (u5 u6 u7 u8 u9 u10 u11 u12 u13 u14 u15 u16 u17 u18 u19 u20 u21 u22 u23 u24 u25 u26 : Value), a' = { tmps := #[.slice (some ⟨b, off, none⟩) n cap, .int .u64 (cy f f c i), undef, undef, .int .i64 i, u5, u6, u7, u8, u9, u10, u11, u12, u13, u14, u15, u16, u17, u18, u19, u20, u21, u22, u23, u24, u25, u26], defers := [] } ∧ i ≤ n ∧ Upd b off (off + n) w w' ∧ Mut w' b off n (mix (sm f f c) f i)

end Go.Proofs.Ytklddcicfeakfaa

/- What math/bits.Mul64 and limb.addTimes do, for every call. -/
namespace Go.Proofs.Ytklddcicfeakfaa
set_option maxRecDepth 4000
open Go.RowKit

theorem mul64_top (x y : Int) (hx : 0 ≤ x ∧ x < B64) (hy : 0 ≤ y ∧ y < B64) :
    IntKind.u64.wrap (IntKind.u64.wrap (IntKind.u64.wrap (x / 4294967296 * (y / 4294967296)) +
      IntKind.u64.wrap (IntKind.u64.wrap (x / 4294967296 * bits BinOp.and IntKind.u64 y 4294967295) + IntKind.u64.wrap (bits BinOp.and IntKind.u64 x 4294967295 * bits BinOp.and IntKind.u64 y 4294967295) / 4294967296) / 4294967296) +
      IntKind.u64.wrap (bits BinOp.and IntKind.u64 (IntKind.u64.wrap (IntKind.u64.wrap (x / 4294967296 * bits BinOp.and IntKind.u64 y 4294967295) + IntKind.u64.wrap (bits BinOp.and IntKind.u64 x 4294967295 * bits BinOp.and IntKind.u64 y 4294967295) / 4294967296)) 4294967295 +
        IntKind.u64.wrap (bits BinOp.and IntKind.u64 x 4294967295 * (y / 4294967296))) / 4294967296) = x * y / B64 := by
  rw [B64_eq] at *
  simp only [IntKind.wrap_u64]
  rw [and_low32 x hx.1 hx.2, and_low32 y hy.1 hy.2, and_low32 _ (Int.emod_nonneg _ (by decide)) (Int.emod_lt_of_pos _ (by decide))]
  exact mul64_arith x y hx.1 hx.2 hy.1 hy.2

theorem mul64_any (x y : Int) (hx : 0 ≤ x ∧ x < B64) (hy : 0 ≤ y ∧ y < B64) (w : World) :
    Calls Try.prog 30 #[.int .u64 x, .int .u64 y] w fun e w' => e = .returned (.tuple #[.int .u64 (x * y / B64), .int .u64 (x * y % B64)]) ∧ w' = w := by
  rw [← mul64_top x y hx hy, show x * y % B64 = IntKind.u64.wrap (x * y) by rw [IntKind.wrap_u64, B64_eq]]
  clear hx hy
  go_enter Try.func30, Try.ntmps30
  go_wp2
  go_ret2
  exact ⟨rfl, rfl⟩

/-- What addTimes leaves: the limbs of s + k f, the last carry above them, the rest as it was. -/
def atR (s f : Nat → Int) (k : Int) (n : Nat) : Nat → Int := up (mix (tm s f k) s n) n (ct s f k n)

def addTimesJ (b off ns cs : Nat) (s : Nat → Int) (pa : Option Addr) (n ca : Nat) (f : Nat → Int) (k : Int) (w : World) : Act → World → Prop := fun a' w' => ∃ (i : Nat) (u8 u9 u10 u11 u12 u13 u14 u15 u16 u17 u18 u19 u20 u21 u22 u23 u24 u25 u26 u27 u28 u29 u30 u31 u32 u33 u34 u35 u36 u37 u38 u39 u40 u41 u42 u43 u44 u45 u46 u47 u48 u49 u50 u51 u52 u53 u54 : Value), a' = { tmps := #[.slice (some ⟨b, off, none⟩) ns cs, .slice pa n ca, .int .u64 k, undef, undef, undef, .int .u64 (ct s f k i), .int .i64 i, u8, u9, u10, u11, u12, u13, u14, u15, u16, u17, u18, u19, u20, u21, u22, u23, u24, u25, u26, u27, u28, u29, u30, u31, u32, u33, u34, u35, u36, u37, u38, u39, u40, u41, u42, u43, u44, u45, u46, u47, u48, u49, u50, u51, u52, u53, u54], defers := [] } ∧ i ≤ n ∧ Upd b off (off + (n + 1)) w w' ∧ Mut w' b off ns (mix (tm s f k) s i)

end Go.Proofs.Ytklddcicfeakfaa

/- What limb.Add answers, for every call. -/
namespace Go.Proofs.Ytklddcicfeakfaa
set_option maxRecDepth 4000
open Go.RowKit
attribute [local go_sem ↓] Go.wp_at_zero Go.wp_at_succ

theorem info64 : (Try.prog.info? 39).map (fun i => (i.zero, i.size, i.bytes)) = some (some (.int .u64 0), 1, 8) := by kernel_rfl

/-- The value v is a slice in new memory of w', written by nobody else: the number x, with no nought on top. -/
def New (w w' : World) (v : Value) (N : Nat) (x : Int) : Prop :=
  Below w.heap.size w w' ∧ ∃ (b off n c : Nat) (h : Nat → Int), v = .slice (some ⟨b, off, none⟩) n c ∧ w.heap.size ≤ b ∧ b < w'.heap.size ∧ n ≤ c ∧ c ≤ N ∧ Mut w' b off n h ∧ Rg h n ∧ Nm h n ∧ val h n = x

def addJ (V : Int) (N : Nat) (w : World) : Act → World → Prop := fun a' w' => ∃ (p1 p2 : Option Addr) (n1 n2 c1 c2 : Nat) (f1 f2 : Nat → Int) (i : Nat) (u8 u9 u10 u11 u12 u13 u14 u15 u16 u17 u18 u19 u20 u21 u22 u23 u24 u25 u26 u27 u28 u29 u30 u31 u32 u33 u34 u35 u36 u37 u38 u39 u40 u41 u42 u43 u44 u45 u46 u47 u48 u49 u50 : Value),
  a' = { tmps := #[.slice p1 n1 c1, .slice p2 n2 c2, undef, undef, .slice none 0 0, .slice (some ⟨w.heap.size, 0, none⟩) (n1 + 1) (n1 + 1), .int .u64 (cy f1 (lm f2 n2) 0 i), .int .i64 i, u8, u9, u10, u11, u12, u13, u14, u15, u16, u17, u18, u19, u20, u21, u22, u23, u24, u25, u26, u27, u28, u29, u30, u31, u32, u33, u34, u35, u36, u37, u38, u39, u40, u41, u42, u43, u44, u45, u46, u47, u48, u49, u50], defers := [] } ∧
  n2 ≤ n1 ∧ n1 ≤ N ∧ At w p1 n1 f1 ∧ At w p2 n2 f2 ∧ Rg f1 n1 ∧ Rg f2 n2 ∧ val f1 n1 + val f2 n2 = V ∧ i ≤ n1 ∧ Below w.heap.size w w' ∧ Mut w' w.heap.size 0 (n1 + 1) (mix (sm f1 (lm f2 n2) 0) Z i)

end Go.Proofs.Ytklddcicfeakfaa

/- What limb.Sub and limb.Mul answer, for every call. -/
namespace Go.Proofs.Ytklddcicfeakfaa
set_option maxRecDepth 4000
open Go.RowKit
attribute [local go_sem ↓] Go.wp_at_zero Go.wp_at_succ

/-- The slice at p has its cells below block B. -/
theorem AtK.apart {k : IntKind} {w : World} {p : Option Addr} {n : Nat} {f : Nat → Int} (h : AtK k w p n f) (h0 : 0 < n) : ∀ b' o', p = some ⟨b', o', none⟩ → b' ≠ w.heap.size := by
  obtain ⟨b, off, e, hl, _⟩ := h.lt h0
  intro b' o' e'
  rw [e] at e'
  injection e' with e'
  injection e' with e1
  omega


def mulJ (pa pb : Option Addr) (na nb ca cb : Nat) (f g : Nat → Int) (w : World) : Act → World → Prop := fun a' w' => ∃ (i : Nat) (h : Nat → Int) (u7 u8 u9 u10 u11 u12 u13 u14 u15 u16 u17 u18 u19 u20 u21 u22 u23 u24 u25 u26 u27 u28 u29 u30 u31 u32 u33 : Value),
  a' = { tmps := #[.slice pa na ca, .slice pb nb cb, undef, undef, .slice none 0 0, .slice (some ⟨w.heap.size, 0, none⟩) (na + nb) (na + nb), .int .i64 i, u7, u8, u9, u10, u11, u12, u13, u14, u15, u16, u17, u18, u19, u20, u21, u22, u23, u24, u25, u26, u27, u28, u29, u30, u31, u32, u33], defers := [] } ∧
  i ≤ nb ∧ Below w.heap.size w w' ∧ w'.heap.size = w.heap.size + 1 ∧ Mut w' w.heap.size 0 (na + nb) h ∧ Rg h (na + nb) ∧ val h (na + i) = val f na * val g i ∧ ∀ j, na + i ≤ j → j < na + nb → h j = 0

/-- One row of a product. -/
theorem mul_row {h f g : Nat → Int} {n i N : Nat} (hi : n + i + 1 ≤ N) (hv : val h (n + i) = val f n * val g i) (hz : ∀ j, n + i ≤ j → j < N → h j = 0) (rh : Rg h N) (rf : Rg f n) (hk : 0 ≤ g i ∧ g i < B64) :
    let h' := fun j => if j < i then h j else atR (sh h i) f (g i) n (j - i)
    val h' (n + (i + 1)) = val f n * val g (i + 1) ∧ Rg h' N ∧ ∀ j, n + (i + 1) ≤ j → j < N → h' j = 0 := by
  intro h'
  have rs : Rg (sh h i) n := fun j hj => rh (i + j) (by omega)
  have cb := ct_bd rs rf hk
  have lo : ∀ j, j < i → h' j = h j := fun j hj => by show (if _ then _ else _) = _; rw [if_pos hj]
  have mid : ∀ j, j < n → h' (i + j) = tm (sh h i) f (g i) j := fun j hj => by
    show (if _ then _ else _) = _
    rw [if_neg (by omega), show i + j - i = j by omega, atR, up_ne (by omega), mix_lo hj]
  have top : h' (i + n) = ct (sh h i) f (g i) n := by
    show (if _ then _ else _) = _
    rw [if_neg (by omega), show i + n - i = n by omega, atR, up_at]
  have hi' : ∀ j, n < j → i + j < N → h' (i + j) = h (i + j) := fun j hj _ => by
    show (if _ then _ else _) = _
    rw [if_neg (by omega), show i + j - i = j by omega, atR, up_ne (by omega), mix_hi (by omega)]; rfl
  refine ⟨?_, ?_, ?_⟩
  · rw [show n + (i + 1) = i + (n + 1) by omega, val_sh, val_congr lo, val]
    rw [show val (sh h' i) n = val (tm (sh h i) f (g i)) n from val_congr mid, show sh h' i n = ct (sh h i) f (g i) n from top, val_tm, val]
    have e := val_sh h i n
    rw [show i + n = n + i by omega, hv] at e
    rw [Int.mul_add, Int.mul_add, e]
    grind
  · intro j hj
    by_cases h1 : j < i
    · rw [lo j h1]; exact rh j hj
    · obtain ⟨q, rfl⟩ : ∃ q, j = i + q := ⟨j - i, by omega⟩
      rcases Nat.lt_trichotomy q n with c | c | c
      · rw [mid q c]; exact tm_rg _ _ _ n q c
      · subst c; rw [top]; exact cb
      · rw [hi' q c hj]; exact rh _ hj
  · intro j h1 h2
    obtain ⟨q, rfl⟩ : ∃ q, j = i + q := ⟨j - i, by omega⟩
    rw [hi' q (by omega) h2]; exact hz _ (by omega) h2

end Go.Proofs.Ytklddcicfeakfaa

/- What limb.bringDown and limb.Rest answer, for every call. -/
namespace Go.Proofs.Ytklddcicfeakfaa
set_option maxRecDepth 4000
open Go.RowKit
attribute [local go_sem ↓] Go.wp_at_zero Go.wp_at_succ

/-- What is left of the number whose top is r and whose next limb is x, when l bits of x are still to come. -/
def vst (r x M : Int) (l : Nat) : Int := (r * 2 ^ (64 - l) + x / 2 ^ l) % M

theorem vst_top {r x M : Int} (hr : 0 ≤ r ∧ r < M) (hx : 0 ≤ x ∧ x < B64) : vst r x M 64 = r := by
  unfold vst
  rw [B64_eq] at hx
  have e : x / 2 ^ 64 = 0 := by
    show x / 18446744073709551616 = 0
    omega
  rw [e]
  show (r * 1 + 0) % M = r
  rw [Int.mul_one, Int.add_zero]
  exact Int.emod_eq_of_lt hr.1 hr.2

theorem vst_end (r x M : Int) : vst r x M 0 = (r * B64 + x) % M := by
  unfold vst
  rw [B64_eq]
  show (r * 18446744073709551616 + x / 1) % M = _
  rw [Int.ediv_one]

theorem bit_split (x : Int) (l : Nat) : x / 2 ^ l = 2 * (x / 2 ^ (l + 1)) + x / 2 ^ l % 2 := by
  have e : x / 2 ^ (l + 1) = x / 2 ^ l / 2 := by rw [Int.pow_succ, Int.ediv_ediv_of_nonneg (Int.le_of_lt (Int.pow_pos (by decide)))]
  rw [e]; omega

theorem vst_step {r x M : Int} {l : Nat} (hl : l < 64) (hM : 0 < M) :
    vst r x M l = if 2 * vst r x M (l + 1) + x / 2 ^ l % 2 < M then 2 * vst r x M (l + 1) + x / 2 ^ l % 2 else 2 * vst r x M (l + 1) + x / 2 ^ l % 2 - M := by
  have b0 : 0 ≤ x / 2 ^ l % 2 ∧ x / 2 ^ l % 2 < 2 := by omega
  have v0 : 0 ≤ vst r x M (l + 1) := Int.emod_nonneg _ (by omega)
  have v1 : vst r x M (l + 1) < M := Int.emod_lt_of_pos _ hM
  have e : vst r x M l = (2 * vst r x M (l + 1) + x / 2 ^ l % 2) % M := by
    unfold vst
    have hb := bit_split x l
    generalize x / 2 ^ l % 2 = b at *
    generalize x / 2 ^ (l + 1) = y at *
    generalize x / 2 ^ l = z at *
    rw [hb, show 64 - l = (64 - (l + 1)) + 1 by omega, Int.pow_succ]
    rw [show r * (2 ^ (64 - (l + 1)) * 2) + (2 * y + b) = 2 * (r * 2 ^ (64 - (l + 1)) + y) + b by grind]
    rw [Int.add_emod, Int.mul_emod, Int.add_emod (2 * ((r * 2 ^ (64 - (l + 1)) + y) % M)), Int.mul_emod 2 ((r * 2 ^ (64 - (l + 1)) + y) % M), Int.emod_emod]
  rw [e]
  split
  · rename_i h; exact Int.emod_eq_of_lt (by omega) h
  · rename_i h
    rw [show 2 * vst r x M (l + 1) + x / 2 ^ l % 2 = (2 * vst r x M (l + 1) + x / 2 ^ l % 2 - M) + M by omega, Int.add_emod_right]
    rw [Int.emod_eq_of_lt (by omega) (by omega)]; omega

theorem and_one (z : Int) (h0 : 0 ≤ z) (h1 : z < 18446744073709551616) : bits .and .u64 z 1 = z % 2 := by go_bits2

def bringJ (b n cap : Nat) (x : Int) (pm : Option Addr) (nm cm : Nat) (r M : Int) (w : World) : Act → World → Prop := fun a' w' => ∃ (l : Nat) (d : Nat → Int) (u7 u8 u9 u10 u11 u12 u13 u14 u15 u16 u17 u18 u19 u20 u21 u22 u23 : Value),
  a' = { tmps := #[.slice (some ⟨b, 0, none⟩) n cap, .int .u64 x, .slice pm nm cm, undef, undef, undef, .int .i64 l, u7, u8, u9, u10, u11, u12, u13, u14, u15, u16, u17, u18, u19, u20, u21, u22, u23], defers := [] } ∧ l ≤ 64 ∧ Upd b 0 n w w' ∧ Mut w' b 0 n d ∧ Rg d n ∧ val d n = vst r x M l

def restJ (pa pm : Option Addr) (na nm ca cm : Nat) (f g : Nat → Int) (w : World) : Act → World → Prop := fun a' w' => ∃ (i : Nat) (d : Nat → Int) (u8 u9 u10 u11 u12 u13 u14 u15 u16 u17 u18 u19 u20 u21 u22 u23 u24 u25 u26 u27 u28 u29 u30 u31 u32 u33 u34 u35 u36 u37 u38 u39 u40 u41 u42 u43 u44 u45 : Value),
  a' = { tmps := #[.slice pa na ca, .slice pm nm cm, undef, undef, .slice none 0 0, .int .i64 0, .slice (some ⟨w.heap.size, 0, none⟩) (nm + 1) (nm + 1), .int .i64 i, u8, u9, u10, u11, u12, u13, u14, u15, u16, u17, u18, u19, u20, u21, u22, u23, u24, u25, u26, u27, u28, u29, u30, u31, u32, u33, u34, u35, u36, u37, u38, u39, u40, u41, u42, u43, u44, u45], defers := [] } ∧
  i ≤ na ∧ Below w.heap.size w w' ∧ w'.heap.size = w.heap.size + 1 ∧ Mut w' w.heap.size 0 (nm + 1) d ∧ Rg d (nm + 1) ∧ val d (nm + 1) = val (sh f i) (na - i) % val g nm

theorem sh_step (f : Nat → Int) (i n : Nat) : val (sh f i) (n + 1) = val (sh f (i + 1)) n * B64 + f i := by
  have e := val_sh (sh f i) 1 n
  rw [show 1 + n = n + 1 by omega] at e
  rw [e]
  have e2 : sh (sh f i) 1 = sh f (i + 1) := by funext j; show f (i + (1 + j)) = f (i + 1 + j); congr 1; omega
  rw [e2]
  have e3 : val (sh f i) 1 = f i := by simp [val, pw, sh]
  rw [e3]
  have e4 : pw 1 = B64 := by simp [pw]
  rw [e4]
  grind

theorem add_addr (b off t : Nat) : (⟨b, off, none⟩ : Addr).add t = ⟨b, off + t, none⟩ := by unfold Addr.add; split <;> simp_all

theorem AtK.shift {k : IntKind} {w : World} {p : Option Addr} {n : Nat} {f : Nat → Int} (h : AtK k w p n f) (t : Nat) : AtK k w (Option.map (fun x => x.add t) p) (n - t) (sh f t) := fun h0 => by
  obtain ⟨b, off, e, hc⟩ := h (by omega)
  refine ⟨b, off + t, by rw [e]; exact congrArg some (add_addr b off t), fun j hj => ?_⟩
  have := hc (t + j) (by omega)
  rw [← Nat.add_assoc] at this
  exact this

end Go.Proofs.Ytklddcicfeakfaa

/- What math/bits.Len64 and limb.size answer, for every call. -/
namespace Go.Proofs.Ytklddcicfeakfaa
set_option maxRecDepth 4000
open Go.RowKit

theorem ret_int {k : IntKind} {a b : Int} (h : a = b) : Ending.returned (.int k a) = .returned (.int k b) := by rw [h]

theorem len_of (x y : Int) (n : Nat) (hx : 0 ≤ x) (hy : y = x / 2 ^ n) (h1 : 0 < y ∨ n = 0) : bitLen x.toNat = n + bitLen y.toNat := by
  obtain ⟨X, rfl⟩ := Int.eq_ofNat_of_zero_le hx
  have e : y = ((X / 2 ^ n : Nat) : Int) := by rw [hy]; simp
  rcases h1 with h1 | h1
  · rw [e, Int.toNat_natCast, Int.toNat_natCast]
    refine bitLen_shift X n ?_
    intro h0
    rw [h0] at e
    simp at e
    omega
  · subst h1
    rw [e]; simp

theorem len_close (n m : Nat) (hn : n ≤ 56) (hm : m ≤ 8) : wrap64 ((n : Int) + wrap64 (m : Int)) = ((n + m : Nat) : Int) := by
  simp only [wrap64]; omega
theorem len_close0 (m : Nat) (hm : m ≤ 8) : wrap64 (wrap64 (m : Int)) = ((0 + m : Nat) : Int) := by
  simp only [wrap64]; omega

/-- How many bytes a number needs. -/
def sz (f : Nat → Int) (n : Nat) : Nat := if tl f n = 0 then 0 else 8 * (tl f n - 1) + (bitLen (f (tl f n - 1)).toNat + 7) / 8

/-- Byte i of a number, the least first. -/
def byt (f : Nat → Int) (n i : Nat) : Int := lm f n (i / 8) / 2 ^ (8 * (i % 8)) % 256

theorem info8 : (Try.prog.info? 5).map (fun i => (i.zero, i.size, i.bytes)) = some (some (.int .u8 0), 1, 1) := by kernel_rfl

def putJ (p : Option Addr) (m cap n : Nat) (f : Nat → Int) (w : World) : Act → World → Prop := fun a' w' => ∃ (i : Nat) (d : Nat → Int) (u8 u9 u10 u11 u12 u13 u14 u15 u16 u17 u18 u19 u20 u21 u22 u23 u24 u25 u26 u27 u28 u29 u30 u31 u32 u33 u34 u35 u36 u37 u38 u39 u40 u41 u42 : Value),
  a' = { tmps := #[.slice p m cap, .int .i64 n, undef, undef, .slice none 0 0, .int .i64 0, .slice (some ⟨w.heap.size, 0, none⟩) n n, .int .i64 i, u8, u9, u10, u11, u12, u13, u14, u15, u16, u17, u18, u19, u20, u21, u22, u23, u24, u25, u26, u27, u28, u29, u30, u31, u32, u33, u34, u35, u36, u37, u38, u39, u40, u41, u42], defers := [] } ∧
  i ≤ n ∧ Below w.heap.size w w' ∧ w'.heap.size = w.heap.size + 1 ∧ MutK .u8 w' w.heap.size 0 n d ∧ ∀ j, j < i → d (n - 1 - j) = byt f m j

end Go.Proofs.Ytklddcicfeakfaa

/- What limb.Take answers, for every call. -/
namespace Go.Proofs.Ytklddcicfeakfaa
set_option maxRecDepth 4000
open Go.RowKit
attribute [local go_sem ↓] Go.wp_at_zero Go.wp_at_succ

/-- The first k bytes of a limb, the least first. -/
def v8 (h : Nat → Int) : Nat → Int
  | 0 => 0
  | k + 1 => v8 h k + h k * 2 ^ (8 * k)

theorem v8_bd {h : Nat → Int} {k : Nat} (hh : ∀ t, t < k → 0 ≤ h t ∧ h t < 256) : 0 ≤ v8 h k ∧ v8 h k < 2 ^ (8 * k) := by
  induction k with
  | zero => exact ⟨Int.le_refl _, by simp [v8]⟩
  | succ k ih =>
    have a := ih (fun t ht => hh t (by omega))
    have b := hh k (by omega)
    have p : (0 : Int) < 2 ^ (8 * k) := Int.pow_pos (by decide)
    have m0 := Int.mul_nonneg b.1 (Int.le_of_lt p)
    have m1 := mul_le_of (show h k ≤ 255 by omega) (Int.le_of_lt p)
    rw [v8, show 8 * (k + 1) = 8 * k + 8 by omega, Int.pow_add]
    show _ ∧ _ < 2 ^ (8 * k) * 256
    omega

/-- Limb q of the number whose bytes are g, the highest first, when i bytes have been taken from the back. -/
def pl (g : Nat → Int) (n i q : Nat) : Int := v8 (fun t => g (n - 1 - (8 * q + t))) (min 8 (i - 8 * q))

theorem pl_rg {g : Nat → Int} {n i : Nat} (hi : i ≤ n) (hg : ∀ j, j < n → 0 ≤ g j ∧ g j < 256) (m : Nat) : Rg (pl g n i) m := fun q _ => by
  have a := v8_bd (h := fun t => g (n - 1 - (8 * q + t))) (k := min 8 (i - 8 * q)) (fun t ht => hg _ (by omega))
  refine ⟨a.1, Int.lt_of_lt_of_le a.2 ?_⟩
  have : (2 : Int) ^ (8 * min 8 (i - 8 * q)) ≤ 2 ^ 64 := by
    have := Nat.pow_le_pow_right (show 0 < 2 by decide) (show 8 * min 8 (i - 8 * q) ≤ 64 by omega)
    exact_mod_cast this
  exact this

theorem pl_other {g : Nat → Int} {n i q : Nat} (h : q ≠ i / 8) : pl g n (i + 1) q = pl g n i q := by
  unfold pl
  rw [show min 8 (i + 1 - 8 * q) = min 8 (i - 8 * q) by omega]

theorem pl_at (g : Nat → Int) (n i : Nat) : pl g n (i + 1) (i / 8) = pl g n i (i / 8) + g (n - 1 - i) * 2 ^ (8 * (i % 8)) := by
  unfold pl
  rw [show min 8 (i + 1 - 8 * (i / 8)) = i % 8 + 1 by omega, show min 8 (i - 8 * (i / 8)) = i % 8 by omega, v8, show 8 * (i / 8) + i % 8 = i by omega]

theorem pl_low {g : Nat → Int} {n i : Nat} (hi : i ≤ n) (hg : ∀ j, j < n → 0 ≤ g j ∧ g j < 256) : 0 ≤ pl g n i (i / 8) ∧ pl g n i (i / 8) < 2 ^ (8 * (i % 8)) := by
  have a := v8_bd (h := fun t => g (n - 1 - (8 * (i / 8) + t))) (k := i % 8) (fun t ht => hg _ (by omega))
  unfold pl
  rw [show min 8 (i - 8 * (i / 8)) = i % 8 by omega]
  exact a

theorem or_step (a x : Int) (s : Nat) (hs : s ≤ 56) (ha : 0 ≤ a ∧ a < 2 ^ s) (hx : 0 ≤ x ∧ x < 256) :
    bits BinOp.or IntKind.u64 a (IntKind.u64.wrap (IntKind.u64.wrap x * 2 ^ s)) = a + x * 2 ^ s := by
  obtain ⟨A, rfl⟩ := Int.eq_ofNat_of_zero_le ha.1
  obtain ⟨X, rfl⟩ := Int.eq_ofNat_of_zero_le hx.1
  have hA : A < 2 ^ s := by have := ha.2; exact_mod_cast this
  have hX : X < 256 := by omega
  have hp : 2 ^ s ≤ 2 ^ 56 := Nat.pow_le_pow_right (by decide) hs
  have hm : X * 2 ^ s ≤ 255 * 2 ^ 56 := Nat.mul_le_mul (by omega) hp
  have w1 : IntKind.u64.wrap (X : Int) = (X : Int) := by rw [IntKind.wrap_u64]; omega
  have w2 : IntKind.u64.wrap ((X : Int) * 2 ^ s) = ((X * 2 ^ s : Nat) : Int) := by
    rw [IntKind.wrap_u64, show (X : Int) * 2 ^ s = ((X * 2 ^ s : Nat) : Int) by simp]
    omega
  rw [w1, w2, bits_or_u64_nat A (X * 2 ^ s) (by omega) (by omega)]
  rw [show X * 2 ^ s = 2 ^ s * X by rw [Nat.mul_comm], Nat.or_comm, ← Nat.two_pow_add_eq_or_of_lt hA]
  simp [Int.add_comm, Int.mul_comm]

def takeJ (p : Option Addr) (n cap L : Nat) (g : Nat → Int) (w : World) : Act → World → Prop := fun a' w' => ∃ (i : Nat) (u5 u6 u7 u8 u9 u10 u11 u12 u13 u14 u15 u16 u17 u18 u19 u20 u21 u22 u23 u24 u25 u26 u27 u28 u29 u30 u31 u32 u33 u34 u35 u36 u37 u38 : Value),
  a' = { tmps := #[.slice p n cap, undef, .slice none 0 0, .slice (some ⟨w.heap.size, 0, none⟩) L L, .int .i64 i, u5, u6, u7, u8, u9, u10, u11, u12, u13, u14, u15, u16, u17, u18, u19, u20, u21, u22, u23, u24, u25, u26, u27, u28, u29, u30, u31, u32, u33, u34, u35, u36, u37, u38], defers := [] } ∧
  i ≤ n ∧ Below w.heap.size w w' ∧ w'.heap.size = w.heap.size + 1 ∧ Mut w' w.heap.size 0 L (pl g n i)

end Go.Proofs.Ytklddcicfeakfaa

/- What the statements' own helpers same and begun answer. -/
namespace Go.Proofs.Ytklddcicfeakfaa
set_option maxRecDepth 4000
open Go.RowKit

theorem below_draws {B : Nat} {a w : World} (h : Below B a w) (n : Nat) : Below B a (w.drewN n) := h.trans ⟨rfl, rfl, rfl, Nat.le_refl _, fun _ _ => rfl⟩


/-- A number of one limb. -/
def one (x : Int) : Nat → Int := fun i => if i = 0 then x else 0
theorem one_rg {x : Int} (h : 0 ≤ x ∧ x < B64) (n : Nat) : Rg (one x) n := fun i _ => by
  unfold one; split
  · exact h
  · exact ⟨Int.le_refl _, B64_pos⟩
theorem val_one (x : Int) : val (one x) 1 = x := by simp [val, pw, one]
theorem nm_one {x : Int} (h : x ≠ 0) : Nm (one x) 1 := Or.inr (by simpa [one] using h)
theorem one_of {h : Nat → Int} {n : Nat} {x : Int} (hr : Rg h n) (hn : Nm h n) (hv : val h n = x) (hx : 0 < x ∧ x < B64) : n = 1 ∧ h 0 = x := by
  have := uniq hr (one_rg ⟨by omega, hx.2⟩ 1) hn (nm_one (by omega)) (by rw [hv, val_one])
  refine ⟨this.1, ?_⟩
  rw [this.2 0 (by omega)]; rfl
theorem two_of {h : Nat → Int} {n : Nat} (hr : Rg h n) (hn : Nm h n) (hv : val h n = B64) : n = 2 := by
  refine (uniq hr (g := fun i => if i = 1 then 1 else 0) (m := 2) (fun i _ => ?_) hn (Or.inr (by simp)) ?_).1
  · dsimp only; split
    · exact ⟨by decide, by rw [B64_eq]; decide⟩
    · exact ⟨Int.le_refl _, B64_pos⟩
  · rw [hv]; simp [val, pw]

theorem at_one (w : World) (x : Int) (t : TypeId) : At (w.alloc (.cells #[.int .u64 x] t)) (some ⟨w.heap.size, 0, none⟩) 1 (one x) := fun _ => ⟨w.heap.size, 0, rfl, fun j hj => by
  have e : j = 0 := by omega
  subst e
  simp [one]⟩

theorem at_next {w : World} {x : Int} {t : TypeId} {o : Obj} : At ((w.alloc o).alloc (.cells #[.int .u64 x] t)) (some ⟨w.heap.size + 1, 0, none⟩) 1 (one x) := by
  have := at_one (w.alloc o) x t
  rwa [World.size_alloc] at this
theorem at_prev {w : World} {x : Int} {t : TypeId} {o : Obj} : At ((w.alloc (.cells #[.int .u64 x] t)).alloc o) (some ⟨w.heap.size, 0, none⟩) 1 (one x) :=
  (at_one w x t).below ((Below.refl _ _).alloc (Nat.le_refl _) _)
theorem below_one (w : World) (o : Obj) : Below w.heap.size w (w.alloc o) := (Below.refl _ _).alloc (Nat.le_refl _) _
theorem below_two (w : World) (o o' : Obj) : Below w.heap.size w ((w.alloc o).alloc o') := (below_one w o).alloc (by rw [World.size_alloc]; omega) _
theorem Below.up {B : Nat} {w x y : World} (h : Below B w x) (hB : B ≤ w.heap.size) (k : Below x.heap.size x y) : Below B w y := h.trans (k.mono (Nat.le_trans hB h.size))

end Go.Proofs.Ytklddcicfeakfaa

/- What a slice that comes in gives the walks; the statement LimbLine's walk. -/
namespace Go.Proofs.Ytklddcicfeakfaa
set_option maxRecDepth 4000
open Go.RowKit

/-- A slice of integers that came in, as the frames of the statements tell it. -/
def IsRow (k : IntKind) (w : World) (a : Option Addr) (len cap : Nat) (zs : List Int) : Prop :=
  (a = none ∧ len = 0 ∧ cap = 0 ∧ zs = []) ∨
  ∃ x, a = some x ∧ len ≤ cap ∧ cap ≤ maxLen ∧ zs.length = cap ∧ (∀ i, i < zs.length → w.cell? (x.add i) = some (.int k (zs.getD i 0))) ∧ ∀ n ∈ zs, (Lit.int k n).wf = true

theorem IsRow.at {k : IntKind} {w : World} {a : Option Addr} {len cap : Nat} {zs : List Int} (h : IsRow k w a len cap zs) :
    AtK k w a len (fun i => zs.getD i 0) ∧ len ≤ cap ∧ cap ≤ 9223372036854775807 := by
  rcases h with ⟨rfl, rfl, rfl, rfl⟩ | ⟨x, rfl, h1, h2, h3, h4, h5⟩
  · exact ⟨fun h => absurd h (by omega), Nat.le_refl _, by decide⟩
  · refine ⟨fun h0 => ?_, h1, h2⟩
    obtain ⟨b, off, rfl, hc⟩ := ints_at h4 (by omega)
    exact ⟨b, off, rfl, fun j hj => hc j (by omega)⟩

theorem IsRow.rg {w : World} {a : Option Addr} {len cap : Nat} {zs : List Int} (h : IsRow .u64 w a len cap zs) : Rg (fun i => zs.getD i 0) len := fun i hi => by
  rcases h with ⟨rfl, rfl, rfl, rfl⟩ | ⟨x, rfl, h1, h2, h3, h4, h5⟩
  · omega
  · have hm : zs.getD i 0 ∈ zs := by
      rw [List.getD_eq_getElem?_getD, List.getElem?_eq_getElem (by omega)]
      exact List.getElem_mem _
    have := bounds_u64 (h5 _ hm)
    refine ⟨this.1, ?_⟩
    rw [B64_eq]
    show zs.getD i 0 < _
    omega
end Go.Proofs.Ytklddcicfeakfaa
