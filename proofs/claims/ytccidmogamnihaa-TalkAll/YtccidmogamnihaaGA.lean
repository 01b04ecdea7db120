/- Lim Mem BA WK WL WM WN WT WU WV WW. -/
import Derived.Handy
import Derived.ScopeJumps
import Derived.WalkMore
import Derived.Deep.Draws
import Derived.Laws.Externs
import Derived.Laws.CopyOwn
import Derived.Test.YtccidmogamnihaaChecked
import Derived.Deep.QuietTactic
import Derived.BigQuiet
import Derived.Deep.RegionWith
import Derived.Deep.DrawnRows
import Derived.Laws.BytesArg
import Derived.OpenShut
import Derived.Laws.AppendOwnNone
import Derived.WalkSpells
/- Plain mathematics for the statements on wide numbers: what a list of limbs is worth, and how carries, borrows and products go. No program is named here. -/
namespace Go.Proofs.Ytccidmogamnihaa

def B64 : Int := 18446744073709551616
theorem B64_eq : B64 = 18446744073709551616 := rfl
theorem B64_pos : 0 < B64 := by rw [B64_eq]; decide

def pw : Nat → Int
  | 0 => 1
  | n + 1 => pw n * B64

theorem pw_pos (n : Nat) : 0 < pw n := by
  induction n with
  | zero => decide
  | succ n ih => exact Int.mul_pos ih B64_pos

theorem pw_add (a b : Nat) : pw (a + b) = pw a * pw b := by
  induction b with
  | zero => simp [pw]
  | succ b ih => rw [Nat.add_succ, pw, ih, pw, Int.mul_assoc]

theorem pw_mono {a b : Nat} (h : a ≤ b) : pw a ≤ pw b := by
  induction b with
  | zero => have : a = 0 := by omega
            subst this; exact Int.le_refl _
  | succ b ih =>
    by_cases e : a = b + 1
    · subst e; exact Int.le_refl _
    · have h1 := ih (by omega)
      have h2 := pw_pos b
      rw [pw, B64_eq]; omega

def val (f : Nat → Int) : Nat → Int
  | 0 => 0
  | n + 1 => val f n + f n * pw n

def Rg (f : Nat → Int) (n : Nat) : Prop := ∀ i, i < n → 0 ≤ f i ∧ f i < B64

theorem Rg.mono {f : Nat → Int} {n m : Nat} (h : Rg f n) (hm : m ≤ n) : Rg f m := fun i hi => h i (by omega)
theorem Rg.congr {f g : Nat → Int} {n : Nat} (h : Rg f n) (e : ∀ i, i < n → f i = g i) : Rg g n := fun i hi => by rw [← e i hi]; exact h i hi

theorem val_congr {f g : Nat → Int} {n : Nat} (h : ∀ i, i < n → f i = g i) : val f n = val g n := by
  induction n with
  | zero => rfl
  | succ n ih => rw [val, val, ih (fun i hi => h i (by omega)), h n (by omega)]

theorem mul_le_of {x y p : Int} (h : x ≤ y) (hp : 0 ≤ p) : x * p ≤ y * p := Int.mul_le_mul_of_nonneg_right h hp

theorem val_bd {f : Nat → Int} {n : Nat} (h : Rg f n) : 0 ≤ val f n ∧ val f n < pw n := by
  induction n with
  | zero => exact ⟨Int.le_refl _, by simp [val, pw]⟩
  | succ n ih =>
    have ⟨h1, h2⟩ := ih (h.mono (by omega))
    have ⟨h3, h4⟩ := h n (by omega)
    have hp := pw_pos n
    have a := Int.mul_nonneg h3 (Int.le_of_lt hp)
    have b := mul_le_of (show f n ≤ B64 - 1 by omega) (Int.le_of_lt hp)
    rw [Int.sub_mul, Int.one_mul, Int.mul_comm B64] at b
    rw [val, pw]
    omega

theorem val_zero {f : Nat → Int} {n : Nat} (h : ∀ i, i < n → f i = 0) : val f n = 0 := by
  induction n with
  | zero => rfl
  | succ n ih => rw [val, ih (fun i hi => h i (by omega)), h n (by omega)]; simp

def tl (f : Nat → Int) : Nat → Nat
  | 0 => 0
  | n + 1 => if f n = 0 then tl f n else n + 1

theorem tl_le (f : Nat → Int) (n : Nat) : tl f n ≤ n := by
  induction n with
  | zero => exact Nat.le_refl _
  | succ n ih => unfold tl; split <;> omega

theorem val_tl (f : Nat → Int) (n : Nat) : val f (tl f n) = val f n := by
  induction n with
  | zero => rfl
  | succ n ih =>
    unfold tl
    split
    · rename_i h; rw [ih, val, h]; simp
    · rfl

def Nm (f : Nat → Int) (n : Nat) : Prop := n = 0 ∨ f (n - 1) ≠ 0

theorem nm_tl (f : Nat → Int) (n : Nat) : Nm f (tl f n) := by
  induction n with
  | zero => exact Or.inl rfl
  | succ n ih =>
    unfold tl
    split
    · exact ih
    · rename_i h; exact Or.inr (by simpa using h)

theorem nm_lb {f : Nat → Int} {n : Nat} (h : Rg f (n + 1)) (hn : Nm f (n + 1)) : pw n ≤ val f (n + 1) := by
  have h1 := (val_bd (h.mono (show n ≤ n + 1 by omega))).1
  have ⟨h3, _⟩ := h n (by omega)
  have hne : f n ≠ 0 := by rcases hn with h | h; · omega
                           · simpa using h
  have b := mul_le_of (show 1 ≤ f n by omega) (Int.le_of_lt (pw_pos n))
  rw [val]; omega

theorem digits {f g : Nat → Int} {n : Nat} (hf : Rg f n) (hg : Rg g n) (e : val f n = val g n) : ∀ i, i < n → f i = g i := by
  induction n with
  | zero => intro i hi; omega
  | succ n ih =>
    have a := val_bd (hf.mono (show n ≤ n + 1 by omega))
    have b := val_bd (hg.mono (show n ≤ n + 1 by omega))
    rw [val, val] at e
    have hp := pw_pos n
    have top : f n = g n := by
      rcases Int.lt_trichotomy (f n) (g n) with h | h | h
      · have c := mul_le_of (show f n + 1 ≤ g n by omega) (Int.le_of_lt hp)
        rw [Int.add_mul, Int.one_mul] at c; omega
      · exact h
      · have c := mul_le_of (show g n + 1 ≤ f n by omega) (Int.le_of_lt hp)
        rw [Int.add_mul, Int.one_mul] at c; omega
    intro i hi
    by_cases ei : i = n
    · subst ei; exact top
    · exact ih (hf.mono (by omega)) (hg.mono (by omega)) (by rw [top] at e; omega) i (by omega)

def ord (x y : Int) : Int := if x < y then -1 else if y < x then 1 else 0

theorem ord_lt {x y : Int} (h : x < y) : ord x y = -1 := by unfold ord; rw [if_pos h]
theorem ord_gt {x y : Int} (h : y < x) : ord x y = 1 := by unfold ord; rw [if_neg (by omega), if_pos h]
theorem ord_eq {x y : Int} (h : x = y) : ord x y = 0 := by unfold ord; rw [if_neg (by omega), if_neg (by omega)]
theorem ord_neg_iff {x y : Int} : ord x y < 0 ↔ x < y := by unfold ord; split; · omega
                                                            · split <;> omega
theorem len_lt {f g : Nat → Int} {n m : Nat} (hf : Rg f n) (hg : Rg g m) (ng : Nm g m) (h : n < m) : val f n < val g m := by
  obtain ⟨k, rfl⟩ : ∃ k, m = k + 1 := ⟨m - 1, by omega⟩
  have a := (val_bd hf).2
  have b := nm_lb hg ng
  have c := pw_mono (show n ≤ k by omega)
  omega

theorem ord_len {f g : Nat → Int} {n m : Nat} (hf : Rg f n) (hg : Rg g m) (nf : Nm f n) (ng : Nm g m) (h : n ≠ m) : ord (val f n) (val g m) = ord (n : Int) (m : Int) := by
  rcases Nat.lt_or_ge n m with a | a
  · rw [ord_lt (len_lt hf hg ng a), ord_lt (by omega)]
  · have a' : m < n := by omega
    rw [ord_gt (len_lt hg hf nf a'), ord_gt (by omega)]

theorem val_top_lt {f g : Nat → Int} {n : Nat} (hf : Rg f (n + 1)) (hg : Rg g (n + 1)) (h : f n < g n) : val f (n + 1) < val g (n + 1) := by
  have a := val_bd (hf.mono (show n ≤ n + 1 by omega))
  have b := val_bd (hg.mono (show n ≤ n + 1 by omega))
  have c := mul_le_of (show f n + 1 ≤ g n by omega) (Int.le_of_lt (pw_pos n))
  rw [Int.add_mul, Int.one_mul] at c
  rw [val, val]; omega

theorem val_high_eq {f g : Nat → Int} {k n : Nat} (hk : k ≤ n) (h : ∀ i, k ≤ i → i < n → f i = g i) : val f n - val f k = val g n - val g k := by
  induction n with
  | zero => have : k = 0 := by omega
            subst this; simp [val]
  | succ n ih =>
    by_cases e : k = n + 1
    · subst e; omega
    · have i1 := ih (by omega) (fun i h1 h2 => h i h1 (by omega))
      rw [val, val, h n (by omega) (by omega)]; omega

theorem ord_at {f g : Nat → Int} {k n : Nat} (hf : Rg f n) (hg : Rg g n) (hk : k < n) (h : ∀ i, k < i → i < n → f i = g i) (hne : f k ≠ g k) : ord (val f n) (val g n) = ord (f k) (g k) := by
  have e := val_high_eq (f := f) (g := g) (k := k + 1) (n := n) (by omega) (fun i h1 h2 => h i (by omega) h2)
  rcases Int.lt_trichotomy (f k) (g k) with a | a | a
  · have b := val_top_lt (hf.mono (show k + 1 ≤ n by omega)) (hg.mono (show k + 1 ≤ n by omega)) a
    rw [ord_lt a, ord_lt (by omega)]
  · exact absurd a hne
  · have b := val_top_lt (hg.mono (show k + 1 ≤ n by omega)) (hf.mono (show k + 1 ≤ n by omega)) a
    rw [ord_gt a, ord_gt (by omega)]

def lm (f : Nat → Int) (n : Nat) : Nat → Int := fun i => if i < n then f i else 0

theorem lm_in {f : Nat → Int} {n i : Nat} (h : i < n) : lm f n i = f i := by unfold lm; rw [if_pos h]
theorem lm_out {f : Nat → Int} {n i : Nat} (h : n ≤ i) : lm f n i = 0 := by unfold lm; rw [if_neg (by omega)]
theorem lm_rg {f : Nat → Int} {n : Nat} (h : Rg f n) (m : Nat) : Rg (lm f n) m := fun i _ => by
  unfold lm; split
  · exact h i (by assumption)
  · exact ⟨Int.le_refl _, B64_pos⟩
theorem val_lm (f : Nat → Int) (n m : Nat) (h : n ≤ m) : val (lm f n) m = val f n := by
  induction m with
  | zero => have : n = 0 := by omega
            subst this; rfl
  | succ m ih =>
    by_cases e : n = m + 1
    · subst e; exact val_congr (fun i hi => lm_in hi)
    · rw [val, ih (by omega), lm_out (by omega)]; simp

def cy (f g : Nat → Int) (c : Int) : Nat → Int
  | 0 => c
  | i + 1 => (f i + g i + cy f g c i) / B64
def sm (f g : Nat → Int) (c : Int) (i : Nat) : Int := (f i + g i + cy f g c i) % B64

theorem cy_bd {f g : Nat → Int} {c : Int} {n : Nat} (hf : Rg f n) (hg : Rg g n) (hc : 0 ≤ c ∧ c ≤ 1) : 0 ≤ cy f g c n ∧ cy f g c n ≤ 1 := by
  induction n with
  | zero => exact hc
  | succ n ih =>
    have a := ih (hf.mono (by omega)) (hg.mono (by omega))
    have b := hf n (by omega)
    have d := hg n (by omega)
    rw [B64_eq] at b d
    rw [cy, B64_eq]; omega

theorem sm_rg (f g : Nat → Int) (c : Int) (n : Nat) : Rg (sm f g c) n := fun i _ =>
  ⟨Int.emod_nonneg _ (by rw [B64_eq]; decide), Int.emod_lt_of_pos _ B64_pos⟩

theorem val_sm (f g : Nat → Int) (c : Int) (n : Nat) : val (sm f g c) n + cy f g c n * pw n = val f n + val g n + c := by
  induction n with
  | zero => simp [val, cy, pw]
  | succ n ih =>
    have e : sm f g c n + B64 * ((f n + g n + cy f g c n) / B64) = f n + g n + cy f g c n := Int.emod_add_mul_ediv _ _
    rw [val, val, val, cy, pw]
    generalize (f n + g n + cy f g c n) / B64 = q at *
    grind

def bw (f g : Nat → Int) : Nat → Int
  | 0 => 0
  | i + 1 => if f i < g i + bw f g i then 1 else 0
def df (f g : Nat → Int) (i : Nat) : Int := (f i + B64 - g i - bw f g i) % B64

theorem bw_bd (f g : Nat → Int) (n : Nat) : 0 ≤ bw f g n ∧ bw f g n ≤ 1 := by
  cases n with
  | zero => exact ⟨Int.le_refl _, by simp [bw]⟩
  | succ n => rw [bw]; split <;> omega

theorem df_rg (f g : Nat → Int) (n : Nat) : Rg (df f g) n := fun i _ =>
  ⟨Int.emod_nonneg _ (by rw [B64_eq]; decide), Int.emod_lt_of_pos _ B64_pos⟩

theorem df_eq {f g : Nat → Int} {n : Nat} (hf : Rg f (n + 1)) (hg : Rg g (n + 1)) : df f g n = f n - g n - bw f g n + bw f g (n + 1) * B64 := by
  have a := hf n (by omega)
  have b := hg n (by omega)
  have c := bw_bd f g n
  rw [bw, df]
  rw [B64_eq] at *
  split <;> omega

theorem val_df {f g : Nat → Int} {n : Nat} (hf : Rg f n) (hg : Rg g n) : val (df f g) n + val g n = val f n + bw f g n * pw n := by
  induction n with
  | zero => simp [val, bw]
  | succ n ih =>
    have i1 := ih (hf.mono (by omega)) (hg.mono (by omega))
    have e := df_eq hf hg
    rw [val, val, val, pw, e]
    grind

theorem val_df_ge {f g : Nat → Int} {n : Nat} (hf : Rg f n) (hg : Rg g n) (h : val g n ≤ val f n) : val (df f g) n = val f n - val g n := by
  have a := val_df hf hg
  have b := val_bd (df_rg f g n)
  have c := bw_bd f g n
  have d := (val_bd hf).2
  have e := (val_bd hg).1
  have hp := pw_pos n
  rcases (show bw f g n = 0 ∨ bw f g n = 1 by omega) with h0 | h1
  · rw [h0] at a; omega
  · rw [h1] at a; omega

theorem val_sm_lt {f g : Nat → Int} {c : Int} {n : Nat} (hf : Rg f n) (hg : Rg g n) (hc : 0 ≤ c ∧ c ≤ 1) (h : val f n + val g n + c < pw n) : val (sm f g c) n = val f n + val g n + c := by
  have a := val_sm f g c n
  have b := val_bd (sm_rg f g c n)
  have d := cy_bd hf hg hc
  rcases (show cy f g c n = 0 ∨ cy f g c n = 1 by omega) with h0 | h1
  · rw [h0] at a; omega
  · rw [h1] at a; omega

def ct (s f : Nat → Int) (k : Int) : Nat → Int
  | 0 => 0
  | i + 1 => (f i * k + s i + ct s f k i) / B64
def tm (s f : Nat → Int) (k : Int) (i : Nat) : Int := (f i * k + s i + ct s f k i) % B64

theorem ct_bd {s f : Nat → Int} {k : Int} {n : Nat} (hs : Rg s n) (hf : Rg f n) (hk : 0 ≤ k ∧ k < B64) : 0 ≤ ct s f k n ∧ ct s f k n < B64 := by
  induction n with
  | zero => exact ⟨Int.le_refl _, B64_pos⟩
  | succ n ih =>
    have a := ih (hs.mono (by omega)) (hf.mono (by omega))
    have b := hs n (by omega)
    have d := hf n (by omega)
    have p0 := Int.mul_nonneg d.1 hk.1
    have p1 := Int.mul_le_mul (show f n ≤ B64 - 1 by omega) (show k ≤ B64 - 1 by omega) hk.1 (by have := B64_pos; omega)
    rw [ct]
    refine ⟨Int.ediv_nonneg (by omega) (Int.le_of_lt B64_pos), Int.ediv_lt_of_lt_mul B64_pos ?_⟩
    rw [B64_eq] at *
    omega

theorem tm_rg (s f : Nat → Int) (k : Int) (n : Nat) : Rg (tm s f k) n := fun i _ =>
  ⟨Int.emod_nonneg _ (by rw [B64_eq]; decide), Int.emod_lt_of_pos _ B64_pos⟩

theorem val_tm (s f : Nat → Int) (k : Int) (n : Nat) : val (tm s f k) n + ct s f k n * pw n = val s n + val f n * k := by
  induction n with
  | zero => simp [val, ct]
  | succ n ih =>
    have e : tm s f k n + B64 * ((f n * k + s n + ct s f k n) / B64) = f n * k + s n + ct s f k n := Int.emod_add_mul_ediv _ _
    rw [val, val, val, ct, pw]
    generalize (f n * k + s n + ct s f k n) / B64 = q at *
    grind

def sh (f : Nat → Int) (k : Nat) : Nat → Int := fun i => f (k + i)
theorem val_sh (f : Nat → Int) (k n : Nat) : val f (k + n) = val f k + pw k * val (sh f k) n := by
  induction n with
  | zero => simp [val]
  | succ n ih => rw [Nat.add_succ, val, ih, val, pw_add, sh]; grind

end Go.Proofs.Ytccidmogamnihaa

/- What a slice of limbs reads as in a world, what a call may have turned, and how a function that jumps back to one label is walked. No function of the program is named here. -/
namespace Go.Proofs.Ytccidmogamnihaa
set_option maxRecDepth 4000
open Go.RowKit

theorem wp_scope_goto {P : Program} {a : Act} {w : World} {Q : Exit → Act → World → Prop} {c rest : Code} (l : Nat) (J : Act → World → Prop) (μ : Act → World → Nat) (hf : findLabel c l = some (.seq .skip rest))
    (pass : ∀ a w, J a w → rest.wp P (Exit.jump l (fun a' w' => J a' w' ∧ μ a' w' < μ a w) Q) a w)
    (first : (∀ a w, J a w → rest.wp P (Exit.jump l J Q) a w) → c.wp P (Exit.jump l J Q) a w) : (Code.scope c).wp P Q a w :=
  wp_scope_jumps l J μ hf (first fun a w h => wp_mono (pass a w h) (fun e a w q => by cases e <;> first | exact q | exact ⟨q.1, q.2.1⟩)) (fun a w h => wp_seq (wp_skip (pass a w h)))

def slot (k : Nat) (a : Act) : Nat := (intOf (a.tmps.getD k undef)).toNat

theorem cell_lt {w : World} {a : Addr} {v : Value} (h : w.cell? a = some v) : a.block < w.heap.size := World.block_lt_of_cell? w a h

def AtK (k : IntKind) (w : World) (p : Option Addr) (n : Nat) (f : Nat → Int) : Prop :=
  0 < n → ∃ b off, p = some ⟨b, off, none⟩ ∧ ∀ j, j < n → w.cell? ⟨b, off + j, none⟩ = some (.int k (f j))
abbrev At (w : World) (p : Option Addr) (n : Nat) (f : Nat → Int) : Prop := AtK .u64 w p n f

theorem AtK.mono {k : IntKind} {w : World} {p : Option Addr} {n m : Nat} {f : Nat → Int} (h : AtK k w p n f) (hm : m ≤ n) : AtK k w p m f := fun h0 => by
  obtain ⟨b, off, e, hc⟩ := h (by omega)
  exact ⟨b, off, e, fun j hj => hc j (by omega)⟩
theorem AtK.congr {k : IntKind} {w : World} {p : Option Addr} {n : Nat} {f g : Nat → Int} (h : AtK k w p n f) (e : ∀ i, i < n → f i = g i) : AtK k w p n g := fun h0 => by
  obtain ⟨b, off, e1, hc⟩ := h h0
  exact ⟨b, off, e1, fun j hj => by rw [hc j hj, e j hj]⟩
theorem AtK.drewN {k : IntKind} {w : World} {p : Option Addr} {n : Nat} {f : Nat → Int} (h : AtK k w p n f) (q : Nat) : AtK k (w.drewN q) p n f := h
theorem AtK.nil {k : IntKind} {w : World} {p : Option Addr} {f : Nat → Int} : AtK k w p 0 f := fun h => absurd h (by omega)
theorem AtK.lt {k : IntKind} {w : World} {p : Option Addr} {n : Nat} {f : Nat → Int} (h : AtK k w p n f) (h0 : 0 < n) : ∃ b off, p = some ⟨b, off, none⟩ ∧ b < w.heap.size ∧ ∀ j, j < n → w.cell? ⟨b, off + j, none⟩ = some (.int k (f j)) := by
  obtain ⟨b, off, e, hc⟩ := h h0
  exact ⟨b, off, e, cell_lt (hc 0 h0), hc⟩
theorem AtK.below {k : IntKind} {w w' : World} {p : Option Addr} {n : Nat} {f : Nat → Int} (h : AtK k w p n f) (hb : Below w.heap.size w w') : AtK k w' p n f := fun h0 => by
  obtain ⟨b, off, e, hl, hc⟩ := h.lt h0
  exact ⟨b, off, e, fun j hj => (hb.cell (p := ⟨b, off + j, none⟩) hl).trans (hc j hj)⟩

structure Upd (b lo hi : Nat) (w w' : World) : Prop where
  os : w'.os = w.os
  tape : w'.tape = w.tape
  output : w'.output = w.output
  size : w'.heap.size = w.heap.size
  block : ∀ k, k ≠ b → w'.heap[k]? = w.heap[k]?
  cell : ∀ o s, (o < lo ∨ hi ≤ o) → w'.cell? ⟨b, o, s⟩ = w.cell? ⟨b, o, s⟩
  frozen : ∀ a, w'.frozen? a = w.frozen? a

theorem Upd.refl (b lo hi : Nat) (w : World) : Upd b lo hi w w := ⟨rfl, rfl, rfl, rfl, fun _ _ => rfl, fun _ _ _ => rfl, fun _ => rfl⟩
theorem Upd.trans {b lo hi : Nat} {w x y : World} (h : Upd b lo hi w x) (k : Upd b lo hi x y) : Upd b lo hi w y :=
  ⟨k.os.trans h.os, k.tape.trans h.tape, k.output.trans h.output, k.size.trans h.size, fun i hi => (k.block i hi).trans (h.block i hi), fun o s ho => (k.cell o s ho).trans (h.cell o s ho), fun a => (k.frozen a).trans (h.frozen a)⟩
theorem Upd.wide {b lo hi lo' hi' : Nat} {w x : World} (h : Upd b lo hi w x) (hl : lo' ≤ lo) (hh : hi ≤ hi') : Upd b lo' hi' w x :=
  ⟨h.os, h.tape, h.output, h.size, h.block, fun o s ho => h.cell o s (by omega), h.frozen⟩
theorem Upd.drewN {b lo hi : Nat} {w x : World} (h : Upd b lo hi w x) (k : Nat) : Upd b lo hi w (x.drewN k) := ⟨h.os, h.tape, h.output, h.size, h.block, h.cell, h.frozen⟩
theorem Upd.drew {b lo hi : Nat} {w x : World} (h : Upd b lo hi w x) : Upd b lo hi w x.drew := ⟨h.os, h.tape, h.output, h.size, h.block, h.cell, h.frozen⟩
theorem Upd.setCell {b lo hi o : Nat} {w x : World} (h : Upd b lo hi w x) (hl : lo ≤ o) (hh : o < hi) (v : Value) : Upd b lo hi w (x.setCell ⟨b, o, none⟩ v) :=
  h.trans ⟨rfl, rfl, rfl, by simp [World.setCell], fun k hk => Below.heap_setCell _ _ _ _ (by simpa using hk), fun o' s ho => World.cell?_setCell_other _ _ _ _ (by intro e; injection e; omega), fun a => by simp⟩
theorem Upd.below {b lo hi B : Nat} {w x : World} (h : Upd b lo hi w x) (hB : B ≤ b) : Below B w x := ⟨h.os, h.tape, h.output, by rw [h.size]; exact Nat.le_refl _, fun k hk => h.block k (by omega)⟩
theorem Upd.far {b lo hi : Nat} {w x : World} (h : Upd b lo hi w x) {a : Addr} (ha : a.block ≠ b) : x.cell? a = w.cell? a := World.cell?_of_block (w := w) (h.block a.block ha)
theorem AtK.upd {k : IntKind} {b lo hi : Nat} {w x : World} {p : Option Addr} {n : Nat} {f : Nat → Int} (h : AtK k w p n f) (hu : Upd b lo hi w x) (hne : 0 < n → ∀ b' o', p = some ⟨b', o', none⟩ → b' ≠ b) : AtK k x p n f := fun h0 => by
  obtain ⟨b', off, e, hc⟩ := h h0
  exact ⟨b', off, e, fun j hj => (hu.far (a := ⟨b', off + j, none⟩) (hne h0 _ _ e)).trans (hc j hj)⟩

def MutK (k : IntKind) (w : World) (b off n : Nat) (f : Nat → Int) : Prop :=
  ∀ j, j < n → w.cell? ⟨b, off + j, none⟩ = some (.int k (f j)) ∧ w.frozen? ⟨b, off + j, none⟩ = false
abbrev Mut (w : World) (b off n : Nat) (f : Nat → Int) : Prop := MutK .u64 w b off n f

theorem MutK.at {k : IntKind} {w : World} {b off n : Nat} {f : Nat → Int} (h : MutK k w b off n f) : AtK k w (some ⟨b, off, none⟩) n f := fun _ => ⟨b, off, rfl, fun j hj => (h j hj).1⟩
theorem MutK.congr {k : IntKind} {w : World} {b off n : Nat} {f g : Nat → Int} (h : MutK k w b off n f) (e : ∀ i, i < n → f i = g i) : MutK k w b off n g := fun j hj => by rw [← e j hj]; exact h j hj
theorem MutK.mono {k : IntKind} {w : World} {b off n m : Nat} {f : Nat → Int} (h : MutK k w b off n f) (hm : m ≤ n) : MutK k w b off m f := fun j hj => h j (by omega)
theorem MutK.drewN {k : IntKind} {w : World} {b off n : Nat} {f : Nat → Int} (h : MutK k w b off n f) (q : Nat) : MutK k (w.drewN q) b off n f := h
theorem MutK.drew {k : IntKind} {w : World} {b off n : Nat} {f : Nat → Int} (h : MutK k w b off n f) : MutK k w.drew b off n f := h
theorem MutK.below {k : IntKind} {w w' : World} {b off n B : Nat} {f : Nat → Int} (h : MutK k w b off n f) (hb : Below B w w') (hB : b < B) : MutK k w' b off n f := fun j hj =>
  ⟨(hb.cell (p := ⟨b, off + j, none⟩) hB).trans (h j hj).1, (hb.frozen (p := ⟨b, off + j, none⟩) hB).trans (h j hj).2⟩
theorem MutK.upd {k : IntKind} {b lo hi b' off n : Nat} {w x : World} {f : Nat → Int} (h : MutK k w b' off n f) (hu : Upd b lo hi w x) (hne : b' ≠ b) : MutK k x b' off n f := fun j hj =>
  ⟨(hu.far (a := ⟨b', off + j, none⟩) hne).trans (h j hj).1, (hu.frozen _).trans (h j hj).2⟩

def up (f : Nat → Int) (i : Nat) (x : Int) : Nat → Int := fun j => if j = i then x else f j
theorem up_at (f : Nat → Int) (i : Nat) (x : Int) : up f i x i = x := by unfold up; rw [if_pos rfl]
theorem up_ne {f : Nat → Int} {i j : Nat} {x : Int} (h : j ≠ i) : up f i x j = f j := by unfold up; rw [if_neg h]
theorem MutK.set {k : IntKind} {w : World} {b off n i : Nat} {f : Nat → Int} (h : MutK k w b off n f) (hi : i < n) (x : Int) : MutK k (w.setCell ⟨b, off + i, none⟩ (.int k x)) b off n (up f i x) := fun j hj => by
  by_cases e : j = i
  · subst e
    exact ⟨by rw [up_at]; exact World.cell?_setCell_same _ _ _ (h j hj).1, by simpa using (h j hj).2⟩
  · exact ⟨by rw [up_ne e, World.cell?_setCell_other _ _ _ _ (by intro e'; injection e'; omega)]; exact (h j hj).1, by simpa using (h j hj).2⟩

def mix (g f : Nat → Int) (i : Nat) : Nat → Int := fun j => if j < i then g j else f j
theorem mix_zero (g f : Nat → Int) (j : Nat) : mix g f 0 j = f j := by unfold mix; rw [if_neg (by omega)]
theorem mix_lo {g f : Nat → Int} {i j : Nat} (h : j < i) : mix g f i j = g j := by unfold mix; rw [if_pos h]
theorem mix_hi {g f : Nat → Int} {i j : Nat} (h : i ≤ j) : mix g f i j = f j := by unfold mix; rw [if_neg (by omega)]
theorem mix_up (g f : Nat → Int) (i j : Nat) : up (mix g f i) i (g i) j = mix g f (i + 1) j := by
  unfold up mix
  split
  · subst_vars; rw [if_pos (by omega)]
  · split
    · rw [if_pos (by omega)]
    · rw [if_neg (by omega)]
theorem MutK.step {k : IntKind} {w : World} {b off n i : Nat} {g f : Nat → Int} (h : MutK k w b off n (mix g f i)) (hi : i < n) : MutK k (w.setCell ⟨b, off + i, none⟩ (.int k (g i))) b off n (mix g f (i + 1)) :=
  (h.set hi (g i)).congr fun j _ => mix_up g f i j

theorem MutK.step0 {k : IntKind} {w : World} {b n i : Nat} {g f : Nat → Int} (h : MutK k w b 0 n (mix g f i)) (hi : i < n) : MutK k (w.setCell ⟨b, i, none⟩ (.int k (g i))) b 0 n (mix g f (i + 1)) := by
  have := h.step hi
  rwa [Nat.zero_add] at this
theorem MutK.set0 {k : IntKind} {w : World} {b n i : Nat} {f : Nat → Int} (h : MutK k w b 0 n f) (hi : i < n) (x : Int) : MutK k (w.setCell ⟨b, i, none⟩ (.int k x)) b 0 n (up f i x) := by
  have := h.set hi x
  rwa [Nat.zero_add] at this
def Z : Nat → Int := fun _ => 0

def sub64Entry : Array Value → Sem Value := (Extern.MathBitsCarry.rows[1]'(by decide)).2

theorem run_sub64 {P : Program} (x y b : Int) (hx : 0 ≤ x ∧ x < B64) (hy : 0 ≤ y ∧ y < B64) (hb : 0 ≤ b ∧ b ≤ 1) (w : World) :
    (sub64Entry #[.int .u64 x, .int .u64 y, .int .u64 b]).run P w =
      .ok (.tuple #[.int .u64 ((x + B64 - y - b) % B64), .int .u64 (if x < y + b then 1 else 0)]) w := by
  have key : ∀ k : Nat, k ≤ 1 → (sub64Entry #[.int .u64 x, .int .u64 y, .int .u64 (k : Int)]).run P w =
      .ok (Extern.MathBitsCarry.pair ((x.toNat + Extern.MathBitsCarry.m64 - y.toNat - k) % Extern.MathBitsCarry.m64) (if x.toNat < y.toNat + k then 1 else 0)) w := by
    intro k hk
    have : k = 0 ∨ k = 1 := by omega
    rcases this with rfl | rfl <;> rfl
  obtain ⟨k, rfl⟩ := Int.eq_ofNat_of_zero_le hb.1
  rw [key k (by omega)]
  obtain ⟨X, rfl⟩ := Int.eq_ofNat_of_zero_le hx.1
  obtain ⟨Y, rfl⟩ := Int.eq_ofNat_of_zero_le hy.1
  rw [B64_eq] at *
  simp only [Extern.MathBitsCarry.pair, Extern.MathBitsCarry.m64, Int.toNat_natCast]
  have e1 : Int.ofNat ((X + 2 ^ 64 - Y - k) % 2 ^ 64) = ((X : Int) + 18446744073709551616 - Y - k) % 18446744073709551616 := by
    simp only [Int.ofNat_eq_natCast, Int.natCast_emod]
    have : ((X + 2 ^ 64 - Y - k : Nat) : Int) = (X : Int) + 18446744073709551616 - Y - k := by omega
    rw [this]; rfl
  have e2 : Int.ofNat (if X < Y + k then 1 else 0) = if (X : Int) < (Y : Int) + k then 1 else 0 := by
    split
    · rw [if_pos (by omega)]; rfl
    · rw [if_neg (by omega)]; rfl
  rw [e1, e2]

theorem wpList_make_lim {P : Program} (w : World) {ops : Array Oper} {rest : List Oper} {o : Oper} {a : Act} {Q : Exit → Act → World → Prop} (k : IntKind)
    (hg : o.guard = none) (l c : Operand) (t e : TypeId) (hop : o.op = Op.makeSlice t l c) (h1 : P.underlying t = some (.slice e)) (i : TypeInfo) (h2 : P.info? e = some i) (h3 : i.zero = some (.int k 0)) (h4 : i.size = 1) (h5 : i.bytes ≤ 8)
    (kl kc : IntKind) (L C : Int) (n : Nat) (hl : a.eval l = .int kl L) (hc : a.eval c = .int kc C) (hL : L = (n : Int)) (hC : C = (n : Int)) (hn : n ≤ 17592186044416)
    (hK : ∀ w1, Below w.heap.size w w1 → w1.heap.size = w.heap.size + 1 → MutK k w1 w.heap.size 0 n Z → wpList P ops Q rest (a.put o.dst (.slice (some ⟨w.heap.size, 0, none⟩) n n)) w1) :
    wpList P ops Q (o :: rest) a w := by
  refine wpList_plain hg fun K hK' => ?_
  have hb : (i.bytes : Int) * (n : Int) ≤ 281474976710656 := by
    have : ((i.bytes * n : Nat) : Int) ≤ 281474976710656 := by
      have := Nat.mul_le_mul h5 hn
      omega
    rwa [Int.natCast_mul] at this
  have hr := run_make (P := P) w t e i (.int k 0) h1 h2 h3 kl kc n n (by omega) (by omega) hb (by omega)
  simp only [Int.toNat_natCast, h4, Nat.mul_one] at hr
  subst hL hC
  unfold Oper.wp
  simp [execOp, hop, hl, hc, hr, Result.andThen]
  refine hK' _ _ (hK _ ((Below.refl _ _).alloc (Nat.le_refl _) _) (by simp) fun j hj => ?_)
  have hsz : j < (madeCells (Value.int k 0).cells n).size := by rw [size_madeCells]; exact hj
  have hv : (madeCells (Value.int k 0).cells n)[j]? = some (.int k 0) := by
    rw [Array.getElem?_eq_getElem hsz]
    simp [madeCells, Value.cells, Nat.mod_one]
  have hh : (w.alloc (.cells (madeCells (Value.int k 0).cells n) e)).heap[w.heap.size]? = some (.cells (madeCells (Value.int k 0).cells n) e) := by
    show (w.heap.push _)[w.heap.size]? = _
    simp
  refine ⟨?_, ?_⟩
  · unfold World.cell?
    simp only [hh, Nat.zero_add]
    exact hv
  · unfold World.frozen?
    simp only [hh]
    simp

theorem setCells_upd (k : IntKind) (b : Nat) (f : Nat → Int) : ∀ (m o : Nat) (w : World), Upd b o (o + m) w (w.setCells b o ((List.range m).map fun j => .int k (f j))) := by
  intro m o w
  refine ⟨?_, ?_, ?_, ?_, ?_, ?_, ?_⟩
  · generalize (List.range m).map (fun j => Value.int k (f j)) = l
    induction l generalizing o w with
    | nil => rfl
    | cons v r ih => rw [World.setCells, ih]; rfl
  · generalize (List.range m).map (fun j => Value.int k (f j)) = l
    induction l generalizing o w with
    | nil => rfl
    | cons v r ih => rw [World.setCells, ih]; rfl
  · generalize (List.range m).map (fun j => Value.int k (f j)) = l
    induction l generalizing o w with
    | nil => rfl
    | cons v r ih => rw [World.setCells, ih]; rfl
  · generalize (List.range m).map (fun j => Value.int k (f j)) = l
    induction l generalizing o w with
    | nil => rfl
    | cons v r ih => rw [World.setCells, ih]; simp [World.setCell]
  · intro j hj
    generalize (List.range m).map (fun j => Value.int k (f j)) = l
    induction l generalizing o w with
    | nil => rfl
    | cons v r ih => rw [World.setCells, ih]; exact Below.heap_setCell _ _ _ _ (by simpa using hj)
  · intro o' s ho
    refine World.cell?_setCells_out b _ o w _ fun _ _ => ?_
    simpa using ho
  · intro a
    exact World.frozen?_setCells b _ o w a

theorem wpList_copy_lim {P : Program} {w : World} {ops : Array Oper} {rest : List Oper} {o : Oper} {a : Act} {Q : Exit → Act → World → Prop} (k : IntKind) (hgd : o.guard = none) (d s : Operand) (dT sT : TypeId)
    (ho : o.op = .call { callee := .builtin .copy, args := #[d, s], argTypes := #[dT, sT] }) (elem : TypeId) (hu : P.underlying dT = some (.slice elem)) (hsz : (P.info? elem).map (·.size) = some 1)
    (b off nd cd : Nat) (ps : Option Addr) (ns cs : Nat) (fd fs : Nat → Int) (hd : a.eval d = .slice (some ⟨b, off, none⟩) nd cd) (hs : a.eval s = .slice ps ns cs)
    (hm : MutK k w b off nd fd) (hat : AtK k w ps ns fs) (hle : ns ≤ nd)
    (hK : ∀ w1, Upd b off (off + ns) w w1 → MutK k w1 b off nd (mix fs fd ns) → wpList P ops Q rest (a.put o.dst (goInt ns)) w1) : wpList P ops Q (o :: rest) a w := by
  refine wpList_plain hgd fun K hK' => ?_
  have hmin : Nat.min ns nd = ns := Nat.min_eq_left hle
  by_cases h0 : ns = 0
  · subst h0
    have hrun := run_copy_none (P := P) w dT sT o.type elem (some ⟨b, off, none⟩) ps nd cd 0 cs hu hsz (by simp)
    unfold Oper.wp
    simp [execOp, ho, resolve, invoke, builtin, hd, hs, hrun, Result.andThen]
    exact hK' _ _ (hK w (Upd.refl _ _ _ _) (hm.congr fun j _ => (mix_zero _ _ _).symm))
  · obtain ⟨bs, offs, rfl, hc⟩ := hat (by omega)
    have hget : ∀ j v, ((List.range ns).map fun j => Value.int k (fs j))[j]? = some v → j < ns ∧ v = .int k (fs j) := fun j v h => by
      simp only [List.getElem?_map] at h
      by_cases hj : j < ns
      · rw [List.getElem?_range hj] at h
        simp at h
        exact ⟨hj, h.symm⟩
      · rw [List.getElem?_eq_none (by simpa using hj)] at h
        simp at h
    have hrun := run_copy_cells (P := P) w dT sT o.type elem b off nd cd ⟨bs, offs, none⟩ ns cs ((List.range ns).map fun j => Value.int k (fs j)) hu hsz (by simpa using hmin.symm)
      (fun j v h => by obtain ⟨hj, rfl⟩ := hget j v h; rw [show (⟨bs, offs, none⟩ : Addr).add j = ⟨bs, offs + j, none⟩ by unfold Addr.add; split <;> simp_all]; exact hc j hj)
      (fun j hj => by rw [(hm j (by simp at hj; omega)).1]; rfl) (fun j hj => (hm j (by simp at hj; omega)).2) (fun v hv => by simp at hv; obtain ⟨j, _, rfl⟩ := hv; rfl)
    simp only [List.length_map, List.length_range] at hrun
    unfold Oper.wp
    simp [execOp, ho, resolve, invoke, builtin, hd, hs, hrun, Result.andThen]
    have hup := setCells_upd k b fs ns off w
    refine hK' _ _ (hK _ hup fun j hj => ?_)
    refine ⟨?_, by rw [hup.frozen]; exact (hm j hj).2⟩
    by_cases hlt : j < ns
    · rw [mix_lo hlt]
      have := World.cell?_setCells_in b ((List.range ns).map fun j => Value.int k (fs j)) off w (fun i hi => by rw [(hm i (by simp at hi; omega)).1]; rfl) j (by simpa using hlt)
      simpa using this
    · rw [mix_hi (by omega), hup.cell _ _ (by omega)]
      exact (hm j hj).1

end Go.Proofs.Ytccidmogamnihaa

/- What limb.trim, limbAt, order and Compare answer, for every call. -/
namespace Go.Proofs.Ytccidmogamnihaa
set_option maxRecDepth 4000
open Go.RowKit

def trimJ (p : Option Addr) (n cap : Nat) (f : Nat → Int) (w : World) : Act → World → Prop := fun a' w' => w' = w ∧ ∃ (m : Nat) (u4 u5 u6 u7 u8 u9 u10 u11 u12 u13 u14 u15 u16 u17 u18 u19 u20 : Value), a' = { tmps := #[.slice p n cap, undef, .slice none 0 0, .int .i64 m, u4, u5, u6, u7, u8, u9, u10, u11, u12, u13, u14, u15, u16, u17, u18, u19, u20], defers := [] } ∧ m ≤ n ∧ tl f m = tl f n
theorem trim_any (p : Option Addr) (n cap : Nat) (f : Nat → Int) (w : World) (hn : n ≤ cap) (hcap : cap ≤ 9223372036854775807) (hc : At w p n f) :
    Calls Try.prog 42 #[.slice p n cap] w fun e w' => e = .returned (.slice p (tl f n) cap) ∧ w' = w := by
  go_enter Try.func42, Try.ntmps42
  go_wp2
  refine wp_scope_goto 0 (trimJ p n cap f w) (fun a' _ => slot 3 a') rfl ?_ ?_
  · rintro a' w' ⟨rfl, m, u4, u5, u6, u7, u8, u9, u10, u11, u12, u13, u14, u15, u16, u17, u18, u19, u20, rfl, hm, ht⟩
    have HT := show Hid _ from ht
    clear ht
    cases m with
    | zero =>
      go_wp2
      simp only [Exit.jump]
      go_ret
      exact ⟨by rw [← HT.out]; rfl, rfl⟩
    | succ m =>
      obtain ⟨b, off, rfl, hcell⟩ := hc (by omega)
      have hm1 := hcell m (by omega)
      clear hcell hc
      go_wp2
      · rename_i h0
        go_step3
        refine ⟨rfl, ⟨rfl, m, _, _, _, _, _, _, _, _, _, _, _, _, _, _, _, _, _, rfl, by omega, ?_⟩, ?_⟩
        · rw [← HT.out, tl, if_pos (by simpa using h0)]
        · simp [slot, intOf]
      · rename_i h0
        simp only [Exit.jump]
        go_ret
        exact ⟨by rw [← HT.out, tl, if_neg (by simpa using h0)]; rfl, rfl⟩
  · intro hr
    go_wp2
    go_step3
    rename_i K hK
    exact hK _ _ (hr _ _ ⟨rfl, n, _, _, _, _, _, _, _, _, _, _, _, _, _, _, _, _, _, rfl, Nat.le_refl _, rfl⟩)

theorem limbAt_any (p : Option Addr) (n cap : Nat) (f : Nat → Int) (i : Nat) (w : World) (hn : n ≤ 17592186044416) (hi : i ≤ 17592186044416) (hc : At w p n f) :
    Calls Try.prog 61 #[.slice p n cap, .int .i64 i] w fun e w' => e = .returned (.int .u64 (lm f n i)) ∧ w' = w := by
  by_cases h : i < n
  · obtain ⟨b, off, rfl, hcell⟩ := hc (by omega)
    have hm1 := hcell i h
    have e : lm f n i = f i := lm_in h
    have E := show Hid _ from e
    clear hcell hc e
    go_enter Try.func61, Try.ntmps61
    go_wp2
    go_ret
    exact ⟨by rw [E.out]; rfl, rfl⟩
  · have e : lm f n i = 0 := lm_out (by omega)
    have E := show Hid _ from e
    clear hc e
    go_enter Try.func61, Try.ntmps61
    go_wp2
    go_ret
    exact ⟨by rw [E.out]; rfl, rfl⟩

theorem order_any (x y : Int) (w : World) :
    Calls Try.prog 59 #[.int .u64 x, .int .u64 y] w fun e w' => e = .returned (.int .i64 (ord x y)) ∧ w' = w := by
  rcases Int.lt_trichotomy x y with h | h | h
  · have E := show Hid _ from ord_lt h
    go_enter Try.func59, Try.ntmps59
    go_wp2
    go_ret
    exact ⟨by rw [E.out]; rfl, rfl⟩
  · have E := show Hid _ from ord_eq h
    have h1 : ¬ x < y := by omega
    have h2 : ¬ y < x := by omega
    clear h
    go_enter Try.func59, Try.ntmps59
    go_wp2
    go_ret
    exact ⟨by rw [E.out]; rfl, rfl⟩
  · have E := show Hid _ from ord_gt h
    have h1 : ¬ x < y := by omega
    go_enter Try.func59, Try.ntmps59
    go_wp2
    go_ret
    exact ⟨by rw [E.out]; rfl, rfl⟩

def cmpJ (pa pb : Option Addr) (n ca cb : Nat) (f g : Nat → Int) (w : World) : Act → World → Prop := fun a' w' => (∃ q, w' = w.drewN q) ∧ ∃ (m : Nat) (u6 u7 u8 u9 u10 u11 u12 u13 u14 u15 u16 u17 u18 u19 u20 u21 u22 u23 u24 u25 u26 u27 u28 u29 u30 u31 u32 u33 u34 u35 u36 u37 u38 u39 u40 u41 u42 u43 u44 u45 : Value), a' = { tmps := #[.slice pa n ca, .slice pb n cb, undef, undef, .int .i64 0, .int .i64 m, u6, u7, u8, u9, u10, u11, u12, u13, u14, u15, u16, u17, u18, u19, u20, u21, u22, u23, u24, u25, u26, u27, u28, u29, u30, u31, u32, u33, u34, u35, u36, u37, u38, u39, u40, u41, u42, u43, u44, u45], defers := [] } ∧ m ≤ n ∧ (∀ i, m ≤ i → i < n → f i = g i)

theorem compare_any (pa pb : Option Addr) (na nb ca cb : Nat) (f g : Nat → Int) (w : World) (hna : na ≤ ca) (hca : ca ≤ 9223372036854775807) (hnb : nb ≤ cb) (hcb : cb ≤ 9223372036854775807) (ha : At w pa na f) (hb : At w pb nb g) (rf : Rg f na) (rg : Rg g nb) :
    Calls Try.prog 53 #[.slice pa na ca, .slice pb nb cb] w fun e w' => e = .returned (.int .i64 (ord (val f na) (val g nb))) ∧ ∃ q, w' = w.drewN q := by
  have lf := tl_le f na
  have lg := tl_le g nb
  rw [← val_tl f na, ← val_tl g nb]
  have ha' := ha.mono lf
  have hb' := hb.mono lg
  have rf' := rf.mono lf
  have rg' := rg.mono lg
  have nf := nm_tl f na
  have ng := nm_tl g nb
  have E0 : tl f na ≠ tl g nb → Hid (ord (val f (tl f na)) (val g (tl g nb)) = ord ((tl f na : Nat) : Int) ((tl g nb : Nat) : Int)) := fun h => ord_len rf' rg' nf ng h
  have T1 := trim_any pa na ca f w hna hca ha
  have T2 := trim_any pb nb cb g w hnb hcb hb
  generalize tl f na = m at *
  generalize tl g nb = k at *
  have H1 := show Hid _ from T1
  have H2 := show Hid _ from T2
  clear T1 T2 ha hb rf rg
  by_cases h : m = k
  · subst h
    clear E0
    go_enter Try.func53, Try.ntmps53
    go_wp2_with fail
    refine wp_scope_goto 0 (cmpJ pa pb m ca cb f g w) (fun a' _ => slot 5 a') rfl ?_ ?_
    · rintro a' W ⟨⟨q, hq⟩, i, u6, u7, u8, u9, u10, u11, u12, u13, u14, u15, u16, u17, u18, u19, u20, u21, u22, u23, u24, u25, u26, u27, u28, u29, u30, u31, u32, u33, u34, u35, u36, u37, u38, u39, u40, u41, u42, u43, u44, u45, rfl, hm, ht⟩
      cases i with
      | zero =>
        have E := show Hid _ from ord_eq (val_congr (f := f) (g := g) (n := m) (fun i hi => ht i (by omega) hi))
        have HQ := show Hid _ from hq
        clear ht H1 H2 hq
        go_wp2
        simp only [Exit.jump]
        go_ret
        exact ⟨by rw [E.out]; rfl, _, HQ.out⟩
      | succ i =>
        obtain ⟨b, off, rfl, hcell⟩ := ha' (by omega)
        have hc1 : W.cell? ⟨b, off + i, none⟩ = some (.int .u64 (f i)) := by rw [hq]; exact hcell i (by omega)
        obtain ⟨b2, off2, rfl, hcell2⟩ := hb' (by omega)
        have hc2 : W.cell? ⟨b2, off2 + i, none⟩ = some (.int .u64 (g i)) := by rw [hq]; exact hcell2 i (by omega)
        have HT := show Hid _ from ht
        have HQ := show Hid _ from hq
        clear hq hcell hcell2 ha' hb' H1 H2 ht
        by_cases he : f i = g i
        · have he' : (f i == g i) = true := by simpa using he
          have HE := show Hid _ from he
          clear he
          go_wp2
          go_quiet (fail)
          go_wp2
          go_step3
          refine ⟨rfl, ⟨⟨q + nq, by rw [HQ.out, World.drewN_drewN]⟩, i, _, _, _, _, _, _, _, _, _, _, _, _, _, _, _, _, _, _, _, _, _, _, _, _, _, _, _, _, _, _, _, _, _, _, _, _, _, _, _, _, rfl, by omega, ?_⟩, ?_⟩
          · intro j h1 h2
            by_cases e : j = i
            · subst e; exact HE.out
            · exact HT.out j (by omega) h2
          · simp [slot, intOf]
        · have he' : (f i == g i) = false := by simpa using he
          have E := show Hid _ from ord_at rf' rg' (k := i) (by omega) (fun j h1 h2 => HT.out j (by omega) h2) he
          clear he
          go_wp2
          go_quiet (fail)
          go_wp2
          have hc3 : (W.drewN nq).cell? ⟨b, off + i, none⟩ = some (.int .u64 (f i)) := hc1
          have hc4 : (W.drewN nq).cell? ⟨b2, off2 + i, none⟩ = some (.int .u64 (g i)) := hc2
          clear hc1 hc2
          generalize hV : W.drewN nq = V at *
          have HV := show Hid _ from hV
          clear hV
          go_quiet ((go_at_call 59; exact Calls.quiet_of_same (order_any _ _ _)))
          go_wp2
          simp only [Exit.jump]
          go_ret
          exact ⟨by rw [E.out]; rfl, _, by rw [← HV.out, HQ.out, World.drewN_drewN, World.drewN_drewN]⟩
    · intro hr
      go_wp2_with fail
      refine Calls.mono H1.out ?_
      rintro e w' ⟨rfl, rfl⟩
      go_wp2_with fail
      refine Calls.mono H2.out ?_
      rintro e w' ⟨rfl, rfl⟩
      go_wp2
      go_step3
      rename_i K hK
      exact hK _ _ (hr _ _ ⟨⟨0, rfl⟩, m, _, _, _, _, _, _, _, _, _, _, _, _, _, _, _, _, _, _, _, _, _, _, _, _, _, _, _, _, _, _, _, _, _, _, _, _, _, _, _, _, rfl, Nat.le_refl _, fun i h1 h2 => absurd h1 (by omega)⟩)
  · have E := E0 h
    clear E0
    have hd : ((m : Int) == (k : Int)) = false := by simp; omega
    go_enter Try.func53, Try.ntmps53
    go_wp2_with fail
    go_step3
    go_wp2_with fail
    refine Calls.mono H1.out ?_
    rintro e w' ⟨rfl, rfl⟩
    go_wp2_with fail
    refine Calls.mono H2.out ?_
    rintro e w' ⟨rfl, rfl⟩
    go_wp2_with fail
    refine (order_any _ _ _).mono ?_
    rintro e w' ⟨rfl, rfl⟩
    go_wp2
    rw [Exit.noGoto_ret]
    go_ret
    exact ⟨by rw [E.out]; rfl, 0, rfl⟩
end Go.Proofs.Ytccidmogamnihaa

/- What limb.lessen and double do, for every call. -/
namespace Go.Proofs.Ytccidmogamnihaa
set_option maxRecDepth 4000
open Go.RowKit
attribute [local go_sem ↓] Go.wp_at_zero Go.wp_at_succ

theorem sub64_call (x y b : Int) (hx : 0 ≤ x ∧ x < B64) (hy : 0 ≤ y ∧ y < B64) (hb : 0 ≤ b ∧ b ≤ 1) (w : World) :
    (callFunc 60 #[.int .u64 x, .int .u64 y, .int .u64 b]).run Try.prog w = .ok (.value (.tuple #[.int .u64 ((x + B64 - y - b) % B64), .int .u64 (if x < y + b then 1 else 0)])) w := by
  rw [run_callFunc_extern Try.func60 (by kernel_rfl) (by kernel_rfl) (by kernel_rfl) (e := sub64Entry) (by kernel_rfl), run_sub64 x y b hx hy hb]
  rfl

theorem add64_call (x y c : Int) (hx : 0 ≤ x) (hy : 0 ≤ y) (hc : 0 ≤ c ∧ c ≤ 1) (w : World) :
    (callFunc 55 #[.int .u64 x, .int .u64 y, .int .u64 c]).run Try.prog w = .ok (.value (.tuple #[.int .u64 ((x + y + c) % B64), .int .u64 ((x + y + c) / B64)])) w := by
  rw [run_callFunc_extern Try.func55 (by kernel_rfl) (by kernel_rfl) (by kernel_rfl) (e := add64Entry) (by kernel_rfl), run_add64 x y c hx hy hc.1 hc.2]
  rfl

def lessenJ (b off n cap : Nat) (f : Nat → Int) (pb : Option Addr) (nb cb : Nat) (g : Nat → Int) (w : World) : Act → World → Prop := fun a' w' => ∃ (i : Nat) (u6 u7 u8 u9 u10 u11 u12 u13 u14 u15 u16 u17 u18 u19 u20 u21 u22 u23 u24 u25 u26 : Value), a' = { tmps := #[.slice (some ⟨b, off, none⟩) n cap, .slice pb nb cb, undef, undef, .int .u64 (bw f g i), .int .i64 i, u6, u7, u8, u9, u10, u11, u12, u13, u14, u15, u16, u17, u18, u19, u20, u21, u22, u23, u24, u25, u26], defers := [] } ∧ i ≤ n ∧ Upd b off (off + n) w w' ∧ Mut w' b off n (mix (df f g) f i)

theorem lessen_any (b off n cap : Nat) (f : Nat → Int) (pb : Option Addr) (nb cb : Nat) (g : Nat → Int) (w : World) (hn : n ≤ 17592186044416) (hnb : nb ≤ 17592186044416) (hm : Mut w b off n f) (hb : At w pb nb g)
    (hne : 0 < nb → ∀ b' o', pb = some ⟨b', o', none⟩ → b' ≠ b) (rf : Rg f n) (rg : Rg g nb) :
    Calls Try.prog 54 #[.slice (some ⟨b, off, none⟩) n cap, .slice pb nb cb] w fun e w' => e = .returned (.tuple #[]) ∧ Upd b off (off + n) w w' ∧ Mut w' b off n (df f (lm g nb)) := by
  have rl : Rg (lm g nb) n := lm_rg rg n
  go_enter Try.func54, Try.ntmps54
  go_wp2
  refine wp_scope_goto 0 (lessenJ b off n cap f pb nb cb (lm g nb) w) (fun a' _ => n - slot 5 a') rfl ?_ ?_
  · rintro a' W ⟨i, u6, u7, u8, u9, u10, u11, u12, u13, u14, u15, u16, u17, u18, u19, u20, u21, u22, u23, u24, u25, u26, rfl, hi, hu, hM⟩
    by_cases hlt : i < n
    · have hbW : At W pb nb g := hb.upd hu hne
      obtain ⟨hc0, hz⟩ := hM i hlt
      rw [mix_hi (Nat.le_refl i)] at hc0
      have hL := limbAt_any pb nb cb g i
      have hs := sub64_call (f i) (lm g nb i) (bw f (lm g nb) i) (rf i hlt) (rl i hlt) (bw_bd _ _ _)
      have HL := show Hid _ from hL
      have e1 : (f i + B64 - lm g nb i - bw f (lm g nb) i) % B64 = df f (lm g nb) i := rfl
      have e2 : (if f i < lm g nb i + bw f (lm g nb) i then (1 : Int) else 0) = bw f (lm g nb) (i + 1) := rfl
      rw [e1, e2] at hs
      clear hL e1 e2
      go_wp2
      go_region_with ((go_at_call 61; refine (HL.out _ (by omega) (by omega) ?_).mono ?_; (exact hbW); rintro e w' ⟨rfl, rfl⟩))
      all_goals
        go_wp2
        go_step3
        refine ⟨rfl, ⟨i + 1, _, _, _, _, _, _, _, _, _, _, _, _, _, _, _, _, _, _, _, _, _, rfl, by omega, (hu.setCell (by omega) (by omega) _).drew, (hM.step hlt).drew⟩, ?_⟩
        simp [slot, intOf]; omega
    · have e : i = n := by omega
      subst e
      have HM := show Hid _ from hM
      have HU := show Hid _ from hu
      clear hM hu
      go_wp2
      simp only [Exit.jump]
      go_end0
      exact ⟨rfl, HU.out, MutK.congr HM.out fun j hj => mix_lo hj⟩
  · intro hr
    go_wp2
    go_step3
    rename_i K hK
    exact hK _ _ (hr _ _ ⟨0, _, _, _, _, _, _, _, _, _, _, _, _, _, _, _, _, _, _, _, _, _, rfl, Nat.zero_le _, Upd.refl _ _ _ _, hm.congr (fun j _ => (mix_zero _ _ _).symm)⟩)

def doubleJ (b off n cap : Nat) (f : Nat → Int) (c : Int) (w : World) : Act → World → Prop := fun a' w' => ∃ (i : Nat) (u5 u6 u7 u8 u9 u10 u11 u12 u13 u14 u15 u16 u17 u18 u19 u20 u21 u22 u23 u24 u25 u26 : Value), a' = { tmps := #[.slice (some ⟨b, off, none⟩) n cap, .int .u64 (cy f f c i), undef, undef, .int .i64 i, u5, u6, u7, u8, u9, u10, u11, u12, u13, u14, u15, u16, u17, u18, u19, u20, u21, u22, u23, u24, u25, u26], defers := [] } ∧ i ≤ n ∧ Upd b off (off + n) w w' ∧ Mut w' b off n (mix (sm f f c) f i)

theorem double_any (b off n cap : Nat) (f : Nat → Int) (c : Int) (w : World) (hn : n ≤ 17592186044416) (hm : Mut w b off n f) (rf : Rg f n) (hc : 0 ≤ c ∧ c ≤ 1) :
    Calls Try.prog 52 #[.slice (some ⟨b, off, none⟩) n cap, .int .u64 c] w fun e w' => e = .returned (.tuple #[]) ∧ Upd b off (off + n) w w' ∧ Mut w' b off n (sm f f c) := by
  go_enter Try.func52, Try.ntmps52
  go_wp2
  refine wp_scope_goto 0 (doubleJ b off n cap f c w) (fun a' _ => n - slot 4 a') rfl ?_ ?_
  · rintro a' W ⟨i, u5, u6, u7, u8, u9, u10, u11, u12, u13, u14, u15, u16, u17, u18, u19, u20, u21, u22, u23, u24, u25, u26, rfl, hi, hu, hM⟩
    by_cases hlt : i < n
    · obtain ⟨hc0, hz⟩ := hM i hlt
      rw [mix_hi (Nat.le_refl i)] at hc0
      have hs := add64_call (f i) (f i) (cy f f c i) (rf i hlt).1 (rf i hlt).1 (cy_bd (rf.mono hi) (rf.mono hi) hc)
      have e1 : (f i + f i + cy f f c i) % B64 = sm f f c i := rfl
      have e2 : (f i + f i + cy f f c i) / B64 = cy f f c (i + 1) := rfl
      rw [e1, e2] at hs
      clear e1 e2
      go_wp2
      go_region_with (fail)
      all_goals
        go_wp2
        go_step3
        refine ⟨rfl, ⟨i + 1, _, _, _, _, _, _, _, _, _, _, _, _, _, _, _, _, _, _, _, _, _, _, rfl, by omega, (hu.setCell (by omega) (by omega) _).drew, (hM.step hlt).drew⟩, ?_⟩
        simp [slot, intOf]; omega
    · have e : i = n := by omega
      subst e
      have HM := show Hid _ from hM
      have HU := show Hid _ from hu
      clear hM hu
      go_wp2
      simp only [Exit.jump]
      go_end0
      exact ⟨rfl, HU.out, MutK.congr HM.out fun j hj => mix_lo hj⟩
  · intro hr
    go_wp2
    go_step3
    rename_i K hK
    exact hK _ _ (hr _ _ ⟨0, _, _, _, _, _, _, _, _, _, _, _, _, _, _, _, _, _, _, _, _, _, _, rfl, Nat.zero_le _, Upd.refl _ _ _ _, hm.congr (fun j _ => (mix_zero _ _ _).symm)⟩)
end Go.Proofs.Ytccidmogamnihaa

/- What math/bits.Mul64 and limb.addTimes do, for every call. -/
namespace Go.Proofs.Ytccidmogamnihaa
set_option maxRecDepth 4000
open Go.RowKit

theorem mul64_top (x y : Int) (hx : 0 ≤ x ∧ x < B64) (hy : 0 ≤ y ∧ y < B64) :
    IntKind.u64.wrap (IntKind.u64.wrap (IntKind.u64.wrap (x / 4294967296 * (y / 4294967296)) +
      IntKind.u64.wrap (IntKind.u64.wrap (x / 4294967296 * bits BinOp.and IntKind.u64 y 4294967295) + IntKind.u64.wrap (bits BinOp.and IntKind.u64 x 4294967295 * bits BinOp.and IntKind.u64 y 4294967295) / 4294967296) / 4294967296) +
      IntKind.u64.wrap (bits BinOp.and IntKind.u64 (IntKind.u64.wrap (IntKind.u64.wrap (x / 4294967296 * bits BinOp.and IntKind.u64 y 4294967295) + IntKind.u64.wrap (bits BinOp.and IntKind.u64 x 4294967295 * bits BinOp.and IntKind.u64 y 4294967295) / 4294967296)) 4294967295 +
        IntKind.u64.wrap (bits BinOp.and IntKind.u64 x 4294967295 * (y / 4294967296))) / 4294967296) = x * y / B64 := by
  rw [B64_eq] at *
  simp only [IntKind.wrap_u64]
  rw [and_low32 x hx.1 hx.2, and_low32 y hy.1 hy.2, and_low32 _ (Int.emod_nonneg _ (by decide)) (Int.emod_lt_of_pos _ (by decide))]
  exact mul64_arith x y hx.1 hx.2 hy.1 hy.2

theorem mul64_any (x y : Int) (hx : 0 ≤ x ∧ x < B64) (hy : 0 ≤ y ∧ y < B64) (w : World) :
    Calls Try.prog 57 #[.int .u64 x, .int .u64 y] w fun e w' => e = .returned (.tuple #[.int .u64 (x * y / B64), .int .u64 (x * y % B64)]) ∧ w' = w := by
  rw [← mul64_top x y hx hy, show x * y % B64 = IntKind.u64.wrap (x * y) by rw [IntKind.wrap_u64, B64_eq]]
  clear hx hy
  go_enter Try.func57, Try.ntmps57
  go_wp2
  go_ret2
  exact ⟨rfl, rfl⟩

end Go.Proofs.Ytccidmogamnihaa

/- What limb.Add answers, for every call. -/
namespace Go.Proofs.Ytccidmogamnihaa
set_option maxRecDepth 4000
open Go.RowKit
attribute [local go_sem ↓] Go.wp_at_zero Go.wp_at_succ

theorem info64 : (Try.prog.info? 32).map (fun i => (i.zero, i.size, i.bytes)) = some (some (.int .u64 0), 1, 8) := by kernel_rfl

def New (w w' : World) (v : Value) (N : Nat) (x : Int) : Prop :=
  Below w.heap.size w w' ∧ ∃ (b off n c : Nat) (h : Nat → Int), v = .slice (some ⟨b, off, none⟩) n c ∧ w.heap.size ≤ b ∧ b < w'.heap.size ∧ n ≤ c ∧ c ≤ N ∧ Mut w' b off n h ∧ Rg h n ∧ Nm h n ∧ val h n = x

end Go.Proofs.Ytccidmogamnihaa

/- What limb.Sub and limb.Mul answer, for every call. -/
namespace Go.Proofs.Ytccidmogamnihaa
set_option maxRecDepth 4000
open Go.RowKit
attribute [local go_sem ↓] Go.wp_at_zero Go.wp_at_succ

theorem AtK.apart {k : IntKind} {w : World} {p : Option Addr} {n : Nat} {f : Nat → Int} (h : AtK k w p n f) (h0 : 0 < n) : ∀ b' o', p = some ⟨b', o', none⟩ → b' ≠ w.heap.size := by
  obtain ⟨b, off, e, hl, _⟩ := h.lt h0
  intro b' o' e'
  rw [e] at e'
  injection e' with e'
  injection e' with e1
  omega

end Go.Proofs.Ytccidmogamnihaa

/- What limb.bringDown and limb.Rest answer, for every call. -/
namespace Go.Proofs.Ytccidmogamnihaa
set_option maxRecDepth 4000
open Go.RowKit
attribute [local go_sem ↓] Go.wp_at_zero Go.wp_at_succ

def vst (r x M : Int) (l : Nat) : Int := (r * 2 ^ (64 - l) + x / 2 ^ l) % M

theorem vst_top {r x M : Int} (hr : 0 ≤ r ∧ r < M) (hx : 0 ≤ x ∧ x < B64) : vst r x M 64 = r := by
  unfold vst
  rw [B64_eq] at hx
  have e : x / 2 ^ 64 = 0 := by
    show x / 18446744073709551616 = 0
    omega
  rw [e]
  show (r * 1 + 0) % M = r
  rw [Int.mul_one, Int.add_zero]
  exact Int.emod_eq_of_lt hr.1 hr.2

theorem vst_end (r x M : Int) : vst r x M 0 = (r * B64 + x) % M := by
  unfold vst
  rw [B64_eq]
  show (r * 18446744073709551616 + x / 1) % M = _
  rw [Int.ediv_one]

theorem bit_split (x : Int) (l : Nat) : x / 2 ^ l = 2 * (x / 2 ^ (l + 1)) + x / 2 ^ l % 2 := by
  have e : x / 2 ^ (l + 1) = x / 2 ^ l / 2 := by rw [Int.pow_succ, Int.ediv_ediv_of_nonneg (Int.le_of_lt (Int.pow_pos (by decide)))]
  rw [e]; omega

theorem vst_step {r x M : Int} {l : Nat} (hl : l < 64) (hM : 0 < M) :
    vst r x M l = if 2 * vst r x M (l + 1) + x / 2 ^ l % 2 < M then 2 * vst r x M (l + 1) + x / 2 ^ l % 2 else 2 * vst r x M (l + 1) + x / 2 ^ l % 2 - M := by
  have b0 : 0 ≤ x / 2 ^ l % 2 ∧ x / 2 ^ l % 2 < 2 := by omega
  have v0 : 0 ≤ vst r x M (l + 1) := Int.emod_nonneg _ (by omega)
  have v1 : vst r x M (l + 1) < M := Int.emod_lt_of_pos _ hM
  have e : vst r x M l = (2 * vst r x M (l + 1) + x / 2 ^ l % 2) % M := by
    unfold vst
    have hb := bit_split x l
    generalize x / 2 ^ l % 2 = b at *
    generalize x / 2 ^ (l + 1) = y at *
    generalize x / 2 ^ l = z at *
    rw [hb, show 64 - l = (64 - (l + 1)) + 1 by omega, Int.pow_succ]
    rw [show r * (2 ^ (64 - (l + 1)) * 2) + (2 * y + b) = 2 * (r * 2 ^ (64 - (l + 1)) + y) + b by grind]
    rw [Int.add_emod, Int.mul_emod, Int.add_emod (2 * ((r * 2 ^ (64 - (l + 1)) + y) % M)), Int.mul_emod 2 ((r * 2 ^ (64 - (l + 1)) + y) % M), Int.emod_emod]
  rw [e]
  split
  · rename_i h; exact Int.emod_eq_of_lt (by omega) h
  · rename_i h
    rw [show 2 * vst r x M (l + 1) + x / 2 ^ l % 2 = (2 * vst r x M (l + 1) + x / 2 ^ l % 2 - M) + M by omega, Int.add_emod_right]
    rw [Int.emod_eq_of_lt (by omega) (by omega)]; omega

theorem and_one (z : Int) (h0 : 0 ≤ z) (h1 : z < 18446744073709551616) : bits .and .u64 z 1 = z % 2 := by go_bits2

def bringJ (b n cap : Nat) (x : Int) (pm : Option Addr) (nm cm : Nat) (r M : Int) (w : World) : Act → World → Prop := fun a' w' => ∃ (l : Nat) (d : Nat → Int) (u7 u8 u9 u10 u11 u12 u13 u14 u15 u16 u17 u18 u19 u20 u21 u22 u23 : Value),
  a' = { tmps := #[.slice (some ⟨b, 0, none⟩) n cap, .int .u64 x, .slice pm nm cm, undef, undef, undef, .int .i64 l, u7, u8, u9, u10, u11, u12, u13, u14, u15, u16, u17, u18, u19, u20, u21, u22, u23], defers := [] } ∧ l ≤ 64 ∧ Upd b 0 n w w' ∧ Mut w' b 0 n d ∧ Rg d n ∧ val d n = vst r x M l

theorem bringDown_any (b nm cap cm : Nat) (f g : Nat → Int) (x : Int) (pm : Option Addr) (w : World) (hcap : nm + 1 ≤ cap) (hcap' : cap ≤ 9223372036854775807) (hcm : nm ≤ cm) (hcm' : cm ≤ 9223372036854775807) (hm : Mut w b 0 (nm + 1) f) (hg : At w pm nm g)
    (hne : 0 < nm → ∀ b' o', pm = some ⟨b', o', none⟩ → b' ≠ b) (rf : Rg f (nm + 1)) (rg : Rg g nm) (hx : 0 ≤ x ∧ x < B64) (hlt : val f (nm + 1) < val g nm) (hN : nm ≤ 1000000) :
    Calls Try.prog 43 #[.slice (some ⟨b, 0, none⟩) (nm + 1) cap, .int .u64 x, .slice pm nm cm] w fun e w' => e = .returned (.tuple #[]) ∧ Upd b 0 (nm + 1) w w' ∧ ∃ d, Mut w' b 0 (nm + 1) d ∧ Rg d (nm + 1) ∧ val d (nm + 1) = (val f (nm + 1) * B64 + x) % val g nm := by
  have v0 := (val_bd rf).1
  have vg := (val_bd rg).2
  have hM : 0 < val g nm := by omega
  go_enter Try.func43, Try.ntmps43
  go_wp2_with fail
  refine wp_scope_goto 0 (bringJ b (nm + 1) cap x pm nm cm (val f (nm + 1)) (val g nm) w) (fun a' _ => slot 6 a') rfl ?_ ?_
  · rintro a' W ⟨l, d, u7, u8, u9, u10, u11, u12, u13, u14, u15, u16, u17, u18, u19, u20, u21, u22, u23, rfl, hl, hu, hm', rd, hv⟩
    cases l with
    | zero =>
      rw [vst_end] at hv
      have HV : Hid _ := hv
      have HU : Hid _ := hu
      have HM : Hid _ := hm'
      clear hv hu hm' hm hg hne rf rg hx hlt v0 vg hM
      go_wp2
      simp only [Exit.jump]
      go_end0
      exact ⟨rfl, HU.out, d, HM.out, rd, HV.out⟩
    | succ l =>
      have HV : Hid _ := hv
      have HU : Hid _ := hu
      have HM : Hid _ := hm'
      clear hv hu hm' hm v0 vg hM
      have c0 : 0 ≤ x / 2 ^ l % 2 ∧ x / 2 ^ l % 2 ≤ 1 := by omega
      have hbit : bits BinOp.and IntKind.u64 (x / 2 ^ l) 1 = x / 2 ^ l % 2 := and_one _ (Int.ediv_nonneg hx.1 (Int.le_of_lt (Int.pow_pos (by decide)))) (by
        have := Int.ediv_le_self (2 ^ l) hx.1
        rw [B64_eq] at hx
        omega)
      have hw : val d (nm + 1) < val g nm := by rw [HV.out]; exact Int.emod_lt_of_pos _ (by have := (val_bd rf).1; omega)
      have hvd := (val_bd rd).1
      have vg := (val_bd rg).2
      have vsum := val_sm_lt rd rd c0 (by
        have := pw_pos nm
        rw [pw, B64_eq]; omega)
      have hstep := vst_step (r := val f (nm + 1)) (x := x) (M := val g nm) (l := l) (by omega) (by have := (val_bd rf).1; omega)
      rw [← HV.out] at hstep
      rw [show val d (nm + 1) + val d (nm + 1) + x / 2 ^ l % 2 = 2 * val d (nm + 1) + x / 2 ^ l % 2 by omega] at vsum
      rw [← vsum] at hstep
      have HD : Hid _ := double_any b 0 (nm + 1) cap d (x / 2 ^ l % 2) W (by omega) HM.out rd c0
      have rs := sm_rg d d (x / 2 ^ l % 2) (nm + 1)
      have HST : Hid _ := hstep
      have HB : Hid _ := hbit
      have HX : Hid _ := hx
      clear hstep vsum hbit hvd hw hx
      go_wp2_with fail
      rw [HB.out]
      refine Calls.mono HD.out ?_
      rintro e w1 ⟨rfl, hu1, hm1⟩
      generalize sm d d (x / 2 ^ l % 2) = s at *
      rw [Nat.zero_add] at hu1
      have hu2 := Upd.trans HU.out hu1
      have hg1 : At w1 pm nm g := hg.upd hu2 hne
      have HC := compare_any (some ⟨b, 0, none⟩) pm (nm + 1) nm cap cm s g w1 hcap hcap' hcm hcm' hm1.at hg1 rs rg
      by_cases hlt2 : val s (nm + 1) < val g nm
      · rw [ord_lt hlt2] at HC
        have HST2 := HST.out
        rw [if_pos hlt2] at HST2
        have HE : Hid _ := HST2
        have HC' : Hid _ := HC
        have HU2 : Hid _ := hu2
        have HM1 : Hid _ := hm1
        clear HST2 HC hu2 hm1 hu1
        go_wp2_with fail
        refine Calls.mono HC'.out ?_
        rintro e w2 ⟨rfl, q, rfl⟩
        go_wp2
        go_step3
        refine ⟨rfl, ⟨l, s, _, _, _, _, _, _, _, _, _, _, _, _, _, _, _, _, _, rfl, by omega, Upd.drewN HU2.out q, MutK.drewN HM1.out q, rs, HE.out.symm⟩, ?_⟩
        simp [slot, intOf]
      · have o1 : 0 ≤ ord (val s (nm + 1)) (val g nm) := by have := @ord_neg_iff (val s (nm + 1)) (val g nm); omega
        generalize ord (val s (nm + 1)) (val g nm) = o at *
        have HST2 := HST.out
        rw [if_neg hlt2] at HST2
        have vdf := val_df_ge rs (lm_rg rg (nm + 1)) (by rw [val_lm g nm (nm + 1) (by omega)]; omega)
        rw [val_lm g nm (nm + 1) (by omega), ← HST2] at vdf
        have HL : ∀ q, Hid _ := fun q => lessen_any b 0 (nm + 1) cap s pm nm cm g (w1.drewN q) (by omega) (by omega) (hm1.drewN q) (hg1.drewN q) hne rs rg
        have HE : Hid _ := vdf
        have HC' : Hid _ := HC
        have HU2 : Hid _ := hu2
        clear HST2 HC hu2 hm1 hu1 vdf
        go_wp2_with fail
        refine Calls.mono HC'.out ?_
        rintro e w2 ⟨rfl, q, rfl⟩
        go_wp2_with fail
        refine Calls.mono (HL q).out ?_
        rintro e w3 ⟨rfl, hu3, hm3⟩
        rw [Nat.zero_add] at hu3
        have hu4 := (Upd.drewN HU2.out q).trans hu3
        have HU4 : Hid _ := hu4
        have HM3 : Hid _ := hm3
        clear hu3 hu4 hm3
        go_wp2
        go_step3
        refine ⟨rfl, ⟨l, _, _, _, _, _, _, _, _, _, _, _, _, _, _, _, _, _, _, rfl, by omega, HU4.out, HM3.out, df_rg _ _ _, HE.out⟩, ?_⟩
        simp [slot, intOf]
  · intro hr
    go_wp2
    go_step3
    rename_i K hK
    exact hK _ _ (hr _ _ ⟨64, f, _, _, _, _, _, _, _, _, _, _, _, _, _, _, _, _, _, rfl, Nat.le_refl _, Upd.refl _ _ _ _, hm, rf, (vst_top ⟨v0, hlt⟩ hx).symm⟩)

def restJ (pa pm : Option Addr) (na nm ca cm : Nat) (f g : Nat → Int) (w : World) : Act → World → Prop := fun a' w' => ∃ (i : Nat) (d : Nat → Int) (u8 u9 u10 u11 u12 u13 u14 u15 u16 u17 u18 u19 u20 u21 u22 u23 u24 u25 u26 u27 u28 u29 u30 u31 u32 u33 u34 u35 u36 u37 u38 u39 u40 u41 u42 u43 u44 u45 : Value),
  a' = { tmps := #[.slice pa na ca, .slice pm nm cm, undef, undef, .slice none 0 0, .int .i64 0, .slice (some ⟨w.heap.size, 0, none⟩) (nm + 1) (nm + 1), .int .i64 i, u8, u9, u10, u11, u12, u13, u14, u15, u16, u17, u18, u19, u20, u21, u22, u23, u24, u25, u26, u27, u28, u29, u30, u31, u32, u33, u34, u35, u36, u37, u38, u39, u40, u41, u42, u43, u44, u45], defers := [] } ∧
  i ≤ na ∧ Below w.heap.size w w' ∧ w'.heap.size = w.heap.size + 1 ∧ Mut w' w.heap.size 0 (nm + 1) d ∧ Rg d (nm + 1) ∧ val d (nm + 1) = val (sh f i) (na - i) % val g nm

theorem sh_step (f : Nat → Int) (i n : Nat) : val (sh f i) (n + 1) = val (sh f (i + 1)) n * B64 + f i := by
  have e := val_sh (sh f i) 1 n
  rw [show 1 + n = n + 1 by omega] at e
  rw [e]
  have e2 : sh (sh f i) 1 = sh f (i + 1) := by funext j; show f (i + (1 + j)) = f (i + 1 + j); congr 1; omega
  rw [e2]
  have e3 : val (sh f i) 1 = f i := by simp [val, pw, sh]
  rw [e3]
  have e4 : pw 1 = B64 := by simp [pw]
  rw [e4]
  grind

theorem add_addr (b off t : Nat) : (⟨b, off, none⟩ : Addr).add t = ⟨b, off + t, none⟩ := by unfold Addr.add; split <;> simp_all

theorem AtK.shift {k : IntKind} {w : World} {p : Option Addr} {n : Nat} {f : Nat → Int} (h : AtK k w p n f) (t : Nat) : AtK k w (Option.map (fun x => x.add t) p) (n - t) (sh f t) := fun h0 => by
  obtain ⟨b, off, e, hc⟩ := h (by omega)
  refine ⟨b, off + t, by rw [e]; exact congrArg some (add_addr b off t), fun j hj => ?_⟩
  have := hc (t + j) (by omega)
  rw [← Nat.add_assoc] at this
  exact this

theorem rest_any (pa pm : Option Addr) (na nm ca cm : Nat) (f g : Nat → Int) (w : World) (hna : na ≤ ca) (hca : ca ≤ 9223372036854775807) (hnm : nm ≤ cm) (hcm : cm ≤ 9223372036854775807) (ha : At w pa na f) (hg : At w pm nm g) (rf : Rg f na) (rg : Rg g nm) (hN : na ≤ 1000000) (hM : nm ≤ 1000000) (h0 : val g nm ≠ 0) :
    Calls Try.prog 29 #[.slice pa na ca, .slice pm nm cm] w fun e w' => ∃ v, e = .returned (.tuple #[v, .int .i64 0]) ∧ New w w' v (nm + 1) (val f na % val g nm) := by
  obtain ⟨i0, hi0, hz0, hz1, hz2⟩ := info_parts info64
  have hsz : (Try.prog.info? 32).map (·.size) = some 1 := by rw [hi0]; simp [hz1]
  have lf := tl_le f na
  have lg := tl_le g nm
  rw [← val_tl g nm] at h0
  rw [← val_tl f na, ← val_tl g nm]
  have ha' := ha.mono lf
  have hg' := hg.mono lg
  have rf' := rf.mono lf
  have rg' := rg.mono lg
  have ng := nm_tl g nm
  have H1 : Hid _ := trim_any pa na ca f w hna hca ha
  have H2 : Hid _ := trim_any pm nm cm g w hnm hcm hg
  clear ha hg rf rg
  generalize tl f na = m at *
  generalize tl g nm = k at *
  have hk : 0 < k := by
    rcases Nat.eq_zero_or_pos k with e | e
    · subst e; exact absurd rfl h0
    · exact e
  have hM0 : 0 < val g k := by have := (val_bd rg').1; omega
  go_enter Try.func29, Try.ntmps29
  go_wp2_with fail
  refine wp_scope_goto 0 (restJ pa pm m k ca cm f g w) (fun a' _ => slot 7 a') rfl ?_ ?_
  · rintro a' W ⟨i, d, u8, u9, u10, u11, u12, u13, u14, u15, u16, u17, u18, u19, u20, u21, u22, u23, u24, u25, u26, u27, u28, u29, u30, u31, u32, u33, u34, u35, u36, u37, u38, u39, u40, u41, u42, u43, u44, u45, rfl, hi, hbel, hs, hm', rd, hv⟩
    clear H1 H2
    cases i with
    | zero =>
      rw [show val (sh f 0) (m - 0) = val f m from val_congr fun j _ => by show f (0 + j) = f j; rw [Nat.zero_add]] at hv
      have HR : Hid _ := trim_any (some ⟨w.heap.size, 0, none⟩) (k + 1) (k + 1) d W (Nat.le_refl _) (by omega) hm'.at
      have HM : Hid _ := hm'
      have HB : Hid _ := hbel
      have HV : Hid _ := hv
      have HS : Hid _ := hs
      clear hm' hbel hv hs
      go_wp2_with fail
      refine Calls.mono HR.out ?_
      rintro e w' ⟨rfl, rfl⟩
      go_wp2
      simp only [Exit.jump]
      go_ret2
      refine ⟨_, rfl, HB.out, w.heap.size, 0, tl d (k + 1), k + 1, d, rfl, Nat.le_refl _, by rw [HS.out]; omega, tl_le _ _, by omega, MutK.mono HM.out (tl_le _ _), Rg.mono rd (tl_le _ _), nm_tl _ _, by rw [val_tl]; exact HV.out⟩
    | succ i =>
      have hgW : At W pm k g := hg'.below hbel
      obtain ⟨b, off, rfl, hcell⟩ := (ha'.below hbel) (by omega)
      have hc1 := hcell i (by omega)
      have hlt : val d (k + 1) < val g k := by rw [hv]; exact Int.emod_lt_of_pos _ hM0
      have HD : Hid _ := bringDown_any w.heap.size k (k + 1) cm d g (f i) pm W (Nat.le_refl _) (by omega) (by omega) hcm hm' hgW (fun h => hg'.apart h) rd rg' (rf' i (by omega)) hlt (by omega)
      have hstep : (val d (k + 1) * B64 + f i) % val g k = val (sh f i) (m - i) % val g k := by
        rw [show m - i = (m - (i + 1)) + 1 by omega, sh_step, hv]
        rw [Int.add_emod, Int.mul_emod, Int.emod_emod, ← Int.mul_emod, ← Int.add_emod]
      have HST : Hid _ := hstep
      have HB : Hid _ := hbel
      have HS : Hid _ := hs
      clear hstep hbel hs hv hlt hm' hcell
      go_wp2_with fail
      refine Calls.mono HD.out ?_
      rintro e w1 ⟨rfl, hu1, d1, hm1, rd1, hv1⟩
      have HU1 : Hid _ := hu1
      have HM1 : Hid _ := hm1
      have HV1 : Hid _ := hv1
      clear hu1 hm1 hv1
      go_wp2
      go_step3
      refine ⟨rfl, ⟨i, d1, _, _, _, _, _, _, _, _, _, _, _, _, _, _, _, _, _, _, _, _, _, _, _, _, _, _, _, _, _, _, _, _, _, _, _, _, _, _, rfl, by omega, Below.trans HB.out (Upd.below HU1.out (Nat.le_refl _)), (Upd.size HU1.out).trans HS.out, HM1.out, rd1, HV1.out.trans HST.out⟩, ?_⟩
      simp [slot, intOf]
  · intro hr
    go_wp2_with fail
    refine Calls.mono H1.out ?_
    rintro e w' ⟨rfl, rfl⟩
    go_wp2_with fail
    refine Calls.mono H2.out ?_
    rintro e w' ⟨rfl, rfl⟩
    have hk' : ((k : Int) == 0) = false := by simp; omega
    rcases Nat.lt_or_ge (k - 1) m with hA | hB
    · have small : val (sh f (m - (k - 1))) (m - (m - (k - 1))) < val g k := by
        have r1 : Rg (sh f (m - (k - 1))) (m - (m - (k - 1))) := fun j hj => rf' ((m - (k - 1)) + j) (by omega)
        have a1 := (val_bd r1).2
        obtain ⟨k', hk1⟩ : ∃ k', k = k' + 1 := ⟨k - 1, by omega⟩
        have a2 : pw k' ≤ val g k := by rw [hk1]; rw [hk1] at rg' ng; exact nm_lb rg' ng
        have a3 := pw_mono (show m - (m - (k - 1)) ≤ k' by omega)
        omega
      have vmod : val (sh f (m - (k - 1))) (m - (m - (k - 1))) = val (sh f (m - (k - 1))) (m - (m - (k - 1))) % val g k := (Int.emod_eq_of_lt (val_bd (fun j hj => rf' ((m - (k - 1)) + j) (by omega))).1 small).symm
      have fin : ∀ (w2 w3 : World), Below w'.heap.size w' w2 → w2.heap.size = w'.heap.size + 1 → Upd w'.heap.size 0 (0 + (m - (m - (k - 1)))) w2 w3 → MutK .u64 w3 w'.heap.size 0 (k + 1) (mix (sh f (m - (k - 1))) Z (m - (m - (k - 1)))) →
          Below w'.heap.size w' w3 ∧ w3.heap.size = w'.heap.size + 1 ∧ Mut w3 w'.heap.size 0 (k + 1) (lm (sh f (m - (k - 1))) (m - (m - (k - 1)))) ∧ Rg (lm (sh f (m - (k - 1))) (m - (m - (k - 1)))) (k + 1) ∧ val (lm (sh f (m - (k - 1))) (m - (m - (k - 1)))) (k + 1) = val (sh f (m - (k - 1))) (m - (m - (k - 1))) % val g k := fun w2 w3 q1 q2 q3 q4 =>
        ⟨q1.trans (q3.below (Nat.le_refl _)), q3.size.trans q2, q4, lm_rg (fun j hj => rf' ((m - (k - 1)) + j) (by omega)) _, by rw [val_lm _ _ _ (by omega)]; exact vmod⟩
      have FIN : Hid _ := fin
      have HA2 : Hid (∀ w1, Below w'.heap.size w' w1 → AtK .u64 w1 (Option.map (fun x => x.add (m - (k - 1))) pa) (m - (m - (k - 1))) (sh f (m - (k - 1)))) := fun w1 hb1 => (ha'.below hb1).shift (m - (k - 1))
      clear fin vmod small
      by_cases hcat : ca = (m - (k - 1))
      · have k1 : k = 1 := by omega
        have n1 : na = m := by omega
        have c1 : ca = m := by omega
        subst k1 n1 c1
        clear hcat
        go_wp2_with (first
          | (at_make; refine wpList_make_lim _ .u64 rfl _ _ 51 32 rfl Try.underlying51 i0 hi0 hz0 hz1 (by omega) .i64 .i64 _ _ (1 + 1) rfl rfl (by omega) (by omega) (by omega) ?_; intro w1 hb1 hs1 hm1)
          | (refine wpList_copy_lim .u64 (by rfl) (.tmp 28) (.tmp 31) 51 51 (by rfl) 32 Try.underlying51 hsz w'.heap.size 0 (1 + 1) (1 + 1) _ 0 _ Z (sh f (ca - (1 - 1))) (by rfl) (by rfl) hm1 (fun h => absurd h (by omega)) (by omega) ?_; intro w2 hu2 hm2))
        go_step3
        rename_i K hK
        refine hK _ _ (hr _ _ ⟨ca, Z, _, _, _, _, _, _, _, _, _, _, _, _, _, _, _, _, _, _, _, _, _, _, _, _, _, _, _, _, _, _, _, _, _, _, _, _, _, _, rfl, by omega, hb1.trans (hu2.below (Nat.le_refl _)), hu2.size.trans hs1, hm2.congr (fun j _ => mix_zero _ _ _), fun _ _ => ⟨Int.le_refl _, B64_pos⟩, ?_⟩)
        rw [val_zero (f := Z) (fun _ _ => rfl), show ca - ca = 0 by omega]
        simp [val]
      · have hA' : (k : Int) - 1 < (m : Int) := by omega
        go_wp2_with (first
          | (at_make; refine wpList_make_lim _ .u64 rfl _ _ 51 32 rfl Try.underlying51 i0 hi0 hz0 hz1 (by omega) .i64 .i64 _ _ (k + 1) rfl rfl (by omega) (by omega) (by omega) ?_; intro w1 hb1 hs1 hm1)
          | (refine wpList_copy_lim .u64 (by rfl) (.tmp 28) (.tmp 31) 51 51 (by rfl) 32 Try.underlying51 hsz w'.heap.size 0 (k + 1) (k + 1) (Option.map (fun x => x.add (m - (k - 1))) pa) (m - (m - (k - 1))) (ca - (m - (k - 1))) Z (sh f (m - (k - 1))) (by rfl) (by rfl) hm1 (HA2.out _ hb1) (by omega) ?_; intro w2 hu2 hm2))
        rw [show ((m : Int) - ((k : Int) - 1)) = (((m - (k - 1)) : Nat) : Int) by omega]
        go_step3
        rename_i K hK
        obtain ⟨q1, q2, q3, q4, q5⟩ := FIN.out _ _ hb1 hs1 hu2 hm2
        exact hK _ _ (hr _ _ ⟨(m - (k - 1)), _, _, _, _, _, _, _, _, _, _, _, _, _, _, _, _, _, _, _, _, _, _, _, _, _, _, _, _, _, _, _, _, _, _, _, _, _, _, _, rfl, by omega, q1, q2, q3, q4, q5⟩)
    · have small : val f m < val g k := by
        have a1 := (val_bd rf').2
        obtain ⟨k', hk1⟩ : ∃ k', k = k' + 1 := ⟨k - 1, by omega⟩
        have a2 : pw k' ≤ val g k := by rw [hk1]; rw [hk1] at rg' ng; exact nm_lb rg' ng
        have a3 := pw_mono (show m ≤ k' by omega)
        omega
      have vmod : val f m = val f m % val g k := (Int.emod_eq_of_lt (val_bd rf').1 small).symm
      have HVM : Hid _ := vmod
      have hB' : (m : Int) ≤ (k : Int) - 1 := by omega
      clear vmod small
      go_wp2_with (first
        | (at_make; refine wpList_make_lim _ .u64 rfl _ _ 51 32 rfl Try.underlying51 i0 hi0 hz0 hz1 (by omega) .i64 .i64 _ _ (k + 1) rfl rfl (by omega) (by omega) (by omega) ?_; intro w1 hb1 hs1 hm1)
        | (refine wpList_copy_lim .u64 (by rfl) (.tmp 28) (.tmp 31) 51 51 (by rfl) 32 Try.underlying51 hsz w'.heap.size 0 (k + 1) (k + 1) pa m ca Z f (by rfl) (by rfl) hm1 (ha'.below hb1) (by omega) ?_; intro w2 hu2 hm2))
      go_step3
      rename_i K hK
      refine hK _ _ (hr _ _ ⟨0, lm f m, _, _, _, _, _, _, _, _, _, _, _, _, _, _, _, _, _, _, _, _, _, _, _, _, _, _, _, _, _, _, _, _, _, _, _, _, _, _, rfl, by omega, hb1.trans (hu2.below (Nat.le_refl _)), hu2.size.trans hs1, hm2, lm_rg rf' _, ?_⟩)
      rw [val_lm _ _ _ (by omega), show val (sh f 0) (m - 0) = val f m from val_congr fun j _ => by show f (0 + j) = f j; rw [Nat.zero_add]]
      exact HVM.out
end Go.Proofs.Ytccidmogamnihaa

/- What math/bits.Len64 and limb.size answer, for every call. -/
namespace Go.Proofs.Ytccidmogamnihaa
set_option maxRecDepth 4000
open Go.RowKit

def sz (f : Nat → Int) (n : Nat) : Nat := if tl f n = 0 then 0 else 8 * (tl f n - 1) + (bitLen (f (tl f n - 1)).toNat + 7) / 8

def byt (f : Nat → Int) (n i : Nat) : Int := lm f n (i / 8) / 2 ^ (8 * (i % 8)) % 256

theorem info8 : (Try.prog.info? 5).map (fun i => (i.zero, i.size, i.bytes)) = some (some (.int .u8 0), 1, 1) := by kernel_rfl

end Go.Proofs.Ytccidmogamnihaa

/- What limb.Take answers, for every call. -/
namespace Go.Proofs.Ytccidmogamnihaa
set_option maxRecDepth 4000
open Go.RowKit
attribute [local go_sem ↓] Go.wp_at_zero Go.wp_at_succ

def v8 (h : Nat → Int) : Nat → Int
  | 0 => 0
  | k + 1 => v8 h k + h k * 2 ^ (8 * k)

theorem v8_bd {h : Nat → Int} {k : Nat} (hh : ∀ t, t < k → 0 ≤ h t ∧ h t < 256) : 0 ≤ v8 h k ∧ v8 h k < 2 ^ (8 * k) := by
  induction k with
  | zero => exact ⟨Int.le_refl _, by simp [v8]⟩
  | succ k ih =>
    have a := ih (fun t ht => hh t (by omega))
    have b := hh k (by omega)
    have p : (0 : Int) < 2 ^ (8 * k) := Int.pow_pos (by decide)
    have m0 := Int.mul_nonneg b.1 (Int.le_of_lt p)
    have m1 := mul_le_of (show h k ≤ 255 by omega) (Int.le_of_lt p)
    rw [v8, show 8 * (k + 1) = 8 * k + 8 by omega, Int.pow_add]
    show _ ∧ _ < 2 ^ (8 * k) * 256
    omega

def pl (g : Nat → Int) (n i q : Nat) : Int := v8 (fun t => g (n - 1 - (8 * q + t))) (min 8 (i - 8 * q))

theorem pl_rg {g : Nat → Int} {n i : Nat} (hi : i ≤ n) (hg : ∀ j, j < n → 0 ≤ g j ∧ g j < 256) (m : Nat) : Rg (pl g n i) m := fun q _ => by
  have a := v8_bd (h := fun t => g (n - 1 - (8 * q + t))) (k := min 8 (i - 8 * q)) (fun t ht => hg _ (by omega))
  refine ⟨a.1, Int.lt_of_lt_of_le a.2 ?_⟩
  have : (2 : Int) ^ (8 * min 8 (i - 8 * q)) ≤ 2 ^ 64 := by
    have := Nat.pow_le_pow_right (show 0 < 2 by decide) (show 8 * min 8 (i - 8 * q) ≤ 64 by omega)
    exact_mod_cast this
  exact this

theorem pl_other {g : Nat → Int} {n i q : Nat} (h : q ≠ i / 8) : pl g n (i + 1) q = pl g n i q := by
  unfold pl
  rw [show min 8 (i + 1 - 8 * q) = min 8 (i - 8 * q) by omega]

theorem pl_at (g : Nat → Int) (n i : Nat) : pl g n (i + 1) (i / 8) = pl g n i (i / 8) + g (n - 1 - i) * 2 ^ (8 * (i % 8)) := by
  unfold pl
  rw [show min 8 (i + 1 - 8 * (i / 8)) = i % 8 + 1 by omega, show min 8 (i - 8 * (i / 8)) = i % 8 by omega, v8, show 8 * (i / 8) + i % 8 = i by omega]

theorem pl_low {g : Nat → Int} {n i : Nat} (hi : i ≤ n) (hg : ∀ j, j < n → 0 ≤ g j ∧ g j < 256) : 0 ≤ pl g n i (i / 8) ∧ pl g n i (i / 8) < 2 ^ (8 * (i % 8)) := by
  have a := v8_bd (h := fun t => g (n - 1 - (8 * (i / 8) + t))) (k := i % 8) (fun t ht => hg _ (by omega))
  unfold pl
  rw [show min 8 (i - 8 * (i / 8)) = i % 8 by omega]
  exact a

theorem or_step (a x : Int) (s : Nat) (hs : s ≤ 56) (ha : 0 ≤ a ∧ a < 2 ^ s) (hx : 0 ≤ x ∧ x < 256) :
    bits BinOp.or IntKind.u64 a (IntKind.u64.wrap (IntKind.u64.wrap x * 2 ^ s)) = a + x * 2 ^ s := by
  obtain ⟨A, rfl⟩ := Int.eq_ofNat_of_zero_le ha.1
  obtain ⟨X, rfl⟩ := Int.eq_ofNat_of_zero_le hx.1
  have hA : A < 2 ^ s := by have := ha.2; exact_mod_cast this
  have hX : X < 256 := by omega
  have hp : 2 ^ s ≤ 2 ^ 56 := Nat.pow_le_pow_right (by decide) hs
  have hm : X * 2 ^ s ≤ 255 * 2 ^ 56 := Nat.mul_le_mul (by omega) hp
  have w1 : IntKind.u64.wrap (X : Int) = (X : Int) := by rw [IntKind.wrap_u64]; omega
  have w2 : IntKind.u64.wrap ((X : Int) * 2 ^ s) = ((X * 2 ^ s : Nat) : Int) := by
    rw [IntKind.wrap_u64, show (X : Int) * 2 ^ s = ((X * 2 ^ s : Nat) : Int) by simp]
    omega
  rw [w1, w2, bits_or_u64_nat A (X * 2 ^ s) (by omega) (by omega)]
  rw [show X * 2 ^ s = 2 ^ s * X by rw [Nat.mul_comm], Nat.or_comm, ← Nat.two_pow_add_eq_or_of_lt hA]
  simp [Int.add_comm, Int.mul_comm]

def takeJ (p : Option Addr) (n cap L : Nat) (g : Nat → Int) (w : World) : Act → World → Prop := fun a' w' => ∃ (i : Nat) (u5 u6 u7 u8 u9 u10 u11 u12 u13 u14 u15 u16 u17 u18 u19 u20 u21 u22 u23 u24 u25 u26 u27 u28 u29 u30 u31 u32 u33 u34 u35 u36 u37 u38 : Value),
  a' = { tmps := #[.slice p n cap, undef, .slice none 0 0, .slice (some ⟨w.heap.size, 0, none⟩) L L, .int .i64 i, u5, u6, u7, u8, u9, u10, u11, u12, u13, u14, u15, u16, u17, u18, u19, u20, u21, u22, u23, u24, u25, u26, u27, u28, u29, u30, u31, u32, u33, u34, u35, u36, u37, u38], defers := [] } ∧
  i ≤ n ∧ Below w.heap.size w w' ∧ w'.heap.size = w.heap.size + 1 ∧ Mut w' w.heap.size 0 L (pl g n i)

theorem take_any (p : Option Addr) (n cap : Nat) (g : Nat → Int) (w : World) (_hn : n ≤ cap) (hc : AtK .u8 w p n g) (hg : ∀ j, j < n → 0 ≤ g j ∧ g j < 256) (hN : n ≤ 1000000) :
    Calls Try.prog 30 #[.slice p n cap] w fun e w' => ∃ v, e = .returned v ∧ New w w' v ((n + 7) / 8) (val (pl g n n) ((n + 7) / 8)) := by
  obtain ⟨i0, hi0, hz0, hz1, hz2⟩ := info_parts info64
  obtain ⟨L, hL⟩ : ∃ L, L = (n + 7) / 8 := ⟨_, rfl⟩
  rw [← hL]
  have l1 : n ≤ 8 * L := by omega
  have l2 : 8 * L ≤ n + 7 := by omega
  have HL : Hid _ := hL
  clear hL
  go_enter Try.func30, Try.ntmps30
  go_wp2_with fail
  refine wp_scope_goto 0 (takeJ p n cap L g w) (fun a' _ => n - slot 4 a') rfl ?_ ?_
  · rintro a' W ⟨i, u5, u6, u7, u8, u9, u10, u11, u12, u13, u14, u15, u16, u17, u18, u19, u20, u21, u22, u23, u24, u25, u26, u27, u28, u29, u30, u31, u32, u33, u34, u35, u36, u37, u38, rfl, hi, hbel, hs, hm⟩
    by_cases hlt : i < n
    · obtain ⟨b, off, rfl, hcell⟩ := (hc.below hbel) (by omega)
      have hc1 := hcell (n - 1 - i) (by omega)
      obtain ⟨hc0, hz⟩ := hm (i / 8) (by omega)
      rw [Nat.zero_add] at hc0 hz
      have HM : Hid _ := hm
      have HB : Hid _ := hbel
      have HS : Hid _ := hs
      clear hcell hm hbel hs hc
      have i1 : (0 : Int) ≤ (i : Int) := by omega
      have i2 : (i : Int) / 8 < (L : Int) := by omega
      have i3 : (0 : Int) ≤ (n : Int) - 1 - (i : Int) := by omega
      have i4 : (n : Int) - 1 - (i : Int) < (n : Int) := by omega
      have i5 : (0 : Int) ≤ 8 * ((i : Int) % 8) := by omega
      have i6 : 8 * ((i : Int) % 8) < 64 := by omega
      go_wp2
      go_region
      rw [or_step (pl g n i (i / 8)) (g (n - 1 - i)) (8 * (i % 8)) (by omega) (pl_low hi hg) (hg _ (by omega)), ← pl_at g n i]
      go_wp2
      go_step3
      refine ⟨rfl, ⟨i + 1, _, _, _, _, _, _, _, _, _, _, _, _, _, _, _, _, _, _, _, _, _, _, _, _, _, _, _, _, _, _, _, _, _, _, rfl, by omega, (Below.setCell HB.out (by exact Nat.le_refl _) _).drew, by rw [World.size_drew, World.size_setCell]; exact HS.out, ?_⟩, ?_⟩
      · refine (MutK.congr (MutK.set0 (i := i / 8) HM.out (by omega) _) fun j _ => ?_).drew
        by_cases e : j = i / 8
        · subst e; rw [up_at]
        · rw [up_ne e, pl_other e]
      · simp [slot, intOf]; omega
    · have e : i = n := by omega
      subst e
      have r := pl_rg (Nat.le_refl i) hg L
      have HR : Hid _ := trim_any (some ⟨w.heap.size, 0, none⟩) L L (pl g i i) W (Nat.le_refl _) (by omega) hm.at
      have HM : Hid _ := hm
      have HB : Hid _ := hbel
      have HS : Hid _ := hs
      clear hm hbel hs hc
      go_wp2_with fail
      refine Calls.mono HR.out ?_
      rintro e w' ⟨rfl, rfl⟩
      go_wp2
      simp only [Exit.jump]
      go_ret
      exact ⟨_, rfl, HB.out, w.heap.size, 0, tl (pl g i i) L, L, _, rfl, Nat.le_refl _, by rw [HS.out]; omega, tl_le _ _, Nat.le_refl _, MutK.mono HM.out (tl_le _ _), Rg.mono r (tl_le _ _), nm_tl _ _, val_tl _ _⟩
  · intro hr
    go_wp2_with (at_make; refine wpList_make_lim _ .u64 rfl _ _ 51 32 rfl Try.underlying51 i0 hi0 hz0 hz1 (by omega) .i64 .i64 _ _ L rfl rfl (by omega) (by omega) (by omega) ?_; intro w1 hb1 hs1 hm1)
    go_step3
    rename_i K hK
    refine hK _ _ (hr _ _ ⟨0, _, _, _, _, _, _, _, _, _, _, _, _, _, _, _, _, _, _, _, _, _, _, _, _, _, _, _, _, _, _, _, _, _, _, rfl, by omega, hb1, hs1, hm1.congr fun j _ => ?_⟩)
    unfold pl
    rw [show min 8 (0 - 8 * j) = 0 by omega]; rfl
end Go.Proofs.Ytccidmogamnihaa

/- What the statements' own helpers same and begun answer. -/
namespace Go.Proofs.Ytccidmogamnihaa
set_option maxRecDepth 4000
open Go.RowKit

theorem below_draws {B : Nat} {a w : World} (h : Below B a w) (n : Nat) : Below B a (w.drewN n) := h.trans ⟨rfl, rfl, rfl, Nat.le_refl _, fun _ _ => rfl⟩

def one (x : Int) : Nat → Int := fun i => if i = 0 then x else 0
theorem one_rg {x : Int} (h : 0 ≤ x ∧ x < B64) (n : Nat) : Rg (one x) n := fun i _ => by
  unfold one; split
  · exact h
  · exact ⟨Int.le_refl _, B64_pos⟩
theorem below_one (w : World) (o : Obj) : Below w.heap.size w (w.alloc o) := (Below.refl _ _).alloc (Nat.le_refl _) _
theorem below_two (w : World) (o o' : Obj) : Below w.heap.size w ((w.alloc o).alloc o') := (below_one w o).alloc (by rw [World.size_alloc]; omega) _
theorem Below.up {B : Nat} {w x y : World} (h : Below B w x) (hB : B ≤ w.heap.size) (k : Below x.heap.size x y) : Below B w y := h.trans (k.mono (Nat.le_trans hB h.size))

end Go.Proofs.Ytccidmogamnihaa

/- What a slice that comes in gives the walks; the statement LimbLine's walk. -/
namespace Go.Proofs.Ytccidmogamnihaa
set_option maxRecDepth 4000
open Go.RowKit

def IsRow (k : IntKind) (w : World) (a : Option Addr) (len cap : Nat) (zs : List Int) : Prop :=
  (a = none ∧ len = 0 ∧ cap = 0 ∧ zs = []) ∨
  ∃ x, a = some x ∧ len ≤ cap ∧ cap ≤ maxLen ∧ zs.length = cap ∧ (∀ i, i < zs.length → w.cell? (x.add i) = some (.int k (zs.getD i 0))) ∧ ∀ n ∈ zs, (Lit.int k n).wf = true

theorem IsRow.at {k : IntKind} {w : World} {a : Option Addr} {len cap : Nat} {zs : List Int} (h : IsRow k w a len cap zs) :
    AtK k w a len (fun i => zs.getD i 0) ∧ len ≤ cap ∧ cap ≤ 9223372036854775807 := by
  rcases h with ⟨rfl, rfl, rfl, rfl⟩ | ⟨x, rfl, h1, h2, h3, h4, h5⟩
  · exact ⟨fun h => absurd h (by omega), Nat.le_refl _, by decide⟩
  · refine ⟨fun h0 => ?_, h1, h2⟩
    obtain ⟨b, off, rfl, hc⟩ := ints_at h4 (by omega)
    exact ⟨b, off, rfl, fun j hj => hc j (by omega)⟩

theorem IsRow.rg {w : World} {a : Option Addr} {len cap : Nat} {zs : List Int} (h : IsRow .u64 w a len cap zs) : Rg (fun i => zs.getD i 0) len := fun i hi => by
  rcases h with ⟨rfl, rfl, rfl, rfl⟩ | ⟨x, rfl, h1, h2, h3, h4, h5⟩
  · omega
  · have hm : zs.getD i 0 ∈ zs := by
      rw [List.getD_eq_getElem?_getD, List.getElem?_eq_getElem (by omega)]
      exact List.getElem_mem _
    have := bounds_u64 (h5 _ hm)
    refine ⟨this.1, ?_⟩
    rw [B64_eq]
    show zs.getD i 0 < _
    omega
end Go.Proofs.Ytccidmogamnihaa

/- A slice that the call itself made and appends to; what the document's Cut and limb answer. -/
namespace Go.Proofs.Ytccidmogamnihaa
set_option maxRecDepth 4000
open Go.RowKit

def Own (w : World) (B e : Nat) (k : IntKind) (v : Value) (n : Nat) (f : Nat → Int) : Prop := w.ownsRow B e 1 v n ((List.range n).map fun j => .int k (f j))

theorem Own.nil (w : World) (B e : Nat) (k : IntKind) (f : Nat → Int) : Own w B e k (.slice none 0 0) 0 f := World.ownsRow_nil w B e 1
theorem Own.empty (w : World) {B : Nat} (e : Nat) (k : IntKind) (f : Nat → Int) (hB : B ≤ w.heap.size) : Own (w.alloc (.cells #[] e)) B e k (.slice (some ⟨w.heap.size, 0, none⟩) 0 0) 0 f :=
  World.ownsRow_lit w #[] 0 hB (Nat.zero_le _) rfl
theorem Own.congr {w : World} {B e : Nat} {k : IntKind} {v : Value} {n : Nat} {f g : Nat → Int} (h : Own w B e k v n f) (hfg : ∀ i, i < n → f i = g i) : Own w B e k v n g := by
  have : ((List.range n).map fun j => Value.int k (f j)) = (List.range n).map fun j => Value.int k (g j) :=
    List.map_congr_left fun j hj => by rw [hfg j (by simpa using hj)]
  unfold Own at *
  rwa [this] at h

theorem Own.form {w : World} {B e : Nat} {k : IntKind} {v : Value} {n : Nat} {f : Nat → Int} (h : Own w B e k v n f) :
    (v = .slice none 0 0 ∧ n = 0) ∨ ∃ g cap, v = .slice (some ⟨g, 0, none⟩) n cap ∧ B ≤ g ∧ g < w.heap.size ∧ n ≤ cap ∧ cap ≤ 9223372036854775807 ∧ MutK k w g 0 n f := by
  rcases h.2 with h | ⟨g, cap, cur, rfl, hB, hg, hn, hm, hs, ht⟩
  · exact Or.inl h
  · refine Or.inr ⟨g, cap, rfl, hB, ?_, hn, hm, fun j hj => ?_⟩
    · rcases Nat.lt_or_ge g w.heap.size with c | c
      · exact c
      · rw [Array.getElem?_eq_none c] at hg; simp at hg
    · rw [Nat.mul_one] at ht hs
      have e1 : cur[j]? = some (.int k (f j)) := by
        have e2 : (cur.toList.take n)[j]? = some (.int k (f j)) := by rw [ht]; simp [hj]
        rw [List.getElem?_take_of_lt hj] at e2
        simpa using e2
      rw [Nat.zero_add]
      refine ⟨?_, ?_⟩
      · unfold World.cell?
        simp only [hg]
        simpa using e1
      · unfold World.frozen?
        simp only [hg]
        simp

theorem Own.below {w w' : World} {B e : Nat} {k : IntKind} {v : Value} {n : Nat} {f : Nat → Int} (h : Own w B e k v n f) (hb : Below w.heap.size w w') : Own w' B e k v n f := by
  refine ⟨h.1, ?_⟩
  rcases h.2 with h2 | ⟨g, cap, cur, hv, hB, hg, r⟩
  · exact Or.inl h2
  · refine Or.inr ⟨g, cap, cur, hv, hB, ?_, r⟩
    rw [hb.block g ?_]
    · exact hg
    · rcases Nat.lt_or_ge g w.heap.size with c | c
      · exact c
      · rw [Array.getElem?_eq_none c] at hg; simp at hg

def cat (f : Nat → Int) (n : Nat) (g : Nat → Int) : Nat → Int := fun j => if j < n then f j else g (j - n)
def NewP (w w' : World) (v : Value) (N : Nat) (x : Int) : Prop :=
  Below w.heap.size w w' ∧ ∃ (p : Option Addr) (n c : Nat) (h : Nat → Int), v = .slice p n c ∧ n ≤ c ∧ c ≤ 9223372036854775807 ∧ n ≤ N ∧ At w' p n h ∧ Rg h n ∧ Nm h n ∧ val h n = x

theorem Own.newP {w w' : World} {e : Nat} {v : Value} {n N : Nat} {f : Nat → Int} {x : Int} (h : Own w' w.heap.size e .u64 v n f) (hb : Below w.heap.size w w') (hN : n ≤ N) (r : Rg f n) (m : Nm f n) (hv : val f n = x) : NewP w w' v N x := by
  rcases h.form with ⟨rfl, rfl⟩ | ⟨g, cap, rfl, _, _, h1, h2, h3⟩
  · exact ⟨hb, none, 0, 0, f, rfl, Nat.le_refl _, by decide, hN, AtK.nil, r, m, hv⟩
  · exact ⟨hb, _, n, cap, f, rfl, h1, h2, hN, h3.at, r, m, hv⟩

end Go.Proofs.Ytccidmogamnihaa

/- What the document's Compare, Sum and Less answer. -/
namespace Go.Proofs.Ytccidmogamnihaa
set_option maxRecDepth 4000
open Go.RowKit
set_option linter.unusedVariables false

theorem Own.slice {w : World} {B e : Nat} {k : IntKind} {v : Value} {n : Nat} {f : Nat → Int} (h : Own w B e k v n f) : ∃ p c, v = .slice p n c ∧ n ≤ c ∧ c ≤ 9223372036854775807 ∧ AtK k w p n f := by
  rcases h.form with ⟨rfl, rfl⟩ | ⟨g, cap, rfl, _, _, h1, h2, h3⟩
  · exact ⟨none, 0, rfl, Nat.le_refl _, by decide, AtK.nil⟩
  · exact ⟨_, cap, rfl, h1, h2, h3.at⟩
theorem Own.base {w : World} {B B' e : Nat} {k : IntKind} {v : Value} {n : Nat} {f : Nat → Int} (h : Own w B e k v n f) (hB : B' ≤ B) : Own w B' e k v n f := by
  refine ⟨h.1, ?_⟩
  rcases h.2 with h2 | ⟨g, cap, cur, hv, hb, r⟩
  · exact Or.inl h2
  · exact Or.inr ⟨g, cap, cur, hv, Nat.le_trans hB hb, r⟩
end Go.Proofs.Ytccidmogamnihaa

/- What the document's Less answers. -/
namespace Go.Proofs.Ytccidmogamnihaa
open Go.RowKit
set_option maxRecDepth 4000
set_option linter.unusedVariables false

end Go.Proofs.Ytccidmogamnihaa

/- What the document's Rest answers. -/
namespace Go.Proofs.Ytccidmogamnihaa
set_option maxRecDepth 4000
open Go.RowKit
set_option linter.unusedVariables false

theorem two_pow_64 (q : Nat) : (2 : Int) ^ (64 * q) = pw q := by
  induction q with
  | zero => rfl
  | succ q ih =>
    rw [show 64 * (q + 1) = 64 * q + 64 by omega, Int.pow_add, ih, pw]; rfl

end Go.Proofs.Ytccidmogamnihaa

/- What the document's below and sub answer: numbers of as many limbs. -/
namespace Go.Proofs.Ytccidmogamnihaa
set_option maxRecDepth 4000
open Go.RowKit
attribute [local go_sem ↓] Go.wp_at_zero Go.wp_at_succ
set_option linter.unusedVariables false

theorem below_any (pa pm : Option Addr) (na n ca cm : Nat) (f g : Nat → Int) (w : World) (hle : n ≤ na) (hna : na ≤ 1000) (ha : At w pa na f) (hm : At w pm n g) (rf : Rg f n) (rg : Rg g n) :
    Calls Try.prog 21 #[.slice pa na ca, .slice pm n cm] w fun e w' => e = .returned (.bool (decide (val f n < val g n))) ∧ ∃ q, w' = w.drewN q := by
  go_enter Try.func21, Try.ntmps21
  go_wp2
  go_loopw [5] (fun i wr => ∃ j q : Nat, j ≤ n ∧ i = .int .i64 ((j : Int) - 1) ∧ (∀ t, j ≤ t → t < n → f t = g t) ∧ wr = w.drewN q) (fun i _ => (intOf i + 1).toNat)
  case atStart => exact ⟨n, 0, Nat.le_refl _, rfl, fun t h1 h2 => absurd h1 (by omega), rfl⟩
  case round =>
    obtain ⟨j, q, hj, rfl, ht, hq⟩ := hrel
    cases j with
    | zero =>
      have E : Hid _ := val_congr (f := f) (g := g) (n := n) (fun i hi => ht i (by omega) hi)
      have HQ : Hid _ := hq
      clear ht hq ha hm
      go_wp2
      go_ret
      exact ⟨by rw [E.out]; simp, q, HQ.out⟩
    | succ j =>
      obtain ⟨b1, o1, rfl, d1⟩ := ha (by omega)
      obtain ⟨b2, o2, rfl, d2⟩ := hm (by omega)
      have g1 : wr.cell? ⟨b1, o1 + j, none⟩ = some (.int .u64 (f j)) := by rw [hq]; exact d1 j (by omega)
      have g2 : wr.cell? ⟨b2, o2 + j, none⟩ = some (.int .u64 (g j)) := by rw [hq]; exact d2 j (by omega)
      have HQ : Hid _ := hq
      have HT : Hid _ := ht
      clear hq ht ha hm d1 d2
      rw [show ((j + 1 : Nat) : Int) - 1 = (j : Int) by omega]
      by_cases heq : f j = g j
      · go_wp2
        go_quiet (fail)
        go_wp2
        go_roundw
        case rel =>
          refine ⟨j, _, by omega, by go_num, ?_, by rw [HQ.out, World.drewN_drewN]⟩
          intro t h1 h2
          by_cases e : t = j
          · subst e; exact heq
          · exact HT.out t (by omega) h2
        case measure => simp [intOf]
      · have E : Hid _ := ord_at rf rg (k := j) (by omega) (fun t h1 h2 => HT.out t (by omega) h2) heq
        have hd : (f j == g j) = false := by simpa using heq
        go_wp2
        go_quiet (fail)
        go_wp2
        have g3 : (wr.drewN nq).cell? ⟨b1, o1 + j, none⟩ = some (.int .u64 (f j)) := g1
        have g4 : (wr.drewN nq).cell? ⟨b2, o2 + j, none⟩ = some (.int .u64 (g j)) := g2
        have QV : Hid (wr.drewN nq = w.drewN (q + nq)) := by show _ = _; rw [HQ.out, World.drewN_drewN]
        clear g1 g2
        generalize wr.drewN nq = V at *
        by_cases hlt : f j < g j
        · have HL : Hid (val f n < val g n) := by
            have := E.out; rw [ord_lt hlt] at this
            exact ord_neg_iff.1 (by rw [this]; decide)
          go_quiet (fail)
          go_wp2
          go_ret
          exact ⟨by rw [decide_eq_true HL.out]; rfl, _, by rw [QV.out, World.drewN_drewN]⟩
        · have HL : Hid (decide (val f n < val g n) = false) := by
            have := E.out; rw [ord_gt (show g j < f j by omega)] at this
            refine decide_eq_false fun h => ?_
            have h' := ord_neg_iff.2 h
            rw [this] at h'
            exact absurd h' (by decide)
          go_quiet (fail)
          go_wp2
          go_ret
          exact ⟨by rw [HL.out]; rfl, _, by rw [QV.out, World.drewN_drewN]⟩

theorem refSub_any (b off nt ct : Nat) (f : Nat → Int) (pm : Option Addr) (n cm : Nat) (g : Nat → Int) (w : World) (hn : n ≤ nt) (hnt : nt ≤ 1000) (hM : Mut w b off nt f) (hm : At w pm n g)
    (hne : 0 < n → ∀ b' o', pm = some ⟨b', o', none⟩ → b' ≠ b) (rf : Rg f n) (rg : Rg g n) :
    Calls Try.prog 56 #[.slice (some ⟨b, off, none⟩) nt ct, .slice pm n cm] w fun e w' => e = .returned (.tuple #[]) ∧ Upd b off (off + n) w w' ∧ Mut w' b off nt (mix (df f g) f n) := by
  go_enter Try.func56, Try.ntmps56
  go_wp2
  go_loopw [4, 5] (fun c i wr => ∃ j : Nat, j ≤ n ∧ i = .int .i64 j ∧ c = .int .u64 (bw f g j) ∧ Upd b off (off + n) w wr ∧ Mut wr b off nt (mix (df f g) f j)) (fun _ i _ => n - (intOf i).toNat)
  case atStart => exact ⟨0, Nat.zero_le _, rfl, rfl, Upd.refl _ _ _ _, hM.congr (fun j _ => (mix_zero _ _ _).symm)⟩
  case round =>
    obtain ⟨i, hi, rfl, rfl, hu, hW⟩ := hrel
    by_cases hlt : i < n
    · obtain ⟨b2, o2, rfl, d2⟩ := (hm.upd hu hne) (by omega)
      have g2 := d2 i hlt
      obtain ⟨g1, gz⟩ := hW i (by omega)
      rw [mix_hi (Nat.le_refl i)] at g1
      have hs := sub64_call (f i) (g i) (bw f g i) (rf i hlt) (rg i hlt) (bw_bd _ _ _)
      rw [show (f i + B64 - g i - bw f g i) % B64 = df f g i from rfl, show (if f i < g i + bw f g i then (1 : Int) else 0) = bw f g (i + 1) from rfl] at hs
      have HW : Hid _ := hW
      have HU : Hid _ := hu
      clear hW hu hm hM d2
      go_wp2
      go_region_with (fail)
      all_goals
        go_wp2
        go_roundw
        case rel => exact ⟨i + 1, by omega, by go_num, rfl, (Upd.setCell HU.out (by omega) (by omega) _).drew, (MutK.step HW.out (by omega)).drew⟩
        case measure => simp [intOf]; omega
    · have e : n = i := by omega
      subst e
      have HW : Hid _ := hW
      have HU : Hid _ := hu
      clear hW hu hm hM
      go_wp2
      go_end0
      exact ⟨rfl, HU.out, HW.out⟩
end Go.Proofs.Ytccidmogamnihaa

/- What the document's plus and minus answer: sums and differences modulo m. -/
namespace Go.Proofs.Ytccidmogamnihaa
set_option maxRecDepth 4000
open Go.RowKit
attribute [local go_sem ↓] Go.wp_at_zero Go.wp_at_succ
set_option linter.unusedVariables false

def Fix (w w' : World) (v : Value) (n : Nat) (x : Int) : Prop :=
  Below w.heap.size w w' ∧ ∃ (b off c : Nat) (h : Nat → Int), v = .slice (some ⟨b, off, none⟩) n c ∧ w.heap.size ≤ b ∧ b < w'.heap.size ∧ n ≤ c ∧ c ≤ 1000 ∧ Mut w' b off n h ∧ Rg h n ∧ val h n = x

theorem mod_once {x M : Int} (h0 : 0 ≤ x) (h1 : x < 2 * M) : x % M = if x < M then x else x - M := by
  split
  · exact Int.emod_eq_of_lt h0 (by omega)
  · have e : x % M = (x - M) % M := by rw [Int.sub_emod_right]
    rw [e]; exact Int.emod_eq_of_lt (by omega) (by omega)
theorem val_df_top {f m : Nat → Int} {n : Nat} {c : Int} (rf : Rg f n) (rm : Rg m n) (h0 : val m n ≤ val f n + c * pw n) (h1 : val f n + c * pw n - val m n < pw n) (hc : c = 0 ∨ c = 1) :
    val (df f m) n = val f n + c * pw n - val m n := by
  have e := val_df rf rm
  have b := bw_bd f m n
  have d := val_bd (df_rg f m n)
  have p := pw_pos n
  have hb : bw f m n = 0 ∨ bw f m n = 1 := by omega
  rcases hc with rfl | rfl <;> rcases hb with hb | hb <;> rw [hb] at e <;> simp only [Int.zero_mul, Int.one_mul] at * <;> omega

theorem plus_any (pa pb pm : Option Addr) (n ca cb cm : Nat) (f g m : Nat → Int) (w : World) (hn : n ≤ 900) (h0 : 0 < n) (ha : At w pa n f) (hb : At w pb n g) (hm : At w pm n m) (rf : Rg f n) (rg : Rg g n) (rm : Rg m n) (lf : val f n < val m n) (lg : val g n < val m n) :
    Calls Try.prog 45 #[.slice pa n ca, .slice pb n cb, .slice pm n cm] w fun e w' => ∃ v, e = .returned v ∧ Fix w w' v n ((val f n + val g n) % val m n) := by
  obtain ⟨i0, hi0, hz0, hz1, hz2⟩ := info_parts info64
  have q8 : i0.bytes ≤ 8 := by omega
  clear hz2
  have bf := val_bd rf
  have bg := val_bd rg
  have bm := val_bd rm
  have E1 := mod_once (x := val f n + val g n) (M := val m n) (by omega) (by omega)
  generalize (val f n + val g n) % val m n = X at *
  have HX : Hid _ := E1
  have LF : Hid _ := lf
  have LG : Hid _ := lg
  clear E1 lf lg
  have hap : ∀ b' o', pm = some ⟨b', o', none⟩ → b' ≠ w.heap.size := hm.apart h0
  go_enter Try.func45, Try.ntmps45
  go_wp2_with (at_make; refine wpList_make_lim _ .u64 rfl _ _ 51 32 rfl Try.underlying51 i0 hi0 hz0 hz1 q8 .i64 .i64 _ _ n rfl rfl (by omega) (by omega) (by omega) ?_; intro w1 hb1 hs1 hm1)
  go_loopw [8, 9] (fun c i wr => ∃ j : Nat, j ≤ n ∧ i = .int .i64 j ∧ c = .int .u64 (cy f g 0 j) ∧ Below w.heap.size w wr ∧ Mut wr w.heap.size 0 n (mix (sm f g 0) Z j)) (fun _ i _ => n - (intOf i).toNat)
  case atStart => exact ⟨0, Nat.zero_le _, rfl, rfl, hb1, hm1.congr (fun j _ => (mix_zero _ _ _).symm)⟩
  case round =>
    obtain ⟨i, hi, rfl, rfl, hbel, hW⟩ := hrel
    clear hb1 hs1 hm1
    have cb0 := cy_bd (rf.mono hi) (rg.mono hi) (c := 0) ⟨by decide, by decide⟩
    by_cases hlt : i < n
    · obtain ⟨b1, o1, rfl, d1⟩ := (ha.below hbel) (by omega)
      obtain ⟨b2, o2, rfl, d2⟩ := (hb.below hbel) (by omega)
      have g1 := d1 i hlt
      have g2 := d2 i hlt
      obtain ⟨g0, gz⟩ := hW i (by omega)
      rw [mix_hi (Nat.le_refl i)] at g0
      simp only [Nat.zero_add] at g0 gz
      have hs := add64_call (f i) (g i) (cy f g 0 i) (rf i hlt).1 (rg i hlt).1 cb0
      rw [show (f i + g i + cy f g 0 i) % B64 = sm f g 0 i from rfl, show (f i + g i + cy f g 0 i) / B64 = cy f g 0 (i + 1) from rfl] at hs
      have HW : Hid _ := hW
      have HB : Hid _ := hbel
      have CB : Hid _ := cb0
      clear hW hbel ha hb hm d1 d2 cb0
      go_wp2
      go_region_with (fail)
      all_goals
        go_wp2
        go_roundw
        case rel => exact ⟨i + 1, by omega, by go_num, rfl, (Below.setCell HB.out (by exact Nat.le_refl _) _).drew, (MutK.step0 HW.out (by omega)).drew⟩
        case measure => simp [intOf]; omega
    · have e : n = i := by omega
      subst e
      have vs := val_sm f g 0 n
      rw [Int.add_zero] at vs
      have rs := sm_rg f g 0 n
      have bs := val_bd rs
      have hM : Mut wr w.heap.size 0 n (sm f g 0) := hW.congr fun j hj => mix_lo hj
      have hsz : w.heap.size < wr.heap.size := cell_lt (hM 0 h0).1
      have hmW := hm.below hbel
      have HB : Hid _ := hbel
      have HM : Hid _ := hM
      have BS : Hid _ := bs
      have BM : Hid _ := bm
      have HZ : Hid _ := hsz
      generalize sm f g 0 = h at *
      have hc : cy f g 0 n = 0 ∨ cy f g 0 n = 1 := by omega
      generalize cy f g 0 n = c at *
      clear hW ha hb hm hM hbel cb0 bf bg bs bm hsz
      rcases hc with rfl | rfl
      · have K : Hid _ := below_any (some ⟨w.heap.size, 0, none⟩) pm n n n cm h m wr (Nat.le_refl _) (by omega) (MutK.at HM.out) hmW rs rm
        have VS : Hid (val h n = val f n + val g n) := by show _ = _; omega
        clear vs
        by_cases hlt2 : val h n < val m n
        · have K2 : Hid _ := K.out
          rw [decide_eq_true hlt2] at K2
          have HL : Hid _ := hlt2
          clear hlt2 K
          go_wp2_with fail
          refine Calls.mono K2.out ?_
          rintro e w2 ⟨rfl, q, rfl⟩
          go_wp2
          go_ret
          refine ⟨_, rfl, below_draws HB.out q, w.heap.size, 0, n, h, rfl, Nat.le_refl _, HZ.out, Nat.le_refl _, by omega, MutK.drewN HM.out q, rs, ?_⟩
          rw [HX.out, if_pos (by rw [← VS.out]; exact HL.out)]; exact VS.out
        · have K2 : Hid _ := K.out
          rw [decide_eq_false hlt2] at K2
          have HL : Hid (val m n ≤ val h n) := by show _ ≤ _; omega
          clear hlt2 K
          go_wp2_with fail
          refine Calls.mono K2.out ?_
          rintro e w2 ⟨rfl, q, rfl⟩
          have S : Hid _ := refSub_any w.heap.size 0 n n h pm n cm m (wr.drewN q) (Nat.le_refl _) (by omega) (MutK.drewN HM.out q) (hmW.drewN q) (fun _ => hap) rs rm
          have HB2 : Hid _ := below_draws HB.out q
          have hz2 : w.heap.size < (wr.drewN q).heap.size := HZ.out
          have HZ2 : Hid _ := hz2
          clear hz2 hmW HZ HB HM
          generalize wr.drewN q = V at *
          go_wp2_with fail
          refine Calls.mono S.out ?_
          rintro e w2 ⟨rfl, hu, hM2⟩
          have HU : Hid _ := hu
          have HM2 : Hid _ := hM2
          clear hu hM2 S
          go_wp2
          go_ret
          have EV := val_df_ge rs rm HL.out
          have hs := Upd.size HU.out
          refine ⟨_, rfl, Below.trans HB2.out (Upd.below HU.out (Nat.le_refl _)), w.heap.size, 0, n, df h m, rfl, Nat.le_refl _, by rw [hs]; exact HZ2.out, Nat.le_refl _, by omega, MutK.congr HM2.out fun j hj => mix_lo hj, df_rg _ _ _, ?_⟩
          have v1 := VS.out
          have v2 := HL.out
          rw [HX.out, EV, if_neg (by omega)]; omega
      · have S : Hid _ := refSub_any w.heap.size 0 n n h pm n cm m wr (Nat.le_refl _) (by omega) HM.out hmW (fun _ => hap) rs rm
        have VS : Hid (val h n + 1 * pw n = val f n + val g n) := by show _ = _; omega
        clear vs hmW HM
        go_wp2_with fail
        refine Calls.mono S.out ?_
        rintro e w2 ⟨rfl, hu, hM2⟩
        have HU : Hid _ := hu
        have HM2 : Hid _ := hM2
        clear hu hM2 S
        go_wp2
        go_ret
        have v1 := VS.out
        have v2 := BM.out
        have v3 := BS.out
        have v4 := LF.out
        have v5 := LG.out
        have EV := val_df_top rs rm (c := 1) (by omega) (by omega) (Or.inr rfl)
        have hs := Upd.size HU.out
        refine ⟨_, rfl, Below.trans HB.out (Upd.below HU.out (Nat.le_refl _)), w.heap.size, 0, n, df h m, rfl, Nat.le_refl _, by rw [hs]; exact HZ.out, Nat.le_refl _, by omega, MutK.congr HM2.out fun j hj => mix_lo hj, df_rg _ _ _, ?_⟩
        rw [HX.out, EV, if_neg (by omega)]; omega

end Go.Proofs.Ytccidmogamnihaa

/- Plain mathematics of Montgomery's product, limb by limb. No program is named here. -/
namespace Go.Proofs.Ytccidmogamnihaa
set_option maxRecDepth 4000

theorem mul_mod_r (a b M : Int) : a * (b % M) % M = a * b % M := by rw [Int.mul_emod, Int.emod_emod, ← Int.mul_emod]
theorem mul_mod_l (a b M : Int) : (a % M) * b % M = a * b % M := by rw [Int.mul_comm, mul_mod_r, Int.mul_comm]

def nw (m x : Int) : Int := x * ((2 - m * x % B64) % B64) % B64
def nwt (m : Int) : Nat → Int
  | 0 => m
  | j + 1 => nw m (nwt m j)

theorem q_zero {m0 t0 v : Int} (hv : v * m0 % B64 = 1) : (m0 * (t0 * (-v % B64) % B64) + t0) % B64 = 0 := by
  have e1 : m0 * (t0 * (-v % B64) % B64) % B64 = -t0 % B64 := by
    rw [mul_mod_r, ← Int.mul_assoc, mul_mod_r]
    have : m0 * t0 * -v = (v * m0) * -t0 := by rw [Int.mul_comm m0 t0, Int.mul_assoc, Int.mul_neg, Int.mul_comm m0 v, Int.mul_comm t0, Int.mul_neg, Int.neg_mul]
    rw [this, ← mul_mod_l, hv, Int.one_mul]
  rw [Int.add_emod, e1, ← Int.add_emod, Int.add_left_neg]; rfl

theorem mul_step2 {x k s c : Int} (hx : 0 ≤ x ∧ x < B64) (hk : 0 ≤ k ∧ k < B64) (hs : 0 ≤ s ∧ s < B64) (hc : 0 ≤ c ∧ c < B64) :
    ((s + x * k % B64) % B64 + c) % B64 = (k * x + s + c) % B64 ∧
    (((x * k / B64 + (s + x * k % B64) / B64) % B64 + ((s + x * k % B64) % B64 + c) / B64) % B64) = (k * x + s + c) / B64 := by
  have p0 := Int.mul_nonneg hx.1 hk.1
  have p1 := Int.mul_le_mul (show x ≤ B64 - 1 by omega) (show k ≤ B64 - 1 by omega) hk.1 (by have := B64_pos; omega)
  rw [Int.mul_comm k x]
  generalize x * k = p at *
  rw [B64_eq] at *
  refine ⟨by omega, by omega⟩
theorem mul_step1 {x k s : Int} (hx : 0 ≤ x ∧ x < B64) (hk : 0 ≤ k ∧ k < B64) (hs : 0 ≤ s ∧ s < B64) :
    (x * k / B64 + (s + x * k % B64) / B64) % B64 = (k * x + s) / B64 := by
  have p0 := Int.mul_nonneg hx.1 hk.1
  have p1 := Int.mul_le_mul (show x ≤ B64 - 1 by omega) (show k ≤ B64 - 1 by omega) hk.1 (by have := B64_pos; omega)
  rw [Int.mul_comm k x]
  generalize x * k = p at *
  rw [B64_eq] at *
  omega

def rd1 (t b : Nat → Int) (a : Int) (n : Nat) : Nat → Int := up (up (mix (tm t b a) t n) n ((t n + ct t b a n) % B64)) (n + 1) ((t n + ct t b a n) / B64)
def rd2 (t m : Nat → Int) (q : Int) (n : Nat) : Nat → Int := up (up (mix (sh (tm t m q) 1) t (n - 1)) (n - 1) ((t n + ct t m q n) % B64)) n (t (n + 1) + (t n + ct t m q n) / B64)

theorem ct_div {t b : Nat → Int} {a : Int} {n : Nat} (rt : Rg t (n + 1)) (rb : Rg b n) (ha : 0 ≤ a ∧ a < B64) : 0 ≤ (t n + ct t b a n) / B64 ∧ (t n + ct t b a n) / B64 ≤ 1 := by
  have c := ct_bd (rt.mono (Nat.le_succ n)) rb ha
  have r := rt n (by omega)
  rw [B64_eq] at *
  omega

theorem rd1_rg {t b : Nat → Int} {a : Int} {n : Nat} (rt : Rg t (n + 1)) (rb : Rg b n) (ha : 0 ≤ a ∧ a < B64) : Rg (rd1 t b a n) (n + 2) := fun i hi => by
  unfold rd1
  by_cases e1 : i = n + 1
  · subst e1; rw [up_at]; have := ct_div rt rb ha; rw [B64_eq] at *; omega
  · rw [up_ne e1]
    by_cases e2 : i = n
    · subst e2; rw [up_at]; rw [B64_eq]; omega
    · rw [up_ne e2, mix_lo (by omega)]; exact tm_rg _ _ _ (i + 1) i (by omega)
theorem rd1_top {t b : Nat → Int} {a : Int} {n : Nat} : rd1 t b a n (n + 1) = (t n + ct t b a n) / B64 := by unfold rd1; rw [up_at]

theorem rd1_val (t b : Nat → Int) (a : Int) (n : Nat) : val (rd1 t b a n) (n + 2) = val t (n + 1) + val b n * a := by
  have e := val_tm t b a n
  have d : (t n + ct t b a n) % B64 + B64 * ((t n + ct t b a n) / B64) = t n + ct t b a n := Int.emod_add_mul_ediv _ _
  rw [val, val]
  have e1 : val (rd1 t b a n) n = val (tm t b a) n := val_congr fun i hi => by
    unfold rd1; rw [up_ne (by omega), up_ne (by omega), mix_lo hi]
  have e2 : rd1 t b a n n = (t n + ct t b a n) % B64 := by unfold rd1; rw [up_ne (by omega), up_at]
  rw [e1, e2, rd1_top, val, pw]
  generalize (t n + ct t b a n) % B64 = x at *
  generalize (t n + ct t b a n) / B64 = y at *
  have e3 : y * (pw n * B64) = B64 * y * pw n := by rw [Int.mul_comm B64 y, Int.mul_assoc, Int.mul_comm (pw n)]
  have e4 : x * pw n + B64 * y * pw n = t n * pw n + ct t b a n * pw n := by rw [← Int.add_mul, d, Int.add_mul]
  rw [e3]; omega

theorem rd2_val {t m : Nat → Int} {q : Int} {n : Nat} (hn : 0 < n) (h0 : tm t m q 0 = 0) : val (rd2 t m q n) (n + 1) * B64 = val t (n + 2) + val m n * q := by
  obtain ⟨k, rfl⟩ : ∃ k, n = k + 1 := ⟨n - 1, by omega⟩
  have e := val_tm t m q (k + 1)
  have d : (t (k + 1) + ct t m q (k + 1)) % B64 + B64 * ((t (k + 1) + ct t m q (k + 1)) / B64) = t (k + 1) + ct t m q (k + 1) := Int.emod_add_mul_ediv _ _
  have s := val_sh (tm t m q) 1 k
  rw [Nat.add_comm 1 k] at s
  have s1 : val (tm t m q) 1 = 0 := by simp [val, pw, h0]
  have s2 : pw 1 = B64 := by simp [pw]
  rw [s1, s2, Int.zero_add] at s
  have e1 : val (rd2 t m q (k + 1)) k = val (sh (tm t m q) 1) k := val_congr fun i hi => by
    unfold rd2; rw [up_ne (by omega), up_ne (by omega), mix_lo (by omega)]
  have e2 : rd2 t m q (k + 1) k = (t (k + 1) + ct t m q (k + 1)) % B64 := by unfold rd2; rw [up_ne (by omega)]; exact up_at _ _ _
  have e3 : rd2 t m q (k + 1) (k + 1) = t (k + 1 + 1) + (t (k + 1) + ct t m q (k + 1)) / B64 := by unfold rd2; rw [up_at]
  rw [val, val, e1, e2, e3, show val t (k + 1 + 2) = val t (k + 1) + t (k + 1) * pw (k + 1) + t (k + 1 + 1) * pw (k + 1 + 1) from rfl]
  generalize (t (k + 1) + ct t m q (k + 1)) % B64 = x at *
  generalize (t (k + 1) + ct t m q (k + 1)) / B64 = y at *
  rw [s] at e
  have p1 : pw (k + 1) = pw k * B64 := rfl
  have p2 : pw (k + 1 + 1) = pw (k + 1) * B64 := rfl
  generalize val (sh (tm t m q) 1) k = V at *
  generalize t (k + 1 + 1) = u at *
  generalize t (k + 1) = z at *
  generalize ct t m q (k + 1) = C at *
  have a1 : (V + x * pw k + (u + y) * pw (k + 1)) * B64 = B64 * V + (x * pw (k + 1) + B64 * y * pw (k + 1)) + u * pw (k + 1 + 1) := by
    rw [Int.add_mul, Int.add_mul, Int.add_mul u y, Int.add_mul (u * _), p2, Int.mul_comm V, Int.mul_assoc x, ← p1, Int.mul_assoc u, Int.mul_assoc y, Int.mul_comm (pw (k + 1)) B64, ← Int.mul_assoc y, Int.mul_comm y B64]
    omega
  rw [a1, ← Int.add_mul, d, Int.add_mul]
  omega

theorem rd2_rg {t m : Nat → Int} {q : Int} {n : Nat} (hn : 0 < n) (rt : Rg t (n + 2)) (ht : t (n + 1) ≤ 1) (rm : Rg m n) (hq : 0 ≤ q ∧ q < B64) : Rg (rd2 t m q n) (n + 2) := fun i hi => by
  have c := ct_div (rt.mono (Nat.le_succ _)) rm hq
  have r := rt (n + 1) (by omega)
  unfold rd2
  by_cases e1 : i = n
  · subst e1; rw [up_at]; rw [B64_eq] at *; omega
  · rw [up_ne e1]
    by_cases e2 : i = n - 1
    · subst e2; rw [up_at, B64_eq]; omega
    · rw [up_ne e2]
      by_cases e3 : i < n - 1
      · rw [mix_lo e3]; exact tm_rg _ _ _ (1 + i + 1) (1 + i) (by omega)
      · rw [mix_hi (by omega)]; exact rt i hi

theorem rd_inv {T T' A B M Q p a q : Int} (h : T * p = A * B + Q * M) (hT : T' * B64 = T + B * a + M * q) : T' * (p * B64) = (A + a * p) * B + (Q + q * p) * M := by
  have e : T' * (p * B64) = (T' * B64) * p := by rw [Int.mul_comm p, Int.mul_assoc]
  have e1 : B * a * p = a * p * B := by rw [Int.mul_comm B a, Int.mul_assoc, Int.mul_comm B p, Int.mul_assoc]
  have e2 : M * q * p = q * p * M := by rw [Int.mul_comm M q, Int.mul_assoc, Int.mul_comm M p, Int.mul_assoc]
  rw [e, hT, Int.add_mul, Int.add_mul, h, Int.add_mul, Int.add_mul, e1, e2]
  omega
theorem rd_q {Q p q : Int} (h0 : 0 ≤ Q) (h1 : Q < p) (q0 : 0 ≤ q) (q1 : q < B64) (hp : 0 < p) : 0 ≤ Q + q * p ∧ Q + q * p < p * B64 := by
  have a := Int.mul_nonneg q0 (Int.le_of_lt hp)
  have b := Int.mul_le_mul_of_nonneg_right (show q ≤ B64 - 1 by omega) (Int.le_of_lt hp)
  rw [Int.sub_mul, Int.one_mul, Int.mul_comm B64 p] at b
  omega
theorem mont_lt {T A B M Q p : Int} (h : T * p = A * B + Q * M) (hA : 0 ≤ A ∧ A < p) (hB : 0 ≤ B ∧ B < M) (hQ : 0 ≤ Q ∧ Q < p) : T < 2 * M := by
  have hp : 0 < p := by omega
  have hM : 0 < M := by omega
  have a : A * B ≤ p * M := Int.mul_le_mul (by omega) (by omega) hB.1 (by omega)
  have b : Q * M < p * M := Int.mul_lt_mul_of_pos_right hQ.2 hM
  apply Int.lt_of_mul_lt_mul_right (a := p) _ (Int.le_of_lt hp)
  rw [h, Int.mul_assoc, Int.mul_comm M p]
  omega
theorem mont_mod {T A B M Q p : Int} (h : T * p = A * B + Q * M) : T * p % M = A * B % M := by rw [h, Int.add_mul_emod_self_right]
theorem mont_mod_less {T M p : Int} : (T - M) * p % M = T * p % M := by rw [Int.sub_mul, Int.sub_emod, Int.mul_emod_right, Int.sub_zero, Int.emod_emod]
end Go.Proofs.Ytccidmogamnihaa

/- What the document's mont answers: Montgomery's product. -/
namespace Go.Proofs.Ytccidmogamnihaa
set_option maxRecDepth 4000
open Go.RowKit
attribute [local go_sem ↓] Go.wp_at_zero Go.wp_at_succ
set_option linter.unusedVariables false

set_option maxRecDepth 20000 in
set_option maxHeartbeats 4000000 in
theorem mont_any (pa pb pm : Option Addr) (n ca cb cm : Nat) (f g m : Nat → Int) (w : World) (hn : n ≤ 900) (h0 : 0 < n) (ha : At w pa n f) (hb : At w pb n g) (hm : At w pm n m) (rf : Rg f n) (rg : Rg g n) (rm : Rg m n) (lg : val g n < val m n) (hinv : nwt (m 0) 6 * m 0 % B64 = 1) :
    Calls Try.prog 46 #[.slice pa n ca, .slice pb n cb, .slice pm n cm] w fun e w' => ∃ v r, e = .returned v ∧ Fix w w' v n r ∧ r < val m n ∧ r * pw n % val m n = val f n * val g n % val m n := by
  obtain ⟨i0, hi0, hz0, hz1, hz2⟩ := info_parts info64
  have q8 : i0.bytes ≤ 8 := by omega
  clear hz2
  have LG : Hid _ := lg
  have HV : Hid _ := hinv
  clear lg hinv
  have m0 : 0 ≤ m 0 ∧ m 0 < B64 := rm 0 h0
  obtain ⟨b3, o3, epm, d3⟩ := hm h0
  have c0 : w.cell? ⟨b3, o3, none⟩ = some (.int .u64 (m 0)) := d3 0 h0
  have EPM : Hid _ := epm
  rw [epm]
  clear d3 epm
  go_enter Try.func46, Try.ntmps46
  go_wp2
  go_loopw [8, 9] (fun v i wr => ∃ j q : Nat, j ≤ 6 ∧ i = .int .i64 j ∧ v = .int .u64 (nwt (m 0) j) ∧ wr = w.drewN q) (fun _ i _ => 6 - (intOf i).toNat)
  case atStart => exact ⟨0, 0, Nat.zero_le _, rfl, rfl, rfl⟩
  case round =>
    obtain ⟨j, q, hj, rfl, rfl, hq⟩ := hrel
    have cr : wr.cell? ⟨b3, o3, none⟩ = some (.int .u64 (m 0)) := by rw [hq]; exact c0
    have HQ : Hid _ := hq
    clear hq
    by_cases hlt : j < 6
    · have EN : Hid (IntKind.u64.wrap (nwt (m 0) j * IntKind.u64.wrap (2 - IntKind.u64.wrap (m 0 * nwt (m 0) j))) = nwt (m 0) (j + 1)) := by
        show _ = _
        simp only [IntKind.wrap_u64]
        rfl
      clear ha hb hm
      generalize nwt (m 0) j = x at *
      go_wp2
      rw [EN.out]
      go_roundw
      case rel => exact ⟨j + 1, q, by omega, by go_num, rfl, HQ.out⟩
      case measure => simp [intOf]; omega
    · have e : j = 6 := by omega
      subst e
      have hB0 : Below w.heap.size w wr := by rw [HQ.out]; exact below_draws (Below.refl _ _) q
      have hsz0 : wr.heap.size = w.heap.size := by rw [HQ.out]; rfl
      have haR := ha.below hB0
      have hbR := hb.below hB0
      have hmR := hm.below hB0
      have EI : Hid (IntKind.u64.wrap (-nwt (m 0) 6) = -nwt (m 0) 6 % B64) := by show _ = _; rw [IntKind.wrap_u64, B64_eq]
      have VI : ∀ t0 : Int, Hid ((m 0 * (t0 * (-nwt (m 0) 6 % B64) % B64) + t0) % B64 = 0) := fun t0 => q_zero HV.out
      rw [← hsz0] at hB0
      have HB0 : Hid _ := hB0
      have HS0 : Hid _ := hsz0
      clear ha hb hm hB0 hsz0 c0 HQ HV
      have II : 0 ≤ -nwt (m 0) 6 % B64 ∧ -nwt (m 0) 6 % B64 < B64 := ⟨Int.emod_nonneg _ (by rw [B64_eq]; decide), Int.emod_lt_of_pos _ B64_pos⟩
      generalize nwt (m 0) 6 = x at *
      go_wp2_with (at_make; refine wpList_make_lim _ .u64 rfl _ _ 51 32 rfl Try.underlying51 i0 hi0 hz0 hz1 q8 .i64 .i64 _ _ (n + 2) rfl rfl (by omega) (by omega) (by omega) ?_; intro w1 hb1 hs1 hm1)
      rw [EI.out]
      generalize -x % B64 = v at *
      have hap : b3 ≠ wr.heap.size := hmR.apart h0 b3 o3 EPM.out
      obtain ⟨b1, o1, epa, d1⟩ := haR h0
      obtain ⟨b2, o2, epb, d2⟩ := hbR h0
      have HA : Hid _ := haR
      have HBB : Hid _ := hbR
      have HMM : Hid _ := hmR
      have la : b1 < wr.heap.size := cell_lt (d1 0 h0)
      have lb : b2 < wr.heap.size := cell_lt (d2 0 h0)
      have lm3 : b3 < wr.heap.size := cell_lt cr
      have D1 : Hid _ := d1
      have D2 : Hid _ := d2
      have D3 : Hid (∀ j, j < n → wr.cell? ⟨b3, o3 + j, none⟩ = some (.int .u64 (m j))) := by
        obtain ⟨b', o', e', d'⟩ := hmR h0
        rw [EPM.out] at e'
        injection e' with e'
        injection e' with e1 e2
        subst e1 e2
        exact d'
      rw [epa, epb]
      clear haR hbR hmR d1 d2 epa epb cr
      generalize wr = W0 at *
      go_loopw [11] (fun i wr => ∃ (j : Nat) (t : Nat → Int) (Q : Int), j ≤ n ∧ i = .int .i64 j ∧ Below W0.heap.size W0 wr ∧ Mut wr W0.heap.size 0 (n + 2) t ∧ Rg t (n + 2) ∧ val t (n + 1) * pw j = val f j * val g n + Q * val m n ∧ 0 ≤ Q ∧ Q < pw j) (fun i _ => n - (intOf i).toNat)
      case atStart => exact ⟨0, Z, 0, Nat.zero_le _, rfl, hb1, hm1, fun i _ => ⟨Int.le_refl _, B64_pos⟩, by rw [val_zero (f := Z) (fun _ _ => rfl)]; simp [val], Int.le_refl _, by simp [pw]⟩
      case round =>
        obtain ⟨i, t, Q, hi, rfl, hbel, hW, rt, hT, q0, q1⟩ := hrel
        clear hb1 hs1 hm1
        have HT : Hid _ := hT
        have HQ0 : Hid _ := q0
        have HQ1 : Hid _ := q1
        have HB : Hid _ := hbel
        clear hT q0 q1 hbel
        by_cases hlt : i < n
        · have rfi := rf i hlt
          have ai : ∀ wr : World, Below W0.heap.size W0 wr → Hid (wr.cell? ⟨b1, o1 + i, none⟩ = some (.int .u64 (f i))) := fun wr h => (h.cell (p := ⟨b1, o1 + i, none⟩) la).trans (D1.out i hlt)
          have bk : ∀ (wr : World) (k : Nat), Below W0.heap.size W0 wr → k < n → Hid (wr.cell? ⟨b2, o2 + k, none⟩ = some (.int .u64 (g k))) := fun wr k h hk => (h.cell (p := ⟨b2, o2 + k, none⟩) lb).trans (D2.out k hk)
          have mk : ∀ (wr : World) (k : Nat), Below W0.heap.size W0 wr → k < n → Hid (wr.cell? ⟨b3, o3 + k, none⟩ = some (.int .u64 (m k))) := fun wr k h hk => (h.cell (p := ⟨b3, o3 + k, none⟩) lm3).trans (D3.out k hk)
          have AI : Hid _ := ai
          have BK : Hid _ := bk
          have MK : Hid _ := mk
          have HW0 : Hid _ := hW
          clear ai bk mk hW
          go_wp2
          go_loopw [12, 13] (fun c k wr => ∃ j : Nat, j ≤ n ∧ k = .int .i64 j ∧ c = .int .u64 (ct t g (f i) j) ∧ Below W0.heap.size W0 wr ∧ Mut wr W0.heap.size 0 (n + 2) (mix (tm t g (f i)) t j)) (fun _ k _ => n - (intOf k).toNat)
          case atStart => exact ⟨0, Nat.zero_le _, rfl, rfl, HB.out, MutK.congr HW0.out (fun j _ => (mix_zero _ _ _).symm)⟩
          case round =>
            obtain ⟨k, hk, rfl, rfl, hbel, hW⟩ := hrel
            clear HB HW0
            have rc := ct_bd (rt.mono (show k ≤ n + 2 by omega)) (rg.mono hk) rfi
            by_cases hkn : k < n
            · have g1 := (AI.out wr hbel).out
              have g2 := (BK.out wr k hbel hkn).out
              obtain ⟨g0, gz⟩ := hW k (by omega)
              rw [mix_hi (Nat.le_refl k)] at g0
              simp only [Nat.zero_add] at g0 gz
              have r1 := rg k hkn
              have r2 := rt k (by omega)
              have M := show Hid _ from mul64_any (f i) (g k) rfi r1
              have q1 : 0 ≤ f i * g k % B64 := Int.emod_nonneg _ (by rw [B64_eq]; decide)
              have q2 : 0 ≤ (t k + f i * g k % B64 + 0) % B64 := Int.emod_nonneg _ (by rw [B64_eq]; decide)
              have h1 := add64_call (t k) (f i * g k % B64) 0 r2.1 q1 ⟨by decide, by decide⟩
              have h2 := add64_call ((t k + f i * g k % B64 + 0) % B64) (ct t g (f i) k) 0 q2 rc.1 ⟨by decide, by decide⟩
              obtain ⟨S1, S2⟩ := mul_step2 rfi r1 r2 rc
              simp only [Int.add_zero] at h1 h2
              have e1 : (g k * f i + t k + ct t g (f i) k) % B64 = tm t g (f i) k := rfl
              have e2 : (g k * f i + t k + ct t g (f i) k) / B64 = ct t g (f i) (k + 1) := rfl
              rw [e1] at S1
              rw [e2] at S2
              rw [S1] at h2
              have HE : Hid (IntKind.u64.wrap (IntKind.u64.wrap (f i * g k / B64 + (t k + f i * g k % B64) / B64) + ((t k + f i * g k % B64) % B64 + ct t g (f i) k) / B64) = ct t g (f i) (k + 1)) := by
                show _ = _
                simp only [IntKind.wrap_u64]
                rw [B64_eq] at S2 ⊢
                exact S2
              clear e1 e2 S1 S2 q1 q2
              generalize f i * g k / B64 = t1 at *
              generalize f i * g k % B64 = t2 at *
              generalize (t k + t2) / B64 = t3 at *
              generalize (t k + t2) % B64 = t4 at *
              generalize (t4 + ct t g (f i) k) / B64 = t5 at *
              have HWH : Hid _ := hW
              have HBH : Hid _ := hbel
              have R1 := show Hid _ from r1
              have R2 := show Hid _ from r2
              have R3 := show Hid _ from rc
              clear hW hbel r1 r2 rc
              go_wp2
              go_quiet ((go_at_call 57; exact Calls.quiet_of_same (M.out _)))
              have g0' : (wr.drewN nq).cell? ⟨W0.heap.size, k, none⟩ = some (.int .u64 (t k)) := g0
              have gz' : (wr.drewN nq).frozen? ⟨W0.heap.size, k, none⟩ = false := gz
              have HWV : Hid _ := MutK.drewN HWH.out nq
              have HBV : Hid _ := below_draws HBH.out nq
              clear g0 gz g1 g2 HWH HBH M
              generalize wr.drewN nq = V at *
              have hb4 : (k : Int) < (n : Int) + 2 := by omega
              go_wp2
              rw [HE.out]
              go_roundw
              case rel => exact ⟨k + 1, by omega, by go_num, rfl, Below.setCell HBV.out (by exact Nat.le_refl _) _, MutK.step0 HWV.out (by omega)⟩
              case measure => simp [intOf]; omega
            · have e : n = k := by omega
              subst e
              have cd := ct_div (rt.mono (Nat.le_succ _)) rg rfi
              have r2 := rt n (by omega)
              obtain ⟨g0, gz⟩ := hW n (by omega)
              obtain ⟨g1, gz1⟩ := hW (n + 1) (by omega)
              rw [mix_hi (Nat.le_refl n)] at g0
              simp only [Nat.zero_add] at g0 gz g1 gz1
              have h1 := add64_call (t n) (ct t g (f i) n) 0 r2.1 rc.1 ⟨by decide, by decide⟩
              simp only [Int.add_zero] at h1
              have rT := rd1_rg (rt.mono (Nat.le_succ _)) rg rfi
              have top : rd1 t g (f i) n (n + 1) ≤ 1 := by rw [rd1_top]; exact cd.2
              have vT := rd1_val t g (f i) n
              have eT : up (up (mix (tm t g (f i)) t n) n ((t n + ct t g (f i) n) % B64)) (n + 1) ((t n + ct t g (f i) n) / B64) = rd1 t g (f i) n := rfl
              have HWH : Hid _ := MutK.set0 (MutK.set0 hW (show n < n + 2 by omega) ((t n + ct t g (f i) n) % B64)) (show n + 1 < n + 2 by omega) ((t n + ct t g (f i) n) / B64)
              rw [eT] at HWH
              have HBH : Hid _ := hbel
              have VT : Hid _ := vT
              have TOP : Hid _ := top
              have RT : Hid _ := rT
              have R2 := show Hid _ from r2
              have R3 := show Hid _ from rc
              have CD := show Hid _ from cd
              clear hW hbel r2 rc cd vT top rT
              generalize rd1 t g (f i) n = u at *
              generalize (t n + ct t g (f i) n) % B64 = s1 at *
              generalize (t n + ct t g (f i) n) / B64 = s2 at *
              have hb4 : (n : Int) + 1 < (n : Int) + 2 := by omega
              have hb5 : (n : Int) < (n : Int) + 2 := by omega
              have k1 : (wr.setCell ⟨W0.heap.size, n, none⟩ (.int .u64 s1)).cell? ⟨W0.heap.size, n + 1, none⟩ = some (.int .u64 (mix (tm t g (f i)) t n (n + 1))) := by
                rw [World.cell?_setCell_other _ _ _ _ (by intro e'; injection e'; omega)]; exact g1
              have k2 : (wr.setCell ⟨W0.heap.size, n, none⟩ (.int .u64 s1)).frozen? ⟨W0.heap.size, n + 1, none⟩ = false := by simpa using gz1
              have k3 : ((wr.setCell ⟨W0.heap.size, n, none⟩ (.int .u64 s1)).setCell ⟨W0.heap.size, n + 1, none⟩ (.int .u64 s2)).cell? ⟨W0.heap.size, 0, none⟩ = some (.int .u64 (u 0)) := (HWH.out 0 (by omega)).1
              have hb6 : (0 : Int) < (n : Int) + 2 := by omega
              have k4 : wr.cell? ⟨b3, o3, none⟩ = some (.int .u64 (m 0)) := (MK.out wr 0 HBH.out h0).out
              have Qq : 0 ≤ IntKind.u64.wrap (u 0 * v) ∧ IntKind.u64.wrap (u 0 * v) < B64 := by
                rw [IntKind.wrap_u64, B64_eq]; exact ⟨Int.emod_nonneg _ (by decide), Int.emod_lt_of_pos _ (by decide)⟩
              have Z0 : Hid ((m 0 * IntKind.u64.wrap (u 0 * v) + u 0) % B64 = 0) := by
                have := (VI (u 0)).out
                show _ = _
                rw [IntKind.wrap_u64]; rw [B64_eq] at this ⊢; exact this
              have u0 := RT.out 0 (by omega)
              have M := show Hid _ from mul64_any (IntKind.u64.wrap (u 0 * v)) (m 0) Qq m0
              have q1 : 0 ≤ IntKind.u64.wrap (u 0 * v) * m 0 % B64 := Int.emod_nonneg _ (by rw [B64_eq]; decide)
              have h2 := add64_call (u 0) (IntKind.u64.wrap (u 0 * v) * m 0 % B64) 0 u0.1 q1 ⟨by decide, by decide⟩
              simp only [Int.add_zero] at h2
              have HE : Hid (IntKind.u64.wrap (IntKind.u64.wrap (u 0 * v) * m 0 / B64 + (u 0 + IntKind.u64.wrap (u 0 * v) * m 0 % B64) / B64) = ct u m (IntKind.u64.wrap (u 0 * v)) 1) := by
                have := mul_step1 Qq m0 u0
                show _ = (m 0 * _ + u 0 + 0) / B64
                rw [Int.add_zero, ← this]
                rw [IntKind.wrap_u64 (_ + _), B64_eq]
              have ZT : Hid (tm u m (IntKind.u64.wrap (u 0 * v)) 0 = 0) := by
                show (m 0 * _ + u 0 + 0) % B64 = 0
                rw [Int.add_zero]; exact Z0.out
              have QQ := show Hid _ from Qq
              have U0 := show Hid _ from u0
              clear Qq u0 q1 Z0
              generalize eqq : IntKind.u64.wrap (u 0 * v) = qq at *
              have HQQ := show Hid _ from eqq
              clear eqq
              generalize qq * m 0 / B64 = t1 at *
              generalize qq * m 0 % B64 = t2 at *
              generalize (u 0 + t2) / B64 = t3 at *
              generalize (u 0 + t2) % B64 = t4 at *
              go_wp2_with (rw [HQQ.out]; go_at_call 57; refine Calls.mono (M.out _) ?_; rintro e w' ⟨rfl, rfl⟩)
              rw [HE.out]
              have HBW : Hid _ := Below.setCell (Below.setCell HBH.out (p := ⟨W0.heap.size, n, none⟩) (by exact Nat.le_refl _) (.int .u64 s1)) (p := ⟨W0.heap.size, n + 1, none⟩) (by exact Nat.le_refl _) (.int .u64 s2)
              clear g0 gz g1 gz1 k1 k2 k3 k4 eT h1 h2 HE M HBH
              generalize (wr.setCell ⟨W0.heap.size, n, none⟩ (Value.int .u64 s1)).setCell ⟨W0.heap.size, n + 1, none⟩ (Value.int .u64 s2) = W2 at *
              go_loopw [12, 24] (fun c k wr => ∃ j : Nat, j + 1 ≤ n ∧ k = .int .i64 ((j : Int) + 1) ∧ c = .int .u64 (ct u m qq (j + 1)) ∧ Below W0.heap.size W0 wr ∧ Mut wr W0.heap.size 0 (n + 2) (mix (sh (tm u m qq) 1) u j)) (fun _ k _ => n - (intOf k).toNat)
              case atStart => exact ⟨0, by omega, rfl, rfl, HBW.out, MutK.congr HWH.out (fun j _ => (mix_zero _ _ _).symm)⟩
              case round =>
                obtain ⟨k, hk2, rfl, rfl, hbel, hW⟩ := hrel
                clear HBW HWH
                have rc := ct_bd (Rg.mono RT.out (show k + 1 ≤ n + 2 by omega)) (rm.mono hk2) QQ.out
                by_cases hkn2 : k + 1 < n
                · have g2 := (MK.out wr (k + 1) hbel hkn2).out
                  obtain ⟨g0, gz⟩ := hW k (by omega)
                  obtain ⟨g1, -⟩ := hW (k + 1) (by omega)
                  rw [mix_hi (Nat.le_refl k)] at g0
                  rw [mix_hi (Nat.le_succ k)] at g1
                  simp only [Nat.zero_add] at g0 gz g1
                  have r1 := rm (k + 1) hkn2
                  have r2 := RT.out (k + 1) (by omega)
                  have M := show Hid _ from mul64_any qq (m (k + 1)) QQ.out r1
                  have q1 : 0 ≤ qq * m (k + 1) % B64 := Int.emod_nonneg _ (by rw [B64_eq]; decide)
                  have q2 : 0 ≤ (u (k + 1) + qq * m (k + 1) % B64 + 0) % B64 := Int.emod_nonneg _ (by rw [B64_eq]; decide)
                  have h1 := add64_call (u (k + 1)) (qq * m (k + 1) % B64) 0 r2.1 q1 ⟨by decide, by decide⟩
                  have h2 := add64_call ((u (k + 1) + qq * m (k + 1) % B64 + 0) % B64) (ct u m qq (k + 1)) 0 q2 rc.1 ⟨by decide, by decide⟩
                  obtain ⟨S1, S2⟩ := mul_step2 QQ.out r1 r2 rc
                  simp only [Int.add_zero] at h1 h2
                  have e1 : (m (k + 1) * qq + u (k + 1) + ct u m qq (k + 1)) % B64 = sh (tm u m qq) 1 k := by
                    show _ = tm u m qq (1 + k)
                    rw [Nat.add_comm 1 k]; rfl
                  have e2 : (m (k + 1) * qq + u (k + 1) + ct u m qq (k + 1)) / B64 = ct u m qq (k + 1 + 1) := rfl
                  rw [e1] at S1
                  rw [e2] at S2
                  rw [S1] at h2
                  have HE : Hid (IntKind.u64.wrap (IntKind.u64.wrap (qq * m (k + 1) / B64 + (u (k + 1) + qq * m (k + 1) % B64) / B64) + ((u (k + 1) + qq * m (k + 1) % B64) % B64 + ct u m qq (k + 1)) / B64) = ct u m qq (k + 1 + 1)) := by
                    show _ = _
                    simp only [IntKind.wrap_u64]
                    rw [B64_eq] at S2 ⊢
                    exact S2
                  clear e1 e2 S1 S2 q1 q2
                  generalize qq * m (k + 1) / B64 = t1 at *
                  generalize qq * m (k + 1) % B64 = t2 at *
                  generalize (u (k + 1) + t2) / B64 = t3 at *
                  generalize (u (k + 1) + t2) % B64 = t4 at *
                  generalize (t4 + ct u m qq (k + 1)) / B64 = t5 at *
                  have HWH : Hid _ := hW
                  have HBH : Hid _ := hbel
                  have R1 := show Hid _ from r1
                  have R2 := show Hid _ from r2
                  have R3 := show Hid _ from rc
                  clear hW hbel r1 r2 rc
                  have hb4 : (k : Int) + 1 < (n : Int) := by omega
                  have hb5 : (k : Int) < (n : Int) + 2 := by omega
                  have hb6 : (k : Int) + 1 < (n : Int) + 2 := by omega
                  go_wp2_with (go_at_call 57; refine Calls.mono (M.out _) ?_; rintro e w' ⟨rfl, rfl⟩)
                  rw [HE.out]
                  go_roundw
                  case rel => exact ⟨k + 1, by omega, by go_num, rfl, Below.setCell HBH.out (by exact Nat.le_refl _) _, MutK.step0 HWH.out (by omega)⟩
                  case measure => simp [intOf]; omega
                · have e : n = k + 1 := by omega
                  subst e
                  have cd := ct_div (Rg.mono RT.out (Nat.le_succ _)) rm QQ.out
                  have r2 := RT.out (k + 1) (by omega)
                  have r3 := RT.out (k + 1 + 1) (by omega)
                  have rR := rd2_rg h0 RT.out TOP.out rm QQ.out
                  have vR := rd2_val h0 ZT.out
                  obtain ⟨g0, gz⟩ := hW k (by omega)
                  obtain ⟨g1, gz1⟩ := hW (k + 1) (by omega)
                  obtain ⟨g2, -⟩ := hW (k + 1 + 1) (by omega)
                  rw [mix_hi (show k ≤ k + 1 by omega)] at g1
                  rw [mix_hi (show k ≤ k + 1 + 1 by omega)] at g2
                  simp only [Nat.zero_add] at g0 gz g1 gz1 g2
                  have h1 := add64_call (u (k + 1)) (ct u m qq (k + 1)) 0 r2.1 rc.1 ⟨by decide, by decide⟩
                  simp only [Int.add_zero] at h1
                  have eT : up (up (mix (sh (tm u m qq) 1) u k) k ((u (k + 1) + ct u m qq (k + 1)) % B64)) (k + 1) (u (k + 1 + 1) + (u (k + 1) + ct u m qq (k + 1)) / B64) = rd2 u m qq (k + 1) := rfl
                  have HW' : Hid _ := MutK.set0 (MutK.set0 hW (show k < k + 1 + 2 by omega) ((u (k + 1) + ct u m qq (k + 1)) % B64)) (show k + 1 < k + 1 + 2 by omega) (u (k + 1 + 1) + (u (k + 1) + ct u m qq (k + 1)) / B64)
                  rw [eT] at HW'
                  have EW : Hid (IntKind.u64.wrap (u (k + 1 + 1) + (u (k + 1) + ct u m qq (k + 1)) / B64) = u (k + 1 + 1) + (u (k + 1) + ct u m qq (k + 1)) / B64) := by
                    show _ = _
                    have := TOP.out
                    rw [IntKind.wrap_u64]; rw [B64_eq] at *; omega
                  have HBH : Hid _ := hbel
                  have VR : Hid _ := vR
                  have RR : Hid _ := rR
                  have R2 := show Hid _ from r2
                  have R3 := show Hid _ from rc
                  have R4 := show Hid _ from r3
                  have CD := show Hid _ from cd
                  clear hW hbel r2 r3 rc cd vR rR eT
                  generalize rd2 u m qq (k + 1) = u' at *
                  generalize (u (k + 1) + ct u m qq (k + 1)) % B64 = s1 at *
                  generalize (u (k + 1) + ct u m qq (k + 1)) / B64 = s2 at *
                  have hb5 : (k : Int) + 1 < (k : Int) + 1 + 2 := by omega
                  have hb6 : (k : Int) + 1 + 1 < (k : Int) + 1 + 2 := by omega
                  have hb7 : (k : Int) < (k : Int) + 1 + 2 := by omega
                  have k1 : (wr.setCell ⟨W0.heap.size, k, none⟩ (.int .u64 s1)).cell? ⟨W0.heap.size, k + 1, none⟩ = some (.int .u64 (u (k + 1))) := by
                    rw [World.cell?_setCell_other _ _ _ _ (by intro e'; injection e'; omega)]; exact g1
                  have k2 : (wr.setCell ⟨W0.heap.size, k, none⟩ (.int .u64 s1)).frozen? ⟨W0.heap.size, k + 1, none⟩ = false := by simpa using gz1
                  go_wp2
                  rw [EW.out]
                  go_roundw
                  case rel =>
                    have hv := VR.out
                    rw [VT.out] at hv
                    have hq := rd_q HQ0.out HQ1.out QQ.out.1 QQ.out.2 (pw_pos i)
                    exact ⟨i + 1, u', Q + qq * pw i, by omega, by go_num, Below.setCell (Below.setCell HBH.out (by exact Nat.le_refl _) _) (by exact Nat.le_refl _) _, HW'.out, RR.out, rd_inv HT.out hv, hq.1, hq.2⟩
                  case measure => simp [intOf]; omega
        · have e : n = i := by omega
          subst e
          have bf := val_bd rf
          have bg := val_bd rg
          have bm := val_bd rm
          have bt := val_bd (rt.mono (show n ≤ n + 2 by omega))
          have lt2 := mont_lt HT.out bf ⟨bg.1, LG.out⟩ ⟨HQ0.out, HQ1.out⟩
          have md := mont_mod HT.out
          have hTn : val t (n + 1) = val t n + t n * pw n := rfl
          have rn := rt n (by omega)
          have t01 : t n = 0 ∨ t n = 1 := by
            have : ¬ 2 ≤ t n := fun h => by
              have := Int.mul_le_mul_of_nonneg_right h (Int.le_of_lt (pw_pos n))
              omega
            omega
          have hmW : At wr (some ⟨b3, o3, none⟩) n m := by rw [← EPM.out]; exact AtK.below HMM.out HB.out
          have HBT : Hid (Below w.heap.size w wr) := by
            show Below _ _ _
            rw [← HS0.out]; exact Below.trans HB0.out HB.out
          have hsz : W0.heap.size < wr.heap.size := cell_lt (hW 0 (by omega)).1
          obtain ⟨g1, gz1⟩ := hW n (by omega)
          simp only [Nat.zero_add] at g1 gz1
          have rt' : Rg t n := rt.mono (show n ≤ n + 2 by omega)
          have RT : Hid _ := rt'
          have RM : Hid _ := rm
          have HW : Hid _ := hW
          have HZ : Hid _ := hsz
          have HMW : Hid _ := hmW
          have L2 : Hid _ := lt2
          have MD : Hid _ := md
          have HTN : Hid _ := hTn
          have BM : Hid _ := bm
          have BT : Hid _ := bt
          clear hW hsz hmW lt2 md hTn bf bg bm bt rt rt' rn rf rg rm HT HQ0 HQ1 HA HBB HMM D1 D2 D3 HB
          have hb5 : (n : Int) < (n : Int) + 2 := by omega
          have hb6 : (n : Int) ≤ (n : Int) + 2 := by omega
          rcases t01 with t0 | t1
          · rw [t0] at g1
            have K : Hid _ := below_any (some ⟨W0.heap.size, 0, none⟩) (some ⟨b3, o3, none⟩) n n (n + 2) cm t m wr (Nat.le_refl _) (by omega) (MutK.at (MutK.mono HW.out (by omega))) HMW.out RT.out RM.out
            have VT : Hid (val t (n + 1) = val t n) := by show _ = _; rw [HTN.out, t0]; omega
            have T0 : Hid _ := t0
            clear t0
            by_cases hlt2 : val t n < val m n
            · have K2 : Hid _ := K.out
              rw [decide_eq_true hlt2] at K2
              have HL : Hid _ := hlt2
              clear hlt2 K
              go_wp2_with fail
              refine Calls.mono K2.out ?_
              rintro e w2 ⟨rfl, q, rfl⟩
              go_wp2
              go_ret
              refine ⟨_, val t n, rfl, ⟨below_draws HBT.out q, W0.heap.size, 0, n + 2, t, rfl, by rw [HS0.out]; exact Nat.le_refl _, HZ.out, by omega, by omega, MutK.drewN (MutK.mono HW.out (by omega)) q, RT.out, rfl⟩, HL.out, ?_⟩
              rw [← VT.out]; exact MD.out
            · have K2 : Hid _ := K.out
              rw [decide_eq_false hlt2] at K2
              have HL : Hid (val m n ≤ val t n) := by show _ ≤ _; omega
              clear hlt2 K
              go_wp2_with fail
              refine Calls.mono K2.out ?_
              rintro e w2 ⟨rfl, q, rfl⟩
              have S : Hid _ := refSub_any W0.heap.size 0 (n + 2) (n + 2) t (some ⟨b3, o3, none⟩) n cm m (wr.drewN q) (by omega) (by omega) (MutK.drewN HW.out q) (AtK.drewN HMW.out q) (fun _ b' o' e => by injection e with e; injection e with e1 e2; subst e1; exact hap) RT.out RM.out
              have HB2 : Hid _ := below_draws HBT.out q
              have hz2 : W0.heap.size < (wr.drewN q).heap.size := HZ.out
              have HZ2 : Hid _ := hz2
              clear hz2 HMW HZ HBT HW g1 gz1
              generalize wr.drewN q = V at *
              go_wp2_with fail
              refine Calls.mono S.out ?_
              rintro e w2 ⟨rfl, hu, hM2⟩
              have HU : Hid _ := hu
              have HM2 : Hid _ := hM2
              clear hu hM2 S
              go_wp2
              go_ret
              have EV := val_df_ge RT.out RM.out HL.out
              have hs := Upd.size HU.out
              refine ⟨_, val t n - val m n, rfl, ⟨Below.trans HB2.out (Upd.below HU.out (by rw [HS0.out]; exact Nat.le_refl _)), W0.heap.size, 0, n + 2, df t m, rfl, by rw [HS0.out]; exact Nat.le_refl _, by rw [hs]; exact HZ2.out, by omega, by omega, MutK.congr (MutK.mono HM2.out (by omega)) fun j hj => mix_lo hj, df_rg _ _ _, EV⟩, ?_, ?_⟩
              · have := L2.out; rw [VT.out] at this; omega
              · rw [mont_mod_less, ← VT.out]; exact MD.out
          · rw [t1] at g1
            have VT : Hid (val t (n + 1) = val t n + 1 * pw n) := by show _ = _; rw [HTN.out, t1]
            have T1 : Hid _ := t1
            have S : Hid _ := refSub_any W0.heap.size 0 (n + 2) (n + 2) t (some ⟨b3, o3, none⟩) n cm m wr (by omega) (by omega) HW.out HMW.out (fun _ b' o' e => by injection e with e; injection e with e1 e2; subst e1; exact hap) RT.out RM.out
            clear t1
            go_wp2_with fail
            refine Calls.mono S.out ?_
            rintro e w2 ⟨rfl, hu, hM2⟩
            have HU : Hid _ := hu
            have HM2 : Hid _ := hM2
            clear hu hM2 S
            go_wp2
            go_ret
            have v1 := VT.out
            have v2 := BM.out
            have v3 := BT.out
            have v4 := L2.out
            have EV := val_df_top RT.out RM.out (c := 1) (by omega) (by omega) (Or.inr rfl)
            have hs := Upd.size HU.out
            refine ⟨_, val t (n + 1) - val m n, rfl, ⟨Below.trans HBT.out (Upd.below HU.out (by rw [HS0.out]; exact Nat.le_refl _)), W0.heap.size, 0, n + 2, df t m, rfl, by rw [HS0.out]; exact Nat.le_refl _, by rw [hs]; exact HZ.out, by omega, by omega, MutK.congr (MutK.mono HM2.out (by omega)) fun j hj => mix_lo hj, df_rg _ _ _, by rw [EV, v1]⟩, by omega, ?_⟩
            rw [mont_mod_less]; exact MD.out
end Go.Proofs.Ytccidmogamnihaa
