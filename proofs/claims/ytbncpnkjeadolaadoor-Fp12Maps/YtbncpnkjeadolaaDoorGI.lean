/- WR Half WS. -/
import Derived.Test.YtbncpnkjeadolaaDoorGA
import Derived.Deep.RegionHeld3
/- What the document's halves answers. -/
namespace Go.Proofs.YtbncpnkjeadolaaDoor
open Go.RowKit
set_option linter.unusedVariables false

/-- append(s, x...), s a slice of the call's own, x of at least one: at a step of a region that draws its order. -/
theorem step_append_lim {P : Program} {w : World} {ops : Array Oper} {o : Oper} {a : Act} {K : Act → World → Prop} {Q : Exit → Act → World → Prop} {E : Prop} (k : IntKind) (hgd : o.guard = none) (s x : Operand) (t : TypeId)
    (ho : o.op = .call { callee := .builtin .append, args := #[s, x], argTypes := #[t, t] }) (B e : TypeId) (i : TypeInfo) (ht : P.underlying t = some (.slice e)) (hi : P.info? e = some i) (hz : i.zero = some (.int k 0)) (hsize : i.size = 1) (hby : i.bytes ≤ 8)
    (v : Value) (n : Nat) (f : Nat → Int) (hs : a.eval s = v) (hown : Own w B e k v n f) (ps : Option Addr) (ns cs : Nat) (fs : Nat → Int) (hx : a.eval x = .slice ps ns cs) (hat : AtK k w ps ns fs) (h0 : 0 < ns) (hle : n + ns ≤ 2000000) (hB : B ≤ w.heap.size)
    (hK : ∀ v' w', Own w' B e k v' (n + ns) (cat f n fs) → Below B w w' → K (a.put o.dst v') w') : if Region.wanted o (yielded ops a.tmps) = true then Oper.wp P o a w K Q else E := by
  have hw : Region.wanted o (yielded ops a.tmps) = true := by simp [Region.wanted, hgd]
  rw [if_pos hw]
  obtain ⟨b, off, rfl, hc⟩ := hat h0
  refine wp_append_own w s x t ho B e i (.int k 0) 1 i.bytes ht hi hz hsize rfl rfl (by decide) v n _ hs hown ⟨b, off, none⟩ ns cs ((List.range ns).map fun j => .int k (fs j)) hx (by simp) ?_ (fun u hu => by simp at hu; obtain ⟨j, _, rfl⟩ := hu; rfl) (by unfold maxLen; omega) (by have := Nat.mul_le_mul hle hby; omega) hB ?_
  · intro j u hj
    rw [add_addr]
    by_cases hlt : j < ns
    · simp [hlt] at hj
      rw [← hj]; exact hc j hlt
    · simp [List.getElem?_eq_none (show (List.range ns).length ≤ j by simpa using hlt)] at hj
  · intro v' w' h1 h2 _
    refine hK v' w' ?_ ((Below.refl _ _).grown h2 hB (ownBlock_ge hown))
    rw [cat_list] at h1
    exact h1

/-- Half limb j. -/
def hf (f : Nat → Int) (j : Nat) : Int := if j % 2 = 0 then f (j / 2) % 4294967296 else f (j / 2) / 4294967296
/-- Two numbers. -/
def duo (x y : Int) : Nat → Int := fun j => if j = 0 then x else y
theorem at_duo (w : World) (x y : Int) (t : TypeId) : At (w.alloc (.cells #[.int .u64 x, .int .u64 y] t)) (some ⟨w.heap.size, 0, none⟩) 2 (duo x y) := fun _ => ⟨w.heap.size, 0, rfl, fun j hj => by
  rcases (show j = 0 ∨ j = 1 by omega) with rfl | rfl <;> simp [duo]⟩

theorem halves_any (p : Option Addr) (n cap : Nat) (f : Nat → Int) (w : World) (hc : At w p n f) (rf : Rg f n) (hN : n ≤ 10000) :
    Calls Tryd.prog 45 #[.slice p n cap] w fun e w' => ∃ p' c', e = .returned (.slice p' (2 * n) c') ∧ Below w.heap.size w w' ∧ At w' p' (2 * n) (hf f) ∧ 2 * n ≤ c' ∧ c' ≤ 9223372036854775807 := by
  obtain ⟨i0, hi0, hz0, hz1, hz2⟩ := info_parts info64
  have q8 : i0.bytes ≤ 8 := by omega
  clear hz2
  go_enter Tryd.func45, Tryd.ntmps45
  go_wp2
  go_loopw [3, 4] (fun v i wr => ∃ k : Nat, k ≤ n ∧ i = .int .i64 k ∧ Own wr w.heap.size 22 .u64 v (2 * k) (hf f) ∧ Below w.heap.size w wr) (fun _ i _ => n - (intOf i).toNat)
  case atStart => exact ⟨0, Nat.zero_le _, rfl, Own.nil _ _ _ _ _, Below.refl _ _⟩
  case round =>
    obtain ⟨k, hk, rfl, ho, hbel⟩ := hrel
    by_cases hlt : k < n
    · obtain ⟨b, off, rfl, hbl, hcell⟩ := hc.lt (by omega)
      have hc1 : wr.cell? ⟨b, off + k, none⟩ = some (.int .u64 (f k)) := (hbel.cell (p := ⟨b, off + k, none⟩) hbl).trans (hcell k hlt)
      have r := rf k hlt
      have hand : bits BinOp.and IntKind.u64 (f k) 4294967295 = f k % 4294967296 := and_low32 _ r.1 (by rw [B64_eq] at r; exact r.2)
      have HB1 : Hid (∀ o, Below w.heap.size w (wr.alloc o).drew) := fun o => (Below.up hbel (Nat.le_refl _) (below_one wr o)).drew
      have HO1 : Hid (∀ o, Own (wr.alloc o).drew w.heap.size 22 .u64 u3 (2 * k) (hf f)) := fun o => ho.below (below_one wr o).drew
      have HS1 : Hid (∀ o, w.heap.size ≤ (wr.alloc o).drew.heap.size) := fun o => ((Below.up hbel (Nat.le_refl _) (below_one wr o)).drew).size
      have hne := World.new_ne wr ⟨b, off + k, none⟩ hc1
      have b1 : (0 : Int) ≤ (k : Int) := by omega
      have b2 : (k : Int) < (n : Int) := by omega
      have q1 : 2 * k + 2 ≤ 2000000 := by omega
      clear hcell ho
      go_wp2
      go_region_held3 (fun w' => w'.cell? ⟨b, off + k, none⟩ = some (.int .u64 (f k))) (first | go_keep | (exact (Below.cell hb2 (p := ⟨b, off + k, none⟩) hbl).trans (by go_keep))) ((refine step_append_lim .u64 (by rfl) (.tmp 11) (.tmp 22) 39 (by rfl) w.heap.size 22 i0 Tryd.underlying39 hi0 hz0 hz1 q8 _ (2 * k) (hf f) (by rfl) (HO1.out _) (some ⟨wr.heap.size, 0, none⟩) 2 2 (duo (f k % 4294967296) (f k / 4294967296)) (by rfl) (at_duo _ _ _ _) (by decide) q1 (HS1.out _) ?_; intro v' w2 ho2 hb2))
      have ho3 : Own w2 w.heap.size 22 .u64 v' (2 * (k + 1)) (hf f) := by
        rw [show 2 * (k + 1) = 2 * k + 2 by omega]
        refine ho2.congr fun j hj => ?_
        by_cases c : j < 2 * k
        · rw [cat_lo c]
        · rw [cat_hi (by omega)]
          rcases (show j = 2 * k ∨ j = 2 * k + 1 by omega) with rfl | rfl
          · rw [Nat.sub_self]; unfold hf duo; rw [if_pos rfl, if_pos (by omega), show 2 * k / 2 = k by omega]
          · rw [show 2 * k + 1 - 2 * k = 1 by omega]; unfold hf duo; rw [if_neg (by decide), if_neg (by omega), show (2 * k + 1) / 2 = k by omega]
      have HO : Hid _ := ho3
      have HB : Hid _ := (HB1.out _).trans hb2
      clear ho2 ho3 hb2
      go_wp2
      go_roundw
      case rel => exact ⟨k + 1, by omega, by go_num, HO.out, HB.out⟩
      case measure => simp [intOf]; omega
    · have e : n = k := by omega
      subst e
      obtain ⟨p', c', rfl, k1, k2, k3⟩ := ho.slice
      clear ho
      go_wp2
      go_ret
      exact ⟨p', c', rfl, hbel, k3, k1, k2⟩
end Go.Proofs.YtbncpnkjeadolaaDoor

/- Plain mathematics: half limbs, and how a product is summed up half limb by half limb. -/
namespace Go.Proofs.YtbncpnkjeadolaaDoor

/-- 2^32. -/
def H32 : Int := 4294967296
theorem H32_eq : H32 = 4294967296 := rfl
theorem H32_pos : 0 < H32 := by rw [H32_eq]; decide
def ph : Nat → Int
  | 0 => 1
  | n + 1 => ph n * H32
theorem ph_add (a b : Nat) : ph (a + b) = ph a * ph b := by
  induction b with
  | zero => simp [ph]
  | succ b ih => rw [Nat.add_succ, ph, ih, ph, Int.mul_assoc]
theorem ph_two (n : Nat) : ph (2 * n) = pw n := by
  induction n with
  | zero => rfl
  | succ n ih =>
    rw [show 2 * (n + 1) = 2 * n + 1 + 1 by omega, ph, ph, ih, pw, Int.mul_assoc]; rfl

/-- What the first n half limbs are worth. -/
def vh (f : Nat → Int) : Nat → Int
  | 0 => 0
  | n + 1 => vh f n + f n * ph n
def Rh (f : Nat → Int) (n : Nat) : Prop := ∀ i, i < n → 0 ≤ f i ∧ f i < H32

theorem vh_congr {f g : Nat → Int} {n : Nat} (h : ∀ i, i < n → f i = g i) : vh f n = vh g n := by
  induction n with
  | zero => rfl
  | succ n ih => rw [vh, vh, ih (fun i hi => h i (by omega)), h n (by omega)]
theorem vh_sh (f : Nat → Int) (k n : Nat) : vh f (k + n) = vh f k + ph k * vh (sh f k) n := by
  induction n with
  | zero => simp [vh]
  | succ n ih => rw [Nat.add_succ, vh, ih, vh, ph_add, sh]; grind

/-- The carry into half limb k of s + x y. -/
def crh (s y : Nat → Int) (x : Int) : Nat → Int
  | 0 => 0
  | k + 1 => (s k + crh s y x k + x * y k) / H32
/-- Half limb k of s + x y. -/
def mh (s y : Nat → Int) (x : Int) (k : Nat) : Int := (s k + crh s y x k + x * y k) % H32

theorem prod_bd {x y : Int} (hx : 0 ≤ x ∧ x < H32) (hy : 0 ≤ y ∧ y < H32) : 0 ≤ x * y ∧ x * y ≤ 18446744065119617025 := by
  rw [H32_eq] at *
  refine ⟨Int.mul_nonneg hx.1 hy.1, ?_⟩
  have := Int.mul_le_mul (show x ≤ 4294967295 by omega) (show y ≤ 4294967295 by omega) hy.1 (by omega : (0 : Int) ≤ 4294967295)
  simpa using this

theorem ch_bd {s y : Nat → Int} {x : Int} {n : Nat} (hs : Rh s n) (hy : Rh y n) (hx : 0 ≤ x ∧ x < H32) : 0 ≤ crh s y x n ∧ crh s y x n < H32 := by
  induction n with
  | zero => exact ⟨Int.le_refl _, H32_pos⟩
  | succ n ih =>
    have a := ih (fun i hi => hs i (by omega)) (fun i hi => hy i (by omega))
    have b := hs n (by omega)
    have p := prod_bd hx (hy n (by omega))
    rw [crh]
    generalize x * y n = q at *
    rw [H32_eq] at *
    omega

theorem mh_rh (s y : Nat → Int) (x : Int) (n : Nat) : Rh (mh s y x) n := fun i _ =>
  ⟨Int.emod_nonneg _ (by rw [H32_eq]; decide), Int.emod_lt_of_pos _ H32_pos⟩

theorem vh_mh (s y : Nat → Int) (x : Int) (n : Nat) : vh (mh s y x) n + crh s y x n * ph n = vh s n + x * vh y n := by
  induction n with
  | zero => simp [vh, crh]
  | succ n ih =>
    have e : mh s y x n + H32 * ((s n + crh s y x n + x * y n) / H32) = s n + crh s y x n + x * y n := Int.emod_add_mul_ediv _ _
    rw [vh, vh, vh, crh, ph]
    generalize (s n + crh s y x n + x * y n) / H32 = q at *
    grind

/-- A row of half limbs behind one more: D with x times y added from i on. -/
def hrow (D y : Nat → Int) (x : Int) (i k : Nat) : Nat → Int := fun j => if i ≤ j ∧ j < i + k then mh (sh D i) y x (j - i) else D j

theorem hrow_zero (D y : Nat → Int) (x : Int) (i j : Nat) : hrow D y x i 0 j = D j := by unfold hrow; rw [if_neg (by omega)]
theorem hrow_at (D y : Nat → Int) (x : Int) (i k : Nat) : hrow D y x i k (i + k) = D (i + k) := by unfold hrow; rw [if_neg (by omega)]
theorem hrow_up (D y : Nat → Int) (x : Int) (i k j : Nat) : (if j = i + k then mh (sh D i) y x k else hrow D y x i k j) = hrow D y x i (k + 1) j := by
  unfold hrow
  split
  · subst_vars; rw [if_pos (by omega), show i + k - i = k by omega]
  · split
    · rw [if_pos (by omega)]
    · rw [if_neg (by omega)]

theorem hrow_all {D y : Nat → Int} {x : Int} {i n N : Nat} (hx : 0 ≤ x ∧ x < H32) (hy : Rh y n) (rD : Rh D N) (hN : i + n + 1 ≤ N) (hz : ∀ j, i + n ≤ j → j < N → D j = 0) :
    crh (sh D i) (lm y n) x (n + 1) = 0 ∧ (crh (sh D i) (lm y n) x n = 0 → ∀ j, hrow D (lm y n) x i n j = hrow D (lm y n) x i (n + 1) j) ∧
    vh (hrow D (lm y n) x i (n + 1)) (i + 1 + n) = vh D (i + n) + x * vh y n * ph i ∧ Rh (hrow D (lm y n) x i (n + 1)) N ∧ (∀ j, i + 1 + n ≤ j → j < N → hrow D (lm y n) x i (n + 1) j = 0) := by
  have rs : Rh (sh D i) n := fun j hj => rD (i + j) (by omega)
  have ry : Rh (lm y n) n := fun j hj => by rw [lm_in hj]; exact hy j hj
  have cb := ch_bd rs ry hx
  have s0 : sh D i n = 0 := hz (i + n) (by omega) (by omega)
  have y0 : lm y n n = 0 := lm_out (Nat.le_refl _)
  have c1 : crh (sh D i) (lm y n) x (n + 1) = 0 := by
    rw [crh, s0, y0, Int.mul_zero]
    rw [H32_eq] at *; omega
  have m1 : mh (sh D i) (lm y n) x n = crh (sh D i) (lm y n) x n := by
    unfold mh
    rw [s0, y0, Int.mul_zero]
    rw [H32_eq] at *; omega
  refine ⟨c1, ?_, ?_, ?_, ?_⟩
  · intro h0 j
    rw [← hrow_up]
    split
    · subst_vars; rw [hrow_at, m1, h0]; exact s0
    · rfl
  · rw [show i + 1 + n = i + (n + 1) by omega, vh_sh]
    have e1 : vh (hrow D (lm y n) x i (n + 1)) i = vh D i := vh_congr fun j hj => by unfold hrow; rw [if_neg (by omega)]
    have e2 : vh (sh (hrow D (lm y n) x i (n + 1)) i) (n + 1) = vh (mh (sh D i) (lm y n) x) (n + 1) := vh_congr fun j hj => by
      show hrow D (lm y n) x i (n + 1) (i + j) = _
      unfold hrow; rw [if_pos (by omega), show i + j - i = j by omega]
    have e3 := vh_mh (sh D i) (lm y n) x (n + 1)
    rw [c1, Int.zero_mul, Int.add_zero] at e3
    have e4 : vh (sh D i) (n + 1) = vh (sh D i) n := by rw [vh, s0]; simp
    have e5 : vh (lm y n) (n + 1) = vh y n := by rw [vh, y0, vh_congr (fun j hj => lm_in hj)]; simp
    have e6 := vh_sh D i n
    rw [e1, e2, e3, e4, e5, e6]
    grind
  · intro j hj
    unfold hrow
    split
    · exact mh_rh _ _ _ (j - i + 1) _ (by omega)
    · exact rD j hj
  · intro j h1 h2
    unfold hrow
    rw [if_neg (by omega)]; exact hz j (by omega) h2

end Go.Proofs.YtbncpnkjeadolaaDoor

/- What the document's Times answers. -/
namespace Go.Proofs.YtbncpnkjeadolaaDoor
open Go.RowKit
set_option linter.unusedVariables false

theorem hf_rh {f : Nat → Int} {n : Nat} (r : Rg f n) : Rh (hf f) (2 * n) := fun j hj => by
  have h := r (j / 2) (by omega)
  unfold hf
  rw [B64_eq] at h
  rw [H32_eq]
  split <;> omega

theorem vh_hf (f : Nat → Int) (n : Nat) : vh (hf f) (2 * n) = val f n := by
  induction n with
  | zero => rfl
  | succ n ih =>
    rw [show 2 * (n + 1) = 2 * n + 1 + 1 by omega, vh, vh, ih, val]
    have e1 : hf f (2 * n) = f n % 4294967296 := by unfold hf; rw [if_pos (by omega), show 2 * n / 2 = n by omega]
    have e2 : hf f (2 * n + 1) = f n / 4294967296 := by unfold hf; rw [if_neg (by omega), show (2 * n + 1) / 2 = n by omega]
    rw [e1, e2, ph, ph_two, H32_eq]
    have e3 : f n = f n % 4294967296 + 4294967296 * (f n / 4294967296) := (Int.emod_add_mul_ediv _ _).symm
    generalize f n % 4294967296 = a at *
    generalize f n / 4294967296 = b at *
    rw [e3]
    grind

/-- Limb q of half limbs D, of which there are 2 T + 1. -/
def lw (D : Nat → Int) (T q : Nat) : Int := D (2 * q) + (if q < T then D (2 * q + 1) * 4294967296 else 0)
theorem lw_rg {D : Nat → Int} {T : Nat} (r : Rh D (2 * T + 1)) : Rg (lw D T) (T + 1) := fun q hq => by
  have a := r (2 * q) (by omega)
  unfold lw
  rw [H32_eq] at a
  rw [B64_eq]
  split
  · have b := r (2 * q + 1) (by omega)
    rw [H32_eq] at b; omega
  · omega
theorem val_lw (D : Nat → Int) (T q : Nat) (h : q ≤ T) : val (lw D T) q = vh D (2 * q) := by
  induction q with
  | zero => rfl
  | succ q ih =>
    rw [val, ih (by omega), show 2 * (q + 1) = 2 * q + 1 + 1 by omega, vh, vh, ph, ph_two, H32_eq]
    unfold lw
    rw [if_pos (by omega)]
    grind

set_option maxHeartbeats 2000000 in
theorem refTimes_any (pa pb : Option Addr) (na nb ca cb : Nat) (f g : Nat → Int) (w : World) (ha : At w pa na f) (hb : At w pb nb g) (rf : Rg f na) (rg : Rg g nb) (hN : na ≤ 1000) (hM : nb ≤ 1000) :
    Calls Tryd.prog 23 #[.slice pa na ca, .slice pb nb cb] w fun e w' => ∃ v, e = .returned v ∧ NewP w w' v (na + nb + 1) (val f na * val g nb) := by
  obtain ⟨i0, hi0, hz0, hz1, hz2⟩ := info_parts info64
  have q8 : i0.bytes ≤ 8 := by omega
  clear hz2
  have K1 : Hid _ := halves_any pa na ca f w ha rf (by omega)
  have K2 : Hid (∀ w1, Below w.heap.size w w1 → _) := fun w1 h => halves_any pb nb cb g w1 (hb.below h) rg (by omega)
  have rF := hf_rh rf
  have rG := hf_rh rg
  have vF : Hid _ := vh_hf f na
  have vG : Hid _ := vh_hf g nb
  generalize hf f = F at *
  generalize hf g = G at *
  obtain ⟨nx, hnx⟩ : ∃ nx, nx = 2 * na := ⟨_, rfl⟩
  obtain ⟨ny, hny⟩ : ∃ ny, ny = 2 * nb := ⟨_, rfl⟩
  have x1 : nx ≤ 2000 := by omega
  have y1 : ny ≤ 2000 := by omega
  rw [← hnx] at K1 rF vF
  rw [← hny] at rG vG
  simp only [← hny] at K2
  have HX : Hid _ := hnx
  have HY : Hid _ := hny
  clear hnx hny ha hb rf rg
  go_enter Tryd.func23, Tryd.ntmps23
  go_wp2_with fail
  refine Calls.mono K1.out ?_
  rintro e w1 ⟨px, cx, rfl, B1, ax, l1, l1'⟩
  go_wp2_with fail
  refine Calls.mono (K2.out w1 B1) ?_
  rintro e w2 ⟨py, cy, rfl, B2, ay, l2, l2'⟩
  replace ax := ax.below B2
  have C2 := Below.up B1 (Nat.le_refl _) B2
  have sC := C2.size
  clear K1 K2 B1 B2
  go_wp2_with (at_make; refine wpList_make_lim _ .u64 rfl _ _ 39 22 rfl Tryd.underlying39 i0 hi0 hz0 hz1 q8 .i64 .i64 _ _ (nx + ny + 1) rfl rfl (by omega) (by omega) (by omega) ?_; intro w3 hb3 hs3 hm3)
  go_loopw [8] (fun i wr => ∃ (ii : Nat) (D : Nat → Int), ii ≤ nx ∧ i = .int .i64 ii ∧ Below w2.heap.size w2 wr ∧ Mut wr w2.heap.size 0 (nx + ny + 1) D ∧ Rh D (nx + ny + 1) ∧ vh D (ii + ny) = vh F ii * vh G ny ∧ ∀ j, ii + ny ≤ j → j < nx + ny + 1 → D j = 0) (fun i _ => nx - (intOf i).toNat)
  case atStart =>
    refine ⟨0, Z, Nat.zero_le _, rfl, hb3, hm3, fun j _ => ⟨Int.le_refl _, H32_pos⟩, ?_, fun _ _ _ => rfl⟩
    have : ∀ n, vh Z n = 0 := fun n => by
      induction n with
      | zero => rfl
      | succ n ih => rw [vh, ih]; simp [Z]
    rw [this]; simp [vh]
  case round =>
    obtain ⟨i, D, hi, rfl, hbel, hm, rD, hv, hzz⟩ := hrel
    clear hb3 hs3 hm3
    by_cases hlt : i < nx
    · have hx := rF i hlt
      obtain ⟨A1, A2, A3, A4, A5⟩ := hrow_all (D := D) (y := G) (x := F i) (i := i) (n := ny) hx rG rD (by omega) hzz
      obtain ⟨bx, ox, rfl, hxc⟩ := ax (by omega)
      have HV : Hid _ := hv
      have HA1 : Hid _ := A1
      have HA2 : Hid _ := A2
      have HA3 : Hid _ := A3
      have HA4 : Hid _ := A4
      have HA5 : Hid _ := A5
      have HZZ : Hid _ := hzz
      clear hv A1 A2 A3 A4 A5 hzz
      go_wp2
      go_loopw [9, 10] (fun c k wi => ∃ kk : Nat, kk ≤ ny + 1 ∧ k = .int .i64 kk ∧ c = .int .u64 (crh (sh D i) (lm G ny) (F i) kk) ∧ Below w2.heap.size w2 wi ∧ Mut wi w2.heap.size 0 (nx + ny + 1) (hrow D (lm G ny) (F i) i kk)) (fun _ k _ => ny + 1 - (intOf k).toNat)
      case atStart => exact ⟨0, Nat.zero_le _, rfl, rfl, hbel, hm.congr fun j _ => (hrow_zero _ _ _ _ _).symm⟩
      case round =>
        obtain ⟨kk, hkk, rfl, rfl, hbi, hmi⟩ := hrel
        by_cases hky : kk < ny
        · obtain ⟨byy, oy, rfl, hyc⟩ := ay (by omega)
          have cx1 : wr.cell? ⟨bx, ox + i, none⟩ = some (.int .u64 (F i)) := ((AtK.below (p := some ⟨bx, ox, none⟩) (fun _ => ⟨bx, ox, rfl, hxc⟩ : AtK .u64 w2 _ nx F) hbi) (by omega)).elim fun b' h => by
            obtain ⟨o', e, h⟩ := h
            injection e with e; injection e with e1 e2
            subst e1 e2
            exact h i hlt
          have cy1 : wr.cell? ⟨byy, oy + kk, none⟩ = some (.int .u64 (G kk)) := ((AtK.below (p := some ⟨byy, oy, none⟩) (fun _ => ⟨byy, oy, rfl, hyc⟩ : AtK .u64 w2 _ ny G) hbi) (by omega)).elim fun b' h => by
            obtain ⟨o', e, h⟩ := h
            injection e with e; injection e with e1 e2
            subst e1 e2
            exact h kk hky
          obtain ⟨hc0, hz⟩ := hmi (i + kk) (by omega)
          rw [hrow_at] at hc0
          rw [Nat.zero_add] at hc0 hz
          have d0 := rD (i + kk) (by omega)
          have y0 := rG kk hky
          have c0 := ch_bd (s := sh D i) (y := lm G ny) (x := F i) (n := kk) (fun j hj => rD (i + j) (by omega)) (fun j hj => by rw [lm_in (by omega)]; exact rG j (by omega)) hx
          have pb0 := prod_bd hx y0
          have hmh : mh (sh D i) (lm G ny) (F i) kk = (D (i + kk) + crh (sh D i) (lm G ny) (F i) kk + F i * G kk) % 4294967296 := by
            show (sh D i kk + _ + F i * lm G ny kk) % H32 = _
            rw [lm_in hky, H32_eq]; rfl
          have hch : crh (sh D i) (lm G ny) (F i) (kk + 1) = (D (i + kk) + crh (sh D i) (lm G ny) (F i) kk + F i * G kk) / 4294967296 := by
            rw [crh, lm_in hky, H32_eq]; rfl
          rw [H32_eq] at d0 c0
          have hwp : IntKind.u64.wrap (F i * G kk) = F i * G kk := by rw [IntKind.wrap_u64]; omega
          obtain ⟨dd, hdd⟩ : ∃ d, d = D (i + kk) := ⟨_, rfl⟩
          obtain ⟨cc, hcc⟩ : ∃ c, c = crh (sh D i) (lm G ny) (F i) kk := ⟨_, rfl⟩
          obtain ⟨pp, hpp⟩ : ∃ p, p = F i * G kk := ⟨_, rfl⟩
          rw [← hdd] at hc0 d0 hmh hch
          rw [← hcc] at c0 hmh hch ⊢
          rw [← hpp] at pb0 hwp hmh hch
          have hand : bits BinOp.and IntKind.u64 (dd + cc + pp) 4294967295 = mh (sh D i) (lm G ny) (F i) kk := by rw [hmh]; exact and_low32 _ (by omega) (by omega)
          have hwp2 : IntKind.u64.wrap (F i * G kk) = pp := by rw [← hpp]; exact hwp
          have HMH : Hid _ := hmh
          have HCH : Hid _ := hch
          have HDD : Hid _ := hdd
          have HCC : Hid _ := hcc
          have HPP : Hid _ := hpp
          have HMI : Hid _ := hmi
          have e1 : 0 ≤ dd := by omega
          have e2 : dd ≤ 4294967295 := by omega
          have e3 : 0 ≤ cc := by omega
          have e4 : cc ≤ 4294967295 := by omega
          have e5 : 0 ≤ pp := by omega
          have e6 : pp ≤ 18446744065119617025 := by omega
          have g1 : (0 : Int) ≤ (i : Int) := by omega
          have g2 : (i : Int) < (nx : Int) := by omega
          have g3 : (kk : Int) < (ny : Int) := by omega
          clear hmh hch hdd hcc hpp hmi d0 c0 y0 hx pb0 hwp hxc hyc ax ay
          go_wp2
          go_quiet (fail)
          go_wp2
          go_roundw
          case rel =>
            refine ⟨kk + 1, by omega, by go_num, by rw [HCH.out], (below_draws hbi nq).setCell (Nat.le_refl _) _, ?_⟩
            exact ((MutK.drewN HMI.out nq).set0 (by omega) _).congr fun j _ => hrow_up _ _ _ _ _ _
          case measure => simp [intOf]; omega
        · have fin : vh (hrow D (lm G ny) (F i) i (ny + 1)) (i + 1 + ny) = vh F (i + 1) * vh G ny := by
            rw [HA3.out, HV.out, vh]; grind
          have HF : Hid _ := fin
          clear fin hxc ax ay
          rcases (show kk = ny + 1 ∨ kk = ny by omega) with rfl | rfl
          · rw [HA1.out]
            have HMI : Hid _ := hmi
            clear hmi
            go_wp2
            go_roundw
            case rel => exact ⟨i + 1, _, by omega, by go_num, hbi, HMI.out, HA4.out, HF.out, HA5.out⟩
            case measure => simp [intOf]; omega
          · by_cases h0 : crh (sh D i) (lm G kk) (F i) kk = 0
            · have hmi2 : Mut wr w2.heap.size 0 (nx + kk + 1) (hrow D (lm G kk) (F i) i (kk + 1)) := hmi.congr fun j _ => HA2.out h0 j
              have HMI : Hid _ := hmi2
              rw [h0]
              clear hmi hmi2 h0
              go_wp2
              go_roundw
              case rel => exact ⟨i + 1, _, by omega, by go_num, hbi, HMI.out, HA4.out, HF.out, HA5.out⟩
              case measure => simp [intOf]; omega
            · obtain ⟨hc0, hz⟩ := hmi (i + kk) (by omega)
              rw [hrow_at, HZZ.out (i + kk) (by omega) (by omega)] at hc0
              rw [Nat.zero_add] at hc0 hz
              have c0 := ch_bd (s := sh D i) (y := lm G kk) (x := F i) (n := kk) (fun j hj => rD (i + j) (by omega)) (fun j hj => by rw [lm_in (by omega)]; exact rG j (by omega)) hx
              have s0 : sh D i kk = 0 := HZZ.out (i + kk) (by omega) (by omega)
              have hmh : mh (sh D i) (lm G kk) (F i) kk = (crh (sh D i) (lm G kk) (F i) kk) % 4294967296 := by
                show (sh D i kk + _ + F i * lm G kk kk) % H32 = _
                rw [s0, lm_out (Nat.le_refl _), H32_eq]; simp
              have hch : crh (sh D i) (lm G kk) (F i) (kk + 1) = (crh (sh D i) (lm G kk) (F i) kk) / 4294967296 := by
                rw [crh, s0, lm_out (Nat.le_refl _), H32_eq]; simp
              rw [H32_eq] at c0
              obtain ⟨cc, hcc⟩ : ∃ c, c = crh (sh D i) (lm G kk) (F i) kk := ⟨_, rfl⟩
              rw [← hcc] at c0 hmh hch h0 ⊢
              have hand : bits BinOp.and IntKind.u64 cc 4294967295 = mh (sh D i) (lm G kk) (F i) kk := by rw [hmh]; exact and_low32 _ (by omega) (by omega)
              have HCH : Hid _ := hch
              have HMI : Hid _ := hmi
              have HMH : Hid _ := hmh
              have e3 : 0 < cc := by omega
              have e4 : cc ≤ 4294967295 := by omega
              have g2 : (i : Int) < (nx : Int) := by omega
              clear hmh hch hcc hmi c0 h0 s0 hx
              go_wp2
              go_roundw
              case rel =>
                refine ⟨kk + 1, by omega, by go_num, by rw [HCH.out], hbi.setCell (Nat.le_refl _) _, ?_⟩
                exact (MutK.set0 HMI.out (by omega) _).congr fun j _ => hrow_up _ _ _ _ _ _
              case measure => simp [intOf]
    · have e : nx = i := by omega
      subst e
      obtain ⟨T, hT⟩ : ∃ T, T = na + nb := ⟨_, rfl⟩
      have t1 : nx + ny = 2 * T := by have := HX.out; have := HY.out; omega
      have top := hzz (nx + ny) (Nat.le_refl _) (by omega)
      rw [t1] at top hv
      rw [t1] at hm rD
      have rL := lw_rg rD
      have vL : val (lw D T) (T + 1) = val f na * val g nb := by
        rw [val, val_lw D T T (Nat.le_refl _), hv, vF.out, vG.out]
        unfold lw
        rw [if_neg (by omega), top]; simp
      have HVL : Hid _ := vL
      have HT : Hid _ := hT
      have HT1 : Hid _ := t1
      have kT : T ≤ 2000 := by omega
      have hbw : Below w.heap.size w wr := Below.up C2 (Nat.le_refl _) hbel
      clear vL hT hzz hv top ax ay
      rw [show ((nx + ny + 1 : Nat)) = 2 * T + 1 by omega]
      have HM : Hid _ := hm
      clear t1 hm hbel
      have kx : ¬ (nx : Int) < (nx : Int) := by omega
      obtain ⟨wo, hwo⟩ : ∃ wo, wo = wr := ⟨_, rfl⟩
      subst hwo
      have sw := hbw.size
      go_wp2
      go_loopw [12, 13] (fun v j wj => ∃ q : Nat, q ≤ T + 1 ∧ j = .int .i64 (2 * (q : Int)) ∧ Own wj wo.heap.size 22 .u64 v q (lw D T) ∧ Below wo.heap.size wo wj) (fun _ j _ => 2 * T + 3 - (intOf j).toNat)
      case atStart => exact ⟨0, Nat.zero_le _, by go_num, Own.nil _ _ _ _ _, Below.refl _ _⟩
      case round =>
        obtain ⟨q, hq, rfl, ho, hbo⟩ := hrel
        have hcl : ∀ j, j < 2 * T + 1 → wr.cell? ⟨w2.heap.size, j, none⟩ = some (.int .u64 (D j)) := fun j hj => by
          have := (HM.out j hj).1
          rw [Nat.zero_add] at this
          exact (hbo.cell (p := ⟨w2.heap.size, j, none⟩) (cell_lt this)).trans this
        have HB2 : Hid (∀ o, Below wo.heap.size wo (wr.alloc o)) := fun o => Below.up hbo (Nat.le_refl _) (below_one _ _)
        have HSZ : Hid (∀ o, wo.heap.size ≤ (wr.alloc o).heap.size) := fun o => (HB2.out o).size
        have HO1 : Hid (∀ o, Own (wr.alloc o) wo.heap.size 22 .u64 u12 q (lw D T)) := fun o => ho.below (below_one _ _)
        by_cases hqT : q ≤ T
        · have c0 := hcl (2 * q) (by omega)
          have r0 := rD (2 * q) (by omega)
          rw [H32_eq] at r0
          have g1 : 2 * (q : Int) < 2 * (T : Int) + 1 := by omega
          have q1 : q + 1 ≤ 2000000 := by omega
          by_cases hqq : q < T
          · have c1 := hcl (2 * q + 1) (by omega)
            have r1 := rD (2 * q + 1) (by omega)
            rw [H32_eq] at r1
            have g2 : 2 * (q : Int) + 1 < 2 * (T : Int) + 1 := by omega
            have HLW : Hid (D (2 * q) + D (2 * q + 1) * 4294967296 = lw D T q) := by show _ = _; unfold lw; rw [if_pos hqq]
            generalize D (2 * q) = d0 at *
            generalize D (2 * q + 1) = d1 at *
            clear hcl ho
            go_wp2_with (at_builtin; refine wpList_append_lim .u64 rfl (.tmp 97) (.tmp 99) 39 (by rfl) wo.heap.size 22 i0 Tryd.underlying39 hi0 hz0 hz1 q8 _ q (lw D T) (by rfl) (HO1.out _) (some ⟨wr.heap.size, 0, none⟩) 1 1 (one (d0 + d1 * 4294967296)) (by rfl) (at_one _ _ _) q1 (HSZ.out _) ?_; intro v' w5 ho2 hb5)
            go_roundw
            case rel =>
              refine ⟨q + 1, by omega, by go_num, ?_, (HB2.out _).trans hb5⟩
              rw [HLW.out] at ho2
              exact ho2.congr fun j hj => cat_next hj
            case measure => simp [intOf]; omega
          · have g2 : ¬ 2 * (q : Int) + 1 < 2 * (T : Int) + 1 := by omega
            have HLW : Hid (D (2 * q) = lw D T q) := by show _ = _; unfold lw; rw [if_neg hqq]; simp
            generalize D (2 * q) = d0 at *
            clear hcl ho
            go_wp2_with (at_builtin; refine wpList_append_lim .u64 rfl (.tmp 97) (.tmp 99) 39 (by rfl) wo.heap.size 22 i0 Tryd.underlying39 hi0 hz0 hz1 q8 _ q (lw D T) (by rfl) (HO1.out _) (some ⟨wr.heap.size, 0, none⟩) 1 1 (one d0) (by rfl) (at_one _ _ _) q1 (HSZ.out _) ?_; intro v' w5 ho2 hb5)
            go_roundw
            case rel =>
              refine ⟨q + 1, by omega, by go_num, ?_, (HB2.out _).trans hb5⟩
              rw [HLW.out] at ho2
              exact ho2.congr fun j hj => cat_next hj
            case measure => simp [intOf]; omega
        · have e : q = T + 1 := by omega
          subst e
          have g1 : ¬ 2 * ((T + 1 : Nat) : Int) < 2 * (T : Int) + 1 := by omega
          obtain ⟨p', c', rfl, k1, k2, k3⟩ := ho.slice
          have HR : Hid _ := cut_own p' (T + 1) c' (lw D T) wr k1 k2 k3 (by omega)
          have HBW : Hid _ := Below.up hbw (Nat.le_refl _) hbo
          clear ho hcl hbo
          go_wp2_with fail
          refine Calls.mono HR.out ?_
          rintro e w6 ⟨v6, rfl, hb6, ho6⟩
          have HO : Hid _ := ho6
          have HB6 : Hid _ := Below.up HBW.out (Nat.le_refl _) hb6
          clear ho6 hb6
          go_wp2
          go_ret
          exact ⟨_, rfl, Own.newP (Own.base HO.out (Below.size HBW.out)) HB6.out (by have := tl_le (lw D T) (T + 1); have := HT.out; omega) (Rg.mono rL (tl_le _ _)) (nm_tl _ _) (by rw [val_tl]; exact HVL.out)⟩
end Go.Proofs.YtbncpnkjeadolaaDoor
