/- Digests: the bytes that are hashed, block by block; a byte more behind a row of one's own. -/
import Derived.Test.YtklddcicfeakfaaDI
import Derived.Test.YtklddcicfeakfaaOYZ
import Derived.Deep.Upon
import Derived.Deep.LoopGhost
namespace Go.Proofs.Ytklddcicfeakfaa.fpn
open Go.RowKit Pl
set_option linter.unusedVariables false
set_option linter.unusedSimpArgs false
set_option maxRecDepth 4000

/-- A new slice of one byte. -/
def isY1 (x : Int) (v : Value) (w : World) : Prop := ∃ k : Nat, v = .slice (some ⟨k, 0, none⟩) 1 1 ∧ w.cell? ⟨k, 0, none⟩ = some (.int .u8 x)
section
variable {ops : Array Oper} {ks : List Kind} {T : List Nat} {a0 : Act} {B : Nat} {w0 W0 : World} {H : List (Nat × List Value)} {i : Nat} {o : Oper}
theorem oY1 {x : Operand} {n : Int} (hw : ∀ L, wantedR ks L o = true := by intro _; kernel_rfl) (ho : o.op = .buildSlice 22 1 #[(0, x)] := by exact rfl)
    (hx : ∀ L, rd ops ks T a0 L i x = .int .u8 n := by intro _; kernel_rfl) (hk : kd ks i = .any (isY1 n)) : Obl Try.prog ops ks T a0 B w0 H i o := ⟨fun L w hsn => by
  rw [if_pos (hw L), hk]
  refine ⟨fun v w x h hb => ?_, ?_⟩
  · obtain ⟨k, e, h⟩ := h
    exact ⟨k, e, (hb.cell (p := ⟨k, 0, none⟩) (cell_lt h)).trans h⟩
  obtain ⟨ie, hi, hz, h1, h2⟩ := infoY
  have hr : (Instr.buildSlice 22 1 #[(0, .int .u8 n)]).run Try.prog w = .ok (.slice (some ⟨w.heap.size, 0, none⟩) 1 1) (w.alloc (.cells #[.int .u8 n] 5)) :=
    run_buildSlice w _ _ 1 _ _ ie _ Try.underlying22 hi hz (by rw [h1]; decide) (by rw [h1]; decide) (by rw [h1]; kernel_rfl)
  have this : (execOp (rd ops ks T a0 L i) o).run Try.prog w = .ok (.value (.slice (some ⟨w.heap.size, 0, none⟩) 1 1)) (w.alloc (.cells #[.int .u8 n] 5)) := by
    unfold execOp
    have h1 : (#[((0 : Nat), x)].map fun p => (p.1, rd ops ks T a0 L i p.2)) = #[(0, .int .u8 n)] := by simp [hx L]
    simp only [ho, h1, Sem.run_bind, hr]
    rfl
  rw [this]
  exact ⟨⟨w.heap.size, rfl, (Box.new w [.int .u8 n] 5).cells 0 _ rfl⟩, (Below.refl _ _).alloc (Nat.le_refl _) _⟩⟩
end
/-- How many bytes are hashed of n; what they are. -/
def padN (n : Nat) : Nat := ((n + 8) / 64 + 1) * 64
theorem padN_mod (n : Nat) : padN n % 64 = 0 := by unfold padN; omega
theorem padN_ge (n : Nat) : n + 9 ≤ padN n ∧ padN n < n + 73 := by unfold padN; omega
theorem pad_at {n z : Nat} (h : n + 1 + z < padN n - 8) : (n + 1 + z) % 64 ≠ 56 := by unfold padN at h; omega
theorem pad_end (n : Nat) : (padN n - 8) % 64 = 56 := by unfold padN; omega
@[irreducible] def pd (g : Nat → Int) (n : Nat) : Nat → Int := fun j =>
  if j < n then g j else if j = n then 128 else if j < padN n - 8 then 0 else ((n * 8 / 2 ^ (8 * (padN n - 1 - j)) % 256 : Nat) : Int)
theorem pd_b (g : Nat → Int) {n j : Nat} (h : j < n) : pd g n j = g j := by unfold pd; rw [if_pos h]
theorem pd_1 (g : Nat → Int) (n : Nat) : pd g n n = 128 := by unfold pd; rw [if_neg (by omega), if_pos rfl]
theorem pd_0 (g : Nat → Int) {n j : Nat} (h : n < j) (h2 : j < padN n - 8) : pd g n j = 0 := by unfold pd; rw [if_neg (by omega), if_neg (by omega), if_pos h2]
theorem pd_l (g : Nat → Int) {n q : Nat} (h : q < 8) : pd g n (padN n - 8 + q) = ((n * 8 / 2 ^ (8 * (7 - q)) % 256 : Nat) : Int) := by
  have := padN_ge n
  unfold pd
  rw [if_neg (by omega), if_neg (by omega), if_neg (by omega), show padN n - 1 - (padN n - 8 + q) = 7 - q by omega]
theorem pd_rg {g : Nat → Int} {n : Nat} (hg : ∀ j, j < n → 0 ≤ g j ∧ g j < 256) (j : Nat) : 0 ≤ pd g n j ∧ pd g n j < 256 := by
  unfold pd
  split
  · exact hg j (by assumption)
  · split
    · omega
    · split <;> omega
/-- The state behind so many blocks. -/
def hsR (g : Nat → Int) (n : Nat) : Nat → Nat → BitVec 32
  | 0 => hz false 8
  | j + 1 => blk (hsR g n j) (fun i => pd g n (64 * j + i)) (hz true 64)
@[irreducible] def hsx (g : Nat → Int) (n j : Nat) : Nat → BitVec 32 := hsR g n j
theorem hsx_0 (g : Nat → Int) (n : Nat) : hsx g n 0 = hz false 8 := by unfold hsx; rfl
theorem hsx_s (g : Nat → Int) (n j : Nat) : hsx g n (j + 1) = blk (hsx g n j) (fun i => pd g n (64 * j + i)) (hz true 64) := by unfold hsx; rfl
/-- A state's bytes. -/
def ob (h : Nat → BitVec 32) (i : Nat) : Int := ((h (i / 4) >>> (24 - 8 * (i % 4))).toNat : Int) % 256
/-- The digest. -/
def dig (g : Nat → Int) (n : Nat) : Nat → Int := ob (hsx g n (padN n / 64))
theorem OwnY.to {w : World} {B : Nat} {v : Value} {f g : Nat → Int} {m n : Nat} (h : OwnY w B v f m) (e : m = n) (c : ∀ j, j < n → f j = g j) : OwnY w B v g n := by subst e; exact h.congr c
/-- One byte more. -/
theorem wp_appendY1 {Q : Exit → Act → World → Prop} {o : Oper} {a : Act} {w : World} {K : Act → World → Prop} (s x : Operand) (ho : o.op = .call { callee := .builtin .append, args := #[s, x], argTypes := #[22, 22] })
    {B : Nat} {v u : Value} {f : Nat → Int} {m : Nat} {y : Int} (hs : a.eval s = v) (hown : OwnY w B v f m) (hx : a.eval x = u) (hu : isY1 y u w) (hy : f m = y) (hl : m + 1 ≤ 1000) (hB : B ≤ w.heap.size)
    (h : ∀ v' w', OwnY w' B v' f (m + 1) → Below B w w' → K (a.put o.dst v') w') : o.wp Try.prog a w K Q := by
  obtain ⟨k, rfl, hc⟩ := hu
  refine wp_appendY (ad := ⟨k, 0, none⟩) (n := 1) (c := 1) (g := fun _ => y) s x ho hs hown hx (fun j hj => ?_) hl hB (fun v' w' ho' hb => h v' w' (ho'.congr fun j hj => ?_) hb)
  · obtain rfl : j = 0 := by omega
    rw [Addr.add_mid]; exact hc
  · unfold cat
    cases e : Nat.blt j m
    · have : j = m := by
        have : ¬ j < m := fun hh => by rw [show Nat.blt j m = true from by simpa using hh] at e; cases e
        omega
      subst this
      exact hy.symm
    · rfl
/-- append([]byte{}, b...). -/
theorem wp_appendE {Q : Exit → Act → World → Prop} {o : Oper} {a : Act} {w : World} {K : Act → World → Prop} (s x : Operand) (ho : o.op = .call { callee := .builtin .append, args := #[s, x], argTypes := #[22, 22] })
    {B : Nat} {v : Value} {f g : Nat → Int} {n c : Nat} {p : Option Addr} (hs : a.eval s = v) (hown : OwnY w B v f 0) (hv : ∃ ad c, v = .slice (some ad) 0 c) (hx : a.eval x = .slice p n c) (hc : AtK .u8 w p n g) (hl : n ≤ 1000) (hB : B ≤ w.heap.size) (hf : ∀ j, j < n → f j = g j)
    (h : ∀ v' w', OwnY w' B v' f n → Below B w w' → K (a.put o.dst v') w') : o.wp Try.prog a w K Q := by
  by_cases h0 : 0 < n
  · obtain ⟨b, off, rfl, hcc⟩ := hc h0
    refine wp_appendY (ad := ⟨b, off, none⟩) (n := n) (c := c) (g := g) s x ho hs hown hx (fun j hj => ?_) (by omega) hB (fun v' w' ho' hb => h v' w' (ho'.to (Nat.zero_add n) fun j hj => ?_) hb)
    · rw [Addr.add_mid]; exact hcc j hj
    · unfold cat
      rw [show Nat.blt j 0 = false from rfl]
      exact (hf j hj).symm
  · obtain rfl : n = 0 := by omega
    obtain ⟨ad, c2, rfl⟩ := hv
    obtain ⟨i, hi, hz, h1, h2⟩ := infoY
    have hle : 0 ≤ c2 := Nat.zero_le _
    have hr := run_append_nothing (P := Try.prog) w 22 22 o.type 5 i Try.underlying22 hi (some ad) 0 c2 hle (.slice p 0 c) (by
      cases p with
      | none => exact Src.ofNil w Try.underlying22 c
      | some q => exact Src.ofSlice w Try.underlying22 q 0 c [] (by simp) (fun j u hj => by simp at hj) (fun u hu => by cases hu))
    unfold Oper.wp execOp
    simp only [ho, resolve, invoke, builtin, Sem.run_bind, Sem.run_pure, Result.andThen_ok, List.map_toArray, List.map_cons, List.map_nil, hs, hx, hr]
    exact h _ _ hown (Below.refl _ _)
end Go.Proofs.Ytklddcicfeakfaa.fpn
