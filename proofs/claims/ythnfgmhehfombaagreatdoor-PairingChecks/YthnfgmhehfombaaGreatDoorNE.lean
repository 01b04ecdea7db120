/- UA. -/
import Derived.Test.YthnfgmhehfombaaGreatDoorGK
import Derived.Test.YthnfgmhehfombaaGreatDoorGQ
import Derived.Test.YthnfgmhehfombaaGreatDoorGF
import Derived.Test.YthnfgmhehfombaaGreatDoorGC
import Derived.Test.YthnfgmhehfombaaGreatDoorNC
/- Pairs of points as Go has them; new rows of them; what is asked of package pairing. -/
namespace Go.Proofs.YthnfgmhehfombaaGreatDoor.fpn
open Go.RowKit Pl EC
set_option linter.unusedVariables false
set_option linter.unusedSimpArgs false
set_option maxRecDepth 4000

structure Prp where
  p : G1p
  q : T2.G2p
def ZC (z : Prp) : List Value := GC z.p ++ T2.GC z.q
def ZV (z : Prp) : Value := .agg (ZC z).toArray
theorem rZ : RowT Tryz.prog 40 38 (ZC ⟨⟨0, 0, false⟩, ⟨0, 0, false⟩⟩) := ⟨⟨_, Tryz.underlying40, rfl⟩, by kernel_rfl, by kernel_rfl⟩
theorem fZ0 : FldT Tryz.prog 40 0 0 12 := ⟨_, _, Tryz.underlying40, rfl, rfl, by kernel_rfl⟩
theorem fZ1 : FldT Tryz.prog 40 1 13 24 := ⟨_, _, Tryz.underlying40, rfl, rfl, by kernel_rfl⟩
theorem buildZ01 (a : G1p) (b : T2.G2p) (w : World) : (Instr.build 40 #[(0, GV a), (1, T2.GV b)]).run Tryz.prog w = .ok (ZV ⟨a, b⟩) w := run_build w _ _ _ (by kernel_rfl)
def AtZ (w : World) (p : Option Addr) (l : List Prp) : Prop := 0 < l.length → ∃ b off, p = some ⟨b, off, none⟩ ∧ ∀ j z, l[j]? = some z → w.rangeAt b (off + j * 38) (ZC z)
theorem AtZ.up {w x : World} {B : Nat} {p : Option Addr} {l : List Prp} (h : AtZ w p l) (k : Below w.heap.size w x) : AtZ x p l := fun h0 => by
  obtain ⟨b, off, e, h⟩ := h h0
  exact ⟨b, off, e, fun j z hz => range_up (h j z hz) k⟩
theorem AtZ.nil {w : World} {p : Option Addr} : AtZ w p [] := fun h => absurd h (Nat.lt_irrefl 0)
theorem AtZ.one {w : World} {z : Prp} {v : Value} (h : isRow1 (ZC z) v w) : ∃ p, v = .slice p 1 1 ∧ AtZ w p [z] := by
  obtain ⟨k, rfl, h⟩ := h
  refine ⟨_, rfl, fun _ => ⟨k, 0, rfl, fun j y hy => ?_⟩⟩
  cases j with
  | zero => injection hy with hy; subst hy; exact h
  | succ j => cases hy
def isRow2Z (x y : Prp) (v : Value) (w : World) : Prop := ∃ k : Nat, v = .slice (some ⟨k, 0, none⟩) 2 2 ∧ w.rangeAt k 0 (ZC x) ∧ w.rangeAt k 38 (ZC y)
theorem AtZ.two {w : World} {x y : Prp} {v : Value} (h : isRow2Z x y v w) : ∃ p, v = .slice p 2 2 ∧ AtZ w p [x, y] := by
  obtain ⟨k, rfl, h, h'⟩ := h
  refine ⟨_, rfl, fun _ => ⟨k, 0, rfl, fun j z hz => ?_⟩⟩
  match j, hz with
  | 0, hz => injection hz with hz; subst hz; exact h
  | 1, hz => injection hz with hz; subst hz; exact h'
theorem ZC_len (z : Prp) : (ZC z).length = 38 := rfl
theorem run_row2Z (x y : Prp) (w : World) : (Instr.buildSlice 24 2 #[(0, ZV x), (1, ZV y)]).run Tryz.prog w = .ok (.slice (some ⟨w.heap.size, 0, none⟩) 2 2) (w.alloc (.cells (ZC x ++ ZC y).toArray 40)) := by
  have hs := rZ.size
  have hz := rZ.zero
  cases hi : Tryz.prog.info? 40 with
  | none => simp [hi] at hs
  | some ie =>
    simp [hi] at hs hz
    refine run_buildSlice w _ _ 2 _ _ ie _ Tryz.underlying24 hi hz (by rw [hs]; omega) (by rw [hs]; omega) ?_
    rw [hs]
    kernel_rfl
section
variable {ops : Array Oper} {ks : List Kind} {T : List Nat} {a0 : Act} {B : Nat} {w0 W0 : World} {H : List (Nat × List Value)} {i : Nat} {o : Oper}
theorem oS2Z {p q : Operand} {x y : Prp} (hw : ∀ L, wantedR ks L o = true := by intro _; kernel_rfl) (ho : o.op = .buildSlice 24 2 #[(0, p), (1, q)] := by exact rfl)
    (hp : ∀ L, rd ops ks T a0 L i p = ZV x := by intro _; kernel_rfl) (hq : ∀ L, rd ops ks T a0 L i q = ZV y := by intro _; kernel_rfl) (hk : kd ks i = .any (isRow2Z x y)) : Obl Tryz.prog ops ks T a0 B w0 H i o := ⟨fun L w hsn => by
  rw [if_pos (hw L), hk]
  refine ⟨fun v w x h hb => ?_, ?_⟩
  · obtain ⟨k, e, h1, h2⟩ := h
    exact ⟨k, e, range_up h1 hb, range_up h2 hb⟩
  have this : (execOp (rd ops ks T a0 L i) o).run Tryz.prog w = .ok (.value (.slice (some ⟨w.heap.size, 0, none⟩) 2 2)) (w.alloc (.cells (ZC x ++ ZC y).toArray 40)) := by
    unfold execOp
    have h1 : (#[((0 : Nat), p), (1, q)].map fun z => (z.1, rd ops ks T a0 L i z.2)) = #[(0, ZV x), (1, ZV y)] := by simp [hp L, hq L]
    simp only [ho, h1, Sem.run_bind, run_row2Z]
    rfl
  rw [this]
  have hc := (Box.new w (ZC x ++ ZC y) 40).cells
  refine ⟨⟨w.heap.size, rfl, fun j v hv => ?_, fun j v hv => ?_⟩, (Below.refl _ _).alloc (Nat.le_refl _) _⟩
  · exact hc j v (by rw [List.getElem?_append_left (List.getElem?_eq_some_iff.1 hv).1]; exact hv)
  · have := hc (38 + j) v (by rw [List.getElem?_append_right (by rw [ZC_len]; omega)]; rw [show 38 + j - (ZC x).length = j from Nat.add_sub_cancel_left 38 j]; exact hv)
    rwa [Nat.zero_add] at this⟩
end
noncomputable def zp (z : Nat × Nat) : Prp := ⟨gp (EC.mul finv z.1 gen1), T2.gp (EC.mul F2.inv z.2 gen2)⟩
def zsum : List (Nat × Nat) → Nat
  | [] => 0
  | z :: l => z.1 * z.2 + zsum l
structure PairK (G : World → Prop) : Prop where
  stay : ∀ {w x : World}, G w → Below w.heap.size w x → G x
  tell : ∀ (a b : Nat) (w : World), G w → Calls Tryz.prog 16 #[GV (gp (EC.mul finv a gen1)), T2.GV (T2.gp (EC.mul F2.inv b gen2))] w (Ret (V12 (npw F12.gt (a * b))) w)
  tell0 : ∀ (P : Pt F) (b : Nat) (w : World), G w → On (4 : F) P → EC.mul finv ordR P ≠ .inf → Calls Tryz.prog 16 #[GV (gp P), T2.GV (T2.gp (EC.mul F2.inv b gen2))] w (Ret (V12 1) w)
  check : ∀ (l : List (Nat × Nat)) (p : Option Addr) (n c : Nat) (w : World), G w → l.length ≤ 20 → n = l.length → n ≤ c → c ≤ 9223372036854775807 → AtZ w p (l.map zp) → Calls Tryz.prog 15 #[.slice p n c] w (Ret (.bool (decide (zsum l % ordR = 0))) w)
  check0 : ∀ (P : Pt F) (q : T2.G2p) (l : List Prp) (p : Option Addr) (n c : Nat) (w : World), G w → On (4 : F) P → EC.mul finv ordR P ≠ .inf → l.length ≤ 19 → n = l.length + 1 → n ≤ c → c ≤ 9223372036854775807 → AtZ w p (⟨gp P, q⟩ :: l) → Calls Tryz.prog 15 #[.slice p n c] w (Ret (.bool false) w)
end Go.Proofs.YthnfgmhehfombaaGreatDoor.fpn
