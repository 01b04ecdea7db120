/- New slices, letters that are kept, in a plan. No program is named here. -/
import Derived.Test.YtklddcicfeakfaaPR
import Derived.Test.YtklddcicfeakfaaMem
import Derived.Great.BuildSlice
namespace Go.Proofs.Ytklddcicfeakfaa.Pl
open Go Go.RowKit
set_option linter.unusedVariables false
set_option linter.unusedSimpArgs false
section
variable {P : Program} {ops : Array Oper} {ks : List Kind} {T : List Nat} {a0 : Act} {B : Nat} {w0 W0 : World} {H : List (Nat × List Value)} {i : Nat} {o : Oper}
theorem oMV {k : Nat} {x : Operand} (hw : ∀ L, wantedR ks L o = true := by intro _; kernel_rfl) (ho : o.op = .move x := by exact rfl) (hx : ∀ L, rd ops ks T a0 L i x = L.v k := by intro _; kernel_rfl) (hk : kd ks i = .detV k (fun v => v)) : Obl P ops ks T a0 B w0 H i o := ⟨ob_moveV hw hk ho hx⟩
theorem oAV {k : Nat} {x : Operand} (hw : ∀ L, wantedR ks L o = true := by intro _; kernel_rfl) (ho : o.op = .assign x := by exact rfl) (hx : ∀ L, rd ops ks T a0 L i x = L.v k := by intro _; kernel_rfl) (hk : kd ks i = .detV k (fun v => v)) : Obl P ops ks T a0 B w0 H i o :=
  ⟨ob_pureV hw hk fun L w => by unfold execOp; simp only [ho, hx L]; rfl⟩
/-- A new slice of one word. -/
def isOne (x : Int) (v : Value) (w : World) : Prop := ∃ k : Nat, v = .slice (some ⟨k, 0, none⟩) 1 1 ∧ AtK .u64 w (some ⟨k, 0, none⟩) 1 (fun _ => x)
theorem isOne.stay {x : Int} {v : Value} {w y : World} (h : isOne x v w) (hb : Below w.heap.size w y) : isOne x v y := by
  obtain ⟨k, e, h⟩ := h
  exact ⟨k, e, AtK.below h hb⟩
theorem run_one {t e : TypeId} {x : Int} (hu : P.underlying t = some (.slice e)) (hs : (P.info? e).map (·.size) = some 1) (hz : (P.info? e).bind (·.zero) = some (.int .u64 0)) (w : World) :
    (Instr.buildSlice t 1 #[(0, .int .u64 x)]).run P w = .ok (.slice (some ⟨w.heap.size, 0, none⟩) 1 1) (w.alloc (.cells #[.int .u64 x] e)) := by
  cases hi : P.info? e with
  | none => simp [hi] at hs
  | some ie =>
    simp [hi] at hs hz
    exact run_buildSlice w t e 1 _ _ ie _ hu hi hz (by rw [hs]; decide) (by rw [hs]; decide) (by rw [hs]; kernel_rfl)
theorem oS1 {t e : TypeId} {x : Operand} {n : Int} (hu : P.underlying t = some (.slice e)) (hs : (P.info? e).map (·.size) = some 1) (hz : (P.info? e).bind (·.zero) = some (.int .u64 0)) (hw : ∀ L, wantedR ks L o = true := by intro _; kernel_rfl) (ho : o.op = .buildSlice t 1 #[(0, x)] := by exact rfl)
    (hx : ∀ L, rd ops ks T a0 L i x = .int .u64 n := by intro _; kernel_rfl) (hk : kd ks i = .any (isOne n)) : Obl P ops ks T a0 B w0 H i o := ⟨fun L w hsn => by
  rw [if_pos (hw L), hk]
  refine ⟨fun v w x h hb => h.stay hb, ?_⟩
  have : (execOp (rd ops ks T a0 L i) o).run P w = .ok (.value (.slice (some ⟨w.heap.size, 0, none⟩) 1 1)) (w.alloc (.cells #[.int .u64 n] e)) := by
    unfold execOp
    have h1 : (#[((0 : Nat), x)].map fun p => (p.1, rd ops ks T a0 L i p.2)) = #[(0, .int .u64 n)] := by simp [hx L]
    simp only [ho, h1, Sem.run_bind, run_one hu hs hz]
    rfl
  rw [this]
  refine ⟨⟨w.heap.size, rfl, fun _ => ⟨w.heap.size, 0, rfl, fun j hj => ?_⟩⟩, (Below.refl _ _).alloc (Nat.le_refl _) _⟩
  obtain rfl : j = 0 := by omega
  exact (Box.new w [.int .u64 n] e).cells 0 _ rfl⟩
theorem AnyF.at {ks : List Kind} {L : Lt} {w : World} {j : Nat} {C : Value → World → Prop} : ∀ {l : List Nat}, AnyF ks L w l → l.contains j = true → kd ks j = .any C → C (L.v j) w
  | [], _, h, _ => by simp at h
  | k :: r, ha, h, hk => by
    unfold AnyF at ha
    by_cases e : j = k
    · subst e
      rw [hk] at ha
      exact ha.1
    · have h' : r.contains j = true := by simpa [e] using h
      split at ha
      · exact AnyF.at ha.2 h' hk
      · exact AnyF.at ha h' hk
theorem shr1 (t : TypeId) (m : Nat) (w : World) : (binOp .shr t (.int .u64 (m : Int)) (.int .u64 1)).run P w = .ok (.int .u64 ((m / 2 : Nat) : Int)) w := by
  have e : (m : Int).fdiv (2 ^ min 1 IntKind.u64.bits) = ((m / 2 : Nat) : Int) := by
    rw [show (2 : Int) ^ min 1 IntKind.u64.bits = 2 by decide, Int.fdiv_eq_ediv_of_nonneg _ (by decide)]
    rfl
  simp [binOp, Op.shift, Sem.run_bind, e]
theorem add64 (t : TypeId) (m n : Nat) (h : m + n < 18446744073709551616) (w : World) : (binOp .add t (.int .u64 (m : Int)) (.int .u64 (n : Int))).run P w = .ok (.int .u64 ((m + n : Nat) : Int)) w := by
  have e : IntKind.u64.wrap ((m : Int) + (n : Int)) = ((m + n : Nat) : Int) := by unfold IntKind.wrap; simp [IntKind.bits, IntKind.signed]; omega
  simp only [binOp, Op.intArith, e]; simp [Sem.run_bind, e]
/-- As gs, the letters' conditions in hand. -/
theorem gsA {id nt : Nat} {Q : Exit → Act → World → Prop} (ks : List Kind) (N T : List Nat) (A : Lt → List Value) (H' : Lt → List (Nat × List Value)) (hHp : Heap B w0 W0 H) (hob : AllOb2 P ops ks T a0 B w0 H N ops.toList ks)
    (hQ : ∀ L w, Heap B w0 w (H' L) → AnyF ks L w (List.range ks.length) → Q .normal { tmps := (A L).toArray, defers := [] } w) (hno : (List.range ks.length).all (fun s => !isStore ks s) = true := by kernel_rfl) (hnt : nt = a0.tmps.size := by exact rfl) (hc : chk ops ks T nt H.length = true := by kernel_rfl) (hdf : a0.defers = [] := by exact rfl)
    (hA : ∀ L, (List.range nt).map (slotF ops ks a0 L) = A L := by intro _; kernel_rfl) (hF : ∀ L, heapF ks H L = H' L := by intro _; kernel_rfl) (hN : N = List.range' 0 ops.toList.length := by kernel_rfl) :
    (Code.region id ops false).wp P Q a0 W0 :=
  plain hc hnt rfl hHp (AllOb2.to _ 0 N ks hN (fun j _ => by rw [Nat.zero_add]; rfl) hob) fun L w h ha => by
    rw [← hnt, hA L, hdf]
    exact hQ L w (hF L ▸ h) (ha hno)
end
end Go.Proofs.Ytklddcicfeakfaa.Pl
