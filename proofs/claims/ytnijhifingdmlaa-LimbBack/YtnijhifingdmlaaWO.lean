/- append(s, make([]T, m)...), s a slice of the call's own. -/
import Derived.Test.YtnijhifingdmlaaWN
import Derived.Lib.AppendZeros
namespace Go.Proofs.Ytnijhifingdmlaa
open Go.RowKit

theorem zeros_list (k : IntKind) (m : Nat) : (Builtin.zeroCells (Value.int k 0).cells m).toList = (List.range m).map fun j => Value.int k (Z j) := by
  simp [Builtin.zeroCells, Value.cells, Nat.mod_one, Z]

theorem run_append_zeros {P : Program} (w : World) (B : Nat) (t tn ty e : TypeId) (i : TypeInfo) (k kn : IntKind) (ht : P.underlying t = some (.slice e)) (htn : P.underlying tn = some (.int kn)) (hi : P.info? e = some i) (hz : i.zero = some (.int k 0)) (hsize : i.size = 1) (hby : i.bytes ≤ 8)
    (v : Value) (n : Nat) (f : Nat → Int) (hown : Own w B e k v n f) (kx : IntKind) (m : Nat) (hle : n + m ≤ 2000000) (hB : B ≤ w.heap.size) :
    ∃ v' w', (Builtin.append_ #[t, tn] ty #[v, .int kx m]).run P w = .ok v' w' ∧ Own w' B e k v' (n + m) (cat f n Z) ∧ Below B w w' := by
  have hw : IntKind.i64.wrap (m : Int) = m := by rw [IntKind.wrap_i64]; omega
  have hneg : ¬ ((m : Int) < 0) := by omega
  have hmb : m * i.bytes ≤ 2000000 * 8 := Nat.mul_le_mul (by omega) hby
  have h48i : ¬ (281474976710656 < (m : Int) * (i.bytes : Int)) := by rw [← Int.natCast_mul]; omega
  by_cases hm : m = 0
  · subst hm
    refine ⟨v, w, ?_, hown.congr fun j hj => (cat_lo hj).symm, Below.refl _ _⟩
    have hw0 : IntKind.i64.wrap 0 = 0 := by rw [IntKind.wrap_i64]; decide
    rcases hown.2 with ⟨rfl, rfl⟩ | ⟨g, cap, cur, rfl, _, _, hnc, _⟩
    · simp [Builtin.append_, run_underlying ht, run_underlying htn, sizeOf, typeInfo, hi, asInt, asIntOf, hw0]
    · simp [Builtin.append_, run_underlying ht, run_underlying htn, sizeOf, typeInfo, hi, asInt, asIntOf, hw0, hnc, storeCells]
  · have hm1 : ¬ (m * i.size = 0) := by rw [hsize]; omega
    have zl := zeros_list k m
    have zc : (Builtin.zeroCells (Value.int k 0).cells m).size = m := by rw [size_zeroCells]; simp [Value.cells]
    rcases hown.2 with ⟨rfl, rfl⟩ | ⟨g, cap, cur, rfl, hbg, hg, hnc, hcm, hcs, htake⟩
    · have hr := Lib.run_append_nil_zeros (P := P) w t tn ty e i (.int k 0) kx kn ht htn hi hz m (by omega) (by omega) (by omega) (by omega)
      refine ⟨_, _, hr, ⟨by simp, .inr ⟨w.heap.size, _, _, by rw [Nat.zero_add], hB, heap_alloc_new w.drew _, ?_, ?_, ?_, ?_⟩⟩, ((Below.refl _ _).drew).alloc (by simpa using hB) _⟩
      · rw [Nat.zero_add]; exact grownCap_ge w m 0 e
      · exact grownCap_le_maxLen w m 0 e (by unfold maxLen; omega)
      · rw [Array.size_append, zc, size_zeroCells]
        have := grownCap_ge w m 0 e
        simp [Value.cells]; omega
      · rw [Nat.zero_add, Nat.mul_one, Array.toList_append, zl, List.take_left' (by simp)]
        exact List.map_congr_left fun j _ => by rw [cat_hi (Nat.zero_le _), Nat.sub_zero]
    · have hlen : ((List.range n).map fun j => Value.int k (f j)).length = n := by simp
      have news1 : ∀ u ∈ (List.range m).map fun j => Value.int k (Z j), u.oneCell' = true := fun u hu => by simp at hu; obtain ⟨j, _, rfl⟩ := hu; rfl
      rw [Nat.mul_one] at hcs htake
      by_cases hroom : n + m ≤ cap
      · have hst := run_storeCells_at P g n e ((List.range m).map fun j => Value.int k (Z j)) 0 cur w hg (by simp; omega) news1
        simp only [Nat.add_zero] at hst
        have hr : (Builtin.append_ #[t, tn] ty #[.slice (some ⟨g, 0, none⟩) n cap, .int kx m]).run P w = .ok (.slice (some ⟨g, 0, none⟩) (n + m) cap) (w.setRow g (cur.toList.take n ++ ((List.range m).map fun j => Value.int k (Z j)) ++ cur.toList.drop (n + ((List.range m).map fun j => Value.int k (Z j)).length)).toArray) := by
          simp [Builtin.append_, run_underlying ht, run_underlying htn, sizeOf, typeInfo, zeroValue, hi, hz, asInt, asIntOf, hw, hneg, h48i, hm, hsize, hroom, Addr.add_lit, zl, hst]
        refine ⟨_, _, hr, ⟨by simp, .inr ⟨g, cap, _, rfl, hbg, setRow_heap w g cur _ e _ hg, hroom, hcm, ?_, ?_⟩⟩, below_setRow (Below.refl _ _) hbg _⟩
        · simp only [List.size_toArray, List.length_append, List.length_take, List.length_drop, Array.length_toList, List.length_map, List.length_range]
          omega
        · rw [htake, Nat.mul_one, cat_list, List.take_left' (by simp)]
      · have h63' : ¬ (9223372036854775807 < ((n : Int) + (m : Int))) := by omega
        have hfit := growslice_fits (need := n + m) (old := cap) (bytes := i.bytes) (by omega) (by have := Nat.mul_le_mul hle hby; omega)
        have h48' : ¬ (281474976710656 < Builtin.nextslicecap (n + m) cap * i.bytes) := by omega
        have holds : ∀ j u, ((List.range n).map fun j => Value.int k (f j))[j]? = some u → w.cell? ((⟨g, 0, none⟩ : Addr).add j) = some u := World.ownsRow.cells hown (g := g) rfl
        have hfo := run_firstCells_some (P := P) w.drew 1 n ⟨g, 0, none⟩ n cap ((List.range n).map fun j => Value.int k (f j)) (by simp) (fun j u h => holds j u h)
        have hr : (Builtin.append_ #[t, tn] ty #[.slice (some ⟨g, 0, none⟩) n cap, .int kx m]).run P w = .ok (.slice (some ⟨w.heap.size, 0, none⟩) (n + m) (grownCap w (n + m) cap e)) (w.drew.alloc (.cells (((List.range n).map fun j => Value.int k (f j)).toArray ++ Builtin.zeroCells (Value.int k 0).cells m ++ Builtin.zeroCells (Value.int k 0).cells (grownCap w (n + m) cap e - (n + m))) e)) := by
          simp [Builtin.append_, run_underlying ht, run_underlying htn, sizeOf, typeInfo, zeroValue, hi, hz, asInt, asIntOf, hw, hneg, h48i, hm, hsize, hroom, h63', h48', Question.forced, newRow, grownCap]
          simp [hfo]
        refine ⟨_, _, hr, ⟨by simp, .inr ⟨w.heap.size, _, _, rfl, hB, heap_alloc_new w.drew _, grownCap_ge w (n + m) cap e, grownCap_le_maxLen w (n + m) cap e (by unfold maxLen; omega), ?_, ?_⟩⟩, ((Below.refl _ _).drew).alloc (by simpa using hB) _⟩
        · have := grownCap_ge w (n + m) cap e
          simp only [Array.size_append, zc, size_zeroCells, List.size_toArray, List.length_map, List.length_range]
          simp [Value.cells]; omega
        · rw [Array.toList_append, Array.toList_append, zl, List.toList_toArray, cat_list, Nat.mul_one, List.take_left' (by simp)]

/-- .. at a step of the walk. -/
theorem wpList_append_zeros {P : Program} {w : World} {ops : Array Oper} {rest : List Oper} {o : Oper} {a : Act} {Q : Exit → Act → World → Prop} (k kn kx : IntKind) (hgd : o.guard = none) (s x : Operand) (t tn : TypeId)
    (ho : o.op = .call { callee := .builtin .append, args := #[s, x], argTypes := #[t, tn] }) (B e : TypeId) (i : TypeInfo) (ht : P.underlying t = some (.slice e)) (htn : P.underlying tn = some (.int kn)) (hi : P.info? e = some i) (hz : i.zero = some (.int k 0)) (hsize : i.size = 1) (hby : i.bytes ≤ 8)
    (v : Value) (n : Nat) (f : Nat → Int) (hs : a.eval s = v) (hown : Own w B e k v n f) (m : Nat) (X : Int) (hx : a.eval x = .int kx X) (hX : X = (m : Int)) (hle : n + m ≤ 2000000) (hB : B ≤ w.heap.size)
    (hK : ∀ v' w', Own w' B e k v' (n + m) (cat f n Z) → Below B w w' → wpList P ops Q rest (a.put o.dst v') w') : wpList P ops Q (o :: rest) a w := by
  subst hX
  obtain ⟨v', w', hr, h1, h2⟩ := run_append_zeros (P := P) w B t tn o.type e i k kn ht htn hi hz hsize hby v n f hown kx m hle hB
  exact Lib.wpList_append_run w hgd s x t tn ho v _ hs hx v' w' hr (hK v' w' h1 h2)
end Go.Proofs.Ytnijhifingdmlaa
