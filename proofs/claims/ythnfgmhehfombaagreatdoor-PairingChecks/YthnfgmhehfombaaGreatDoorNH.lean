/- UO. -/
import Derived.Test.YthnfgmhehfombaaGreatDoorNF
import Derived.Test.YthnfgmhehfombaaGreatDoorPD
import Derived.Test.YthnfgmhehfombaaGreatDoorGC
import Derived.Deep.LoopGhost
import Derived.Laws.AppendOwn
/- A row of pairs of its own. -/
namespace Go.Proofs.YthnfgmhehfombaaGreatDoor.fpn
open Go.RowKit Pl EC
set_option linter.unusedVariables false
set_option linter.unusedSimpArgs false
set_option maxRecDepth 4000

noncomputable def rowz (l : List (Nat × Nat)) : List Value := l.flatMap fun P => ZC (zp P)
theorem rowz_at : ∀ (l : List (Nat × Nat)) (i : Nat) (P : Nat × Nat) (j : Nat), l[i]? = some P → j < 38 → (rowz l)[i * 38 + j]? = (ZC (zp P))[j]?
  | [], i, P, j, h, _ => by simp at h
  | Q :: r, 0, P, j, h, hj => by
    obtain rfl : Q = P := by simpa using h
    have e : rowz (Q :: r) = ZC (zp Q) ++ rowz r := rfl
    rw [e, Nat.zero_mul, Nat.zero_add, List.getElem?_append_left (by rw [ZC_len]; exact hj)]
  | Q :: r, i + 1, P, j, h, hj => by
    have e : rowz (Q :: r) = ZC (zp Q) ++ rowz r := rfl
    rw [e, List.getElem?_append_right (by rw [ZC_len]; omega), ZC_len, show (i + 1) * 38 + j - 38 = i * 38 + j by omega]
    exact rowz_at r i P j (by simpa using h) hj
noncomputable def OwnZ (w : World) (B : Nat) (v : Value) (l : List (Nat × Nat)) : Prop := w.ownsRow B 40 38 v l.length (rowz l)
theorem OwnZ.below {w x : World} {B : Nat} {v : Value} {l : List (Nat × Nat)} (h : OwnZ w B v l) (hb : Below w.heap.size w x) : OwnZ x B v l := by
  refine ⟨h.1, ?_⟩
  rcases h.2 with h2 | ⟨g, cap, cur, hv, hB, hg, r⟩
  · exact Or.inl h2
  · refine Or.inr ⟨g, cap, cur, hv, hB, ?_, r⟩
    rw [hb.block g ?_]
    · exact hg
    · exact (Array.getElem?_eq_some_iff.1 hg).1
theorem OwnZ.wr {w x : World} {B b : Nat} {v : Value} {l : List (Nat × Nat)} (h : OwnZ w B v l) (hw : Wr b w x) (hb : b < B) : OwnZ x B v l := by
  have hlt := fun k hv => (World.ownsRow.lt h k hv).1
  refine ⟨h.1, ?_⟩
  rcases h.2 with h2 | ⟨g, cap, cur, rfl, hB, hg, r⟩
  · exact Or.inl h2
  · refine Or.inr ⟨g, cap, cur, rfl, hB, ?_, r⟩
    rw [hw.block g (by have := hlt g rfl; omega)]
    exact hg
theorem OwnZ.at {w : World} {B : Nat} {v : Value} {l : List (Nat × Nat)} (h : OwnZ w B v l) : ∃ p c, v = .slice p l.length c ∧ l.length ≤ c ∧ c ≤ 9223372036854775807 ∧ AtZ w p (l.map zp) := by
  rcases h.2 with ⟨rfl, hn⟩ | ⟨g, cap, cur, rfl, hB, hg, hn, hm, hs, ht⟩
  · exact ⟨none, 0, by rw [hn], by omega, by omega, fun h0 => absurd h0 (by rw [List.length_map]; omega)⟩
  · refine ⟨_, cap, rfl, hn, (by have := hm; unfold maxLen at this; omega), fun h0 => ⟨g, 0, rfl, fun i z hz => ?_⟩⟩
    rw [List.getElem?_map] at hz
    obtain ⟨P, hP, rfl⟩ := Option.map_eq_some_iff.1 hz
    intro j v hv
    have hi : i < l.length := (List.getElem?_eq_some_iff.1 hP).1
    have hj : j < 38 := by
      have := (List.getElem?_eq_some_iff.1 hv).1
      rwa [ZC_len] at this
    have e := rowz_at l i P j hP hj
    rw [hv, ← ht, List.getElem?_take_of_lt (by omega)] at e
    have e' : cur[i * 38 + j]? = some v := by simpa using e
    unfold World.cell?
    simp only [hg, Nat.zero_add]
    simpa using e'
theorem infoZ : ∃ i z, Tryz.prog.info? 40 = some i ∧ i.zero = some z ∧ i.size = 38 ∧ i.bytes = 304 ∧ z.cells.size = 38 := by
  have e : (Tryz.prog.info? 40).map (fun i => (i.size, i.bytes, i.zero.map (·.cells.size))) = some (38, 304, some 38) := by kernel_rfl
  cases hi : Tryz.prog.info? 40 with
  | none => simp [hi] at e
  | some i =>
    simp only [hi, Option.map_some, Option.some.injEq, Prod.mk.injEq, Option.map_eq_some_iff] at e
    obtain ⟨h1, h2, z, hz, h3⟩ := e
    exact ⟨i, z, rfl, hz, h1, h2, h3⟩
theorem wp_appendZ {Q : Exit → Act → World → Prop} {o : Oper} {a : Act} {w : World} {K : Act → World → Prop} (s x : Operand) (ho : o.op = .call { callee := .builtin .append, args := #[s, x], argTypes := #[24, 24] })
    {B : Nat} {v u : Value} {l : List (Nat × Nat)} {P : Nat × Nat} (hs : a.eval s = v) (hown : OwnZ w B v l) (hx : a.eval x = u) (hu : isRow1 (ZC (zp P)) u w) (hl : l.length ≤ 1000) (hB : B ≤ w.heap.size)
    (h : ∀ v' w', OwnZ w' B v' (l ++ [P]) → Below B w w' → K (a.put o.dst v') w') : o.wp Tryz.prog a w K Q := by
  obtain ⟨i, z, hi, hz, h1, h2, h3⟩ := infoZ
  obtain ⟨k, rfl, hc⟩ := hu
  refine wp_append_own w s x 24 ho B 40 i z 38 304 Tryz.underlying24 hi hz h1 h2 h3 (by decide) v l.length (rowz l) hs hown ⟨k, 0, none⟩ 1 1 (ZC (zp P)) hx rfl (fun j u hu => ?_) (fun u hu => ?_) (by simp [maxLen]; omega) (by omega) hB (fun v' w' ho' hgr _ => h v' w' ?_ ?_)
  · have := hc j u hu
    rw [Addr.add_mid]
    exact this
  · have : (ZC (zp P)).all (fun v => v.oneCell') = true := by kernel_rfl
    exact List.all_eq_true.1 this u hu
  · have e : rowz (l ++ [P]) = rowz l ++ ZC (zp P) := by
      unfold rowz
      rw [List.flatMap_append]
      simp
    unfold OwnZ
    rw [e, List.length_append]
    exact ho'
  · have hrow : ∀ k, v.ownBlock = some k → B ≤ k := fun k hk => (World.ownsRow.lt hown k hk).1
    exact ⟨hgr.os, hgr.tape, hgr.output, hgr.size, fun k hk => hgr.block k (by omega) (fun e => by have := hrow k e.symm; omega)⟩
noncomputable def ssum (l : List (Nat × Nat)) : Nat := (l.map fun q => q.1 * q.2).sum % ordR
theorem ssum_next {l : List (Nat × Nat)} {i k m : Nat} (h : l[i]? = some (k, m)) : (ssum (l.take i) + k * m % ordR) % ordR = ssum (l.take (i + 1)) := by
  have e : l.take (i + 1) = l.take i ++ [(k, m)] := by rw [List.take_add_one, h]; rfl
  unfold ssum
  rw [e, List.map_append, List.sum_append]
  simp
theorem ssum_lt (l : List (Nat × Nat)) : ssum l < ordR := Nat.mod_lt _ ordR_pos
theorem ssum_zsum (l : List (Nat × Nat)) : ssum l = zsum l % ordR := by
  unfold ssum
  congr 1
  induction l with
  | nil => rfl
  | cons z l ih => rw [List.map_cons, List.sum_cons, ih]; rfl
theorem zsum_snoc (l : List (Nat × Nat)) (z : Nat × Nat) : zsum (l ++ [z]) = zsum l + z.1 * z.2 := by
  induction l with
  | nil => show z.1 * z.2 + 0 = 0 + z.1 * z.2; omega
  | cons y l ih => show y.1 * y.2 + zsum (l ++ [z]) = y.1 * y.2 + zsum l + z.1 * z.2; rw [ih]; omega
theorem negR {n : Nat} (hn : n < ordR) (w : World) : Calls Tryz.prog 13 #[RV n] w (Ret (RV ((ordR - n) % ordR)) w) := by
  have hn' := Nat.lt_trans hn ordR_256
  refine retR (modR _) (Go.Proofs.YthnfgmhehfombaaGreatDoor.negR_any (lb n) w (lb_rg _ _) (by rw [lbR hn', RI_ordR]; exact Int.ofNat_lt.2 hn)) ?_
  rw [lbR hn', RI_ordR]
  rw [Int.natCast_emod, Int.natCast_sub (Nat.le_of_lt hn), show ((ordR : Nat) : Int) - (n : Int) = (0 - (n : Int)) + (ordR : Nat) by omega, Int.add_emod_right]
theorem fit_zero (l : List (Nat × Nat)) : zsum (l ++ [((ordR - ssum l) % ordR, 1)]) % ordR = 0 := by
  have h := ssum_lt l
  have e := ssum_zsum l
  rw [zsum_snoc, Nat.mul_one, ← Nat.mod_add_mod, ← e, Nat.add_mod_mod, show ssum l + (ordR - ssum l) = ordR by omega, Nat.mod_self]
theorem zp_at {g1 : Pt F} {g2 : Pt F2} (hg1 : g1 = gen1) (hg2 : g2 = gen2) (x y : Nat) : (⟨gp (mul finv x g1), T2.gp (mul F2.inv y g2)⟩ : Prp) = zp (x, y) := by rw [hg1, hg2]; rfl
theorem zp_fit {g1 : Pt F} {g2 : Pt F2} (hg1 : g1 = gen1) (hg2 : g2 = gen2) (x : Nat) : (⟨gp (mul finv x g1), T2.gp g2⟩ : Prp) = zp (x, 1) := by rw [← zp_at hg1 hg2, EC.mul_one]
theorem tail1 {ops : Array Oper} {Q : Exit → Act → World → Prop} {k : Nat} {a : Act} {w : World} (hr : List.range' k (ops.size - k) = [k]) (h : wpOp Tryz.prog ops Q k (fun a' w' => Q .normal a' w') a w) : wpOps Tryz.prog ops Q (List.range' k (ops.size - k)) a w := by
  rw [hr, wpOps_cons]
  exact h
theorem wp_storeR {Q : Exit → Act → World → Prop} {t : TypeId} {n : Nat} {Z : List Value} {o : Oper} {x y : Operand} {a : Act} {w : World} {K : Act → World → Prop} {b : Nat} {cs new : List Value} (hR : RowT Tryz.prog t n Z) (ho : o.op = .store t x y) (hx : a.eval x = .pointer (some ⟨b, 0, none⟩)) (hy : a.eval y = .agg new.toArray) (hl : new.length = n) (hcs : cs.length = n) (h1 : new.all (fun v => v.oneCell') = true) (hb : Box w b cs) (hd : o.dst = none)
    (h : ∀ w', Wr b w w' → Box w' b new → K a w') : o.wp Tryz.prog a w K Q := by
  have ht : w.there b 0 new.toArray.size := fun j hj => by
    have := hb.free (0 + j) (by simp at hj; omega)
    simpa using this
  have hrun := run_storeAt_mid (P := Tryz.prog) w b 0 t new.toArray ht (by have := hR.size; rw [← hl] at this; simpa using this) (all_oneCell_toArray (fun v hv => List.all_eq_true.1 h1 v hv))
  have this : (execOp a.eval o).run Tryz.prog w = .ok .skip (w.setCells b 0 new) := by
    unfold execOp
    simp [ho, hx, hy, Sem.run_bind, hrun]
  unfold Oper.wp
  rw [this]
  simp only [Oper.upon, hd, Act.put]
  refine h _ (Wr.set b new 0 w) ?_
  have e := Box.set hb (off := 0) (cs := new) (by omega)
  have e2 : Pl.splice cs 0 new = new := by unfold Pl.splice; rw [List.take_zero, List.nil_append, List.drop_of_length_le (by omega), List.append_nil]
  rwa [e2] at e
end Go.Proofs.YthnfgmhehfombaaGreatDoor.fpn
