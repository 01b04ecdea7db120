/- Rows of bytes of one's own; a region's last operations. -/
import Derived.Test.YtklddcicfeakfaaBZ
import Derived.Laws.AppendOwn
namespace Go.Proofs.Ytklddcicfeakfaa.fpn
open Go.RowKit Pl
set_option linter.unusedVariables false
set_option linter.unusedSimpArgs false
set_option maxRecDepth 4000

theorem Heap.later {B : Nat} {w0 w x : World} {H : List (Nat × List Value)} (h : Heap B w0 w H) (hb : Below w.heap.size w x) : Heap B w0 x H :=
  ⟨h.bel.trans (hb.mono h.le), fun p hp => ⟨(h.box p hp).1, (h.box p hp).2.up hb⟩, h.nd, Nat.le_trans h.le hb.size⟩
theorem Heap.lts {B : Nat} {w0 w : World} {H : List (Nat × List Value)} (h : Heap B w0 w H) : ∀ b ∈ H.map (·.1), b < w.heap.size := fun b hb => by
  obtain ⟨p, hp, rfl⟩ := List.mem_map.1 hb
  exact (h.box p hp).2.lt
section
variable {ops : Array Oper} {Q : Exit → Act → World → Prop}
theorem tail3 {k : Nat} {a : Act} {w : World} (hr : List.range' k (ops.size - k) = [k, k + 1, k + 2]) (h : wpOp Try.prog ops Q k (fun a1 w1 => wpOp Try.prog ops Q (k + 1) (fun a2 w2 => wpOp Try.prog ops Q (k + 2) (fun a3 w3 => Q .normal a3 w3) a2 w2) a1 w1) a w) : wpOps Try.prog ops Q (List.range' k (ops.size - k)) a w := by
  rw [hr, wpOps_cons]
  refine wpOp_mono (fun a' w' h' => ?_) h
  rw [wpOps_cons]
  refine wpOp_mono (fun a' w' h' => ?_) h'
  rw [wpOps_cons]
  exact h'
theorem wp_callB {o : Oper} {a : Act} {w : World} {K : Act → World → Prop} {fn : FuncId} {xs : Array Operand} {ts : Array TypeId} {vs : Array Value} {f : Nat → Int} {n : Nat} (h : Calls Try.prog fn vs w (RetB f n w))
    (hK : ∀ k c x, n ≤ c → c ≤ 9223372036854775807 → w.heap.size ≤ k → Below w.heap.size w x → Box x k (BC f n) → K (a.put o.dst (.slice (some ⟨k, 0, none⟩) n c)) x)
    (hf : plainF Try.prog fn = true := by kernel_rfl) (ho : o.op = .call { callee := .value (.func fn), args := xs, argTypes := ts } := by exact rfl) (hx : xs.map a.eval = vs := by kernel_rfl) : o.wp Try.prog a w K Q := by
  have this : (execOp a.eval o).run Try.prog w = .ok (.enter fn vs) w := by
    unfold execOp
    simp only [ho, resolve, hx, Deferred.ofValue, Act.eval, Sem.run_bind, Sem.run_pure, Result.andThen_ok, Array.empty_append, run_enter hf]
  unfold Oper.wp
  rw [this]
  refine Runs.upon (R := fun v x => ∃ k c, v = .slice (some ⟨k, 0, none⟩) n c ∧ n ≤ c ∧ c ≤ 9223372036854775807 ∧ w.heap.size ≤ k ∧ Below w.heap.size w x ∧ Box x k (BC f n)) (Calls.mono h fun e x hx => ?_) fun v x hx => ?_
  · obtain ⟨v, he, ⟨k, c, hv, h1, h2, h3, -, h5⟩, hb⟩ := hx
    exact ⟨v, he, k, c, hv, h1, h2, h3, hb, h5⟩
  · obtain ⟨k, c, rfl, h1, h2, h3, hb, h5⟩ := hx
    exact hK k c x h1 h2 h3 hb h5
end
/-- A slice of bytes that is one's own. -/
def OwnY (w : World) (B : Nat) (v : Value) (f : Nat → Int) (n : Nat) : Prop := w.ownsRow B 5 1 v n (BC f n)
theorem OwnY.nil {w : World} {B : Nat} {f : Nat → Int} : OwnY w B (.slice none 0 0) f 0 := World.ownsRow_nil w B _ 1
theorem OwnY.below {w x : World} {B : Nat} {v : Value} {f : Nat → Int} {n : Nat} (h : OwnY w B v f n) (hb : Below w.heap.size w x) : OwnY x B v f n := by
  refine ⟨h.1, ?_⟩
  rcases h.2 with h2 | ⟨g, cap, cur, hv, hB, hg, r⟩
  · exact Or.inl h2
  · refine Or.inr ⟨g, cap, cur, hv, hB, ?_, r⟩
    rw [hb.block g ?_]
    · exact hg
    · exact (Array.getElem?_eq_some_iff.1 hg).1
theorem OwnY.congr {w : World} {B : Nat} {v : Value} {f g : Nat → Int} {n : Nat} (h : OwnY w B v f n) (e : ∀ j, j < n → f j = g j) : OwnY w B v g n := by
  unfold OwnY; rw [← BC_congr e]; exact h
theorem OwnY.box {w : World} {B : Nat} {v : Value} {f : Nat → Int} {n : Nat} (h : OwnY w B v f n) (h0 : 0 < n) : ∃ k c, v = .slice (some ⟨k, 0, none⟩) n c ∧ n ≤ c ∧ c ≤ 9223372036854775807 ∧ B ≤ k ∧ Box w k (BC f n) := by
  rcases h.2 with ⟨-, hn⟩ | ⟨g, cap, cur, rfl, hB, hg, hn, hm, hs, ht⟩
  · omega
  · have hc : ∀ j, j < n → w.cell? ⟨g, 0 + j, none⟩ = some (.int .u8 (f j)) := fun j hj => by
      have e := BC_at (f := f) hj
      rw [← ht, List.getElem?_take_of_lt (by omega)] at e
      have e' : cur[j]? = some (.int .u8 (f j)) := by simpa using e
      rw [Nat.zero_add, cell_of_row w g j cur _ _ hg]; exact e'
    refine ⟨g, cap, rfl, hn, by simp only [maxLen] at hm; omega, hB, (Array.getElem?_eq_some_iff.1 hg).1, fun j v hv => ?_, fun j hj => ?_⟩
    · have hj : j < n := by have := (List.getElem?_eq_some_iff.1 hv).1; rwa [BC_len] at this
      rw [BC_at hj] at hv; rw [hc j hj]; exact hv
    · rw [BC_len] at hj
      exact ⟨by rw [hc j hj]; rfl, by rw [Nat.zero_add]; exact frozen_of_row w g j cur _ hg⟩
theorem OwnY.isB {w : World} {B k0 : Nat} {bs : List Nat} {v : Value} {f : Nat → Int} {n : Nat} (h : OwnY w k0 v f n) (h0 : 0 < n) (hB : B ≤ k0) (hbs : ∀ b ∈ bs, b < k0) : isB B bs f n v w := by
  obtain ⟨k, c, e, h1, h2, h3, h4⟩ := h.box h0
  exact ⟨k, c, e, h1, h2, Nat.le_trans hB h3, fun b hb => Nat.lt_of_lt_of_le (hbs b hb) h3, h4⟩
/-- A new row of one's own, behind the blocks that are named. -/
def isO (B : Nat) (bs : List Nat) (f : Nat → Int) (n : Nat) (v : Value) (w : World) : Prop := ∃ k, B ≤ k ∧ k ≤ w.heap.size ∧ (∀ b ∈ bs, b < k) ∧ OwnY w k v f n
theorem isO.stay {B : Nat} {bs : List Nat} {f : Nat → Int} {n : Nat} {v : Value} {w x : World} (h : isO B bs f n v w) (hb : Below w.heap.size w x) : isO B bs f n v x := by
  obtain ⟨k, h1, h2, h3, h4⟩ := h
  exact ⟨k, h1, Nat.le_trans h2 hb.size, h3, h4.below hb⟩
theorem infoY : ∃ i, Try.prog.info? 5 = some i ∧ i.zero = some (.int .u8 0) ∧ i.size = 1 ∧ i.bytes = 1 := info_parts info8
theorem BC_one (f : Nat → Int) (n : Nat) : ∀ u ∈ BC f n, u.oneCell' = true := fun u hu => by
  obtain ⟨j, -, rfl⟩ := List.mem_map.1 hu
  rfl
/-- More bytes behind a row of one's own. -/
theorem wp_appendY {Q : Exit → Act → World → Prop} {o : Oper} {a : Act} {w : World} {K : Act → World → Prop} (s x : Operand) (ho : o.op = .call { callee := .builtin .append, args := #[s, x], argTypes := #[22, 22] })
    {B : Nat} {v : Value} {f g : Nat → Int} {m n c : Nat} {ad : Addr} (hs : a.eval s = v) (hown : OwnY w B v f m) (hx : a.eval x = .slice (some ad) n c) (hc : ∀ j, j < n → w.cell? (ad.add j) = some (.int .u8 (g j))) (hl : m + n ≤ 1000) (hB : B ≤ w.heap.size)
    (h : ∀ v' w', OwnY w' B v' (cat f m g) (m + n) → Below B w w' → K (a.put o.dst v') w') : o.wp Try.prog a w K Q := by
  obtain ⟨i, hi, hz, h1, h2⟩ := infoY
  refine wp_append_own w s x 22 ho B 5 i (.int .u8 0) 1 1 Try.underlying22 hi hz h1 h2 rfl (by decide) v m (BC f m) hs hown ad n c (BC g n) hx (by rw [BC_len, Nat.mul_one]) (fun j u hu => ?_) (BC_one g n) (by simp only [maxLen]; omega) (by omega) hB (fun v' w' ho' hgr _ => h v' w' ?_ ?_)
  · have hj : j < n := by have := (List.getElem?_eq_some_iff.1 hu).1; rwa [BC_len] at this
    rw [BC_at hj] at hu; rw [hc j hj]; exact hu
  · unfold OwnY; rw [← BC_cat]; exact ho'
  · have hrow : ∀ k, v.ownBlock = some k → B ≤ k := fun k hk => (World.ownsRow.lt hown k hk).1
    exact ⟨hgr.os, hgr.tape, hgr.output, hgr.size, fun k hk => hgr.block k (by omega) (fun e => by have := hrow k e.symm; omega)⟩
section
variable {ops : Array Oper} {ks : List Kind} {T : List Nat} {a0 : Act} {B : Nat} {w0 W0 : World} {H : List (Nat × List Value)} {i : Nat} {o : Oper}
/-- append(x, y...), x full: a row of one's own. -/
theorem oApO {x y : Operand} {f0 g : Nat → Int} {m n : Nat} (bs : List Nat) (h0 : 0 < n) (hm : m + n ≤ 1000)
    (hx : ∀ L w, Seen ks T B w0 H L i w → ∃ a, rd ops ks T a0 L i x = .slice (some a) m m ∧ ∀ j, j < m → w.cell? (a.add j) = some (.int .u8 (f0 j)))
    (hy : ∀ L w, Seen ks T B w0 H L i w → ∃ a c, rd ops ks T a0 L i y = .slice (some a) n c ∧ ∀ j, j < n → w.cell? (a.add j) = some (.int .u8 (g j)))
    (hw : ∀ L, wantedR ks L o = true := by intro _; kernel_rfl) (he : Pl.early T ks i = true := by kernel_rfl) (ho : o.op = .call { callee := .builtin .append, args := #[x, y], argTypes := #[22, 22] } := by exact rfl)
    (hb : bs = H.map (·.1) := by rfl) (hk : kd ks i = .any (isO B bs (cat f0 m g) (m + n))) : Obl Try.prog ops ks T a0 B w0 H i o := ⟨fun L w hsn => by
  rw [if_pos (hw L), hk]
  refine ⟨fun v w x h hb => h.stay hb, ?_⟩
  have hs := hsn he
  obtain ⟨a, ex, hcx⟩ := hx L w hs
  obtain ⟨a', c, ey, hcy⟩ := hy L w hs
  obtain ⟨i0, hi0, hz0, hz1, hz2⟩ := infoY
  have hr := run_append_grow (P := Try.prog) (w := w) 22 o.type 5 i0 (.int .u8 0) Try.underlying22 hi0 hz0 a m m (BC f0 m) (by rw [BC_len, hz1, Nat.mul_one])
    (fun j v hv => by
      have hj : j < m := by have := (List.getElem?_eq_some_iff.1 hv).1; rwa [BC_len] at this
      rw [BC_at hj] at hv; rw [hcx j hj]; exact hv)
    a' n c (BC g n) (by rw [BC_len, hz1, Nat.mul_one])
    (fun j v hv => by
      have hj : j < n := by have := (List.getElem?_eq_some_iff.1 hv).1; rwa [BC_len] at this
      rw [BC_at hj] at hv; rw [hcy j hj]; exact hv)
    (by omega) (by omega) (by rw [hz2, Nat.mul_one]; have := nextslicecap_le (need := m + n) (old := m) (by omega); omega)
  have this : (execOp (rd ops ks T a0 L i) o).run Try.prog w = .ok (.value (.slice (some ⟨w.heap.size, 0, none⟩) (m + n) (grownCap w (m + n) m 5))) (w.drew.alloc (.cells ((BC f0 m).toArray ++ (BC g n).toArray ++ Builtin.zeroCells (Value.int .u8 0).cells (grownCap w (m + n) m 5 - (m + n))) 5)) := by
    unfold execOp
    simp [ho, resolve, ex, ey, invoke, builtin, Sem.run_bind, hr]
  rw [this]
  have hge := grownCap_ge w (m + n) m 5
  have hcm : grownCap w (m + n) m 5 ≤ maxLen := grownCap_le_maxLen w (m + n) m _ (by simp only [maxLen]; omega)
  have h2 : ((BC f0 m).toArray ++ (BC g n).toArray ++ Builtin.zeroCells (Value.int .u8 0).cells (grownCap w (m + n) m 5 - (m + n))).size = grownCap w (m + n) m 5 * 1 := by
    simp only [Array.size_append, List.size_toArray, size_zeroCells, BC_len, Value.cells]
    simp; omega
  have h3 : ((BC f0 m).toArray ++ (BC g n).toArray ++ Builtin.zeroCells (Value.int .u8 0).cells (grownCap w (m + n) m 5 - (m + n))).toList.take ((m + n) * 1) = BC (cat f0 m g) (m + n) := by
    have hl : (BC f0 m ++ BC g n).length = (m + n) * 1 := by rw [List.length_append, BC_len, BC_len, Nat.mul_one]
    rw [← BC_cat, ← hl]
    simp only [Array.toList_append]
    exact List.take_left
  refine ⟨⟨w.heap.size, hs.le, by simp, fun b hbm => ?_, by rw [BC_len, Nat.mul_one], .inr ⟨w.heap.size, _, _, rfl, Nat.le_refl _, heap_alloc_new w.drew _, hge, hcm, h2, h3⟩⟩, Below.alloc (Below.drew (Below.refl _ _)) (Nat.le_refl _) _⟩
  rw [hb] at hbm
  obtain ⟨p, hp, rfl⟩ := List.mem_map.1 hbm
  exact (hs.base p hp).lt⟩
/-- A slice without elements is a row of one's own. -/
def isE0 (bs : List Nat) (v : Value) (w : World) : Prop := ∃ k, k ≤ w.heap.size ∧ (∀ b ∈ bs, b < k) ∧ OwnY w k v (fun _ => 0) 0
end
end Go.Proofs.Ytklddcicfeakfaa.fpn
