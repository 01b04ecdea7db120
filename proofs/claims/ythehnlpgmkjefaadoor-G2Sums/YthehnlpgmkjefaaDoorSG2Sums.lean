/- Q9 G2SumsWalk. -/
import Derived.Test.YthehnlpgmkjefaaDoorGU
import Derived.Deep.LoopGhost
import Derived.Laws.AppendOwn
import Derived.Test.YthehnlpgmkjefaaDoorGS
import Derived.Test.YthehnlpgmkjefaaDoorGC
/- g2.Sum; a row of points of its own. -/
namespace Go.Proofs.YthehnlpgmkjefaaDoor.fpn.T2
open Go.RowKit Pl EC
set_option linter.unusedVariables false
set_option linter.unusedSimpArgs false
set_option maxRecDepth 4000

def AtG (w : World) (p : Option Addr) (l : List (Pt F2)) : Prop := 0 < l.length → ∃ b off, p = some ⟨b, off, none⟩ ∧ ∀ j P, l[j]? = some P → w.rangeAt b (off + j * 25) (GC (gp P))
theorem AtG.up {w x : World} {p : Option Addr} {l : List (Pt F2)} (h : AtG w p l) (k : Below w.heap.size w x) : AtG x p l := fun h0 => by
  obtain ⟨b, off, e, hb⟩ := h h0
  exact ⟨b, off, e, fun j x hx => rangeG (hb j x hx) k⟩
theorem AtL.of {w : World} {p q : Option Addr} {lp : List (Pt F2)} {lk : List Nat} (hp : AtG w p lp) (hq : AtR w q lk) : AtL w p q (lp.zip lk) := fun h0 => by
  rw [List.length_zip] at h0
  obtain ⟨b, off, e, hb⟩ := hp (by omega)
  obtain ⟨b', off', e', hb'⟩ := hq (by omega)
  refine ⟨⟨b, off, e, fun j x hx => ?_⟩, b', off', e', fun j x hx => ?_⟩
  · exact hb j x.1 (List.getElem?_zip_eq_some.1 hx).1
  · exact hb' j x.2 (List.getElem?_zip_eq_some.1 hx).2
set_option maxHeartbeats 4000000 in
theorem g2SumJ {G : World → Prop} (K : FpK G) (p q : Option Addr) (lp : List (Pt F2)) (lk : List Nat) (l : List (Pt F2 × Nat)) (c c0 : Nat) (w : World) (hg : G w) (hmin : min lp.length lk.length = l.length) (hc : l.length ≤ c) (hc0 : l.length ≤ c0) (hll : l.length ≤ 1000) (hA : AtL w p q l) (hk : ∀ x ∈ l, x.2 < 2 ^ 256) : Calls Tryd.prog 24 #[.slice p lp.length c, .slice q lk.length c0] w (Ret (GV (gp (jdrop F2.inv (jall l 256 ⟨0, 0, 0⟩)))) w) := by
  have hp0 := Heap.start w
  go_enter Tryd.func24, Tryd.ntmps24
  refine wp_seq_k (fun K1 k1 => ?_)
  refine gs [.alloc (GC ⟨0, 0, false⟩)] [0] [0] (fun L => [.slice p lp.length c, .slice q lk.length c0, undef, undef, pt (L.b 0) 0] ++ U 14) (fun L => [(L.b 0, GC ⟨0, 0, false⟩)]) hp0 ⟨
    oZ rG,
    trivial⟩ (fun L0 w1 hp1 => ?_)
  refine k1 _ _ ?_
  refine wp_seq_k (fun K2 k2 => ?_)
  refine gs [.det (.slice p lp.length c), .det (.int .i64 lp.length), .det (.slice q lk.length c0), .det (.int .i64 lk.length), .det (.int .i64 l.length), .det (.int .i64 l.length)] [0, 1, 2, 3, 4, 5] [0, 1, 0, 4, 15, 31] (fun L => [.slice p lp.length c, .slice q lk.length c0, undef, undef, pt (L0.b 0) 0, .int .i64 l.length, .slice p lp.length c, .int .i64 lp.length, .slice q lk.length c0, .int .i64 lk.length, .int .i64 l.length] ++ U 8) (fun L => [((L0.b 0), GC ⟨0, 0, false⟩)]) hp1 ⟨
    oM, fun h => ⟨ob_len (p := p) (n := lp.length) (c := c) (fun _ => rfl) h rfl (fun _ => by kernel_rfl) Tryd.underlying43⟩, oM, fun h => ⟨ob_len (p := q) (n := lk.length) (c := c0) (fun _ => rfl) h rfl (fun _ => by kernel_rfl) Tryd.underlying42⟩,
    oMn (m := lp.length) (n := lk.length) hmin, oA,
    trivial⟩ (fun L1 w2 hp2 => ?_)
  refine k2 _ _ ?_
  refine wp_seq_k (fun K3 k3 => ?_)
  refine dr [.det (.slice p lp.length c), .det (.int .i64 l.length), .det (.slice p l.length c), .det (.slice q lk.length c0), .det (.int .i64 l.length), .det (.slice q l.length c0), .det (JV (jall l 256 ⟨0, 0, 0⟩)), .det (GV (gp (jdrop F2.inv (jall l 256 ⟨0, 0, 0⟩)))), .store (.base 0) 0 (GC (gp (jdrop F2.inv (jall l 256 ⟨0, 0, 0⟩)))) (GC (gp (jdrop F2.inv (jall l 256 ⟨0, 0, 0⟩))))] [0, 1, 2, 3, 4, 5, 6, 7, 8] [0, 0, 3, 0, 0, 24, 63, 127, 255] (fun L => [.slice p lp.length c, .slice q lk.length c0, undef, undef, pt (L0.b 0) 0, .int .i64 l.length, .slice p lp.length c, .int .i64 lp.length, .slice q lk.length c0, .int .i64 lk.length, .int .i64 l.length, .slice p lp.length c, .int .i64 l.length, .slice p l.length c, .slice q lk.length c0, .int .i64 l.length, .slice q l.length c0, JV (jall l 256 ⟨0, 0, 0⟩), GV (gp (jdrop F2.inv (jall l 256 ⟨0, 0, 0⟩)))]) (fun L => [((L0.b 0), GC (gp (jdrop F2.inv (jall l 256 ⟨0, 0, 0⟩))))]) hp2 ⟨
    oM, oM, oSS (len := lp.length) (n := l.length) Tryd.underlying43 rG.size (hc), oM, oM, oSS (len := lk.length) (n := l.length) Tryd.underlying42 rR.size (hc0),
    oH (v := JV (jall l 256 ⟨0, 0, 0⟩)) (vs := #[.slice p l.length c, .slice q l.length c0]) (fun w hb _ => g2total K p q l c c0 w (K.stay hg hb) hll (hA.up hb) hk),
    oC K.stay hg (g2drop K (jall l 256 ⟨0, 0, 0⟩)), oT rG,
    trivial⟩ (fun L2 w3 hp3 => ?_)
  refine k3 _ _ ?_
  refine wp_ret ?_
  refine bodyPost_ret (v := GV (gp (jdrop F2.inv (jall l 256 ⟨0, 0, 0⟩)))) ?_ rfl ?_
  · exact rc rG rfl (by kernel_rfl) (hp3.bound 0 rfl).2
  · exact ⟨rfl, hp3.bel⟩
theorem g2Sum {G : World → Prop} (K : FpK G) (p q : Option Addr) (lp : List (Pt F2)) (lk : List Nat) (c c0 : Nat) (w : World) (hg : G w) (hc : lp.length ≤ c) (hc0 : lk.length ≤ c0) (hll : lp.length ≤ 1000) (hP : ∀ P ∈ lp, On b2 P) (hk : ∀ n ∈ lk, n < 2 ^ 256) (hp : AtG w p lp) (hq : AtR w q lk) :
    Calls Tryd.prog 24 #[.slice p lp.length c, .slice q lk.length c0] w (Ret (GV (gp (psum F2.inv 0 (lp.zip lk)))) w) := by
  have hl : (lp.zip lk).length = min lp.length lk.length := List.length_zip
  have hk' : ∀ x ∈ lp.zip lk, x.2 < 2 ^ 256 := fun x hx => hk x.2 (List.of_mem_zip hx).2
  have h := g2SumJ K p q lp lk (lp.zip lk) c c0 w hg hl.symm (by omega) (by omega) (by omega) (AtL.of hp hq) hk'
  have hon : AllOn b2 (lp.zip lk) := fun x hx => hP x.1 (List.of_mem_zip hx).1
  rw [JRep.drop crv2 (jall_sum (iv := F2.inv) crv2 (lp.zip lk) hon 256 hk')] at h
  exact h
def rows (l : List (Pt F2)) : List Value := l.flatMap fun P => GC (gp P)
theorem GC_len (p : G2p) : (GC p).length = 25 := rfl
theorem rows_at : ∀ (l : List (Pt F2)) (i : Nat) (P : Pt F2) (j : Nat), l[i]? = some P → j < 25 → (rows l)[i * 25 + j]? = (GC (gp P))[j]?
  | [], i, P, j, h, _ => by simp at h
  | Q :: r, 0, P, j, h, hj => by
    obtain rfl : Q = P := by simpa using h
    have e : rows (Q :: r) = GC (gp Q) ++ rows r := rfl
    rw [e, Nat.zero_mul, Nat.zero_add, List.getElem?_append_left (by rw [GC_len]; exact hj)]
  | Q :: r, i + 1, P, j, h, hj => by
    have e : rows (Q :: r) = GC (gp Q) ++ rows r := rfl
    rw [e, List.getElem?_append_right (by rw [GC_len]; omega), GC_len, show (i + 1) * 25 + j - 25 = i * 25 + j by omega]
    exact rows_at r i P j (by simpa using h) hj
def OwnG (w : World) (B : Nat) (v : Value) (l : List (Pt F2)) : Prop := w.ownsRow B 32 25 v l.length (rows l)
theorem OwnG.below {w x : World} {B : Nat} {v : Value} {l : List (Pt F2)} (h : OwnG w B v l) (hb : Below w.heap.size w x) : OwnG x B v l := by
  refine ⟨h.1, ?_⟩
  rcases h.2 with h2 | ⟨g, cap, cur, hv, hB, hg, r⟩
  · exact Or.inl h2
  · refine Or.inr ⟨g, cap, cur, hv, hB, ?_, r⟩
    rw [hb.block g ?_]
    · exact hg
    · exact (Array.getElem?_eq_some_iff.1 hg).1
theorem OwnG.at {w : World} {B : Nat} {v : Value} {l : List (Pt F2)} (h : OwnG w B v l) : ∃ p c, v = .slice p l.length c ∧ l.length ≤ c ∧ AtG w p l := by
  rcases h.2 with ⟨rfl, hn⟩ | ⟨g, cap, cur, rfl, hB, hg, hn, hm, hs, ht⟩
  · exact ⟨none, 0, by rw [hn], by omega, fun h0 => absurd h0 (by omega)⟩
  · refine ⟨_, cap, rfl, hn, fun h0 => ⟨g, 0, rfl, fun i P hP j v hv => ?_⟩⟩
    have hi : i < l.length := (List.getElem?_eq_some_iff.1 hP).1
    have hj : j < 25 := by
      have := (List.getElem?_eq_some_iff.1 hv).1
      rwa [GC_len] at this
    have e := rows_at l i P j hP hj
    rw [hv, ← ht, List.getElem?_take_of_lt (by omega)] at e
    have e' : cur[i * 25 + j]? = some v := by simpa using e
    unfold World.cell?
    simp only [hg, Nat.zero_add]
    simpa using e'
theorem infoG2 : ∃ i z, Tryd.prog.info? 32 = some i ∧ i.zero = some z ∧ i.size = 25 ∧ i.bytes = 200 ∧ z.cells.size = 25 := by
  have e : (Tryd.prog.info? 32).map (fun i => (i.size, i.bytes, i.zero.map (·.cells.size))) = some (25, 200, some 25) := by kernel_rfl
  cases hi : Tryd.prog.info? 32 with
  | none => simp [hi] at e
  | some i =>
    simp only [hi, Option.map_some, Option.some.injEq, Prod.mk.injEq, Option.map_eq_some_iff] at e
    obtain ⟨h1, h2, z, hz, h3⟩ := e
    exact ⟨i, z, rfl, hz, h1, h2, h3⟩
theorem wp_appendG {Q : Exit → Act → World → Prop} {o : Oper} {a : Act} {w : World} {K : Act → World → Prop} (s x : Operand) (ho : o.op = .call { callee := .builtin .append, args := #[s, x], argTypes := #[43, 43] })
    {B : Nat} {v u : Value} {l : List (Pt F2)} {P : Pt F2} (hs : a.eval s = v) (hown : OwnG w B v l) (hx : a.eval x = u) (hu : isRow1 (GC (gp P)) u w) (hl : l.length ≤ 1000) (hB : B ≤ w.heap.size)
    (h : ∀ v' w', OwnG w' B v' (l ++ [P]) → Below B w w' → K (a.put o.dst v') w') : o.wp Tryd.prog a w K Q := by
  obtain ⟨i, z, hi, hz, h1, h2, h3⟩ := infoG2
  obtain ⟨k, rfl, hc⟩ := hu
  refine wp_append_own w s x 43 ho B 32 i z 25 200 Tryd.underlying43 hi hz h1 h2 h3 (by decide) v l.length (rows l) hs hown ⟨k, 0, none⟩ 1 1 (GC (gp P)) hx rfl (fun j u hu => ?_) (fun u hu => ?_) (by simp [maxLen]; omega) (by omega) hB (fun v' w' ho' hgr _ => h v' w' ?_ ?_)
  · have := hc j u hu
    rw [Addr.add_mid]
    exact this
  · have : (GC (gp P)).all (fun v => v.oneCell') = true := by kernel_rfl
    exact List.all_eq_true.1 this u hu
  · have e : rows (l ++ [P]) = rows l ++ GC (gp P) := by
      unfold rows
      rw [List.flatMap_append]
      simp
    unfold OwnG
    rw [e, List.length_append]
    exact ho'
  · have hrow : ∀ k, v.ownBlock = some k → B ≤ k := fun k hk => (World.ownsRow.lt hown k hk).1
    exact ⟨hgr.os, hgr.tape, hgr.output, hgr.size, fun k hk => hgr.block k (by omega) (fun e => by have := hrow k e.symm; omega)⟩
noncomputable def ssum (l : List (Nat × Nat)) : Nat := (l.map fun q => q.1 * q.2).sum % ordR
theorem ssum_next {l : List (Nat × Nat)} {i k m : Nat} (h : l[i]? = some (k, m)) : (ssum (l.take i) + k * m % ordR) % ordR = ssum (l.take (i + 1)) := by
  have e : l.take (i + 1) = l.take i ++ [(k, m)] := by rw [List.take_add_one, h]; rfl
  unfold ssum
  rw [e, List.map_append, List.sum_append]
  simp
theorem ssum_lt (l : List (Nat × Nat)) : ssum l < ordR := Nat.mod_lt _ ordR_pos
theorem sums_end {g : Pt F2} (hgn : g = gen2) (l0 l1 : List Nat) : psum F2.inv 0 ((l0.map fun k => mul F2.inv k g).zip l1) = mul F2.inv (ssum (l0.zip l1)) g := by
  have hg := gen2_on' hgn
  have e : (l0.map fun k => mul F2.inv k g).zip l1 = (l0.zip l1).map fun q => (mul F2.inv q.1 g, q.2) := by
    rw [List.zip_map_left]
    rfl
  rw [e, psum_mul crv2 hg]
  unfold ssum
  rw [mul_order crv2 hg (gen2_in hgn)]
end Go.Proofs.YthehnlpgmkjefaaDoor.fpn.T2

/- G2Sums walked. -/
namespace Go.Proofs.YthehnlpgmkjefaaDoor.fpn.T2
open Go.RowKit Pl EC
set_option linter.unusedVariables false
set_option linter.unusedSimpArgs false
set_option maxRecDepth 4000

set_option maxHeartbeats 4000000 in
theorem sums0 {G : World → Prop} (K : FpK G) (R : RefK) (g : Pt F2) (a0 a1 : Option Addr) (l0 l1 : List Nat) (cap0 cap1 : Nat) (w : World) (hg : G w) (hgn : g = gen2) (hB : ∀ w, G w → Calls Tryd.prog 9 #[] w (Ret (.bool true) w)) (h5 : 5 < l0.length) : Calls Tryd.prog 5 #[.slice a0 l0.length cap0, .slice a1 l1.length cap1] w (Ret (.bool true) w) := by
  have hp0 := Heap.start w
  go_enter Tryd.func5, Tryd.ntmps5
  refine wp_seq_k (fun K1 k1 => ?_)
  refine gs [.det (.bool false)] [0] [0] (fun L => [.slice a0 l0.length cap0, .slice a1 l1.length cap1, undef, undef, .bool false] ++ U 69) (fun L => []) hp0 ⟨
    oA,
    trivial⟩ (fun L0 w1 hp1 => ?_)
  refine k1 _ _ ?_
  refine wp_seq_k (fun K2 k2 => ?_)
  refine wp_seq_k (fun K3 k3 => ?_)
  refine gs [.det (.bool true), .det (.bool false)] [0, 1] [0, 1] (fun L => [.slice a0 l0.length cap0, .slice a1 l1.length cap1, undef, undef, .bool false, undef, undef, undef, undef, .bool true, .bool false] ++ U 63) (fun L => []) hp1 ⟨
    oC K.stay hg hB, oN,
    trivial⟩ (fun L1 w2 hp2 => ?_)
  refine k3 _ _ ?_
  refine wp_cond_false (by kernel_rfl) ?_
  refine skips ?_
  refine k2 _ _ ?_
  refine wp_seq_k (fun K4 k4 => ?_)
  refine wp_seq_k (fun K5 k5 => ?_)
  refine gs [.det (.slice a0 l0.length cap0), .det (.int .i64 l0.length), .det (.bool true), .det (.bool true), .det undef, .det undef, .det undef, .det (.bool true)] [0, 1, 2, 3, 4, 5, 6, 7] [0, 1, 3, 7, 15, 31, 63, 127] (fun L => [.slice a0 l0.length cap0, .slice a1 l1.length cap1, undef, undef, .bool false, undef, undef, undef, undef, .bool true, .bool false, .slice a0 l0.length cap0, .int .i64 l0.length, .bool true, .bool true, undef, undef, undef, .bool true] ++ U 55) (fun L => []) hp2 ⟨
    oM, fun h => ⟨ob_len (p := a0) (n := l0.length) (c := cap0) (fun _ => rfl) h rfl (fun _ => by kernel_rfl) Tryd.underlying42⟩, oJ .i64 .i64 l0.length 5 (h := fun w => (gtrI _ _ _ w).trans (by rw [decide_eq_true (by omega)])),
    oM, oS, oS, oS, oP,
    trivial⟩ (fun L2 w3 hp3 => ?_)
  refine k5 _ _ ?_
  refine wp_cond_true (by kernel_rfl) ?_
  refine wp_seq_k (fun K6 k6 => ?_)
  refine gs [.det (.bool true)] [0] [0] (fun L => [.slice a0 l0.length cap0, .slice a1 l1.length cap1, undef, undef, .bool true, undef, undef, undef, undef, .bool true, .bool false, .slice a0 l0.length cap0, .int .i64 l0.length, .bool true, .bool true, undef, undef, undef, .bool true] ++ U 55) (fun L => []) hp3 ⟨
    oA,
    trivial⟩ (fun L3 w4 hp4 => ?_)
  refine k6 _ _ ?_
  refine wp_ret ?_
  refine bodyPost_ret (v := .bool true) ?_ rfl ?_
  · exact res_t rfl (by kernel_rfl) _
  · exact ⟨rfl, hp4.bel⟩
set_option maxHeartbeats 4000000 in
theorem sums1 {G : World → Prop} (K : FpK G) (R : RefK) (g : Pt F2) (a0 a1 : Option Addr) (l0 l1 : List Nat) (cap0 cap1 : Nat) (w : World) (hg : G w) (hgn : g = gen2) (hB : ∀ w, G w → Calls Tryd.prog 9 #[] w (Ret (.bool true) w)) (h5 : l0.length ≤ 5) (h6 : 6 < l1.length) : Calls Tryd.prog 5 #[.slice a0 l0.length cap0, .slice a1 l1.length cap1] w (Ret (.bool true) w) := by
  have hp0 := Heap.start w
  go_enter Tryd.func5, Tryd.ntmps5
  refine wp_seq_k (fun K1 k1 => ?_)
  refine gs [.det (.bool false)] [0] [0] (fun L => [.slice a0 l0.length cap0, .slice a1 l1.length cap1, undef, undef, .bool false] ++ U 69) (fun L => []) hp0 ⟨
    oA,
    trivial⟩ (fun L0 w1 hp1 => ?_)
  refine k1 _ _ ?_
  refine wp_seq_k (fun K2 k2 => ?_)
  refine wp_seq_k (fun K3 k3 => ?_)
  refine gs [.det (.bool true), .det (.bool false)] [0, 1] [0, 1] (fun L => [.slice a0 l0.length cap0, .slice a1 l1.length cap1, undef, undef, .bool false, undef, undef, undef, undef, .bool true, .bool false] ++ U 63) (fun L => []) hp1 ⟨
    oC K.stay hg hB, oN,
    trivial⟩ (fun L1 w2 hp2 => ?_)
  refine k3 _ _ ?_
  refine wp_cond_false (by kernel_rfl) ?_
  refine skips ?_
  refine k2 _ _ ?_
  refine wp_seq_k (fun K4 k4 => ?_)
  refine wp_seq_k (fun K5 k5 => ?_)
  refine gs [.det (.slice a0 l0.length cap0), .det (.int .i64 l0.length), .det (.bool false), .det (.bool false), .det (.slice a1 l1.length cap1), .det (.int .i64 l1.length), .det (.bool true), .det (.bool true)] [0, 1, 2, 3, 4, 5, 6, 7] [0, 1, 3, 7, 15, 31, 63, 127] (fun L => [.slice a0 l0.length cap0, .slice a1 l1.length cap1, undef, undef, .bool false, undef, undef, undef, undef, .bool true, .bool false, .slice a0 l0.length cap0, .int .i64 l0.length, .bool false, .bool false, .slice a1 l1.length cap1, .int .i64 l1.length, .bool true, .bool true] ++ U 55) (fun L => []) hp2 ⟨
    oM, fun h => ⟨ob_len (p := a0) (n := l0.length) (c := cap0) (fun _ => rfl) h rfl (fun _ => by kernel_rfl) Tryd.underlying42⟩, oJ .i64 .i64 l0.length 5 (h := fun w => (gtrI _ _ _ w).trans (by rw [decide_eq_false (by omega)])),
    oM, oM, fun h => ⟨ob_len (p := a1) (n := l1.length) (c := cap1) (fun _ => by kernel_rfl) h rfl (fun _ => by kernel_rfl) Tryd.underlying42⟩, oJ .i64 .i64 l1.length 6 (h := fun w => (gtrI _ _ _ w).trans (by rw [decide_eq_true (by omega)])),
    oP,
    trivial⟩ (fun L2 w3 hp3 => ?_)
  refine k5 _ _ ?_
  refine wp_cond_true (by kernel_rfl) ?_
  refine wp_seq_k (fun K6 k6 => ?_)
  refine gs [.det (.bool true)] [0] [0] (fun L => [.slice a0 l0.length cap0, .slice a1 l1.length cap1, undef, undef, .bool true, undef, undef, undef, undef, .bool true, .bool false, .slice a0 l0.length cap0, .int .i64 l0.length, .bool false, .bool false, .slice a1 l1.length cap1, .int .i64 l1.length, .bool true, .bool true] ++ U 55) (fun L => []) hp3 ⟨
    oA,
    trivial⟩ (fun L3 w4 hp4 => ?_)
  refine k6 _ _ ?_
  refine wp_ret ?_
  refine bodyPost_ret (v := .bool true) ?_ rfl ?_
  · exact res_t rfl (by kernel_rfl) _
  · exact ⟨rfl, hp4.bel⟩
theorem take_next {l : List Nat} {i x : Nat} (hx : l[i]? = some x) : l.take (i + 1) = l.take i ++ [x] := by rw [List.take_add_one, hx]; rfl
theorem all_next {l : List Nat} {i x r : Nat} (hx : l[i]? = some x) (h : ∀ n ∈ l.take i, n < r) (hr : x < r) : ∀ n ∈ l.take (i + 1), n < r := fun n hn => by
  rw [take_next hx] at hn
  rcases List.mem_append.1 hn with h' | h'
  · exact h n h'
  · rw [List.mem_singleton.1 h']; exact hr
theorem map_next {l : List Nat} {i x : Nat} {f : Nat → Pt F2} (hx : l[i]? = some x) : (l.take (i + 1)).map f = (l.take i).map f ++ [f x] := by rw [take_next hx, List.map_append]; rfl
theorem zip_at {l0 l1 : List Nat} {i x y : Nat} (hx : l0[i]? = some x) (hy : l1[i]? = some y) : (l0.zip l1)[i]? = some (x, y) := List.getElem?_zip_eq_some.2 ⟨hx, hy⟩
theorem zip_done {l0 l1 : List Nat} {i : Nat} (h : l0.length ≤ i) : (l0.zip l1).take (i + 1) = (l0.zip l1).take i := by
  rw [List.take_of_length_le (by rw [List.length_zip]; omega), List.take_of_length_le (by rw [List.length_zip]; omega)]
theorem zip_all (l0 l1 : List Nat) : (l0.zip l1).take l1.length = l0.zip l1 := List.take_of_length_le (by rw [List.length_zip]; omega)
theorem ssum_nil (l : List (Nat × Nat)) : ssum (l.take 0) = 0 := by
  unfold ssum
  simp
def sumI1 (g : Pt F2) (a0 a1 : Option Addr) (l0 l1 : List Nat) (cap0 cap1 : Nat) (w : World) : Nat → Act → World → Prop := fun L a' w' => ∃ (i : Nat) (v u2 u3 u7 u8 u9 u10 u11 u12 u13 u14 u15 u16 u17 u18 u19 u20 u21 u22 u23 u24 u25 u26 u27 u28 u29 u30 u31 u32 u33 u34 u35 u36 u37 u38 u39 u40 u41 u42 u43 u44 u45 u46 u47 u48 u49 u50 u51 u52 u53 u54 u55 u56 u57 u58 u59 u60 u61 u62 u63 u64 u65 u66 u67 u68 u69 u70 u71 u72 u73 : Value),
  a' = { tmps := #[.slice a0 l0.length cap0, .slice a1 l1.length cap1, u2, u3, .bool false, v, .int .i64 ((i : Nat) : Int), u7, u8, u9, u10, u11, u12, u13, u14, u15, u16, u17, u18, u19, u20, u21, u22, u23, u24, u25, u26, u27, u28, u29, u30, u31, u32, u33, u34, u35, u36, u37, u38, u39, u40, u41, u42, u43, u44, u45, u46, u47, u48, u49, u50, u51, u52, u53, u54, u55, u56, u57, u58, u59, u60, u61, u62, u63, u64, u65, u66, u67, u68, u69, u70, u71, u72, u73], defers := [] } ∧ i + L = l0.length ∧ (∀ n ∈ l0.take i, n < ordR) ∧ OwnG w' w.heap.size v ((l0.take i).map fun k => mul F2.inv k g) ∧ Below w.heap.size w w'
def sumI2 (a0 a1 : Option Addr) (l0 l1 : List Nat) (cap0 cap1 : Nat) (pp : Option Addr) (lp : List (Pt F2)) (cp : Nat) (w : World) (b7 : Nat) : Nat → Act → World → Prop := fun L a' w' => ∃ (i : Nat) (u2 u3 u9 u10 u11 u12 u13 u14 u15 u16 u17 u18 u19 u20 u21 u22 u23 u24 u25 u26 u27 u28 u29 u30 u31 u32 u33 u34 u35 u36 u37 u38 u39 u40 u41 u42 u43 u44 u45 u46 u47 u48 u49 u50 u51 u52 u53 u54 u55 u56 u57 u58 u59 u60 u61 u62 u63 u64 u65 u66 u67 u68 u69 u70 u71 u72 u73 : Value),
  a' = { tmps := #[.slice a0 l0.length cap0, .slice a1 l1.length cap1, u2, u3, .bool false, .slice pp lp.length cp, .int .i64 ((l0.length : Nat) : Int), .pointer (some ⟨b7, 0, none⟩), .int .i64 ((i : Nat) : Int), u9, u10, u11, u12, u13, u14, u15, u16, u17, u18, u19, u20, u21, u22, u23, u24, u25, u26, u27, u28, u29, u30, u31, u32, u33, u34, u35, u36, u37, u38, u39, u40, u41, u42, u43, u44, u45, u46, u47, u48, u49, u50, u51, u52, u53, u54, u55, u56, u57, u58, u59, u60, u61, u62, u63, u64, u65, u66, u67, u68, u69, u70, u71, u72, u73], defers := [] } ∧ i + L = l1.length ∧ (∀ n ∈ l1.take i, n < ordR) ∧ Heap w.heap.size w w' [(b7, RC (ssum ((l0.zip l1).take i)))]

set_option maxHeartbeats 4000000 in
theorem sums2 {G : World → Prop} (K : FpK G) (R : RefK) (g : Pt F2) (a0 a1 : Option Addr) (l0 l1 : List Nat) (cap0 cap1 : Nat) (w : World) (hg : G w) (hgn : g = gen2) (hB : ∀ w, G w → Calls Tryd.prog 9 #[] w (Ret (.bool true) w)) (h5 : l0.length ≤ 5) (h6 : l1.length ≤ 6) (hc1 : l1.length ≤ cap1) (hk0 : ∀ n ∈ l0, n < 2 ^ 256) (hk1 : ∀ n ∈ l1, n < 2 ^ 256) (hA0 : AtR w a0 l0) (hA1 : AtR w a1 l1) : Calls Tryd.prog 5 #[.slice a0 l0.length cap0, .slice a1 l1.length cap1] w (Ret (.bool true) w) := by
  have hp0 := Heap.start w
  go_enter Tryd.func5, Tryd.ntmps5
  refine wp_seq_k (fun K1 k1 => ?_)
  refine gs [.det (.bool false)] [0] [0] (fun L => [.slice a0 l0.length cap0, .slice a1 l1.length cap1, undef, undef, .bool false] ++ U 69) (fun L => []) hp0 ⟨
    oA,
    trivial⟩ (fun L0 w1 hp1 => ?_)
  refine k1 _ _ ?_
  refine wp_seq_k (fun K2 k2 => ?_)
  refine wp_seq_k (fun K3 k3 => ?_)
  refine gs [.det (.bool true), .det (.bool false)] [0, 1] [0, 1] (fun L => [.slice a0 l0.length cap0, .slice a1 l1.length cap1, undef, undef, .bool false, undef, undef, undef, undef, .bool true, .bool false] ++ U 63) (fun L => []) hp1 ⟨
    oC K.stay hg hB, oN,
    trivial⟩ (fun L1 w2 hp2 => ?_)
  refine k3 _ _ ?_
  refine wp_cond_false (by kernel_rfl) ?_
  refine skips ?_
  refine k2 _ _ ?_
  refine wp_seq_k (fun K4 k4 => ?_)
  refine wp_seq_k (fun K5 k5 => ?_)
  refine gs [.det (.slice a0 l0.length cap0), .det (.int .i64 l0.length), .det (.bool false), .det (.bool false), .det (.slice a1 l1.length cap1), .det (.int .i64 l1.length), .det (.bool false), .det (.bool false)] [0, 1, 2, 3, 4, 5, 6, 7] [0, 1, 3, 7, 15, 31, 63, 127] (fun L => [.slice a0 l0.length cap0, .slice a1 l1.length cap1, undef, undef, .bool false, undef, undef, undef, undef, .bool true, .bool false, .slice a0 l0.length cap0, .int .i64 l0.length, .bool false, .bool false, .slice a1 l1.length cap1, .int .i64 l1.length, .bool false, .bool false] ++ U 55) (fun L => []) hp2 ⟨
    oM, fun h => ⟨ob_len (p := a0) (n := l0.length) (c := cap0) (fun _ => rfl) h rfl (fun _ => by kernel_rfl) Tryd.underlying42⟩, oJ .i64 .i64 l0.length 5 (h := fun w => (gtrI _ _ _ w).trans (by rw [decide_eq_false (by omega)])),
    oM, oM, fun h => ⟨ob_len (p := a1) (n := l1.length) (c := cap1) (fun _ => by kernel_rfl) h rfl (fun _ => by kernel_rfl) Tryd.underlying42⟩, oJ .i64 .i64 l1.length 6 (h := fun w => (gtrI _ _ _ w).trans (by rw [decide_eq_false (by omega)])),
    oP,
    trivial⟩ (fun L2 w3 hp3 => ?_)
  refine k5 _ _ ?_
  refine wp_cond_false (by kernel_rfl) ?_
  refine skips ?_
  refine k4 _ _ ?_
  refine wp_seq_k (fun K6 k6 => ?_)
  refine gs [.det (.slice none 0 0)] [0] [0] (fun L => [.slice a0 l0.length cap0, .slice a1 l1.length cap1, undef, undef, .bool false, .slice none 0 0, undef, undef, undef, .bool true, .bool false, .slice a0 l0.length cap0, .int .i64 l0.length, .bool false, .bool false, .slice a1 l1.length cap1, .int .i64 l1.length, .bool false, .bool false] ++ U 55) (fun L => []) hp3 ⟨
    oA,
    trivial⟩ (fun L3 w4 hp4 => ?_)
  refine k6 _ _ ?_
  refine wp_seq_k (fun K7 k7 => ?_)
  refine wp_seq_k (fun K8 k8 => ?_)
  refine gs [.det (.int .i64 0)] [0] [0] (fun L => [.slice a0 l0.length cap0, .slice a1 l1.length cap1, undef, undef, .bool false, .slice none 0 0, .int .i64 0, undef, undef, .bool true, .bool false, .slice a0 l0.length cap0, .int .i64 l0.length, .bool false, .bool false, .slice a1 l1.length cap1, .int .i64 l1.length, .bool false, .bool false] ++ U 55) (fun L => []) hp4 ⟨
    oA,
    trivial⟩ (fun L4 w5 hp5 => ?_)
  refine k8 _ _ ?_
  refine wp_block_k (fun K9 k9 => ?_)
  refine wp_loop_ghost (sumI1 g a0 a1 l0 l1 cap0 cap1 w) l0.length ⟨0, .slice none 0 0, undef, undef, undef, undef, .bool true, .bool false, .slice a0 l0.length cap0, .int .i64 l0.length, .bool false, .bool false, .slice a1 l1.length cap1, .int .i64 l1.length, .bool false, .bool false, undef, undef, undef, undef, undef, undef, undef, undef, undef, undef, undef, undef, undef, undef, undef, undef, undef, undef, undef, undef, undef, undef, undef, undef, undef, undef, undef, undef, undef, undef, undef, undef, undef, undef, undef, undef, undef, undef, undef, undef, undef, undef, undef, undef, undef, undef, undef, undef, undef, undef, undef, undef, undef, undef, undef, rfl, Nat.zero_add _, fun n hn => (by cases hn), World.ownsRow_nil _ _ _ _, hp5.bel⟩ ?_
  rintro L a' W ⟨i, v, u2, u3, u7, u8, u9, u10, u11, u12, u13, u14, u15, u16, u17, u18, u19, u20, u21, u22, u23, u24, u25, u26, u27, u28, u29, u30, u31, u32, u33, u34, u35, u36, u37, u38, u39, u40, u41, u42, u43, u44, u45, u46, u47, u48, u49, u50, u51, u52, u53, u54, u55, u56, u57, u58, u59, u60, u61, u62, u63, u64, u65, u66, u67, u68, u69, u70, u71, u72, u73, rfl, hL, hlt, hOwn, hbel⟩
  by_cases hL0 : L = 0
  rotate_left
  · skip
    have hi : i < l0.length := by omega
    have hg := K.stay hg hbel
    obtain ⟨b, off, rfl, hRR⟩ := (hA0.up hbel) (by omega)
    obtain ⟨x, hx⟩ : ∃ x, l0[i]? = some x := ⟨l0[i], List.getElem?_eq_getElem hi⟩
    have hx6 := hk0 x (List.mem_of_getElem? hx)
    have hq := Heap.start W
    by_cases hxr : x < ordR
    · skip
      refine wp_seq_k (fun K10 k10 => ?_)
      refine wp_seq_k (fun K11 k11 => ?_)
      refine gs [.det (.int .i64 ((i : Nat) : Int)), .det (.slice (some ⟨b, off, none⟩) l0.length cap0), .det (.int .i64 l0.length), .det (.bool true)] [0, 1, 2, 3] [0, 0, 2, 7] (fun L => [.slice (some ⟨b, off, none⟩) l0.length cap0, .slice a1 l1.length cap1, u2, u3, .bool false, v, .int .i64 ((i : Nat) : Int), u7, u8, u9, u10, u11, u12, u13, u14, u15, u16, u17, u18, .int .i64 ((i : Nat) : Int), .slice (some ⟨b, off, none⟩) l0.length cap0, .int .i64 l0.length, .bool true, u23, u24, u25, u26, u27, u28, u29, u30, u31, u32, u33, u34, u35, u36, u37, u38, u39, u40, u41, u42, u43, u44, u45, u46, u47, u48, u49, u50, u51, u52, u53, u54, u55, u56, u57, u58, u59, u60, u61, u62, u63, u64, u65, u66, u67, u68, u69, u70, u71, u72, u73]) (fun L => []) hq ⟨
        oM, oM, fun h => ⟨ob_len (p := (some ⟨b, off, none⟩)) (n := l0.length) (c := cap0) (fun _ => rfl) h rfl (fun _ => by kernel_rfl) Tryd.underlying42⟩,
        oJ .i64 .i64 ((i : Nat) : Int) l0.length (h := fun w => (lssI _ _ _ w).trans (by rw [decide_eq_true (by omega)])),
        trivial⟩ (fun L5 w6 hp6 => ?_)
      refine k11 _ _ ?_
      refine wp_cond_true (by kernel_rfl) ?_
      refine skips ?_
      refine k10 _ _ ?_
      refine wp_seq_k (fun K12 k12 => ?_)
      refine wp_block_k (fun K13 k13 => ?_)
      refine wp_seq_k (fun K14 k14 => ?_)
      refine wp_seq_k (fun K15 k15 => ?_)
      refine gs [.det (.slice (some ⟨b, off, none⟩) l0.length cap0), .det (.int .i64 ((i : Nat) : Int)), .det (.pointer (some ⟨b, off + i * 4, none⟩)), .det (RV x), .det (.bool true), .det (.bool false)] [0, 1, 2, 3, 4, 5] [0, 0, 3, 7, 15, 31] (fun L => [.slice (some ⟨b, off, none⟩) l0.length cap0, .slice a1 l1.length cap1, u2, u3, .bool false, v, .int .i64 ((i : Nat) : Int), u7, u8, u9, u10, u11, u12, u13, u14, u15, u16, u17, u18, .int .i64 ((i : Nat) : Int), .slice (some ⟨b, off, none⟩) l0.length cap0, .int .i64 l0.length, .bool true, u23, u24, .slice (some ⟨b, off, none⟩) l0.length cap0, .int .i64 ((i : Nat) : Int), .pointer (some ⟨b, off + i * 4, none⟩), RV x, .bool true, .bool false, u31, u32, u33, u34, u35, u36, u37, u38, u39, u40, u41, u42, u43, u44, u45, u46, u47, u48, u49, u50, u51, u52, u53, u54, u55, u56, u57, u58, u59, u60, u61, u62, u63, u64, u65, u66, u67, u68, u69, u70, u71, u72, u73]) (fun L => []) hp6 ⟨
        oM, oM, oIS (n := l0.length) (c := cap0) i Tryd.underlying42 rR.size (by omega), oLW rR (fun L w hs => ⟨_, _, rfl, rangeR (hRR i x hx) hs.bel⟩),
        oH (v := .bool true) (vs := #[RV x]) (fun w _ _ => by have h := mayR hx6 w; rw [decide_eq_true hxr] at h; exact h), oN,
        trivial⟩ (fun L6 w7 hp7 => ?_)
      refine k15 _ _ ?_
      refine wp_cond_false (by kernel_rfl) ?_
      refine skips ?_
      refine k14 _ _ ?_
      refine dT 8 [.det (v), .det (GV (gp g)), .det (.slice (some ⟨b, off, none⟩) l0.length cap0), .det (.int .i64 ((i : Nat) : Int)), .det (.pointer (some ⟨b, off + i * 4, none⟩)), .det (RV x), .det (GV (gp (mul F2.inv x g))), .any (isRow1 (GC (gp (mul F2.inv x g)))), .any (fun _ _ => True), .detV 8 (fun v => v)] [0, 1, 2, 3, 4, 5, 6, 7] [0, 0, 0, 0, 12, 28, 62, 126, 255, 511] (fun L => [.slice (some ⟨b, off, none⟩) l0.length cap0, .slice a1 l1.length cap1, u2, u3, .bool false, v, .int .i64 ((i : Nat) : Int), u7, u8, u9, u10, u11, u12, u13, u14, u15, u16, u17, u18, .int .i64 ((i : Nat) : Int), .slice (some ⟨b, off, none⟩) l0.length cap0, .int .i64 l0.length, .bool true, u23, u24, .slice (some ⟨b, off, none⟩) l0.length cap0, .int .i64 ((i : Nat) : Int), .pointer (some ⟨b, off + i * 4, none⟩), RV x, .bool true, .bool false, v, GV (gp g), .slice (some ⟨b, off, none⟩) l0.length cap0, .int .i64 ((i : Nat) : Int), .pointer (some ⟨b, off + i * 4, none⟩), RV x, GV (gp (mul F2.inv x g)), L.v 7, u39, u40, u41, u42, u43, u44, u45, u46, u47, u48, u49, u50, u51, u52, u53, u54, u55, u56, u57, u58, u59, u60, u61, u62, u63, u64, u65, u66, u67, u68, u69, u70, u71, u72, u73]) hp7 ⟨
      oM, oH (v := GV (gp g)) (vs := #[]) (fun w _ _ => by have h := ref5Gen1 R w; rw [← hgn] at h; exact h), oM, oM, oIS (n := l0.length) (c := cap0) i Tryd.underlying42 rR.size (by omega), oLW rR (fun L w hs => ⟨_, _, rfl, rangeR (hRR i x hx) hs.bel⟩), oH (v := GV (gp (mul F2.inv x g))) (vs := #[GV (gp g), RV x]) (fun w _ _ => ref5Times1 R g x w (gen2_on' hgn) hx6), oS2 Tryd.underlying43 rG, trivial⟩ (fun L7 w8 hp8 ha8 => ?_)
      refine tail2 (by kernel_rfl) (wpOp_of rfl rfl (wp_appendG (.tmp 31) (.tmp 38) rfl (v := v) (u := L7.v 7) (P := mul F2.inv x g) (by kernel_rfl) (hOwn.below hp8.bel) (by kernel_rfl) (ha8 7 _ (by decide) rfl) (by rw [List.length_map, List.length_take]; omega) (Nat.le_trans hbel.size hp8.bel.size) (fun v2 x2 ho2 hb2 => ?_)))
      refine wpOp_of rfl rfl (wp_assign (v := v2) rfl (by kernel_rfl) ?_)
      have hbel2 := (hbel.trans (hp8.bel.mono hbel.size)).trans hb2
      have hq1 := Heap.start x2
      refine k13 _ _ _ ?_
      refine block_normal ?_
      refine k12 _ _ ?_
      refine gs [.det (.int .i64 ((i : Nat) : Int)), .det (.int .i64 ((i + 1 : Nat) : Int)), .det (.int .i64 ((i + 1 : Nat) : Int))] [0, 1, 2] [0, 1, 3] (fun L => [.slice (some ⟨b, off, none⟩) l0.length cap0, .slice a1 l1.length cap1, u2, u3, .bool false, v2, .int .i64 ((i + 1 : Nat) : Int), u7, u8, u9, u10, u11, u12, u13, u14, u15, u16, u17, u18, .int .i64 ((i : Nat) : Int), .slice (some ⟨b, off, none⟩) l0.length cap0, .int .i64 l0.length, .bool true, .int .i64 ((i : Nat) : Int), .int .i64 ((i + 1 : Nat) : Int), .slice (some ⟨b, off, none⟩) l0.length cap0, .int .i64 ((i : Nat) : Int), .pointer (some ⟨b, off + i * 4, none⟩), RV x, .bool true, .bool false, v, GV (gp g), .slice (some ⟨b, off, none⟩) l0.length cap0, .int .i64 ((i : Nat) : Int), .pointer (some ⟨b, off + i * 4, none⟩), RV x, GV (gp (mul F2.inv x g)), (L7.v 7), v2, u40, u41, u42, u43, u44, u45, u46, u47, u48, u49, u50, u51, u52, u53, u54, u55, u56, u57, u58, u59, u60, u61, u62, u63, u64, u65, u66, u67, u68, u69, u70, u71, u72, u73]) (fun L => []) hq1 ⟨
        oM, oJ .i64 .i64 ((i : Nat) : Int) 1 (h := fun w => add1N _ i (by omega) w), oA,
        trivial⟩ (fun L8 w9 hp9 => ?_)
      exact ⟨L - 1, by omega, i + 1, v2, u2, u3, u7, u8, u9, u10, u11, u12, u13, u14, u15, u16, u17, u18, .int .i64 ((i : Nat) : Int), .slice (some ⟨b, off, none⟩) l0.length cap0, .int .i64 l0.length, .bool true, .int .i64 ((i : Nat) : Int), .int .i64 ((i + 1 : Nat) : Int), .slice (some ⟨b, off, none⟩) l0.length cap0, .int .i64 ((i : Nat) : Int), .pointer (some ⟨b, off + i * 4, none⟩), RV x, .bool true, .bool false, v, GV (gp g), .slice (some ⟨b, off, none⟩) l0.length cap0, .int .i64 ((i : Nat) : Int), .pointer (some ⟨b, off + i * 4, none⟩), RV x, GV (gp (mul F2.inv x g)), (L7.v 7), v2, u40, u41, u42, u43, u44, u45, u46, u47, u48, u49, u50, u51, u52, u53, u54, u55, u56, u57, u58, u59, u60, u61, u62, u63, u64, u65, u66, u67, u68, u69, u70, u71, u72, u73, by kernel_rfl, by omega, all_next hx hlt hxr, by have h := OwnG.below ho2 hp9.bel; rw [map_next hx]; exact h, hbel2.trans (hp9.bel.mono hbel2.size)⟩
    · skip
      refine wp_seq_k (fun K16 k16 => ?_)
      refine wp_seq_k (fun K17 k17 => ?_)
      refine gs [.det (.int .i64 ((i : Nat) : Int)), .det (.slice (some ⟨b, off, none⟩) l0.length cap0), .det (.int .i64 l0.length), .det (.bool true)] [0, 1, 2, 3] [0, 0, 2, 7] (fun L => [.slice (some ⟨b, off, none⟩) l0.length cap0, .slice a1 l1.length cap1, u2, u3, .bool false, v, .int .i64 ((i : Nat) : Int), u7, u8, u9, u10, u11, u12, u13, u14, u15, u16, u17, u18, .int .i64 ((i : Nat) : Int), .slice (some ⟨b, off, none⟩) l0.length cap0, .int .i64 l0.length, .bool true, u23, u24, u25, u26, u27, u28, u29, u30, u31, u32, u33, u34, u35, u36, u37, u38, u39, u40, u41, u42, u43, u44, u45, u46, u47, u48, u49, u50, u51, u52, u53, u54, u55, u56, u57, u58, u59, u60, u61, u62, u63, u64, u65, u66, u67, u68, u69, u70, u71, u72, u73]) (fun L => []) hq ⟨
        oM, oM, fun h => ⟨ob_len (p := (some ⟨b, off, none⟩)) (n := l0.length) (c := cap0) (fun _ => rfl) h rfl (fun _ => by kernel_rfl) Tryd.underlying42⟩,
        oJ .i64 .i64 ((i : Nat) : Int) l0.length (h := fun w => (lssI _ _ _ w).trans (by rw [decide_eq_true (by omega)])),
        trivial⟩ (fun L9 w10 hp10 => ?_)
      refine k17 _ _ ?_
      refine wp_cond_true (by kernel_rfl) ?_
      refine skips ?_
      refine k16 _ _ ?_
      refine wp_seq_k (fun K18 k18 => ?_)
      refine wp_block_k (fun K19 k19 => ?_)
      refine wp_seq_k (fun K20 k20 => ?_)
      refine wp_seq_k (fun K21 k21 => ?_)
      refine gs [.det (.slice (some ⟨b, off, none⟩) l0.length cap0), .det (.int .i64 ((i : Nat) : Int)), .det (.pointer (some ⟨b, off + i * 4, none⟩)), .det (RV x), .det (.bool false), .det (.bool true)] [0, 1, 2, 3, 4, 5] [0, 0, 3, 7, 15, 31] (fun L => [.slice (some ⟨b, off, none⟩) l0.length cap0, .slice a1 l1.length cap1, u2, u3, .bool false, v, .int .i64 ((i : Nat) : Int), u7, u8, u9, u10, u11, u12, u13, u14, u15, u16, u17, u18, .int .i64 ((i : Nat) : Int), .slice (some ⟨b, off, none⟩) l0.length cap0, .int .i64 l0.length, .bool true, u23, u24, .slice (some ⟨b, off, none⟩) l0.length cap0, .int .i64 ((i : Nat) : Int), .pointer (some ⟨b, off + i * 4, none⟩), RV x, .bool false, .bool true, u31, u32, u33, u34, u35, u36, u37, u38, u39, u40, u41, u42, u43, u44, u45, u46, u47, u48, u49, u50, u51, u52, u53, u54, u55, u56, u57, u58, u59, u60, u61, u62, u63, u64, u65, u66, u67, u68, u69, u70, u71, u72, u73]) (fun L => []) hp10 ⟨
        oM, oM, oIS (n := l0.length) (c := cap0) i Tryd.underlying42 rR.size (by omega), oLW rR (fun L w hs => ⟨_, _, rfl, rangeR (hRR i x hx) hs.bel⟩),
        oH (v := .bool false) (vs := #[RV x]) (fun w _ _ => by have h := mayR hx6 w; rw [decide_eq_false hxr] at h; exact h), oN,
        trivial⟩ (fun L10 w11 hp11 => ?_)
      refine k21 _ _ ?_
      refine wp_cond_true (by kernel_rfl) ?_
      refine wp_seq_k (fun K22 k22 => ?_)
      refine gs [.det (.bool true)] [0] [0] (fun L => [.slice (some ⟨b, off, none⟩) l0.length cap0, .slice a1 l1.length cap1, u2, u3, .bool true, v, .int .i64 ((i : Nat) : Int), u7, u8, u9, u10, u11, u12, u13, u14, u15, u16, u17, u18, .int .i64 ((i : Nat) : Int), .slice (some ⟨b, off, none⟩) l0.length cap0, .int .i64 l0.length, .bool true, u23, u24, .slice (some ⟨b, off, none⟩) l0.length cap0, .int .i64 ((i : Nat) : Int), .pointer (some ⟨b, off + i * 4, none⟩), RV x, .bool false, .bool true, u31, u32, u33, u34, u35, u36, u37, u38, u39, u40, u41, u42, u43, u44, u45, u46, u47, u48, u49, u50, u51, u52, u53, u54, u55, u56, u57, u58, u59, u60, u61, u62, u63, u64, u65, u66, u67, u68, u69, u70, u71, u72, u73]) (fun L => []) hp11 ⟨
        oA,
        trivial⟩ (fun L11 w12 hp12 => ?_)
      refine k22 _ _ ?_
      refine wp_ret ?_
      refine k19 _ _ _ ?_
      refine k9 _ _ _ ?_
      refine bodyPost_ret (v := .bool true) ?_ rfl ?_
      · exact res_t rfl (by kernel_rfl) _
      · exact ⟨rfl, hbel.trans (hp12.bel.mono hbel.size)⟩
  obtain rfl : i = l0.length := by omega
  rw [List.take_length] at hlt hOwn
  have hg := K.stay hg hbel
  have hq := Heap.start W
  refine wp_seq_k (fun K23 k23 => ?_)
  refine wp_seq_k (fun K24 k24 => ?_)
  refine gs [.det (.int .i64 ((l0.length : Nat) : Int)), .det (.slice a0 l0.length cap0), .det (.int .i64 l0.length), .det (.bool false)] [0, 1, 2, 3] [0, 0, 2, 7] (fun L => [.slice a0 l0.length cap0, .slice a1 l1.length cap1, u2, u3, .bool false, v, .int .i64 ((l0.length : Nat) : Int), u7, u8, u9, u10, u11, u12, u13, u14, u15, u16, u17, u18, .int .i64 ((l0.length : Nat) : Int), .slice a0 l0.length cap0, .int .i64 l0.length, .bool false, u23, u24, u25, u26, u27, u28, u29, u30, u31, u32, u33, u34, u35, u36, u37, u38, u39, u40, u41, u42, u43, u44, u45, u46, u47, u48, u49, u50, u51, u52, u53, u54, u55, u56, u57, u58, u59, u60, u61, u62, u63, u64, u65, u66, u67, u68, u69, u70, u71, u72, u73]) (fun L => []) hq ⟨
    oM, oM, fun h => ⟨ob_len (p := a0) (n := l0.length) (c := cap0) (fun _ => rfl) h rfl (fun _ => by kernel_rfl) Tryd.underlying42⟩, oJ .i64 .i64 ((l0.length : Nat) : Int) l0.length (h := fun w => (lssI _ _ _ w).trans (by rw [decide_eq_false (by omega)])),
    trivial⟩ (fun L12 w13 hp13 => ?_)
  refine k24 _ _ ?_
  refine wp_cond_false (by kernel_rfl) ?_
  refine wp_exit ?_
  refine then_exit ?_
  refine then_exit ?_
  have hOwn := OwnG.below hOwn hp13.bel
  have hb0 := hbel.trans (hp13.bel.mono hbel.size)
  have hg := K.stay hg hp13.bel
  have hA0 := hA0.up hb0
  have hA1 := hA1.up hb0
  have hq2 := Heap.start w13
  obtain ⟨lp, hlp⟩ : ∃ lp, lp = l0.map fun k => mul F2.inv k g := ⟨_, rfl⟩
  rw [← hlp] at hOwn
  obtain ⟨pp, cp, rfl, hcp, hAG⟩ := OwnG.at hOwn
  have hPon : ∀ P ∈ lp, On b2 P := fun P hP => by rw [hlp] at hP; obtain ⟨k, _, rfl⟩ := List.mem_map.1 hP; exact mul_on crv2 (gen2_on' hgn) k
  refine k9 _ _ _ ?_
  refine exit_in ?_
  refine k7 _ _ ?_
  refine wp_seq_k (fun K25 k25 => ?_)
  refine gs [.alloc (RC 0)] [0] [0] (fun L => [.slice a0 l0.length cap0, .slice a1 l1.length cap1, u2, u3, .bool false, .slice pp lp.length cp, .int .i64 ((l0.length : Nat) : Int), pt (L.b 0) 0, u8, u9, u10, u11, u12, u13, u14, u15, u16, u17, u18, .int .i64 ((l0.length : Nat) : Int), .slice a0 l0.length cap0, .int .i64 l0.length, .bool false, u23, u24, u25, u26, u27, u28, u29, u30, u31, u32, u33, u34, u35, u36, u37, u38, u39, u40, u41, u42, u43, u44, u45, u46, u47, u48, u49, u50, u51, u52, u53, u54, u55, u56, u57, u58, u59, u60, u61, u62, u63, u64, u65, u66, u67, u68, u69, u70, u71, u72, u73]) (fun L => [(L.b 0, RC 0)]) hq2 ⟨
    oZ rR,
    trivial⟩ (fun L13 w14 hp14 => ?_)
  refine k25 _ _ ?_
  refine wp_seq_k (fun K26 k26 => ?_)
  refine wp_seq_k (fun K27 k27 => ?_)
  refine gs [.det (.int .i64 0)] [0] [0] (fun L => [.slice a0 l0.length cap0, .slice a1 l1.length cap1, u2, u3, .bool false, .slice pp lp.length cp, .int .i64 ((l0.length : Nat) : Int), pt (L13.b 0) 0, .int .i64 0, u9, u10, u11, u12, u13, u14, u15, u16, u17, u18, .int .i64 ((l0.length : Nat) : Int), .slice a0 l0.length cap0, .int .i64 l0.length, .bool false, u23, u24, u25, u26, u27, u28, u29, u30, u31, u32, u33, u34, u35, u36, u37, u38, u39, u40, u41, u42, u43, u44, u45, u46, u47, u48, u49, u50, u51, u52, u53, u54, u55, u56, u57, u58, u59, u60, u61, u62, u63, u64, u65, u66, u67, u68, u69, u70, u71, u72, u73]) (fun L => [((L13.b 0), RC 0)]) hp14 ⟨
    oA,
    trivial⟩ (fun L14 w15 hp15 => ?_)
  refine k27 _ _ ?_
  refine wp_block_k (fun K28 k28 => ?_)
  refine wp_loop_ghost (sumI2 a0 a1 l0 l1 cap0 cap1 pp lp cp w13 (L13.b 0)) l1.length ⟨0, u2, u3, u9, u10, u11, u12, u13, u14, u15, u16, u17, u18, .int .i64 ((l0.length : Nat) : Int), .slice a0 l0.length cap0, .int .i64 l0.length, .bool false, u23, u24, u25, u26, u27, u28, u29, u30, u31, u32, u33, u34, u35, u36, u37, u38, u39, u40, u41, u42, u43, u44, u45, u46, u47, u48, u49, u50, u51, u52, u53, u54, u55, u56, u57, u58, u59, u60, u61, u62, u63, u64, u65, u66, u67, u68, u69, u70, u71, u72, u73, rfl, Nat.zero_add _, fun n hn => (by cases hn), by rw [ssum_nil]; exact hp15⟩ ?_
  rintro L a' W ⟨i, u2, u3, u9, u10, u11, u12, u13, u14, u15, u16, u17, u18, u19, u20, u21, u22, u23, u24, u25, u26, u27, u28, u29, u30, u31, u32, u33, u34, u35, u36, u37, u38, u39, u40, u41, u42, u43, u44, u45, u46, u47, u48, u49, u50, u51, u52, u53, u54, u55, u56, u57, u58, u59, u60, u61, u62, u63, u64, u65, u66, u67, u68, u69, u70, u71, u72, u73, rfl, hL, hlt1, hJ⟩
  by_cases hL0 : L = 0
  rotate_left
  · skip
    have hi : i < l1.length := by omega
    obtain ⟨b0, off0, rfl, hSS⟩ := hA1 (by omega)
    obtain ⟨y, hy⟩ : ∃ y, l1[i]? = some y := ⟨l1[i], List.getElem?_eq_getElem hi⟩
    have hy6 := hk1 y (List.mem_of_getElem? hy)
    obtain ⟨S, hS⟩ : ∃ S, S = ssum ((l0.zip l1).take i) := ⟨_, rfl⟩
    have hSR : S < ordR := by rw [hS]; exact ssum_lt _
    rw [← hS] at hJ
    by_cases hyr : y < ordR
    · skip
      by_cases hi0 : i < l0.length
      · skip
        obtain ⟨b, off, rfl, hRR⟩ := hA0 (by omega)
        obtain ⟨x, hx⟩ : ∃ x, l0[i]? = some x := ⟨l0[i], List.getElem?_eq_getElem hi0⟩
        have hxr := hlt x (List.mem_of_getElem? hx)
        refine wp_seq_k (fun K29 k29 => ?_)
        refine wp_seq_k (fun K30 k30 => ?_)
        refine gs [.det (.int .i64 ((i : Nat) : Int)), .det (.slice (some ⟨b0, off0, none⟩) l1.length cap1), .det (.int .i64 l1.length), .det (.bool true)] [0, 1, 2, 3] [0, 0, 2, 7] (fun L => [.slice (some ⟨b, off, none⟩) l0.length cap0, .slice (some ⟨b0, off0, none⟩) l1.length cap1, u2, u3, .bool false, .slice pp lp.length cp, .int .i64 ((l0.length : Nat) : Int), pt (L13.b 0) 0, .int .i64 ((i : Nat) : Int), u9, u10, u11, u12, u13, u14, u15, u16, u17, u18, u19, u20, u21, u22, u23, u24, u25, u26, u27, u28, u29, u30, u31, u32, u33, u34, u35, u36, u37, u38, u39, .int .i64 ((i : Nat) : Int), .slice (some ⟨b0, off0, none⟩) l1.length cap1, .int .i64 l1.length, .bool true, u44, u45, u46, u47, u48, u49, u50, u51, u52, u53, u54, u55, u56, u57, u58, u59, u60, u61, u62, u63, u64, u65, u66, u67, u68, u69, u70, u71, u72, u73]) (fun L => [((L13.b 0), RC S)]) hJ ⟨
          oM, oM, fun h => ⟨ob_len (p := (some ⟨b0, off0, none⟩)) (n := l1.length) (c := cap1) (fun _ => rfl) h rfl (fun _ => by kernel_rfl) Tryd.underlying42⟩,
          oJ .i64 .i64 ((i : Nat) : Int) l1.length (h := fun w => (lssI _ _ _ w).trans (by rw [decide_eq_true (by omega)])),
          trivial⟩ (fun L15 w16 hp16 => ?_)
        refine k30 _ _ ?_
        refine wp_cond_true (by kernel_rfl) ?_
        refine skips ?_
        refine k29 _ _ ?_
        refine wp_seq_k (fun K31 k31 => ?_)
        refine wp_block_k (fun K32 k32 => ?_)
        refine wp_seq_k (fun K33 k33 => ?_)
        refine wp_seq_k (fun K34 k34 => ?_)
        refine gs [.det (.slice (some ⟨b0, off0, none⟩) l1.length cap1), .det (.int .i64 ((i : Nat) : Int)), .det (.pointer (some ⟨b0, off0 + i * 4, none⟩)), .det (RV y), .det (.bool true), .det (.bool false)] [0, 1, 2, 3, 4, 5] [0, 0, 3, 7, 15, 31] (fun L => [.slice (some ⟨b, off, none⟩) l0.length cap0, .slice (some ⟨b0, off0, none⟩) l1.length cap1, u2, u3, .bool false, .slice pp lp.length cp, .int .i64 ((l0.length : Nat) : Int), pt (L13.b 0) 0, .int .i64 ((i : Nat) : Int), u9, u10, u11, u12, u13, u14, u15, u16, u17, u18, u19, u20, u21, u22, u23, u24, u25, u26, u27, u28, u29, u30, u31, u32, u33, u34, u35, u36, u37, u38, u39, .int .i64 ((i : Nat) : Int), .slice (some ⟨b0, off0, none⟩) l1.length cap1, .int .i64 l1.length, .bool true, u44, u45, .slice (some ⟨b0, off0, none⟩) l1.length cap1, .int .i64 ((i : Nat) : Int), .pointer (some ⟨b0, off0 + i * 4, none⟩), RV y, .bool true, .bool false, u52, u53, u54, u55, u56, u57, u58, u59, u60, u61, u62, u63, u64, u65, u66, u67, u68, u69, u70, u71, u72, u73]) (fun L => [((L13.b 0), RC S)]) hp16 ⟨
          oM, oM, oIS (n := l1.length) (c := cap1) i Tryd.underlying42 rR.size (by omega), oLW rR (fun L w hs => ⟨_, _, rfl, rangeR (hSS i y hy) hs.bel⟩),
          oH (v := .bool true) (vs := #[RV y]) (fun w _ _ => by have h := mayR hy6 w; rw [decide_eq_true hyr] at h; exact h), oN,
          trivial⟩ (fun L16 w17 hp17 => ?_)
        refine k34 _ _ ?_
        refine wp_cond_false (by kernel_rfl) ?_
        refine skips ?_
        refine k33 _ _ ?_
        refine wp_seq_k (fun K35 k35 => ?_)
        refine gs [.det (.int .i64 ((i : Nat) : Int)), .det (.slice (some ⟨b, off, none⟩) l0.length cap0), .det (.int .i64 l0.length), .det (.bool true)] [0, 1, 2, 3] [0, 0, 2, 7] (fun L => [.slice (some ⟨b, off, none⟩) l0.length cap0, .slice (some ⟨b0, off0, none⟩) l1.length cap1, u2, u3, .bool false, .slice pp lp.length cp, .int .i64 ((l0.length : Nat) : Int), pt (L13.b 0) 0, .int .i64 ((i : Nat) : Int), u9, u10, u11, u12, u13, u14, u15, u16, u17, u18, u19, u20, u21, u22, u23, u24, u25, u26, u27, u28, u29, u30, u31, u32, u33, u34, u35, u36, u37, u38, u39, .int .i64 ((i : Nat) : Int), .slice (some ⟨b0, off0, none⟩) l1.length cap1, .int .i64 l1.length, .bool true, u44, u45, .slice (some ⟨b0, off0, none⟩) l1.length cap1, .int .i64 ((i : Nat) : Int), .pointer (some ⟨b0, off0 + i * 4, none⟩), RV y, .bool true, .bool false, .int .i64 ((i : Nat) : Int), .slice (some ⟨b, off, none⟩) l0.length cap0, .int .i64 l0.length, .bool true, u56, u57, u58, u59, u60, u61, u62, u63, u64, u65, u66, u67, u68, u69, u70, u71, u72, u73]) (fun L => [((L13.b 0), RC S)]) hp17 ⟨
          oM, oM, fun h => ⟨ob_len (p := (some ⟨b, off, none⟩)) (n := l0.length) (c := cap0) (fun _ => rfl) h rfl (fun _ => by kernel_rfl) Tryd.underlying42⟩,
          oJ .i64 .i64 ((i : Nat) : Int) l0.length (h := fun w => (lssI _ _ _ w).trans (by rw [decide_eq_true (by omega)])),
          trivial⟩ (fun L17 w18 hp18 => ?_)
        refine k35 _ _ ?_
        refine wp_cond_true (by kernel_rfl) ?_
        refine dr [.det (RV S), .det (.slice (some ⟨b, off, none⟩) l0.length cap0), .det (.int .i64 ((i : Nat) : Int)), .det (.pointer (some ⟨b, off + i * 4, none⟩)), .det (RV x), .det (.slice (some ⟨b0, off0, none⟩) l1.length cap1), .det (.int .i64 ((i : Nat) : Int)), .det (.pointer (some ⟨b0, off0 + i * 4, none⟩)), .det (RV y), .det (RV (x * y % ordR)), .det (RV ((S + x * y % ordR) % ordR)), .store (.base 0) 0 (RC ((S + x * y % ordR) % ordR)) (RC ((S + x * y % ordR) % ordR))] [0, 1, 2, 3, 4, 5, 6, 7, 8, 9, 10, 11] [0, 0, 0, 6, 14, 0, 0, 96, 224, 510, 1023, 2047] (fun L => [.slice (some ⟨b, off, none⟩) l0.length cap0, .slice (some ⟨b0, off0, none⟩) l1.length cap1, u2, u3, .bool false, .slice pp lp.length cp, .int .i64 ((l0.length : Nat) : Int), pt (L13.b 0) 0, .int .i64 ((i : Nat) : Int), u9, u10, u11, u12, u13, u14, u15, u16, u17, u18, u19, u20, u21, u22, u23, u24, u25, u26, u27, u28, u29, u30, u31, u32, u33, u34, u35, u36, u37, u38, u39, .int .i64 ((i : Nat) : Int), .slice (some ⟨b0, off0, none⟩) l1.length cap1, .int .i64 l1.length, .bool true, u44, u45, .slice (some ⟨b0, off0, none⟩) l1.length cap1, .int .i64 ((i : Nat) : Int), .pointer (some ⟨b0, off0 + i * 4, none⟩), RV y, .bool true, .bool false, .int .i64 ((i : Nat) : Int), .slice (some ⟨b, off, none⟩) l0.length cap0, .int .i64 l0.length, .bool true, RV S, .slice (some ⟨b, off, none⟩) l0.length cap0, .int .i64 ((i : Nat) : Int), .pointer (some ⟨b, off + i * 4, none⟩), RV x, .slice (some ⟨b0, off0, none⟩) l1.length cap1, .int .i64 ((i : Nat) : Int), .pointer (some ⟨b0, off0 + i * 4, none⟩), RV y, RV (x * y % ordR), RV ((S + x * y % ordR) % ordR), u67, u68, u69, u70, u71, u72, u73]) (fun L => [((L13.b 0), RC ((S + x * y % ordR) % ordR))]) hp18 ⟨
          oL 0 0 rR, oM, oM, oIS (n := l0.length) (c := cap0) i Tryd.underlying42 rR.size (by omega), oLW rR (fun L w hs => ⟨_, _, rfl, rangeR (hRR i x hx) hs.bel⟩),
          oM, oM, oIS (n := l1.length) (c := cap1) i Tryd.underlying42 rR.size (by omega), oLW rR (fun L w hs => ⟨_, _, rfl, rangeR (hSS i y hy) hs.bel⟩),
          oR (mulR hxr hyr), oH (v := RV ((S + x * y % ordR) % ordR)) (vs := #[RV S, RV (x * y % ordR)]) (fun w _ _ => addR hSR (Nat.mod_lt _ ordR_pos) w), oT rR,
          trivial⟩ (fun L18 w19 hp19 => ?_)
        refine k32 _ _ _ ?_
        refine block_normal ?_
        refine k31 _ _ ?_
        refine gs [.det (.int .i64 ((i : Nat) : Int)), .det (.int .i64 ((i + 1 : Nat) : Int)), .det (.int .i64 ((i + 1 : Nat) : Int))] [0, 1, 2] [0, 1, 3] (fun L => [.slice (some ⟨b, off, none⟩) l0.length cap0, .slice (some ⟨b0, off0, none⟩) l1.length cap1, u2, u3, .bool false, .slice pp lp.length cp, .int .i64 ((l0.length : Nat) : Int), pt (L13.b 0) 0, .int .i64 ((i + 1 : Nat) : Int), u9, u10, u11, u12, u13, u14, u15, u16, u17, u18, u19, u20, u21, u22, u23, u24, u25, u26, u27, u28, u29, u30, u31, u32, u33, u34, u35, u36, u37, u38, u39, .int .i64 ((i : Nat) : Int), .slice (some ⟨b0, off0, none⟩) l1.length cap1, .int .i64 l1.length, .bool true, .int .i64 ((i : Nat) : Int), .int .i64 ((i + 1 : Nat) : Int), .slice (some ⟨b0, off0, none⟩) l1.length cap1, .int .i64 ((i : Nat) : Int), .pointer (some ⟨b0, off0 + i * 4, none⟩), RV y, .bool true, .bool false, .int .i64 ((i : Nat) : Int), .slice (some ⟨b, off, none⟩) l0.length cap0, .int .i64 l0.length, .bool true, RV S, .slice (some ⟨b, off, none⟩) l0.length cap0, .int .i64 ((i : Nat) : Int), .pointer (some ⟨b, off + i * 4, none⟩), RV x, .slice (some ⟨b0, off0, none⟩) l1.length cap1, .int .i64 ((i : Nat) : Int), .pointer (some ⟨b0, off0 + i * 4, none⟩), RV y, RV (x * y % ordR), RV ((S + x * y % ordR) % ordR), u67, u68, u69, u70, u71, u72, u73]) (fun L => [((L13.b 0), RC ((S + x * y % ordR) % ordR))]) hp19 ⟨
          oM, oJ .i64 .i64 ((i : Nat) : Int) 1 (h := fun w => add1N _ i (by omega) w), oA,
          trivial⟩ (fun L19 w20 hp20 => ?_)
        exact ⟨L - 1, by omega, i + 1, u2, u3, u9, u10, u11, u12, u13, u14, u15, u16, u17, u18, u19, u20, u21, u22, u23, u24, u25, u26, u27, u28, u29, u30, u31, u32, u33, u34, u35, u36, u37, u38, u39, .int .i64 ((i : Nat) : Int), .slice (some ⟨b0, off0, none⟩) l1.length cap1, .int .i64 l1.length, .bool true, .int .i64 ((i : Nat) : Int), .int .i64 ((i + 1 : Nat) : Int), .slice (some ⟨b0, off0, none⟩) l1.length cap1, .int .i64 ((i : Nat) : Int), .pointer (some ⟨b0, off0 + i * 4, none⟩), RV y, .bool true, .bool false, .int .i64 ((i : Nat) : Int), .slice (some ⟨b, off, none⟩) l0.length cap0, .int .i64 l0.length, .bool true, RV S, .slice (some ⟨b, off, none⟩) l0.length cap0, .int .i64 ((i : Nat) : Int), .pointer (some ⟨b, off + i * 4, none⟩), RV x, .slice (some ⟨b0, off0, none⟩) l1.length cap1, .int .i64 ((i : Nat) : Int), .pointer (some ⟨b0, off0 + i * 4, none⟩), RV y, RV (x * y % ordR), RV ((S + x * y % ordR) % ordR), u67, u68, u69, u70, u71, u72, u73, rfl, by omega, all_next hy hlt1 hyr, by rw [← ssum_next (zip_at hx hy), ← hS]; exact hp20⟩
      · skip
        refine wp_seq_k (fun K36 k36 => ?_)
        refine wp_seq_k (fun K37 k37 => ?_)
        refine gs [.det (.int .i64 ((i : Nat) : Int)), .det (.slice (some ⟨b0, off0, none⟩) l1.length cap1), .det (.int .i64 l1.length), .det (.bool true)] [0, 1, 2, 3] [0, 0, 2, 7] (fun L => [.slice a0 l0.length cap0, .slice (some ⟨b0, off0, none⟩) l1.length cap1, u2, u3, .bool false, .slice pp lp.length cp, .int .i64 ((l0.length : Nat) : Int), pt (L13.b 0) 0, .int .i64 ((i : Nat) : Int), u9, u10, u11, u12, u13, u14, u15, u16, u17, u18, u19, u20, u21, u22, u23, u24, u25, u26, u27, u28, u29, u30, u31, u32, u33, u34, u35, u36, u37, u38, u39, .int .i64 ((i : Nat) : Int), .slice (some ⟨b0, off0, none⟩) l1.length cap1, .int .i64 l1.length, .bool true, u44, u45, u46, u47, u48, u49, u50, u51, u52, u53, u54, u55, u56, u57, u58, u59, u60, u61, u62, u63, u64, u65, u66, u67, u68, u69, u70, u71, u72, u73]) (fun L => [((L13.b 0), RC S)]) hJ ⟨
          oM, oM, fun h => ⟨ob_len (p := (some ⟨b0, off0, none⟩)) (n := l1.length) (c := cap1) (fun _ => rfl) h rfl (fun _ => by kernel_rfl) Tryd.underlying42⟩,
          oJ .i64 .i64 ((i : Nat) : Int) l1.length (h := fun w => (lssI _ _ _ w).trans (by rw [decide_eq_true (by omega)])),
          trivial⟩ (fun L20 w21 hp21 => ?_)
        refine k37 _ _ ?_
        refine wp_cond_true (by kernel_rfl) ?_
        refine skips ?_
        refine k36 _ _ ?_
        refine wp_seq_k (fun K38 k38 => ?_)
        refine wp_block_k (fun K39 k39 => ?_)
        refine wp_seq_k (fun K40 k40 => ?_)
        refine wp_seq_k (fun K41 k41 => ?_)
        refine gs [.det (.slice (some ⟨b0, off0, none⟩) l1.length cap1), .det (.int .i64 ((i : Nat) : Int)), .det (.pointer (some ⟨b0, off0 + i * 4, none⟩)), .det (RV y), .det (.bool true), .det (.bool false)] [0, 1, 2, 3, 4, 5] [0, 0, 3, 7, 15, 31] (fun L => [.slice a0 l0.length cap0, .slice (some ⟨b0, off0, none⟩) l1.length cap1, u2, u3, .bool false, .slice pp lp.length cp, .int .i64 ((l0.length : Nat) : Int), pt (L13.b 0) 0, .int .i64 ((i : Nat) : Int), u9, u10, u11, u12, u13, u14, u15, u16, u17, u18, u19, u20, u21, u22, u23, u24, u25, u26, u27, u28, u29, u30, u31, u32, u33, u34, u35, u36, u37, u38, u39, .int .i64 ((i : Nat) : Int), .slice (some ⟨b0, off0, none⟩) l1.length cap1, .int .i64 l1.length, .bool true, u44, u45, .slice (some ⟨b0, off0, none⟩) l1.length cap1, .int .i64 ((i : Nat) : Int), .pointer (some ⟨b0, off0 + i * 4, none⟩), RV y, .bool true, .bool false, u52, u53, u54, u55, u56, u57, u58, u59, u60, u61, u62, u63, u64, u65, u66, u67, u68, u69, u70, u71, u72, u73]) (fun L => [((L13.b 0), RC S)]) hp21 ⟨
          oM, oM, oIS (n := l1.length) (c := cap1) i Tryd.underlying42 rR.size (by omega), oLW rR (fun L w hs => ⟨_, _, rfl, rangeR (hSS i y hy) hs.bel⟩),
          oH (v := .bool true) (vs := #[RV y]) (fun w _ _ => by have h := mayR hy6 w; rw [decide_eq_true hyr] at h; exact h), oN,
          trivial⟩ (fun L21 w22 hp22 => ?_)
        refine k41 _ _ ?_
        refine wp_cond_false (by kernel_rfl) ?_
        refine skips ?_
        refine k40 _ _ ?_
        refine wp_seq_k (fun K42 k42 => ?_)
        refine gs [.det (.int .i64 ((i : Nat) : Int)), .det (.slice a0 l0.length cap0), .det (.int .i64 l0.length), .det (.bool false)] [0, 1, 2, 3] [0, 0, 2, 7] (fun L => [.slice a0 l0.length cap0, .slice (some ⟨b0, off0, none⟩) l1.length cap1, u2, u3, .bool false, .slice pp lp.length cp, .int .i64 ((l0.length : Nat) : Int), pt (L13.b 0) 0, .int .i64 ((i : Nat) : Int), u9, u10, u11, u12, u13, u14, u15, u16, u17, u18, u19, u20, u21, u22, u23, u24, u25, u26, u27, u28, u29, u30, u31, u32, u33, u34, u35, u36, u37, u38, u39, .int .i64 ((i : Nat) : Int), .slice (some ⟨b0, off0, none⟩) l1.length cap1, .int .i64 l1.length, .bool true, u44, u45, .slice (some ⟨b0, off0, none⟩) l1.length cap1, .int .i64 ((i : Nat) : Int), .pointer (some ⟨b0, off0 + i * 4, none⟩), RV y, .bool true, .bool false, .int .i64 ((i : Nat) : Int), .slice a0 l0.length cap0, .int .i64 l0.length, .bool false, u56, u57, u58, u59, u60, u61, u62, u63, u64, u65, u66, u67, u68, u69, u70, u71, u72, u73]) (fun L => [((L13.b 0), RC S)]) hp22 ⟨
          oM, oM, fun h => ⟨ob_len (p := a0) (n := l0.length) (c := cap0) (fun _ => rfl) h rfl (fun _ => by kernel_rfl) Tryd.underlying42⟩, oJ .i64 .i64 ((i : Nat) : Int) l0.length (h := fun w => (lssI _ _ _ w).trans (by rw [decide_eq_false (by omega)])),
          trivial⟩ (fun L22 w23 hp23 => ?_)
        refine k42 _ _ ?_
        refine wp_cond_false (by kernel_rfl) ?_
        refine skips ?_
        refine k39 _ _ _ ?_
        refine block_normal ?_
        refine k38 _ _ ?_
        refine gs [.det (.int .i64 ((i : Nat) : Int)), .det (.int .i64 ((i + 1 : Nat) : Int)), .det (.int .i64 ((i + 1 : Nat) : Int))] [0, 1, 2] [0, 1, 3] (fun L => [.slice a0 l0.length cap0, .slice (some ⟨b0, off0, none⟩) l1.length cap1, u2, u3, .bool false, .slice pp lp.length cp, .int .i64 ((l0.length : Nat) : Int), pt (L13.b 0) 0, .int .i64 ((i + 1 : Nat) : Int), u9, u10, u11, u12, u13, u14, u15, u16, u17, u18, u19, u20, u21, u22, u23, u24, u25, u26, u27, u28, u29, u30, u31, u32, u33, u34, u35, u36, u37, u38, u39, .int .i64 ((i : Nat) : Int), .slice (some ⟨b0, off0, none⟩) l1.length cap1, .int .i64 l1.length, .bool true, .int .i64 ((i : Nat) : Int), .int .i64 ((i + 1 : Nat) : Int), .slice (some ⟨b0, off0, none⟩) l1.length cap1, .int .i64 ((i : Nat) : Int), .pointer (some ⟨b0, off0 + i * 4, none⟩), RV y, .bool true, .bool false, .int .i64 ((i : Nat) : Int), .slice a0 l0.length cap0, .int .i64 l0.length, .bool false, u56, u57, u58, u59, u60, u61, u62, u63, u64, u65, u66, u67, u68, u69, u70, u71, u72, u73]) (fun L => [((L13.b 0), RC S)]) hp23 ⟨
          oM, oJ .i64 .i64 ((i : Nat) : Int) 1 (h := fun w => add1N _ i (by omega) w), oA,
          trivial⟩ (fun L23 w24 hp24 => ?_)
        exact ⟨L - 1, by omega, i + 1, u2, u3, u9, u10, u11, u12, u13, u14, u15, u16, u17, u18, u19, u20, u21, u22, u23, u24, u25, u26, u27, u28, u29, u30, u31, u32, u33, u34, u35, u36, u37, u38, u39, .int .i64 ((i : Nat) : Int), .slice (some ⟨b0, off0, none⟩) l1.length cap1, .int .i64 l1.length, .bool true, .int .i64 ((i : Nat) : Int), .int .i64 ((i + 1 : Nat) : Int), .slice (some ⟨b0, off0, none⟩) l1.length cap1, .int .i64 ((i : Nat) : Int), .pointer (some ⟨b0, off0 + i * 4, none⟩), RV y, .bool true, .bool false, .int .i64 ((i : Nat) : Int), .slice a0 l0.length cap0, .int .i64 l0.length, .bool false, u56, u57, u58, u59, u60, u61, u62, u63, u64, u65, u66, u67, u68, u69, u70, u71, u72, u73, rfl, by omega, all_next hy hlt1 hyr, by rw [zip_done (by omega), ← hS]; exact hp24⟩
    · skip
      refine wp_seq_k (fun K43 k43 => ?_)
      refine wp_seq_k (fun K44 k44 => ?_)
      refine gs [.det (.int .i64 ((i : Nat) : Int)), .det (.slice (some ⟨b0, off0, none⟩) l1.length cap1), .det (.int .i64 l1.length), .det (.bool true)] [0, 1, 2, 3] [0, 0, 2, 7] (fun L => [.slice a0 l0.length cap0, .slice (some ⟨b0, off0, none⟩) l1.length cap1, u2, u3, .bool false, .slice pp lp.length cp, .int .i64 ((l0.length : Nat) : Int), pt (L13.b 0) 0, .int .i64 ((i : Nat) : Int), u9, u10, u11, u12, u13, u14, u15, u16, u17, u18, u19, u20, u21, u22, u23, u24, u25, u26, u27, u28, u29, u30, u31, u32, u33, u34, u35, u36, u37, u38, u39, .int .i64 ((i : Nat) : Int), .slice (some ⟨b0, off0, none⟩) l1.length cap1, .int .i64 l1.length, .bool true, u44, u45, u46, u47, u48, u49, u50, u51, u52, u53, u54, u55, u56, u57, u58, u59, u60, u61, u62, u63, u64, u65, u66, u67, u68, u69, u70, u71, u72, u73]) (fun L => [((L13.b 0), RC S)]) hJ ⟨
        oM, oM, fun h => ⟨ob_len (p := (some ⟨b0, off0, none⟩)) (n := l1.length) (c := cap1) (fun _ => rfl) h rfl (fun _ => by kernel_rfl) Tryd.underlying42⟩,
        oJ .i64 .i64 ((i : Nat) : Int) l1.length (h := fun w => (lssI _ _ _ w).trans (by rw [decide_eq_true (by omega)])),
        trivial⟩ (fun L24 w25 hp25 => ?_)
      refine k44 _ _ ?_
      refine wp_cond_true (by kernel_rfl) ?_
      refine skips ?_
      refine k43 _ _ ?_
      refine wp_seq_k (fun K45 k45 => ?_)
      refine wp_block_k (fun K46 k46 => ?_)
      refine wp_seq_k (fun K47 k47 => ?_)
      refine wp_seq_k (fun K48 k48 => ?_)
      refine gs [.det (.slice (some ⟨b0, off0, none⟩) l1.length cap1), .det (.int .i64 ((i : Nat) : Int)), .det (.pointer (some ⟨b0, off0 + i * 4, none⟩)), .det (RV y), .det (.bool false), .det (.bool true)] [0, 1, 2, 3, 4, 5] [0, 0, 3, 7, 15, 31] (fun L => [.slice a0 l0.length cap0, .slice (some ⟨b0, off0, none⟩) l1.length cap1, u2, u3, .bool false, .slice pp lp.length cp, .int .i64 ((l0.length : Nat) : Int), pt (L13.b 0) 0, .int .i64 ((i : Nat) : Int), u9, u10, u11, u12, u13, u14, u15, u16, u17, u18, u19, u20, u21, u22, u23, u24, u25, u26, u27, u28, u29, u30, u31, u32, u33, u34, u35, u36, u37, u38, u39, .int .i64 ((i : Nat) : Int), .slice (some ⟨b0, off0, none⟩) l1.length cap1, .int .i64 l1.length, .bool true, u44, u45, .slice (some ⟨b0, off0, none⟩) l1.length cap1, .int .i64 ((i : Nat) : Int), .pointer (some ⟨b0, off0 + i * 4, none⟩), RV y, .bool false, .bool true, u52, u53, u54, u55, u56, u57, u58, u59, u60, u61, u62, u63, u64, u65, u66, u67, u68, u69, u70, u71, u72, u73]) (fun L => [((L13.b 0), RC S)]) hp25 ⟨
        oM, oM, oIS (n := l1.length) (c := cap1) i Tryd.underlying42 rR.size (by omega), oLW rR (fun L w hs => ⟨_, _, rfl, rangeR (hSS i y hy) hs.bel⟩),
        oH (v := .bool false) (vs := #[RV y]) (fun w _ _ => by have h := mayR hy6 w; rw [decide_eq_false hyr] at h; exact h), oN,
        trivial⟩ (fun L25 w26 hp26 => ?_)
      refine k48 _ _ ?_
      refine wp_cond_true (by kernel_rfl) ?_
      refine wp_seq_k (fun K49 k49 => ?_)
      refine gs [.det (.bool true)] [0] [0] (fun L => [.slice a0 l0.length cap0, .slice (some ⟨b0, off0, none⟩) l1.length cap1, u2, u3, .bool true, .slice pp lp.length cp, .int .i64 ((l0.length : Nat) : Int), pt (L13.b 0) 0, .int .i64 ((i : Nat) : Int), u9, u10, u11, u12, u13, u14, u15, u16, u17, u18, u19, u20, u21, u22, u23, u24, u25, u26, u27, u28, u29, u30, u31, u32, u33, u34, u35, u36, u37, u38, u39, .int .i64 ((i : Nat) : Int), .slice (some ⟨b0, off0, none⟩) l1.length cap1, .int .i64 l1.length, .bool true, u44, u45, .slice (some ⟨b0, off0, none⟩) l1.length cap1, .int .i64 ((i : Nat) : Int), .pointer (some ⟨b0, off0 + i * 4, none⟩), RV y, .bool false, .bool true, u52, u53, u54, u55, u56, u57, u58, u59, u60, u61, u62, u63, u64, u65, u66, u67, u68, u69, u70, u71, u72, u73]) (fun L => [((L13.b 0), RC S)]) hp26 ⟨
        oA,
        trivial⟩ (fun L26 w27 hp27 => ?_)
      refine k49 _ _ ?_
      refine wp_ret ?_
      refine k46 _ _ _ ?_
      refine k28 _ _ _ ?_
      refine bodyPost_ret (v := .bool true) ?_ rfl ?_
      · exact res_t rfl (by kernel_rfl) _
      · exact ⟨rfl, hb0.trans (hp27.bel.mono hb0.size)⟩
  obtain rfl : i = l1.length := by omega
  rw [zip_all] at hJ
  obtain ⟨S, hS⟩ : ∃ S, S = ssum (l0.zip l1) := ⟨_, rfl⟩
  have hS6 : S < 2 ^ 256 := by rw [hS]; exact modR _
  rw [← hS] at hJ
  have hfin : psum F2.inv 0 (lp.zip l1) = mul F2.inv S g := by rw [hlp, hS]; exact sums_end hgn l0 l1
  refine wp_seq_k (fun K50 k50 => ?_)
  refine wp_seq_k (fun K51 k51 => ?_)
  refine gs [.det (.int .i64 ((l1.length : Nat) : Int)), .det (.slice a1 l1.length cap1), .det (.int .i64 l1.length), .det (.bool false)] [0, 1, 2, 3] [0, 0, 2, 7] (fun L => [.slice a0 l0.length cap0, .slice a1 l1.length cap1, u2, u3, .bool false, .slice pp lp.length cp, .int .i64 ((l0.length : Nat) : Int), pt (L13.b 0) 0, .int .i64 ((l1.length : Nat) : Int), u9, u10, u11, u12, u13, u14, u15, u16, u17, u18, u19, u20, u21, u22, u23, u24, u25, u26, u27, u28, u29, u30, u31, u32, u33, u34, u35, u36, u37, u38, u39, .int .i64 ((l1.length : Nat) : Int), .slice a1 l1.length cap1, .int .i64 l1.length, .bool false, u44, u45, u46, u47, u48, u49, u50, u51, u52, u53, u54, u55, u56, u57, u58, u59, u60, u61, u62, u63, u64, u65, u66, u67, u68, u69, u70, u71, u72, u73]) (fun L => [((L13.b 0), RC S)]) hJ ⟨
    oM, oM, fun h => ⟨ob_len (p := a1) (n := l1.length) (c := cap1) (fun _ => rfl) h rfl (fun _ => by kernel_rfl) Tryd.underlying42⟩, oJ .i64 .i64 ((l1.length : Nat) : Int) l1.length (h := fun w => (lssI _ _ _ w).trans (by rw [decide_eq_false (by omega)])),
    trivial⟩ (fun L27 w28 hp28 => ?_)
  refine k51 _ _ ?_
  refine wp_cond_false (by kernel_rfl) ?_
  refine wp_exit ?_
  refine then_exit ?_
  refine then_exit ?_
  refine k28 _ _ _ ?_
  refine exit_in ?_
  refine k26 _ _ ?_
  refine wp_seq_k (fun K52 k52 => ?_)
  refine dr [.det (.slice pp lp.length cp), .det (.slice a1 l1.length cap1), .det (GV (gp (psum F2.inv 0 (lp.zip l1)))), .det (GV (gp g)), .det (RV S), .det (GV (gp (mul F2.inv S g))), .det (.bool true), .det (.bool true)] [0, 1, 2, 3, 4, 5, 6, 7] [0, 0, 3, 7, 0, 31, 63, 127] (fun L => [.slice a0 l0.length cap0, .slice a1 l1.length cap1, u2, u3, .bool true, .slice pp lp.length cp, .int .i64 ((l0.length : Nat) : Int), pt (L13.b 0) 0, .int .i64 ((l1.length : Nat) : Int), u9, u10, u11, u12, u13, u14, u15, u16, u17, u18, u19, u20, u21, u22, u23, u24, u25, u26, u27, u28, u29, u30, u31, u32, u33, u34, u35, u36, u37, u38, u39, .int .i64 ((l1.length : Nat) : Int), .slice a1 l1.length cap1, .int .i64 l1.length, .bool false, u44, u45, u46, u47, u48, u49, u50, u51, u52, u53, u54, u55, u56, u57, u58, u59, u60, u61, u62, u63, u64, u65, u66, .slice pp lp.length cp, .slice a1 l1.length cap1, GV (gp (psum F2.inv 0 (lp.zip l1))), GV (gp g), RV S, GV (gp (mul F2.inv S g)), .bool true]) (fun L => [((L13.b 0), RC S)]) hp28 ⟨
    oM, oM, oH (v := GV (gp (psum F2.inv 0 (lp.zip l1)))) (vs := #[.slice pp lp.length cp, .slice a1 l1.length cap1]) (fun w hb _ => g2Sum K pp a1 lp l1 cp cap1 w (K.stay hg hb) hcp hc1 (by rw [hlp, List.length_map]; omega) hPon hk1 (hAG.up hb) (hA1.up hb)),
    oH (v := GV (gp g)) (vs := #[]) (fun w _ _ => by have h := ref5Gen1 R w; rw [← hgn] at h; exact h), oL 0 0 rR, oH (v := GV (gp (mul F2.inv S g))) (vs := #[GV (gp g), RV S]) (fun w _ _ => ref5Times1 R g S w (gen2_on' hgn) hS6),
    oE (a := (gp (psum F2.inv 0 (lp.zip l1)))) (b := (gp (mul F2.inv S g))) qG (yes (gp_true hfin)), oA,
    trivial⟩ (fun L28 w29 hp29 => ?_)
  refine k52 _ _ ?_
  refine wp_ret ?_
  refine bodyPost_ret (v := .bool true) ?_ rfl ?_
  · exact res_t rfl (by kernel_rfl) _
  · exact ⟨rfl, hb0.trans (hp29.bel.mono hb0.size)⟩
theorem g2Sums_walk {G : World → Prop} (K : FpK G) (R : RefK) (a0 a1 : Option Addr) (len0 cap0 len1 cap1 : Nat) (l0 l1 : List Nat) (w : World) (h0 : l0.length = len0 ∧ len0 ≤ cap0 ∧ cap0 ≤ maxLen ∧ (∀ n ∈ l0, n < 2 ^ 256) ∧ AtR w a0 l0) (h1 : l1.length = len1 ∧ len1 ≤ cap1 ∧ cap1 ≤ maxLen ∧ (∀ n ∈ l1, n < 2 ^ 256) ∧ AtR w a1 l1) (hg : G w) :
    Calls Tryd.prog 5 #[.slice a0 len0 cap0, .slice a1 len1 cap1] w (Ret (.bool true) w) := by
  have hB := fun w hg => begun9 K R w hg
  obtain ⟨rfl, hc0, _, hk0, hA0⟩ := h0
  obtain ⟨rfl, hc1, _, hk1, hA1⟩ := h1
  rcases Nat.lt_or_ge 5 l0.length with c | c
  · exact sums0 K R gen2 a0 a1 l0 l1 cap0 cap1 w hg rfl hB c
  · rcases Nat.lt_or_ge 6 l1.length with c1 | c1
    · exact sums1 K R gen2 a0 a1 l0 l1 cap0 cap1 w hg rfl hB c c1
    · exact sums2 K R gen2 a0 a1 l0 l1 cap0 cap1 w hg rfl hB c c1 hc1 hk0 hk1 hA0 hA1
end Go.Proofs.YthehnlpgmkjefaaDoor.fpn.T2
