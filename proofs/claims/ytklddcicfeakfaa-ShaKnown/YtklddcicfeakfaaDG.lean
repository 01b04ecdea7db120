/- A row of whole numbers of one's own; the primes. -/
import Derived.Test.YtklddcicfeakfaaDF
import Derived.Test.YtklddcicfeakfaaCU
import Derived.Laws.AppendOwn
import Derived.Deep.LoopGhost
namespace Go.Proofs.Ytklddcicfeakfaa.fpn
open Go.RowKit Pl
set_option linter.unusedVariables false
set_option linter.unusedSimpArgs false
set_option maxRecDepth 4000

def rowu (l : List Nat) : List Value := l.map fun (n : Nat) => .int .u64 (n : Int)
/-- A slice of whole numbers that is one's own. -/
def OwnU (w : World) (B : Nat) (v : Value) (l : List Nat) : Prop := w.ownsRow B 39 1 v l.length (rowu l)
theorem OwnU.nil {w : World} {B : Nat} : OwnU w B (.slice none 0 0) [] := World.ownsRow_nil w B _ 1
theorem OwnU.below {w x : World} {B : Nat} {v : Value} {l : List Nat} (h : OwnU w B v l) (hb : Below w.heap.size w x) : OwnU x B v l := by
  refine ⟨h.1, ?_⟩
  rcases h.2 with h2 | ⟨g, cap, cur, hv, hB, hg, r⟩
  · exact Or.inl h2
  · refine Or.inr ⟨g, cap, cur, hv, hB, ?_, r⟩
    rw [hb.block g ?_]
    · exact hg
    · exact (Array.getElem?_eq_some_iff.1 hg).1
theorem OwnU.at {w : World} {B : Nat} {v : Value} {l : List Nat} (h : OwnU w B v l) : ∃ p c, v = .slice p l.length c ∧ l.length ≤ c ∧ c ≤ 9223372036854775807 ∧ (0 < l.length → ∃ b, p = some ⟨b, 0, none⟩ ∧ B ≤ b ∧ ∀ (j n : Nat), l[j]? = some n → w.cell? ⟨b, 0 + j * 1, none⟩ = some (.int .u64 (n : Int))) := by
  rcases h.2 with ⟨rfl, hn⟩ | ⟨g, cap, cur, rfl, hB, hg, hn, hm, hs, ht⟩
  · exact ⟨none, 0, by rw [hn], by omega, by omega, fun h0 => absurd h0 (by omega)⟩
  · refine ⟨_, cap, rfl, hn, (by have := hm; unfold maxLen at this; omega), fun h0 => ⟨g, rfl, hB, fun j n hj => ?_⟩⟩
    have hi : j < l.length := (List.getElem?_eq_some_iff.1 hj).1
    have e : (rowu l)[j]? = some (.int .u64 (n : Int)) := by unfold rowu; rw [List.getElem?_map, hj]; rfl
    rw [← ht, List.getElem?_take_of_lt (by omega)] at e
    have e' : cur[j]? = some (.int .u64 (n : Int)) := by simpa using e
    unfold World.cell?
    simp only [hg, Nat.zero_add, Nat.mul_one]
    simpa using e'
theorem infoU : ∃ i z, Try.prog.info? 39 = some i ∧ i.zero = some z ∧ i.size = 1 ∧ i.bytes = 8 ∧ z.cells.size = 1 := by
  have e : (Try.prog.info? 39).map (fun i => (i.size, i.bytes, i.zero.map (·.cells.size))) = some (1, 8, some 1) := by kernel_rfl
  cases hi : Try.prog.info? 39 with
  | none => simp [hi] at e
  | some i =>
    simp only [hi, Option.map_some, Option.some.injEq, Prod.mk.injEq, Option.map_eq_some_iff] at e
    obtain ⟨h1, h2, z, hz, h3⟩ := e
    exact ⟨i, z, rfl, hz, h1, h2, h3⟩
/-- One number more. -/
theorem wp_appendU {Q : Exit → Act → World → Prop} {o : Oper} {a : Act} {w : World} {K : Act → World → Prop} (s x : Operand) (ho : o.op = .call { callee := .builtin .append, args := #[s, x], argTypes := #[45, 45] })
    {B : Nat} {v u : Value} {l : List Nat} {n : Nat} (hs : a.eval s = v) (hown : OwnU w B v l) (hx : a.eval x = u) (hu : isOne (n : Int) u w) (hl : l.length ≤ 1000) (hB : B ≤ w.heap.size)
    (h : ∀ v' w', OwnU w' B v' (l ++ [n]) → Below B w w' → K (a.put o.dst v') w') : o.wp Try.prog a w K Q := by
  obtain ⟨i, z, hi, hz, h1, h2, h3⟩ := infoU
  obtain ⟨k, rfl, hc⟩ := hu
  obtain ⟨b, off, e, hc⟩ := hc (by decide)
  obtain ⟨rfl, rfl⟩ : k = b ∧ 0 = off := by simpa using e
  refine wp_append_own w s x 45 ho B 39 i z 1 8 Try.underlying45 hi hz h1 h2 h3 (by decide) v l.length (rowu l) hs hown ⟨k, 0, none⟩ 1 1 [.int .u64 (n : Int)] hx rfl (fun j u hu => ?_) (fun u hu => ?_) (by simp [maxLen]; omega) (by omega) hB (fun v' w' ho' hgr _ => h v' w' ?_ ?_)
  · have hj : j < 1 := (List.getElem?_eq_some_iff.1 hu).1
    obtain rfl : j = 0 := by omega
    have := hc 0 (by decide)
    obtain rfl : Value.int .u64 (n : Int) = u := by simpa using hu
    rw [Addr.add_mid]
    exact this
  · obtain rfl : u = Value.int .u64 (n : Int) := by simpa using hu
    rfl
  · have e : rowu (l ++ [n]) = rowu l ++ [.int .u64 (n : Int)] := by unfold rowu; rw [List.map_append]; rfl
    unfold OwnU
    rw [e, List.length_append]
    exact ho'
  · have hrow : ∀ k, v.ownBlock = some k → B ≤ k := fun k hk => (World.ownsRow.lt hown k hk).1
    exact ⟨hgr.os, hgr.tape, hgr.output, hgr.size, fun k hk => hgr.block k (by omega) (fun e => by have := hrow k e.symm; omega)⟩
/-- The primes below m + 2. -/
def plR : Nat → List Nat
  | 0 => []
  | m + 1 => bif (plR m).all (fun p => !decide ((m + 2) % p = 0)) then plR m ++ [m + 2] else plR m
@[irreducible] def pl (m : Nat) : List Nat := plR m
theorem pl_0 : pl 0 = [] := by unfold pl; rfl
theorem pl_s (m : Nat) : pl (m + 1) = bif (pl m).all (fun p => !decide ((m + 2) % p = 0)) then pl m ++ [m + 2] else pl m := by unfold pl; rfl
theorem pl_up (m : Nat) : (pl m).length ≤ (pl (m + 1)).length := by
  rw [pl_s]
  cases (pl m).all (fun p => !decide ((m + 2) % p = 0))
  · exact Nat.le_refl _
  · show (pl m).length ≤ (pl m ++ [m + 2]).length
    rw [List.length_append]; omega
theorem pl_le {m n : Nat} (h : m ≤ n) : (pl m).length ≤ (pl n).length := by
  induction n with
  | zero => rw [show m = 0 by omega]; exact Nat.le_refl _
  | succ n ih =>
    rcases Nat.lt_or_ge n m with h' | h'
    · rw [show m = n + 1 by omega]; exact Nat.le_refl _
    · exact Nat.le_trans (ih h') (pl_up n)
theorem pl_pos : ∀ (m p : Nat), p ∈ pl m → 0 < p ∧ p < m + 2
  | 0, p, h => by rw [pl_0] at h; cases h
  | m + 1, p, h => by
    rw [pl_s] at h
    cases e : (pl m).all (fun p => !decide ((m + 2) % p = 0)) <;> rw [e] at h
    · have := pl_pos m p h; omega
    · rcases List.mem_append.1 h with h | h
      · have := pl_pos m p h; omega
      · simp at h; omega
/-- The first 64 primes. -/
def p64 : List Nat := [2, 3, 5, 7, 11, 13, 17, 19, 23, 29, 31, 37, 41, 43, 47, 53, 59, 61, 67, 71, 73, 79, 83, 89, 97, 101, 103, 107, 109, 113, 127, 131, 137, 139, 149, 151, 157, 163, 167, 173, 179, 181, 191, 193, 197, 199, 211, 223, 227, 229, 233, 239, 241, 251, 257, 263, 269, 271, 277, 281, 283, 293, 307, 311]
theorem pl_all : pl 310 = p64 := by unfold pl; decide +kernel
theorem pl_few : (pl 309).length = 63 := by unfold pl; decide +kernel
theorem pl_lt {m : Nat} (h : m < 310) : (pl m).length < 64 := by
  have := pl_le (show m ≤ 309 by omega)
  rw [pl_few] at this; omega
theorem remU (t : TypeId) (a b : Nat) (hb : 0 < b) (w : World) : (binOp .rem t (.int .u64 (a : Int)) (.int .u64 (b : Int))).run Try.prog w = .ok (.int .u64 ((a % b : Nat) : Int)) w := by
  have e0 : (a : Int).tmod (b : Int) = ((a % b : Nat) : Int) := by rw [Int.tmod_eq_emod_of_nonneg (by omega)]; rfl
  have h1 : ¬ b = 0 := by omega
  simp [binOp, Sem.run_bind, Op.intDiv, e0, h1]
theorem neqU (t : TypeId) (a b : Nat) (w : World) : (binOp .neq t (.int .u64 (a : Int)) (.int .u64 (b : Int))).run Try.prog w = .ok (.bool (!decide (a = b))) w := by
  refine (neqI _ _ _ _ w).trans ?_
  rw [show decide ((a : Int) = (b : Int)) = decide (a = b) from decide_eq_decide.2 (by omega)]
theorem all_take {l : List Nat} {i q : Nat} (f : Nat → Bool) (h : l[i]? = some q) : (l.take (i + 1)).all f = ((l.take i).all f && f q) := by
  have hi := (List.getElem?_eq_some_iff.1 h).1
  have e : l.take (i + 1) = l.take i ++ [q] := by
    rw [List.take_add_one, h]; rfl
  rw [e, List.all_append]; simp
theorem cell_up {w x : World} {b off : Nat} {v : Value} (h : w.cell? ⟨b, off, none⟩ = some v) (k : Below w.heap.size w x) : x.cell? ⟨b, off, none⟩ = some v := by
  have r : w.rangeAt b off [v] := fun j u hu => by
    have hj : j < 1 := (List.getElem?_eq_some_iff.1 hu).1
    obtain rfl : j = 0 := by omega
    obtain rfl : v = u := by simpa using hu
    exact h
  exact range_up r k 0 v rfl
/-- What the rounds of primes keep. -/
def prI (w : World) : Nat → Act → World → Prop := fun L a' w' => ∃ (m : Nat) (d : Nat → Value) (v : Value),
  a' = { tmps := ([d 0, v, .int .u64 ((m + 2 : Nat) : Int)] ++ D d 3 29 : List Value).toArray, defers := [] } ∧ m + L = 310 ∧ OwnU w' w.heap.size v (pl m) ∧ Below w.heap.size w w'
def piI (W : World) (p : Option Addr) (c m : Nat) : Nat → Act → World → Prop := fun L a' w' => ∃ (i : Nat) (d2 : Nat → Value),
  a' = { tmps := ([d2 0, .slice p (pl m).length c, .int .u64 ((m + 2 : Nat) : Int), .bool (((pl m).take i).all (fun p => !decide ((m + 2) % p = 0))), .int .i64 ((i : Nat) : Int)] ++ D d2 5 27 : List Value).toArray, defers := [] } ∧ i + L = (pl m).length ∧ Below W.heap.size W w'
/-- The first 64 primes, in a row of one's own. -/
def RetPr (w : World) : Ending → World → Prop := fun e w' => ∃ v, e = .returned v ∧ OwnU w' w.heap.size v p64 ∧ Below w.heap.size w w'

set_option maxHeartbeats 4000000 in
theorem refPrimes (w : World) : Calls Try.prog 21 #[] w (RetPr w) := by
  have hp0 := Heap.start w
  go_enter Try.func21, Try.ntmps21
  refine wp_seq_k (fun K1 k1 => ?_)
  refine gs [.det (.slice none 0 0)] [0] [0] (fun L => [.slice none 0 0] ++ U 31) (fun L => []) hp0 ⟨
    oA,
    trivial⟩ (fun L0 w1 hp1 => ?_)
  refine k1 _ _ ?_
  refine wp_seq_k (fun K2 k2 => ?_)
  refine gs [.det (.slice none 0 0)] [0] [0] (fun L => [.slice none 0 0, .slice none 0 0] ++ U 30) (fun L => []) hp1 ⟨
    oA,
    trivial⟩ (fun L1 w2 hp2 => ?_)
  refine k2 _ _ ?_
  refine wp_seq_k (fun K3 k3 => ?_)
  refine wp_seq_k (fun K4 k4 => ?_)
  refine gs [.det (.int .u64 2)] [0] [0] (fun L => [.slice none 0 0, .slice none 0 0, .int .u64 2] ++ U 29) (fun L => []) hp2 ⟨
    oA,
    trivial⟩ (fun L2 w3 hp3 => ?_)
  refine k4 _ _ ?_
  refine wp_block_k (fun K5 k5 => ?_)
  refine wp_loop_ghost (prI w) 310 ⟨0, (fun zz => ([.slice none 0 0, .slice none 0 0, .int .u64 2] ++ U 29 : List Value).getD zz undef), .slice none 0 0, by kernel_rfl, Nat.zero_add _, by rw [pl_0]; exact OwnU.nil, hp3.bel⟩ ?_
  rintro L a' W ⟨m, d, v, rfl, hL, hOwn, hbel⟩
  have hB := hbel.size
  have hp0 := Heap.start W
  obtain ⟨p, c, rfl, hc1, hc2, hat⟩ := hOwn.at
  by_cases hL0 : L = 0
  rotate_left
  · skip
    have hm : m < 310 := by omega
    have hlen := pl_lt hm
    have hs := pl_s m
    cases hall : (pl m).all (fun p => !decide ((m + 2) % p = 0)) <;> rw [hall] at hs
    · skip
      refine wp_seq_k (fun K6 k6 => ?_)
      refine wp_seq_k (fun K7 k7 => ?_)
      refine gs [.det (.slice p (pl m).length c), .det (.int .i64 ((pl m).length)), .det (.bool true)] [0, 1, 2] [0, 1, 3] (fun L => [d 0, .slice p (pl m).length c, .int .u64 ((m + 2 : Nat) : Int)] ++ (D d 3 2 ++ ([.slice p (pl m).length c, .int .i64 ((pl m).length), .bool true] ++ D d 8 24))) (fun L => []) hp0 ⟨
        oM, fun h => ⟨ob_len (p := p) (n := (pl m).length) (c := c) (fun _ => rfl) h rfl (fun _ => by kernel_rfl) Try.underlying45⟩, oJ .i64 .i64 ((pl m).length) 64 (h := fun w => (lssI _ _ _ w).trans (by rw [decide_eq_true (by omega)])),
        trivial⟩ (fun L3 w4 hp4 => ?_)
      refine k7 _ _ ?_
      refine wp_cond_true (by kernel_rfl) ?_
      refine skips ?_
      refine k6 _ _ ?_
      refine wp_seq_k (fun K8 k8 => ?_)
      refine wp_block_k (fun K9 k9 => ?_)
      refine wp_seq_k (fun K10 k10 => ?_)
      refine gs [.det (.bool true)] [0] [0] (fun L => [d 0, .slice p (pl m).length c, .int .u64 ((m + 2 : Nat) : Int), .bool true, d 4, .slice p (pl m).length c, .int .i64 ((pl m).length), .bool true] ++ D d 8 24) (fun L => []) hp4 ⟨
        oA,
        trivial⟩ (fun L4 w5 hp5 => ?_)
      refine k10 _ _ ?_
      refine wp_seq_k (fun K11 k11 => ?_)
      refine wp_seq_k (fun K12 k12 => ?_)
      refine gs [.det (.int .i64 0)] [0] [0] (fun L => [d 0, .slice p (pl m).length c, .int .u64 ((m + 2 : Nat) : Int), .bool true, .int .i64 0, .slice p (pl m).length c, .int .i64 ((pl m).length), .bool true] ++ D d 8 24) (fun L => []) hp5 ⟨
        oA,
        trivial⟩ (fun L5 w6 hp6 => ?_)
      refine k12 _ _ ?_
      refine wp_block_k (fun K13 k13 => ?_)
      refine wp_loop_ghost (piI W p c m) (pl m).length ⟨0, (fun zz => ([d 0, .slice p (pl m).length c, .int .u64 ((m + 2 : Nat) : Int), .bool true, .int .i64 0, .slice p (pl m).length c, .int .i64 ((pl m).length), .bool true] ++ D d 8 24 : List Value).getD zz undef), by kernel_rfl, Nat.zero_add _, hp6.bel⟩ ?_
      rintro L2 a2 X ⟨i, d2, rfl, hL2, hb2⟩
      have hx0 := Heap.start X
      by_cases hL20 : L2 = 0
      rotate_left
      · skip
        have hi : i < (pl m).length := by omega
        obtain ⟨b, rfl, hBb, hcell⟩ := hat (by omega)
        obtain ⟨q, hq⟩ : ∃ q, (pl m)[i]? = some q := ⟨(pl m)[i], List.getElem?_eq_getElem hi⟩
        have hqp := (pl_pos m q (List.mem_of_getElem? hq)).1
        have hst := all_take (fun p => !decide ((m + 2) % p = 0)) hq
        have hcq := hcell i q hq
        cases ha : ((pl m).take i).all (fun p => !decide ((m + 2) % p = 0)) <;> rw [ha] at hst
        · skip
          refine wp_seq_k (fun K14 k14 => ?_)
          refine wp_seq_k (fun K15 k15 => ?_)
          refine gs [.det (.int .i64 ((i : Nat) : Int)), .det (.slice (some ⟨b, 0, none⟩) (pl m).length c), .det (.int .i64 ((pl m).length)), .det (.bool true)] [0, 1, 2, 3] [0, 0, 2, 7] (fun L => [d2 0, .slice (some ⟨b, 0, none⟩) (pl m).length c, .int .u64 ((m + 2 : Nat) : Int), .bool false, .int .i64 ((i : Nat) : Int)] ++ (D d2 5 5 ++ ([.int .i64 ((i : Nat) : Int), .slice (some ⟨b, 0, none⟩) (pl m).length c, .int .i64 ((pl m).length), .bool true] ++ D d2 14 18))) (fun L => []) hx0 ⟨
            oM, oM, fun h => ⟨ob_len (p := (some ⟨b, 0, none⟩)) (n := (pl m).length) (c := c) (fun _ => rfl) h rfl (fun _ => by kernel_rfl) Try.underlying45⟩,
            oJ .i64 .i64 ((i : Nat) : Int) ((pl m).length) (h := fun w => (lssI _ _ _ w).trans (by rw [decide_eq_true (by omega)])),
            trivial⟩ (fun L6 w7 hp7 => ?_)
          refine k15 _ _ ?_
          refine wp_cond_true (by kernel_rfl) ?_
          refine skips ?_
          refine k14 _ _ ?_
          refine wp_seq_k (fun K16 k16 => ?_)
          refine wp_block_k (fun K17 k17 => ?_)
          refine gs [.det (.bool false), .det (.bool false), .det undef, .det undef, .det undef, .det undef, .det undef, .det undef, .det undef, .det (.bool false), .det (.bool false)] [0, 1, 2, 3, 4, 5, 6, 7, 8, 9, 10] [0, 1, 3, 3, 3, 27, 59, 127, 255, 511, 1023] (fun L => [d2 0, .slice (some ⟨b, 0, none⟩) (pl m).length c, .int .u64 ((m + 2 : Nat) : Int), .bool false, .int .i64 ((i : Nat) : Int)] ++ (D d2 5 5 ++ ([.int .i64 ((i : Nat) : Int), .slice (some ⟨b, 0, none⟩) (pl m).length c, .int .i64 ((pl m).length), .bool true] ++ (D d2 14 2 ++ ([.bool false, .bool false] ++ (U 7 ++ ([.bool false] ++ D d2 26 6))))))) (fun L => []) hp7 ⟨
            oM, oM, oS, oS, oS, oS, oS, oS, oS, oP, oA,
            trivial⟩ (fun L7 w8 hp8 => ?_)
          refine k17 _ _ _ ?_
          refine block_normal ?_
          refine k16 _ _ ?_
          refine gs [.det (.int .i64 ((i : Nat) : Int)), .det (.int .i64 ((i + 1 : Nat) : Int)), .det (.int .i64 ((i + 1 : Nat) : Int))] [0, 1, 2] [0, 1, 3] (fun L => [d2 0, .slice (some ⟨b, 0, none⟩) (pl m).length c, .int .u64 ((m + 2 : Nat) : Int), .bool false, .int .i64 ((i + 1 : Nat) : Int)] ++ (D d2 5 5 ++ ([.int .i64 ((i : Nat) : Int), .slice (some ⟨b, 0, none⟩) (pl m).length c, .int .i64 ((pl m).length), .bool true, .int .i64 ((i : Nat) : Int), .int .i64 ((i + 1 : Nat) : Int), .bool false, .bool false] ++ (U 7 ++ ([.bool false] ++ D d2 26 6))))) (fun L => []) hp8 ⟨
            oM, oJ .i64 .i64 ((i : Nat) : Int) 1 (h := fun w => add1N _ i (by omega) w), oA,
            trivial⟩ (fun L8 w9 hp9 => ?_)
          exact ⟨L2 - 1, by omega, i + 1, (fun zz => ([d2 0, .slice (some ⟨b, 0, none⟩) (pl m).length c, .int .u64 ((m + 2 : Nat) : Int), .bool false, .int .i64 ((i + 1 : Nat) : Int)] ++ (D d2 5 5 ++ ([.int .i64 ((i : Nat) : Int), .slice (some ⟨b, 0, none⟩) (pl m).length c, .int .i64 ((pl m).length), .bool true, .int .i64 ((i : Nat) : Int), .int .i64 ((i + 1 : Nat) : Int), .bool false, .bool false] ++ (U 7 ++ ([.bool false] ++ D d2 26 6)))) : List Value).getD zz undef), by rw [hst]; kernel_rfl, by omega, hb2.trans (hp9.bel.mono hb2.size)⟩
        · skip
          refine wp_seq_k (fun K18 k18 => ?_)
          refine wp_seq_k (fun K19 k19 => ?_)
          refine gs [.det (.int .i64 ((i : Nat) : Int)), .det (.slice (some ⟨b, 0, none⟩) (pl m).length c), .det (.int .i64 ((pl m).length)), .det (.bool true)] [0, 1, 2, 3] [0, 0, 2, 7] (fun L => [d2 0, .slice (some ⟨b, 0, none⟩) (pl m).length c, .int .u64 ((m + 2 : Nat) : Int), .bool true, .int .i64 ((i : Nat) : Int)] ++ (D d2 5 5 ++ ([.int .i64 ((i : Nat) : Int), .slice (some ⟨b, 0, none⟩) (pl m).length c, .int .i64 ((pl m).length), .bool true] ++ D d2 14 18))) (fun L => []) hx0 ⟨
            oM, oM, fun h => ⟨ob_len (p := (some ⟨b, 0, none⟩)) (n := (pl m).length) (c := c) (fun _ => rfl) h rfl (fun _ => by kernel_rfl) Try.underlying45⟩,
            oJ .i64 .i64 ((i : Nat) : Int) ((pl m).length) (h := fun w => (lssI _ _ _ w).trans (by rw [decide_eq_true (by omega)])),
            trivial⟩ (fun L9 w10 hp10 => ?_)
          refine k19 _ _ ?_
          refine wp_cond_true (by kernel_rfl) ?_
          refine skips ?_
          refine k18 _ _ ?_
          refine wp_seq_k (fun K20 k20 => ?_)
          refine wp_block_k (fun K21 k21 => ?_)
          refine gs [.det (.bool true), .det (.bool true), .det (.int .u64 ((m + 2 : Nat) : Int)), .det (.slice (some ⟨b, 0, none⟩) (pl m).length c), .det (.int .i64 ((i : Nat) : Int)), .det (.pointer (some ⟨b, 0 + i * 1, none⟩)), .det (.int .u64 ((q : Nat) : Int)), .det (.int .u64 (((m + 2) % q : Nat) : Int)), .det (.bool (!decide ((m + 2) % q = 0))), .det (.bool (!decide ((m + 2) % q = 0))), .det (.bool (!decide ((m + 2) % q = 0)))] [0, 1, 2, 3, 4, 5, 6, 7, 8, 9, 10] [0, 1, 3, 3, 3, 27, 59, 127, 255, 511, 1023] (fun L => [d2 0, .slice (some ⟨b, 0, none⟩) (pl m).length c, .int .u64 ((m + 2 : Nat) : Int), .bool (!decide ((m + 2) % q = 0)), .int .i64 ((i : Nat) : Int)] ++ (D d2 5 5 ++ ([.int .i64 ((i : Nat) : Int), .slice (some ⟨b, 0, none⟩) (pl m).length c, .int .i64 ((pl m).length), .bool true] ++ (D d2 14 2 ++ ([.bool true, .bool true, .int .u64 ((m + 2 : Nat) : Int), .slice (some ⟨b, 0, none⟩) (pl m).length c, .int .i64 ((i : Nat) : Int), .pointer (some ⟨b, 0 + i * 1, none⟩), .int .u64 ((q : Nat) : Int), .int .u64 (((m + 2) % q : Nat) : Int), .bool (!decide ((m + 2) % q = 0)), .bool (!decide ((m + 2) % q = 0))] ++ D d2 26 6))))) (fun L => []) hp10 ⟨
            oM, oM, oM, oM, oM, oIS (n := (pl m).length) (c := c) i Try.underlying45 oneU.size hi, oLC oneU (fun L w hs => cell_up (cell_up hcq hb2) hs.bel),
            oJ .u64 .u64 ((m + 2 : Nat) : Int) ((q : Nat) : Int) (h := fun w => remU _ (m + 2) q hqp w), oJ .u64 .u64 (((m + 2) % q : Nat) : Int) 0 (h := fun w => neqU _ ((m + 2) % q) 0 w),
            oP, oA,
            trivial⟩ (fun L10 w11 hp11 => ?_)
          refine k21 _ _ _ ?_
          refine block_normal ?_
          refine k20 _ _ ?_
          refine gs [.det (.int .i64 ((i : Nat) : Int)), .det (.int .i64 ((i + 1 : Nat) : Int)), .det (.int .i64 ((i + 1 : Nat) : Int))] [0, 1, 2] [0, 1, 3] (fun L => [d2 0, .slice (some ⟨b, 0, none⟩) (pl m).length c, .int .u64 ((m + 2 : Nat) : Int), .bool (!decide ((m + 2) % q = 0)), .int .i64 ((i + 1 : Nat) : Int)] ++ (D d2 5 5 ++ ([.int .i64 ((i : Nat) : Int), .slice (some ⟨b, 0, none⟩) (pl m).length c, .int .i64 ((pl m).length), .bool true, .int .i64 ((i : Nat) : Int), .int .i64 ((i + 1 : Nat) : Int), .bool true, .bool true, .int .u64 ((m + 2 : Nat) : Int), .slice (some ⟨b, 0, none⟩) (pl m).length c, .int .i64 ((i : Nat) : Int), .pointer (some ⟨b, 0 + i * 1, none⟩), .int .u64 ((q : Nat) : Int), .int .u64 (((m + 2) % q : Nat) : Int), .bool (!decide ((m + 2) % q = 0)), .bool (!decide ((m + 2) % q = 0))] ++ D d2 26 6))) (fun L => []) hp11 ⟨
            oM, oJ .i64 .i64 ((i : Nat) : Int) 1 (h := fun w => add1N _ i (by omega) w), oA,
            trivial⟩ (fun L11 w12 hp12 => ?_)
          exact ⟨L2 - 1, by omega, i + 1, (fun zz => ([d2 0, .slice (some ⟨b, 0, none⟩) (pl m).length c, .int .u64 ((m + 2 : Nat) : Int), .bool (!decide ((m + 2) % q = 0)), .int .i64 ((i + 1 : Nat) : Int)] ++ (D d2 5 5 ++ ([.int .i64 ((i : Nat) : Int), .slice (some ⟨b, 0, none⟩) (pl m).length c, .int .i64 ((pl m).length), .bool true, .int .i64 ((i : Nat) : Int), .int .i64 ((i + 1 : Nat) : Int), .bool true, .bool true, .int .u64 ((m + 2 : Nat) : Int), .slice (some ⟨b, 0, none⟩) (pl m).length c, .int .i64 ((i : Nat) : Int), .pointer (some ⟨b, 0 + i * 1, none⟩), .int .u64 ((q : Nat) : Int), .int .u64 (((m + 2) % q : Nat) : Int), .bool (!decide ((m + 2) % q = 0)), .bool (!decide ((m + 2) % q = 0))] ++ D d2 26 6)) : List Value).getD zz undef), by rw [hst]; kernel_rfl, by omega, hb2.trans (hp12.bel.mono hb2.size)⟩
      obtain rfl : i = (pl m).length := by omega
      rw [List.take_length, hall]
      have hOwn := hOwn.below hb2
      have hbel := hbel.trans (hb2.mono hbel.size)
      have hB := hbel.size
      refine wp_seq_k (fun K22 k22 => ?_)
      refine wp_seq_k (fun K23 k23 => ?_)
      refine gs [.det (.int .i64 (((pl m).length : Nat) : Int)), .det (.slice p (pl m).length c), .det (.int .i64 ((pl m).length)), .det (.bool false)] [0, 1, 2, 3] [0, 0, 2, 7] (fun L => [d2 0, .slice p (pl m).length c, .int .u64 ((m + 2 : Nat) : Int), .bool false, .int .i64 (((pl m).length : Nat) : Int)] ++ (D d2 5 5 ++ ([.int .i64 (((pl m).length : Nat) : Int), .slice p (pl m).length c, .int .i64 ((pl m).length), .bool false] ++ D d2 14 18))) (fun L => []) hx0 ⟨
        oM, oM, fun h => ⟨ob_len (p := p) (n := (pl m).length) (c := c) (fun _ => rfl) h rfl (fun _ => by kernel_rfl) Try.underlying45⟩, oJ .i64 .i64 (((pl m).length : Nat) : Int) ((pl m).length) (h := fun w => (lssI _ _ _ w).trans (by rw [decide_eq_false (by omega)])),
        trivial⟩ (fun L12 w13 hp13 => ?_)
      refine k23 _ _ ?_
      refine wp_cond_false (by kernel_rfl) ?_
      refine wp_exit ?_
      refine then_exit ?_
      refine then_exit ?_
      refine k13 _ _ _ ?_
      refine exit_in ?_
      refine k11 _ _ ?_
      refine wp_seq_k (fun K24 k24 => ?_)
      refine gs [.det (.bool false)] [0] [0] (fun L => [d2 0, .slice p (pl m).length c, .int .u64 ((m + 2 : Nat) : Int), .bool false, .int .i64 (((pl m).length : Nat) : Int)] ++ (D d2 5 5 ++ ([.int .i64 (((pl m).length : Nat) : Int), .slice p (pl m).length c, .int .i64 ((pl m).length), .bool false] ++ (D d2 14 12 ++ ([.bool false] ++ D d2 27 5))))) (fun L => []) hp13 ⟨
        oM,
        trivial⟩ (fun L13 w14 hp14 => ?_)
      refine k24 _ _ ?_
      refine wp_cond_false (by kernel_rfl) ?_
      refine skips ?_
      refine k9 _ _ _ ?_
      refine block_normal ?_
      refine k8 _ _ ?_
      refine gs [.det (.int .u64 ((m + 2 : Nat) : Int)), .det (.int .u64 ((m + 1 + 2 : Nat) : Int)), .det (.int .u64 ((m + 1 + 2 : Nat) : Int))] [0, 1, 2] [0, 1, 3] (fun L => [d2 0, .slice p (pl m).length c, .int .u64 ((m + 1 + 2 : Nat) : Int), .bool false, .int .i64 (((pl m).length : Nat) : Int)] ++ (D d2 5 3 ++ ([.int .u64 ((m + 2 : Nat) : Int), .int .u64 ((m + 1 + 2 : Nat) : Int), .int .i64 (((pl m).length : Nat) : Int), .slice p (pl m).length c, .int .i64 ((pl m).length), .bool false] ++ (D d2 14 12 ++ ([.bool false] ++ D d2 27 5))))) (fun L => []) hp14 ⟨
        oM, oJ .u64 .u64 ((m + 2 : Nat) : Int) 1 (h := fun w => addU _ (m + 2) 1 (by omega) w), oA,
        trivial⟩ (fun L14 w15 hp15 => ?_)
      exact ⟨L - 1, by omega, m + 1, (fun zz => ([d2 0, .slice p (pl m).length c, .int .u64 ((m + 1 + 2 : Nat) : Int), .bool false, .int .i64 (((pl m).length : Nat) : Int)] ++ (D d2 5 3 ++ ([.int .u64 ((m + 2 : Nat) : Int), .int .u64 ((m + 1 + 2 : Nat) : Int), .int .i64 (((pl m).length : Nat) : Int), .slice p (pl m).length c, .int .i64 ((pl m).length), .bool false] ++ (D d2 14 12 ++ ([.bool false] ++ D d2 27 5)))) : List Value).getD zz undef), _, by kernel_rfl, by omega, by rw [hs]; exact hOwn.below hp15.bel, hbel.trans (hp15.bel.mono hbel.size)⟩
    · skip
      refine wp_seq_k (fun K25 k25 => ?_)
      refine wp_seq_k (fun K26 k26 => ?_)
      refine gs [.det (.slice p (pl m).length c), .det (.int .i64 ((pl m).length)), .det (.bool true)] [0, 1, 2] [0, 1, 3] (fun L => [d 0, .slice p (pl m).length c, .int .u64 ((m + 2 : Nat) : Int)] ++ (D d 3 2 ++ ([.slice p (pl m).length c, .int .i64 ((pl m).length), .bool true] ++ D d 8 24))) (fun L => []) hp0 ⟨
        oM, fun h => ⟨ob_len (p := p) (n := (pl m).length) (c := c) (fun _ => rfl) h rfl (fun _ => by kernel_rfl) Try.underlying45⟩, oJ .i64 .i64 ((pl m).length) 64 (h := fun w => (lssI _ _ _ w).trans (by rw [decide_eq_true (by omega)])),
        trivial⟩ (fun L15 w16 hp16 => ?_)
      refine k26 _ _ ?_
      refine wp_cond_true (by kernel_rfl) ?_
      refine skips ?_
      refine k25 _ _ ?_
      refine wp_seq_k (fun K27 k27 => ?_)
      refine wp_block_k (fun K28 k28 => ?_)
      refine wp_seq_k (fun K29 k29 => ?_)
      refine gs [.det (.bool true)] [0] [0] (fun L => [d 0, .slice p (pl m).length c, .int .u64 ((m + 2 : Nat) : Int), .bool true, d 4, .slice p (pl m).length c, .int .i64 ((pl m).length), .bool true] ++ D d 8 24) (fun L => []) hp16 ⟨
        oA,
        trivial⟩ (fun L16 w17 hp17 => ?_)
      refine k29 _ _ ?_
      refine wp_seq_k (fun K30 k30 => ?_)
      refine wp_seq_k (fun K31 k31 => ?_)
      refine gs [.det (.int .i64 0)] [0] [0] (fun L => [d 0, .slice p (pl m).length c, .int .u64 ((m + 2 : Nat) : Int), .bool true, .int .i64 0, .slice p (pl m).length c, .int .i64 ((pl m).length), .bool true] ++ D d 8 24) (fun L => []) hp17 ⟨
        oA,
        trivial⟩ (fun L17 w18 hp18 => ?_)
      refine k31 _ _ ?_
      refine wp_block_k (fun K32 k32 => ?_)
      refine wp_loop_ghost (piI W p c m) (pl m).length ⟨0, (fun zz => ([d 0, .slice p (pl m).length c, .int .u64 ((m + 2 : Nat) : Int), .bool true, .int .i64 0, .slice p (pl m).length c, .int .i64 ((pl m).length), .bool true] ++ D d 8 24 : List Value).getD zz undef), by kernel_rfl, Nat.zero_add _, hp18.bel⟩ ?_
      rintro L2 a2 X ⟨i, d2, rfl, hL2, hb2⟩
      have hx0 := Heap.start X
      by_cases hL20 : L2 = 0
      rotate_left
      · skip
        have hi : i < (pl m).length := by omega
        obtain ⟨b, rfl, hBb, hcell⟩ := hat (by omega)
        obtain ⟨q, hq⟩ : ∃ q, (pl m)[i]? = some q := ⟨(pl m)[i], List.getElem?_eq_getElem hi⟩
        have hqp := (pl_pos m q (List.mem_of_getElem? hq)).1
        have hst := all_take (fun p => !decide ((m + 2) % p = 0)) hq
        have hcq := hcell i q hq
        cases ha : ((pl m).take i).all (fun p => !decide ((m + 2) % p = 0)) <;> rw [ha] at hst
        · skip
          refine wp_seq_k (fun K33 k33 => ?_)
          refine wp_seq_k (fun K34 k34 => ?_)
          refine gs [.det (.int .i64 ((i : Nat) : Int)), .det (.slice (some ⟨b, 0, none⟩) (pl m).length c), .det (.int .i64 ((pl m).length)), .det (.bool true)] [0, 1, 2, 3] [0, 0, 2, 7] (fun L => [d2 0, .slice (some ⟨b, 0, none⟩) (pl m).length c, .int .u64 ((m + 2 : Nat) : Int), .bool false, .int .i64 ((i : Nat) : Int)] ++ (D d2 5 5 ++ ([.int .i64 ((i : Nat) : Int), .slice (some ⟨b, 0, none⟩) (pl m).length c, .int .i64 ((pl m).length), .bool true] ++ D d2 14 18))) (fun L => []) hx0 ⟨
            oM, oM, fun h => ⟨ob_len (p := (some ⟨b, 0, none⟩)) (n := (pl m).length) (c := c) (fun _ => rfl) h rfl (fun _ => by kernel_rfl) Try.underlying45⟩,
            oJ .i64 .i64 ((i : Nat) : Int) ((pl m).length) (h := fun w => (lssI _ _ _ w).trans (by rw [decide_eq_true (by omega)])),
            trivial⟩ (fun L18 w19 hp19 => ?_)
          refine k34 _ _ ?_
          refine wp_cond_true (by kernel_rfl) ?_
          refine skips ?_
          refine k33 _ _ ?_
          refine wp_seq_k (fun K35 k35 => ?_)
          refine wp_block_k (fun K36 k36 => ?_)
          refine gs [.det (.bool false), .det (.bool false), .det undef, .det undef, .det undef, .det undef, .det undef, .det undef, .det undef, .det (.bool false), .det (.bool false)] [0, 1, 2, 3, 4, 5, 6, 7, 8, 9, 10] [0, 1, 3, 3, 3, 27, 59, 127, 255, 511, 1023] (fun L => [d2 0, .slice (some ⟨b, 0, none⟩) (pl m).length c, .int .u64 ((m + 2 : Nat) : Int), .bool false, .int .i64 ((i : Nat) : Int)] ++ (D d2 5 5 ++ ([.int .i64 ((i : Nat) : Int), .slice (some ⟨b, 0, none⟩) (pl m).length c, .int .i64 ((pl m).length), .bool true] ++ (D d2 14 2 ++ ([.bool false, .bool false] ++ (U 7 ++ ([.bool false] ++ D d2 26 6))))))) (fun L => []) hp19 ⟨
            oM, oM, oS, oS, oS, oS, oS, oS, oS, oP, oA,
            trivial⟩ (fun L19 w20 hp20 => ?_)
          refine k36 _ _ _ ?_
          refine block_normal ?_
          refine k35 _ _ ?_
          refine gs [.det (.int .i64 ((i : Nat) : Int)), .det (.int .i64 ((i + 1 : Nat) : Int)), .det (.int .i64 ((i + 1 : Nat) : Int))] [0, 1, 2] [0, 1, 3] (fun L => [d2 0, .slice (some ⟨b, 0, none⟩) (pl m).length c, .int .u64 ((m + 2 : Nat) : Int), .bool false, .int .i64 ((i + 1 : Nat) : Int)] ++ (D d2 5 5 ++ ([.int .i64 ((i : Nat) : Int), .slice (some ⟨b, 0, none⟩) (pl m).length c, .int .i64 ((pl m).length), .bool true, .int .i64 ((i : Nat) : Int), .int .i64 ((i + 1 : Nat) : Int), .bool false, .bool false] ++ (U 7 ++ ([.bool false] ++ D d2 26 6))))) (fun L => []) hp20 ⟨
            oM, oJ .i64 .i64 ((i : Nat) : Int) 1 (h := fun w => add1N _ i (by omega) w), oA,
            trivial⟩ (fun L20 w21 hp21 => ?_)
          exact ⟨L2 - 1, by omega, i + 1, (fun zz => ([d2 0, .slice (some ⟨b, 0, none⟩) (pl m).length c, .int .u64 ((m + 2 : Nat) : Int), .bool false, .int .i64 ((i + 1 : Nat) : Int)] ++ (D d2 5 5 ++ ([.int .i64 ((i : Nat) : Int), .slice (some ⟨b, 0, none⟩) (pl m).length c, .int .i64 ((pl m).length), .bool true, .int .i64 ((i : Nat) : Int), .int .i64 ((i + 1 : Nat) : Int), .bool false, .bool false] ++ (U 7 ++ ([.bool false] ++ D d2 26 6)))) : List Value).getD zz undef), by rw [hst]; kernel_rfl, by omega, hb2.trans (hp21.bel.mono hb2.size)⟩
        · skip
          refine wp_seq_k (fun K37 k37 => ?_)
          refine wp_seq_k (fun K38 k38 => ?_)
          refine gs [.det (.int .i64 ((i : Nat) : Int)), .det (.slice (some ⟨b, 0, none⟩) (pl m).length c), .det (.int .i64 ((pl m).length)), .det (.bool true)] [0, 1, 2, 3] [0, 0, 2, 7] (fun L => [d2 0, .slice (some ⟨b, 0, none⟩) (pl m).length c, .int .u64 ((m + 2 : Nat) : Int), .bool true, .int .i64 ((i : Nat) : Int)] ++ (D d2 5 5 ++ ([.int .i64 ((i : Nat) : Int), .slice (some ⟨b, 0, none⟩) (pl m).length c, .int .i64 ((pl m).length), .bool true] ++ D d2 14 18))) (fun L => []) hx0 ⟨
            oM, oM, fun h => ⟨ob_len (p := (some ⟨b, 0, none⟩)) (n := (pl m).length) (c := c) (fun _ => rfl) h rfl (fun _ => by kernel_rfl) Try.underlying45⟩,
            oJ .i64 .i64 ((i : Nat) : Int) ((pl m).length) (h := fun w => (lssI _ _ _ w).trans (by rw [decide_eq_true (by omega)])),
            trivial⟩ (fun L21 w22 hp22 => ?_)
          refine k38 _ _ ?_
          refine wp_cond_true (by kernel_rfl) ?_
          refine skips ?_
          refine k37 _ _ ?_
          refine wp_seq_k (fun K39 k39 => ?_)
          refine wp_block_k (fun K40 k40 => ?_)
          refine gs [.det (.bool true), .det (.bool true), .det (.int .u64 ((m + 2 : Nat) : Int)), .det (.slice (some ⟨b, 0, none⟩) (pl m).length c), .det (.int .i64 ((i : Nat) : Int)), .det (.pointer (some ⟨b, 0 + i * 1, none⟩)), .det (.int .u64 ((q : Nat) : Int)), .det (.int .u64 (((m + 2) % q : Nat) : Int)), .det (.bool (!decide ((m + 2) % q = 0))), .det (.bool (!decide ((m + 2) % q = 0))), .det (.bool (!decide ((m + 2) % q = 0)))] [0, 1, 2, 3, 4, 5, 6, 7, 8, 9, 10] [0, 1, 3, 3, 3, 27, 59, 127, 255, 511, 1023] (fun L => [d2 0, .slice (some ⟨b, 0, none⟩) (pl m).length c, .int .u64 ((m + 2 : Nat) : Int), .bool (!decide ((m + 2) % q = 0)), .int .i64 ((i : Nat) : Int)] ++ (D d2 5 5 ++ ([.int .i64 ((i : Nat) : Int), .slice (some ⟨b, 0, none⟩) (pl m).length c, .int .i64 ((pl m).length), .bool true] ++ (D d2 14 2 ++ ([.bool true, .bool true, .int .u64 ((m + 2 : Nat) : Int), .slice (some ⟨b, 0, none⟩) (pl m).length c, .int .i64 ((i : Nat) : Int), .pointer (some ⟨b, 0 + i * 1, none⟩), .int .u64 ((q : Nat) : Int), .int .u64 (((m + 2) % q : Nat) : Int), .bool (!decide ((m + 2) % q = 0)), .bool (!decide ((m + 2) % q = 0))] ++ D d2 26 6))))) (fun L => []) hp22 ⟨
            oM, oM, oM, oM, oM, oIS (n := (pl m).length) (c := c) i Try.underlying45 oneU.size hi, oLC oneU (fun L w hs => cell_up (cell_up hcq hb2) hs.bel),
            oJ .u64 .u64 ((m + 2 : Nat) : Int) ((q : Nat) : Int) (h := fun w => remU _ (m + 2) q hqp w), oJ .u64 .u64 (((m + 2) % q : Nat) : Int) 0 (h := fun w => neqU _ ((m + 2) % q) 0 w),
            oP, oA,
            trivial⟩ (fun L22 w23 hp23 => ?_)
          refine k40 _ _ _ ?_
          refine block_normal ?_
          refine k39 _ _ ?_
          refine gs [.det (.int .i64 ((i : Nat) : Int)), .det (.int .i64 ((i + 1 : Nat) : Int)), .det (.int .i64 ((i + 1 : Nat) : Int))] [0, 1, 2] [0, 1, 3] (fun L => [d2 0, .slice (some ⟨b, 0, none⟩) (pl m).length c, .int .u64 ((m + 2 : Nat) : Int), .bool (!decide ((m + 2) % q = 0)), .int .i64 ((i + 1 : Nat) : Int)] ++ (D d2 5 5 ++ ([.int .i64 ((i : Nat) : Int), .slice (some ⟨b, 0, none⟩) (pl m).length c, .int .i64 ((pl m).length), .bool true, .int .i64 ((i : Nat) : Int), .int .i64 ((i + 1 : Nat) : Int), .bool true, .bool true, .int .u64 ((m + 2 : Nat) : Int), .slice (some ⟨b, 0, none⟩) (pl m).length c, .int .i64 ((i : Nat) : Int), .pointer (some ⟨b, 0 + i * 1, none⟩), .int .u64 ((q : Nat) : Int), .int .u64 (((m + 2) % q : Nat) : Int), .bool (!decide ((m + 2) % q = 0)), .bool (!decide ((m + 2) % q = 0))] ++ D d2 26 6))) (fun L => []) hp23 ⟨
            oM, oJ .i64 .i64 ((i : Nat) : Int) 1 (h := fun w => add1N _ i (by omega) w), oA,
            trivial⟩ (fun L23 w24 hp24 => ?_)
          exact ⟨L2 - 1, by omega, i + 1, (fun zz => ([d2 0, .slice (some ⟨b, 0, none⟩) (pl m).length c, .int .u64 ((m + 2 : Nat) : Int), .bool (!decide ((m + 2) % q = 0)), .int .i64 ((i + 1 : Nat) : Int)] ++ (D d2 5 5 ++ ([.int .i64 ((i : Nat) : Int), .slice (some ⟨b, 0, none⟩) (pl m).length c, .int .i64 ((pl m).length), .bool true, .int .i64 ((i : Nat) : Int), .int .i64 ((i + 1 : Nat) : Int), .bool true, .bool true, .int .u64 ((m + 2 : Nat) : Int), .slice (some ⟨b, 0, none⟩) (pl m).length c, .int .i64 ((i : Nat) : Int), .pointer (some ⟨b, 0 + i * 1, none⟩), .int .u64 ((q : Nat) : Int), .int .u64 (((m + 2) % q : Nat) : Int), .bool (!decide ((m + 2) % q = 0)), .bool (!decide ((m + 2) % q = 0))] ++ D d2 26 6)) : List Value).getD zz undef), by rw [hst]; kernel_rfl, by omega, hb2.trans (hp24.bel.mono hb2.size)⟩
      obtain rfl : i = (pl m).length := by omega
      rw [List.take_length, hall]
      have hOwn := hOwn.below hb2
      have hbel := hbel.trans (hb2.mono hbel.size)
      have hB := hbel.size
      refine wp_seq_k (fun K41 k41 => ?_)
      refine wp_seq_k (fun K42 k42 => ?_)
      refine gs [.det (.int .i64 (((pl m).length : Nat) : Int)), .det (.slice p (pl m).length c), .det (.int .i64 ((pl m).length)), .det (.bool false)] [0, 1, 2, 3] [0, 0, 2, 7] (fun L => [d2 0, .slice p (pl m).length c, .int .u64 ((m + 2 : Nat) : Int), .bool true, .int .i64 (((pl m).length : Nat) : Int)] ++ (D d2 5 5 ++ ([.int .i64 (((pl m).length : Nat) : Int), .slice p (pl m).length c, .int .i64 ((pl m).length), .bool false] ++ D d2 14 18))) (fun L => []) hx0 ⟨
        oM, oM, fun h => ⟨ob_len (p := p) (n := (pl m).length) (c := c) (fun _ => rfl) h rfl (fun _ => by kernel_rfl) Try.underlying45⟩, oJ .i64 .i64 (((pl m).length : Nat) : Int) ((pl m).length) (h := fun w => (lssI _ _ _ w).trans (by rw [decide_eq_false (by omega)])),
        trivial⟩ (fun L24 w25 hp25 => ?_)
      refine k42 _ _ ?_
      refine wp_cond_false (by kernel_rfl) ?_
      refine wp_exit ?_
      refine then_exit ?_
      refine then_exit ?_
      refine k32 _ _ _ ?_
      refine exit_in ?_
      refine k30 _ _ ?_
      refine wp_seq_k (fun K43 k43 => ?_)
      refine gs [.det (.bool true)] [0] [0] (fun L => [d2 0, .slice p (pl m).length c, .int .u64 ((m + 2 : Nat) : Int), .bool true, .int .i64 (((pl m).length : Nat) : Int)] ++ (D d2 5 5 ++ ([.int .i64 (((pl m).length : Nat) : Int), .slice p (pl m).length c, .int .i64 ((pl m).length), .bool false] ++ (D d2 14 12 ++ ([.bool true] ++ D d2 27 5))))) (fun L => []) hp25 ⟨
        oM,
        trivial⟩ (fun L25 w26 hp26 => ?_)
      refine k43 _ _ ?_
      refine wp_cond_true (by kernel_rfl) ?_
      refine wp_region_list ?_
      refine gsC 3 [.det (.slice p (pl m).length c), .det (.int .u64 ((m + 2 : Nat) : Int)), .any (isOne ((m + 2 : Nat) : Int))] [0, 1, 2] [0, 1, 3] (fun L _ => [d2 0, .slice p (pl m).length c, .int .u64 ((m + 2 : Nat) : Int), .bool true, .int .i64 (((pl m).length : Nat) : Int), d2 5, d2 6, d2 7, d2 8, d2 9, .int .i64 (((pl m).length : Nat) : Int), .slice p (pl m).length c, .int .i64 ((pl m).length), .bool false, d2 14, d2 15, d2 16, d2 17, d2 18, d2 19, d2 20, d2 21, d2 22, d2 23, d2 24, d2 25, .bool true, .slice p (pl m).length c, .int .u64 ((m + 2 : Nat) : Int), L.v 2, d2 30, d2 31]) (fun L => []) hp26 ⟨
        oM, oM, oS1 Try.underlying45 (by kernel_rfl) (by kernel_rfl),
        trivial⟩ (fun L26 _ w27 hp27 ha27 => ?_)
      obtain ⟨ky, ey, hy⟩ := AnyF.at (ha27 (by kernel_rfl)) (j := 2) rfl rfl
      rw [ey]
      refine oneL rfl rfl (wp_appendU (.tmp 27) (.tmp 29) rfl (v := .slice p (pl m).length c) (u := .slice (some ⟨ky, 0, none⟩) 1 1) (n := m + 2) (by kernel_rfl) (hOwn.below hp27.bel) (by kernel_rfl) ⟨ky, rfl, hy⟩ (by omega) (Nat.le_trans hB hp27.bel.size) (fun v2 x2 ho2 hb2 => ?_))
      have hbel2 := hbel.trans ((hp27.bel.mono hbel.size).trans hb2)
      have hq1 := Heap.start x2
      refine gsC 1 [.det (v2)] [0] [0] (fun L _ => [d2 0, v2, .int .u64 ((m + 2 : Nat) : Int), .bool true, .int .i64 (((pl m).length : Nat) : Int), d2 5, d2 6, d2 7, d2 8, d2 9, .int .i64 (((pl m).length : Nat) : Int), .slice p (pl m).length c, .int .i64 ((pl m).length), .bool false, d2 14, d2 15, d2 16, d2 17, d2 18, d2 19, d2 20, d2 21, d2 22, d2 23, d2 24, d2 25, .bool true, .slice p (pl m).length c, .int .u64 ((m + 2 : Nat) : Int), .slice (some ⟨ky, 0, none⟩) 1 1, v2, d2 31]) (fun L => []) hq1 ⟨
        oA,
        trivial⟩ (fun L27 _ w28 hp28 ha28 => ?_)
      refine wpList_nil ?_
      refine k28 _ _ _ ?_
      refine block_normal ?_
      refine k27 _ _ ?_
      refine gs [.det (.int .u64 ((m + 2 : Nat) : Int)), .det (.int .u64 ((m + 1 + 2 : Nat) : Int)), .det (.int .u64 ((m + 1 + 2 : Nat) : Int))] [0, 1, 2] [0, 1, 3] (fun L => [d2 0, v2, .int .u64 ((m + 1 + 2 : Nat) : Int), .bool true, .int .i64 (((pl m).length : Nat) : Int)] ++ (D d2 5 3 ++ ([.int .u64 ((m + 2 : Nat) : Int), .int .u64 ((m + 1 + 2 : Nat) : Int), .int .i64 (((pl m).length : Nat) : Int), .slice p (pl m).length c, .int .i64 ((pl m).length), .bool false] ++ (D d2 14 12 ++ [.bool true, .slice p (pl m).length c, .int .u64 ((m + 2 : Nat) : Int), .slice (some ⟨ky, 0, none⟩) 1 1, v2, d2 31])))) (fun L => []) hp28 ⟨
        oM, oJ .u64 .u64 ((m + 2 : Nat) : Int) 1 (h := fun w => addU _ (m + 2) 1 (by omega) w), oA,
        trivial⟩ (fun L28 w29 hp29 => ?_)
      exact ⟨L - 1, by omega, m + 1, (fun zz => ([d2 0, v2, .int .u64 ((m + 1 + 2 : Nat) : Int), .bool true, .int .i64 (((pl m).length : Nat) : Int)] ++ (D d2 5 3 ++ ([.int .u64 ((m + 2 : Nat) : Int), .int .u64 ((m + 1 + 2 : Nat) : Int), .int .i64 (((pl m).length : Nat) : Int), .slice p (pl m).length c, .int .i64 ((pl m).length), .bool false] ++ (D d2 14 12 ++ [.bool true, .slice p (pl m).length c, .int .u64 ((m + 2 : Nat) : Int), .slice (some ⟨ky, 0, none⟩) 1 1, v2, d2 31]))) : List Value).getD zz undef), _, by kernel_rfl, by omega, by rw [hs]; exact ho2.below hp29.bel, hbel2.trans (hp29.bel.mono hbel2.size)⟩
  obtain rfl : m = 310 := by omega
  have hlen : (pl 310).length = 64 := by rw [pl_all]; rfl
  refine wp_seq_k (fun K44 k44 => ?_)
  refine wp_seq_k (fun K45 k45 => ?_)
  refine gs [.det (.slice p (pl 310).length c), .det (.int .i64 ((pl 310).length)), .det (.bool false)] [0, 1, 2] [0, 1, 3] (fun L => [d 0, .slice p (pl 310).length c, .int .u64 ((310 + 2 : Nat) : Int)] ++ (D d 3 2 ++ ([.slice p (pl 310).length c, .int .i64 ((pl 310).length), .bool false] ++ D d 8 24))) (fun L => []) hp0 ⟨
    oM, fun h => ⟨ob_len (p := p) (n := (pl 310).length) (c := c) (fun _ => rfl) h rfl (fun _ => by kernel_rfl) Try.underlying45⟩, oJ .i64 .i64 ((pl 310).length) 64 (h := fun w => (lssI _ _ _ w).trans (by rw [decide_eq_false (by omega)])),
    trivial⟩ (fun L29 w30 hp30 => ?_)
  refine k45 _ _ ?_
  refine wp_cond_false (by kernel_rfl) ?_
  refine wp_exit ?_
  refine then_exit ?_
  refine then_exit ?_
  refine k5 _ _ _ ?_
  refine exit_in ?_
  refine k3 _ _ ?_
  refine wp_seq_k (fun K46 k46 => ?_)
  refine gs [.det (.slice p (pl 310).length c), .det (.slice p (pl 310).length c)] [0, 1] [0, 1] (fun L => [.slice p (pl 310).length c, .slice p (pl 310).length c, .int .u64 ((310 + 2 : Nat) : Int)] ++ (D d 3 2 ++ ([.slice p (pl 310).length c, .int .i64 ((pl 310).length), .bool false] ++ (D d 8 23 ++ [.slice p (pl 310).length c])))) (fun L => []) hp30 ⟨
    oM, oA,
    trivial⟩ (fun L30 w31 hp31 => ?_)
  refine k46 _ _ ?_
  refine wp_ret ?_
  refine bodyPost_ret (v := .slice p (pl 310).length c) ?_ rfl ?_
  · exact res_t rfl (by kernel_rfl) _
  · exact ⟨_, rfl, by rw [← pl_all]; exact hOwn.below hp31.bel, hbel.trans (hp31.bel.mono hbel.size)⟩
end Go.Proofs.Ytklddcicfeakfaa.fpn
