/- Law 12: known digests. -/
import Derived.Test.YtklddcicfeakfaaDP
namespace Go.Proofs.Ytklddcicfeakfaa.fpn
open Go.RowKit Pl
set_option linter.unusedVariables false
set_option linter.unusedSimpArgs false
set_option maxRecDepth 4000

/-- A new slice of constants. -/
theorem wp_buildC {Q : Exit → Act → World → Prop} {o : Oper} {a : Act} {w : World} {K : Act → World → Prop} {n : Nat} {parts : Array (Nat × Operand)} (ho : o.op = .buildSlice 22 n parts) (f : Nat → Int) (h0 : 0 < n) (h1 : n ≤ 1000)
    (hf : Instr.fill (fun i => some (i * 1, 1)) ((Array.range (n * 1)).map ((Value.int .u8 0).cells[· % (Value.int .u8 0).cells.size]!)) (parts.map fun p => (p.1, a.eval p.2)).toList = some (BC f n).toArray)
    (h : K (a.put o.dst (.slice (some ⟨w.heap.size, 0, none⟩) n n)) (w.alloc (.cells (BC f n).toArray 5))) : o.wp Try.prog a w K Q := by
  obtain ⟨ie, hi, hz, h2, h3⟩ := infoY
  have hr : (Instr.buildSlice 22 n (parts.map fun p => (p.1, a.eval p.2))).run Try.prog w = .ok (.slice (some ⟨w.heap.size, 0, none⟩) n n) (w.alloc (.cells (BC f n).toArray 5)) :=
    run_buildSlice w _ _ n _ _ ie _ Try.underlying22 hi hz (by rw [h2]; omega) (by rw [h2]; omega) (by rw [h2]; exact hf)
  have this : (execOp a.eval o).run Try.prog w = .ok (.value (.slice (some ⟨w.heap.size, 0, none⟩) n n)) (w.alloc (.cells (BC f n).toArray 5)) := by
    unfold execOp
    simp only [ho, Sem.run_bind, hr]
    rfl
  unfold Oper.wp
  rw [this]
  exact h
theorem frozenBox (w : World) (cs : List Value) (t : TypeId) : Box ((w.alloc (.cells cs.toArray t)).freeze ⟨w.heap.size, cs.length, none⟩ 1) w.heap.size cs ∧ Below w.heap.size w ((w.alloc (.cells cs.toArray t)).freeze ⟨w.heap.size, cs.length, none⟩ 1) := by
  have hh : ((w.alloc (.cells cs.toArray t)).freeze ⟨w.heap.size, cs.length, none⟩ 1).heap[w.heap.size]? = some (.cells cs.toArray t (cs.length, cs.length + 1)) := by
    simp [World.freeze, World.alloc, -World.alloc_eq]
    rw [Array.getElem_modify_self]
    simp
  have hs : ((w.alloc (.cells cs.toArray t)).freeze ⟨w.heap.size, cs.length, none⟩ 1).heap.size = w.heap.size + 1 := by
    simp [World.freeze, World.alloc, -World.alloc_eq]
  refine ⟨⟨by rw [hs]; omega, fun j v hv => ?_, fun j hj => ⟨?_, ?_⟩⟩, rfl, rfl, rfl, by rw [hs]; omega, fun k hk => ?_⟩
  · unfold World.cell?
    simp only [hh, Nat.zero_add]
    simpa using hv
  · unfold World.cell?
    simp only [hh, Nat.zero_add]
    simp [hj]
  · unfold World.frozen?
    simp only [hh]
    simp; omega
  · have h1 : w.heap.size ≠ k := by omega
    simp [World.freeze, World.alloc, -World.alloc_eq, Array.getElem?_modify, Array.getElem?_push, h1, Ne.symm h1]
/-- A constant text's bytes are copied. -/
theorem wp_convC {Q : Exit → Act → World → Prop} {o : Oper} {a : Act} {w : World} {K : Act → World → Prop} {n : Nat} {x : Operand} {f : Nat → Int} (ho : o.op = .convert 22 22 x) (hx : a.eval x = .slice (some ⟨w.heap.size, 0, none⟩) n n)
    (h : ∀ w', Below w.heap.size w w' → Box w' w.heap.size (BC f n) → K (a.put o.dst (.slice (some ⟨w.heap.size, 0, none⟩) n n)) w') : o.wp Try.prog a (w.alloc (.cells (BC f n).toArray 5)) K Q := by
  have hsh : (w.alloc (.cells (BC f n).toArray 5)).shape? w.heap.size = some (5, n) := by
    simp [World.shape?, World.alloc, -World.alloc_eq, BC_len]
  have hr : (convert 22 22 (.slice (some ⟨w.heap.size, 0, none⟩) n n)).run Try.prog (w.alloc (.cells (BC f n).toArray 5)) = .ok (.slice (some ⟨w.heap.size, 0, none⟩) n n) ((w.alloc (.cells (BC f n).toArray 5)).freeze ⟨w.heap.size, n, none⟩ 1) := by
    simp [convert, run_underlying Try.underlying22, run_underlying Try.underlying5, markStringish, hsh, Sem.run_bind, -World.alloc_eq]
  have this : (execOp a.eval o).run Try.prog (w.alloc (.cells (BC f n).toArray 5)) = .ok (.value (.slice (some ⟨w.heap.size, 0, none⟩) n n)) ((w.alloc (.cells (BC f n).toArray 5)).freeze ⟨w.heap.size, n, none⟩ 1) := by
    unfold execOp
    simp only [ho, hx, Sem.run_bind, hr]
    rfl
  unfold Oper.wp
  rw [this]
  have e := frozenBox w (BC f n) 5
  rw [BC_len] at e
  exact h _ e.2 e.1
def fC : Nat → Int := fun _ => 0
def fA : Nat → Int := fun j => [97, 98, 99].getD j 0
def fB : Nat → Int := fun j => ([97, 98, 99, 100, 98, 99, 100, 101, 99, 100, 101, 102, 100, 101, 102, 103, 101, 102, 103, 104, 102, 103, 104, 105, 103, 104, 105, 106, 104, 105, 106, 107, 105, 106, 107, 108, 106, 107, 108, 109, 107, 108, 109, 110, 108, 109, 110, 111, 109, 110, 111, 112, 110, 111, 112, 113] : List Int).getD j 0
theorem fA_rg : ∀ j, j < 3 → 0 ≤ fA j ∧ fA j < 256 := by decide
theorem fB_rg : ∀ j, j < 56 → 0 ≤ fB j ∧ fB j < 256 := by decide
theorem hx_congr {h h' : Nat → BitVec 32} (e : ∀ i, i < 8 → h i = h' i) : strN (hxf h) (2 * 32) = strN (hxf h') (2 * 32) := by
  unfold strN
  refine congrArg (fun l => Value.string (strOfNums l)) (List.map_congr_left fun j hj => ?_)
  have hj := List.mem_range.1 hj
  unfold hxf hb
  rw [e (j / 2 / 4) (by omega)]
theorem eqlC (t : TypeId) (a b : Value) (hab : a = b) (s : ByteArray) (hb : b = .string s) (w : World) : (binOp .eql t a b).run Try.prog w = .ok (.bool true) w := by
  subst hab; subst hb
  simp [binOp, Sem.run_bind, Op.stringOp]
def hA : Nat → BitVec 32 := fun i => ([3128432319, 2399260650, 1094795486, 1571693091, 2953011619, 2518121116, 3021012833, 4060091821] : List (BitVec 32)).getD i 0
theorem wsA : ∀ i, i < 8 → hsx fA 3 (padN 3 / 64) i = hA i := by decide +kernel
theorem txA : strN (hxf hA) (2 * 32) = .string ⟨#[98, 97, 55, 56, 49, 54, 98, 102, 56, 102, 48, 49, 99, 102, 101, 97, 52, 49, 52, 49, 52, 48, 100, 101, 53, 100, 97, 101, 50, 50, 50, 51, 98, 48, 48, 51, 54, 49, 97, 51, 57, 54, 49, 55, 55, 97, 57, 99, 98, 52, 49, 48, 102, 102, 54, 49, 102, 50, 48, 48, 49, 53, 97, 100]⟩ := by kernel_rfl
theorem knA : strN (hxf (hsx fA 3 (padN 3 / 64))) (2 * 32) = .string ⟨#[98, 97, 55, 56, 49, 54, 98, 102, 56, 102, 48, 49, 99, 102, 101, 97, 52, 49, 52, 49, 52, 48, 100, 101, 53, 100, 97, 101, 50, 50, 50, 51, 98, 48, 48, 51, 54, 49, 97, 51, 57, 54, 49, 55, 55, 97, 57, 99, 98, 52, 49, 48, 102, 102, 54, 49, 102, 50, 48, 48, 49, 53, 97, 100]⟩ := (hx_congr wsA).trans txA
def hB : Nat → BitVec 32 := fun i => ([613247585, 3523623096, 3854575251, 205414457, 2738676825, 1694441831, 4142722516, 433784513] : List (BitVec 32)).getD i 0
theorem wsB : ∀ i, i < 8 → hsx fB 56 (padN 56 / 64) i = hB i := by decide +kernel
theorem txB : strN (hxf hB) (2 * 32) = .string ⟨#[50, 52, 56, 100, 54, 97, 54, 49, 100, 50, 48, 54, 51, 56, 98, 56, 101, 53, 99, 48, 50, 54, 57, 51, 48, 99, 51, 101, 54, 48, 51, 57, 97, 51, 51, 99, 101, 52, 53, 57, 54, 52, 102, 102, 50, 49, 54, 55, 102, 54, 101, 99, 101, 100, 100, 52, 49, 57, 100, 98, 48, 54, 99, 49]⟩ := by kernel_rfl
theorem knB : strN (hxf (hsx fB 56 (padN 56 / 64))) (2 * 32) = .string ⟨#[50, 52, 56, 100, 54, 97, 54, 49, 100, 50, 48, 54, 51, 56, 98, 56, 101, 53, 99, 48, 50, 54, 57, 51, 48, 99, 51, 101, 54, 48, 51, 57, 97, 51, 51, 99, 101, 52, 53, 57, 54, 52, 102, 102, 50, 49, 54, 55, 102, 54, 101, 99, 101, 100, 100, 52, 49, 57, 100, 98, 48, 54, 99, 49]⟩ := (hx_congr wsB).trans txB
def hC : Nat → BitVec 32 := fun i => ([3820012610, 2566659092, 2600203464, 2574235940, 665731556, 1687917388, 2761267483, 2018687061] : List (BitVec 32)).getD i 0
theorem wsC : ∀ i, i < 8 → hsx fC 0 (padN 0 / 64) i = hC i := by decide +kernel
theorem txC : strN (hxf hC) (2 * 32) = .string ⟨#[101, 51, 98, 48, 99, 52, 52, 50, 57, 56, 102, 99, 49, 99, 49, 52, 57, 97, 102, 98, 102, 52, 99, 56, 57, 57, 54, 102, 98, 57, 50, 52, 50, 55, 97, 101, 52, 49, 101, 52, 54, 52, 57, 98, 57, 51, 52, 99, 97, 52, 57, 53, 57, 57, 49, 98, 55, 56, 53, 50, 98, 56, 53, 53]⟩ := by kernel_rfl
theorem knC : strN (hxf (hsx fC 0 (padN 0 / 64))) (2 * 32) = .string ⟨#[101, 51, 98, 48, 99, 52, 52, 50, 57, 56, 102, 99, 49, 99, 49, 52, 57, 97, 102, 98, 102, 52, 99, 56, 57, 57, 54, 102, 98, 57, 50, 52, 50, 55, 97, 101, 52, 49, 101, 52, 54, 52, 57, 98, 57, 51, 52, 99, 97, 52, 57, 53, 57, 57, 49, 98, 55, 56, 53, 50, 98, 56, 53, 53]⟩ := (hx_congr wsC).trans txC
theorem sumOb (S : ShaK) (g : Nat → Int) (p : Option Addr) (n c : Nat) (w : World) (hn : n ≤ 400) (hpc : n ≤ c) (hp : AtK .u8 w p n g) (hg : ∀ j, j < n → 0 ≤ g j ∧ g j < 256) : Calls Try.prog 8 #[.slice p n c] w (Ret (VB (ob (hsx g n (padN n / 64))) 32) w) := S.sum g p n c w hn hpc hp hg

set_option maxHeartbeats 4000000 in
theorem shaKnown_walk (S : ShaK) (w : World) : Calls Try.prog 4 #[] w (Ret (.bool true) w) := by
  have hp0 := Heap.start w
  go_enter Try.func4, Try.ntmps4
  refine wp_seq_k (fun K1 k1 => ?_)
  refine gs [.det (.bool false)] [0] [0] (fun L => [.bool false] ++ U 26) (fun L => []) hp0 ⟨
    oA,
    trivial⟩ (fun L0 w1 hp1 => ?_)
  refine k1 _ _ ?_
  refine wp_seq_k (fun K2 k2 => ?_)
  refine wp_region_list ?_
  refine oneL rfl rfl (wp_buildC rfl fA (by decide) (by decide) (by kernel_rfl) ?_)
  refine oneL rfl rfl (wp_convC (f := fA) rfl (by kernel_rfl) (fun xA hbA hxA => ?_))
  have hqA := Heap.add (Heap.under hp1 hp1.le hbA (Heap.lts hp1)) hp1.le (Heap.lts hp1) hxA
  refine gsC 3 [.det (VB (ob (hsx fA 3 (padN 3 / 64))) 32), .alloc (BC (fun _ => 0) 32), .store (.new 1) 0 (BC (ob (hsx fA 3 (padN 3 / 64))) 32) (BC (ob (hsx fA 3 (padN 3 / 64))) 32)] [0, 1, 2] [0, 1, 3] (fun L _ => [.bool false, L.p 1, undef, undef, .slice (some ⟨w1.heap.size, 0, none⟩) 3 3, .slice (some ⟨w1.heap.size, 0, none⟩) 3 3, VB (ob (hsx fA 3 (padN 3 / 64))) 32] ++ U 20) (fun L => [(w1.heap.size, BC fA 3), (L.b 1, BC (ob (hsx fA 3 (padN 3 / 64))) 32)]) hqA ⟨
    oCS (fun L => #[.slice (some ⟨w1.heap.size, 0, none⟩) 3 3]) (fun L w hs => sumOb S fA (some ⟨w1.heap.size, 0, none⟩) 3 3 w (by decide) (by decide) (atBox (seen_at hs (k := 0) rfl)) fA_rg),
    oZ rB32, oT rB32,
    trivial⟩ (fun L1 _ w2 hp2 ha2 => ?_)
  refine wpList_nil ?_
  refine k2 _ _ ?_
  refine wp_seq_k (fun K3 k3 => ?_)
  refine wp_region_list ?_
  refine oneL rfl rfl (wp_buildC rfl fB (by decide) (by decide) (by kernel_rfl) ?_)
  refine oneL rfl rfl (wp_convC (f := fB) rfl (by kernel_rfl) (fun xB hbB hxB => ?_))
  have hqB := Heap.add (Heap.under hp2 hp2.le hbB (Heap.lts hp2)) hp2.le (Heap.lts hp2) hxB
  refine gsC 3 [.det (VB (ob (hsx fB 56 (padN 56 / 64))) 32), .alloc (BC (fun _ => 0) 32), .store (.new 1) 0 (BC (ob (hsx fB 56 (padN 56 / 64))) 32) (BC (ob (hsx fB 56 (padN 56 / 64))) 32)] [0, 1, 2] [0, 1, 3] (fun L _ => [.bool false, L1.p 1, L.p 1, undef, .slice (some ⟨w1.heap.size, 0, none⟩) 3 3, .slice (some ⟨w1.heap.size, 0, none⟩) 3 3, VB (ob (hsx fA 3 (padN 3 / 64))) 32, .slice (some ⟨w2.heap.size, 0, none⟩) 56 56, .slice (some ⟨w2.heap.size, 0, none⟩) 56 56, VB (ob (hsx fB 56 (padN 56 / 64))) 32] ++ U 17) (fun L => [(w1.heap.size, BC fA 3), (L1.b 1, BC (ob (hsx fA 3 (padN 3 / 64))) 32), (w2.heap.size, BC fB 56), (L.b 1, BC (ob (hsx fB 56 (padN 56 / 64))) 32)]) hqB ⟨
    oCS (fun L => #[.slice (some ⟨w2.heap.size, 0, none⟩) 56 56]) (fun L w hs => sumOb S fB (some ⟨w2.heap.size, 0, none⟩) 56 56 w (by decide) (by decide) (atBox (seen_at hs (k := 2) rfl)) fB_rg),
    oZ rB32, oT rB32,
    trivial⟩ (fun L2 _ w3 hp3 ha3 => ?_)
  refine wpList_nil ?_
  refine k3 _ _ ?_
  refine wp_seq_k (fun K4 k4 => ?_)
  refine gs [.det (VB (ob (hsx fC 0 (padN 0 / 64))) 32), .alloc (BC (fun _ => 0) 32), .store (.new 1) 0 (BC (ob (hsx fC 0 (padN 0 / 64))) 32) (BC (ob (hsx fC 0 (padN 0 / 64))) 32)] [0, 1, 2] [0, 0, 3] (fun L => [.bool false, L1.p 1, L2.p 1, L.p 1, .slice (some ⟨w1.heap.size, 0, none⟩) 3 3, .slice (some ⟨w1.heap.size, 0, none⟩) 3 3, VB (ob (hsx fA 3 (padN 3 / 64))) 32, .slice (some ⟨w2.heap.size, 0, none⟩) 56 56, .slice (some ⟨w2.heap.size, 0, none⟩) 56 56, VB (ob (hsx fB 56 (padN 56 / 64))) 32, VB (ob (hsx fC 0 (padN 0 / 64))) 32] ++ U 16) (fun L => [(w1.heap.size, BC fA 3), (L1.b 1, BC (ob (hsx fA 3 (padN 3 / 64))) 32), (w2.heap.size, BC fB 56), (L2.b 1, BC (ob (hsx fB 56 (padN 56 / 64))) 32), (L.b 1, BC (ob (hsx fC 0 (padN 0 / 64))) 32)]) hp3 ⟨
    oH (v := VB (ob (hsx fC 0 (padN 0 / 64))) 32) (vs := #[.slice none 0 0]) (fun w _ _ => sumOb S fC none 0 0 w (by decide) (by decide) (fun h => absurd h (by decide)) (fun j h => absurd h (by omega))),
    oZ rB32, oT rB32,
    trivial⟩ (fun L3 w4 hp4 => ?_)
  refine k4 _ _ ?_
  refine wp_seq_k (fun K5 k5 => ?_)
  refine gs [.det (.bool true), .det (.bool true), .det (VB (ob (hsx fA 3 (padN 3 / 64))) 32), .det (strN (hxf (hsx fA 3 (padN 3 / 64))) (2 * 32)), .det (.bool true), .det (.bool true), .det (.bool true), .det (VB (ob (hsx fB 56 (padN 56 / 64))) 32), .det (strN (hxf (hsx fB 56 (padN 56 / 64))) (2 * 32)), .det (.bool true), .det (.bool true), .det (.bool true), .det (VB (ob (hsx fC 0 (padN 0 / 64))) 32), .det (strN (hxf (hsx fC 0 (padN 0 / 64))) (2 * 32)), .det (.bool true), .det (.bool true), .det (.bool true)] [0, 1, 2, 3, 4, 5, 6, 7, 8, 9, 10, 11, 12, 13, 14, 15, 16] [0, 1, 3, 7, 15, 31, 63, 127, 255, 511, 1023, 2047, 4095, 8191, 16383, 32767, 65535] (fun L => [.bool true, L1.p 1, L2.p 1, L3.p 1, .slice (some ⟨w1.heap.size, 0, none⟩) 3 3, .slice (some ⟨w1.heap.size, 0, none⟩) 3 3, VB (ob (hsx fA 3 (padN 3 / 64))) 32, .slice (some ⟨w2.heap.size, 0, none⟩) 56 56, .slice (some ⟨w2.heap.size, 0, none⟩) 56 56, VB (ob (hsx fB 56 (padN 56 / 64))) 32, VB (ob (hsx fC 0 (padN 0 / 64))) 32, .bool true, .bool true, VB (ob (hsx fA 3 (padN 3 / 64))) 32, strN (hxf (hsx fA 3 (padN 3 / 64))) (2 * 32), .bool true, .bool true, .bool true, VB (ob (hsx fB 56 (padN 56 / 64))) 32, strN (hxf (hsx fB 56 (padN 56 / 64))) (2 * 32), .bool true, .bool true, .bool true, VB (ob (hsx fC 0 (padN 0 / 64))) 32, strN (hxf (hsx fC 0 (padN 0 / 64))) (2 * 32), .bool true, .bool true]) (fun L => [(w1.heap.size, BC fA 3), (L1.b 1, BC (ob (hsx fA 3 (padN 3 / 64))) 32), (w2.heap.size, BC fB 56), (L2.b 1, BC (ob (hsx fB 56 (padN 56 / 64))) 32), (L3.b 1, BC (ob (hsx fC 0 (padN 0 / 64))) 32)]) hp4 ⟨
    oR (begun12 S), oM, oL 1 0 rB32, oR (lawHex (hsx fA 3 (padN 3 / 64))), oW (u := strN (hxf (hsx fA 3 (padN 3 / 64))) (2 * 32)) (v := .string ⟨#[98, 97, 55, 56, 49, 54, 98, 102, 56, 102, 48, 49, 99, 102, 101, 97, 52, 49, 52, 49, 52, 48, 100, 101, 53, 100, 97, 101, 50, 50, 50, 51, 98, 48, 48, 51, 54, 49, 97, 51, 57, 54, 49, 55, 55, 97, 57, 99, 98, 52, 49, 48, 102, 102, 54, 49, 102, 50, 48, 48, 49, 53, 97, 100]⟩) (r := .bool true) (fun w => guardS _ _ _ _ _ _ w) (fun w => eqlC _ _ _ knA _ rfl w),
    oP, oM, oL 3 0 rB32, oR (lawHex (hsx fB 56 (padN 56 / 64))), oW (u := strN (hxf (hsx fB 56 (padN 56 / 64))) (2 * 32)) (v := .string ⟨#[50, 52, 56, 100, 54, 97, 54, 49, 100, 50, 48, 54, 51, 56, 98, 56, 101, 53, 99, 48, 50, 54, 57, 51, 48, 99, 51, 101, 54, 48, 51, 57, 97, 51, 51, 99, 101, 52, 53, 57, 54, 52, 102, 102, 50, 49, 54, 55, 102, 54, 101, 99, 101, 100, 100, 52, 49, 57, 100, 98, 48, 54, 99, 49]⟩) (r := .bool true) (fun w => guardS _ _ _ _ _ _ w) (fun w => eqlC _ _ _ knB _ rfl w),
    oP, oM, oL 4 0 rB32, oR (lawHex (hsx fC 0 (padN 0 / 64))), oW (u := strN (hxf (hsx fC 0 (padN 0 / 64))) (2 * 32)) (v := .string ⟨#[101, 51, 98, 48, 99, 52, 52, 50, 57, 56, 102, 99, 49, 99, 49, 52, 57, 97, 102, 98, 102, 52, 99, 56, 57, 57, 54, 102, 98, 57, 50, 52, 50, 55, 97, 101, 52, 49, 101, 52, 54, 52, 57, 98, 57, 51, 52, 99, 97, 52, 57, 53, 57, 57, 49, 98, 55, 56, 53, 50, 98, 56, 53, 53]⟩) (r := .bool true) (fun w => guardS _ _ _ _ _ _ w) (fun w => eqlC _ _ _ knC _ rfl w),
    oP, oA,
    trivial⟩ (fun L4 w5 hp5 => ?_)
  refine k5 _ _ ?_
  refine wp_ret ?_
  refine bodyPost_ret (v := .bool true) ?_ rfl ?_
  · exact res_t rfl (by kernel_rfl) _
  · exact ⟨rfl, hp5.bel⟩
end Go.Proofs.Ytklddcicfeakfaa.fpn
