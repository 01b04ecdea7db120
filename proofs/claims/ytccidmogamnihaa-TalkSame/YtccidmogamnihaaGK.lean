/- KF KH. -/
import Derived.Test.YtccidmogamnihaaGJ
/- Law 13: has talk begun? Turns, and what a plan says of them. -/
namespace Go.Proofs.Ytccidmogamnihaa.fpn
open Go.RowKit Pl
set_option linter.unusedVariables false
set_option linter.unusedSimpArgs false
set_option maxRecDepth 4000

theorem eqR4 (e : Nat) (a b c d a' b' c' d' : Int) (w : World) : (Op.equalIn (e + 2) 34 (.agg #[.int .u64 a, .int .u64 b, .int .u64 c, .int .u64 d]) (.agg #[.int .u64 a', .int .u64 b', .int .u64 c', .int .u64 d'])).run Try.prog w = .ok (a == a' && (b == b' && (c == c' && d == d'))) w := by
  have u3 := Try.underlying32
  have a3 := Try.isAgg32
  have z3 := Try.sizeOf32
  have hE : ∀ (x y : Int) (w : World), (Op.equalIn (e + 1) 32 (.int .u64 x) (.int .u64 y)).run Try.prog w = .ok (x == y) w := fun x y w => by
    rw [Op.equalIn.eq_def]
    simp [Sem.run_bind, run_underlying Try.underlying32]
  rw [show e + 2 = (e + 1) + 1 from rfl, Op.equalIn.eq_def]
  simp only [Sem.run_bind, run_underlying Try.underlying34, Result.andThen_ok]
  simp only [Std.Legacy.Range.forIn_eq_forIn_range', Std.Legacy.Range.size, Nat.sub_zero, Nat.add_sub_cancel, Nat.div_one, List.range'_succ, List.range'_zero, List.forIn_cons, List.forIn_nil]
  go_simp
  by_cases h1 : a = a'
  · by_cases h2 : b = b'
    · by_cases h3 : c = c'
      · by_cases h4 : d = d' <;> simp [h1, h2, h3, h4]
      · simp [h1, h2, h3]
    · simp [h1, h2]
  · simp [h1]
theorem guardR (op : BinOp) (x y : Operand) (cs ds : Array Value) (w : World) : (eqGuard op 34 x y (.agg cs) (.agg ds)).run Try.prog w = .ok () w := by
  unfold eqGuard
  cases op <;> simp [Sem.run_bind, run_underlying Try.underlying34]
theorem eqlRs (n : Nat) (w : World) : (binOp .eql 34 (RV n) (RV n)).run Try.prog w = .ok (.bool true) w := by
  have := eqR4 9998 (lb n 0) (lb n 1) (lb n 2) (lb n 3) (lb n 0) (lb n 1) (lb n 2) (lb n 3) w
  have this' : (Op.equalIn 10000 34 (RV n) (RV n)).run Try.prog w = .ok true w := by simpa [RV, RC] using this
  unfold RV at *
  simp [binOp, Sem.run_bind, Op.equal, Op.maxDepth, this']
theorem neqRs (n : Nat) (w : World) : (binOp .neq 34 (RV n) (RV n)).run Try.prog w = .ok (.bool false) w := by
  have := eqR4 9998 (lb n 0) (lb n 1) (lb n 2) (lb n 3) (lb n 0) (lb n 1) (lb n 2) (lb n 3) w
  have this' : (Op.equalIn 10000 34 (RV n) (RV n)).run Try.prog w = .ok true w := by simpa [RV, RC] using this
  unfold RV at *
  simp [binOp, Sem.run_bind, Op.equal, Op.maxDepth, this']
theorem neqRd {n m : Nat} (h : lb n 0 ≠ lb m 0) (w : World) : (binOp .neq 34 (RV n) (RV m)).run Try.prog w = .ok (.bool true) w := by
  have := eqR4 9998 (lb n 0) (lb n 1) (lb n 2) (lb n 3) (lb m 0) (lb m 1) (lb m 2) (lb m 3) w
  have h' : (lb n 0 == lb m 0) = false := by simpa using h
  have this' : (Op.equalIn 10000 34 (RV n) (RV m)).run Try.prog w = .ok false w := by rw [h', Bool.false_and] at this; exact this
  unfold RV at *
  simp [binOp, Sem.run_bind, Op.equal, Op.maxDepth, this']
theorem neqA (f : Nat → Int) (w : World) : (binOp .neq 38 (VB f 32) (VB f 32)).run Try.prog w = .ok (.bool false) w := by
  have e := eq_self (d := 9998) (cs := (BC f 32).toArray) (w := w) Try.underlying38 (size_of sizeY w) (fun i hi => ⟨.int .u8 (f i), by
    rw [Nat.mul_one]
    simp [part, Sem.run_bind, Try.isAgg5, BC, hi], eqByte _ _ w⟩)
  unfold VB
  simp [binOp, Sem.run_bind, Op.equal, Op.maxDepth, e]
theorem eqByte2 (d : Nat) (x y : Int) (h : x ≠ y) (w : World) : (Op.equalIn (d + 1) 5 (.int .u8 x) (.int .u8 y)).run Try.prog w = .ok false w := by
  rw [Op.equalIn.eq_def]
  simp [Sem.run_bind, run_underlying Try.underlying5, h]
theorem eq_first {d : Nat} {t e : TypeId} {n : Nat} {cs ds : Array Value} {w : World} {u v : Value} (hu : Try.prog.underlying t = some (.array (n + 1) e)) (hs : (sizeOf e).run Try.prog w = .ok 1 w)
    (h1 : (part e cs 0).run Try.prog w = .ok u w) (h2 : (part e ds 0).run Try.prog w = .ok v w) (h3 : (Op.equalIn (d + 1) e u v).run Try.prog w = .ok false w) : (Op.equalIn (d + 2) t (.agg cs) (.agg ds)).run Try.prog w = .ok false w := by
  rw [show d + 2 = (d + 1) + 1 from rfl, Op.equalIn.eq_def]
  simp only [Sem.run_bind, run_underlying hu, Result.andThen_ok, hs]
  simp only [Std.Legacy.Range.forIn_eq_forIn_range', Std.Legacy.Range.size, Nat.sub_zero, Nat.add_sub_cancel, Nat.div_one, List.range'_succ, List.forIn_cons]
  simp [Sem.run_bind, h1, h2, h3]
theorem neqAd {f g : Nat → Int} (h : f 0 ≠ g 0) (w : World) : (binOp .neq 38 (VB f 32) (VB g 32)).run Try.prog w = .ok (.bool true) w := by
  have e := eq_first (d := 9998) (n := 31) (cs := (BC f 32).toArray) (ds := (BC g 32).toArray) (w := w) (u := .int .u8 (f 0)) (v := .int .u8 (g 0)) Try.underlying38 (size_of sizeY w) (by simp [part, Sem.run_bind, Try.isAgg5, BC]) (by simp [part, Sem.run_bind, Try.isAgg5, BC]) (eqByte2 _ _ _ h w)
  unfold VB
  simp [binOp, Sem.run_bind, Op.equal, Op.maxDepth, e]
section
variable {ops : Array Oper} {ks : List Kind} {T : List Nat} {a0 : Act} {B : Nat} {w0 W0 : World} {H : List (Nat × List Value)} {i : Nat} {o : Oper}
theorem oTu {k b : Nat} {v : Value} {old new : List Value} {f : FuncId} {xs : Array Operand} {ts : Array TypeId} {vs : Array Value} (h : ∀ w, Below B w0 w → Box w b old → Calls Try.prog f vs w fun e w' => e = .returned v ∧ Chg b w w' ∧ Box w' b new) (hH : H[k]? = some (b, old) := by exact rfl)
    (hf : plainF Try.prog f = true := by kernel_rfl) (hw : ∀ L, wantedR ks L o = true := by intro _; kernel_rfl) (ho : o.op = .call { callee := .value (.func f), args := xs, argTypes := ts } := by exact rfl)
    (hx : ∀ L, xs.map (rd ops ks T a0 L i) = vs := by intro _; kernel_rfl) (hk : kd ks i = .turn k v new) : Obl Try.prog ops ks T a0 B w0 H i o := ⟨fun L w hs => by
  rw [if_pos (hw L), hk]
  intro hb
  have e1 : H.getD k (0, []) = (b, old) := by rw [List.getD_eq_getElem?_getD, hH]; rfl
  have ea : addr H L (.base k) = b := congrArg Prod.fst e1
  have eo : oldOf ks H (.base k) = old := congrArg Prod.snd e1
  rw [ea, eo] at hb
  rw [ea]
  have : (execOp (rd ops ks T a0 L i) o).run Try.prog w = .ok (.enter f vs) w := by
    unfold execOp
    simp only [ho, resolve, hx L, Deferred.ofValue, rd, Sem.run_bind, Sem.run_pure, Result.andThen_ok, Array.empty_append, run_enter hf]
  rw [this]
  exact Calls.mono (h w hs.still.bel hb) fun e w' ⟨h1, h2, h3⟩ => ⟨v, h1, rfl, h2, h3⟩⟩
theorem oCT {v : Value} {f : FuncId} {xs : Array Operand} {ts : Array TypeId} {vs : Array Value} (h : ∀ w, Still ks T B w0 H i w → Calls Try.prog f vs w fun e w' => e = .returned v ∧ Below w.heap.size w w')
    (hf : plainF Try.prog f = true := by kernel_rfl) (hw : ∀ L, wantedR ks L o = true := by intro _; kernel_rfl) (ho : o.op = .call { callee := .value (.func f), args := xs, argTypes := ts } := by exact rfl)
    (hx : ∀ L, xs.map (rd ops ks T a0 L i) = vs := by intro _; kernel_rfl) (hk : kd ks i = .det v) : Obl Try.prog ops ks T a0 B w0 H i o := ⟨ob_det hw hk fun L w hs => by
  have : (execOp (rd ops ks T a0 L i) o).run Try.prog w = .ok (.enter f vs) w := by
    unfold execOp
    simp only [ho, resolve, hx L, Deferred.ofValue, rd, Sem.run_bind, Sem.run_pure, Result.andThen_ok, Array.empty_append, run_enter hf]
  rw [this]
  exact Calls.mono (h w hs.still) fun e w' ⟨h1, h2⟩ => ⟨v, h1, rfl, h2⟩⟩
theorem oGT {t : TypeId} {x : Operand} {cs Z : List Value} {b off n : Nat} (hR : RowT Try.prog t n Z) (hr : ∀ w, Still ks T B w0 H i w → w.rangeAt b off cs) (hw : ∀ L, wantedR ks L o = true := by intro _; kernel_rfl) (ho : o.op = .load t x := by exact rfl)
    (hx : ∀ L, rd ops ks T a0 L i x = .pointer (some ⟨b, off, none⟩) := by intro _; kernel_rfl) (hl : cs.length = n := by kernel_rfl) (hk : kd ks i = .det (.agg cs.toArray)) : Obl Try.prog ops ks T a0 B w0 H i o := by
  obtain ⟨d, hu, hd⟩ := hR.und
  exact ⟨ob_det hw hk fun L w hs => by
    have : (execOp (rd ops ks T a0 L i) o).run Try.prog w = .ok (.value (.agg cs.toArray)) w := by
      unfold execOp
      simp only [ho, hx L, Sem.run_bind, run_loadAt_mid w b off t cs d (hr w hs.still) hu hd (by rw [hl]; exact hR.size)]
      rfl
    rw [this]
    exact ⟨rfl, Below.refl _ _⟩⟩
theorem oLT {t : TypeId} {x : Operand} {v : Value} {b off : Nat} (hO : OneT Try.prog t) (hc : ∀ w, Still ks T B w0 H i w → w.cell? ⟨b, off, none⟩ = some v) (hw : ∀ L, wantedR ks L o = true := by intro _; kernel_rfl) (ho : o.op = .load t x := by exact rfl)
    (hx : ∀ L, rd ops ks T a0 L i x = .pointer (some ⟨b, off, none⟩) := by intro _; kernel_rfl) (hk : kd ks i = .det v) : Obl Try.prog ops ks T a0 B w0 H i o := ⟨ob_det hw hk fun L w hs => by
    have : (execOp (rd ops ks T a0 L i) o).run Try.prog w = .ok (.value v) w := by
      unfold execOp
      simp only [ho, hx L, Sem.run_bind, run_load1 hO (hc w hs.still)]
      rfl
    rw [this]
    exact ⟨rfl, Below.refl _ _⟩⟩
theorem oLS {x : Operand} {st : ByteArray} {n : Nat} (hn : st.size = n) (hw : ∀ L, wantedR ks L o = true := by intro _; kernel_rfl) (ho : o.op = .call { callee := .builtin .len, args := #[x], argTypes := #[9] } := by exact rfl)
    (hx : ∀ L, rd ops ks T a0 L i x = .string st := by intro _; kernel_rfl) (hk : kd ks i = .det (.int .i64 (n : Int))) : Obl Try.prog ops ks T a0 B w0 H i o := ⟨ob_pure hw hk fun L w => by
    subst hn
    unfold execOp
    simp [ho, resolve, hx L, invoke, builtin, Builtin.len_, Sem.run_bind, run_underlying Try.underlying9, goInt]⟩
theorem oIP {t e : TypeId} {x ix : Operand} {p : Option Addr} {b off n c sz : Nat} (k : Nat) (hp : p = some ⟨b, off, none⟩) (hu : Try.prog.underlying t = some (.slice e)) (hs : (Try.prog.info? e).map (·.size) = some sz) (hkn : k < n) (hw : ∀ L, wantedR ks L o = true := by intro _; kernel_rfl) (ho : o.op = .indexAddr t x ix := by exact rfl)
    (hx : ∀ L, rd ops ks T a0 L i x = .slice p n c := by intro _; kernel_rfl) (hi : ∀ L, rd ops ks T a0 L i ix = .int .i64 (k : Int) := by intro _; kernel_rfl) (hk : kd ks i = .det (.pointer (some ⟨b, off + k * sz, none⟩))) : Obl Try.prog ops ks T a0 B w0 H i o :=
  oIS k hu hs hkn hw ho (fun L => by rw [hx L, hp]) hi hk
end
theorem sizeTu : (Try.prog.info? 31).map (·.size) = some 3 := by kernel_rfl
theorem fTu0 : FldT Try.prog 31 0 0 0 := ⟨_, _, Try.underlying31, rfl, rfl, by kernel_rfl⟩
theorem fTu1 : FldT Try.prog 31 1 1 0 := ⟨_, _, Try.underlying31, rfl, rfl, by kernel_rfl⟩
theorem fTu2 : FldT Try.prog 31 2 2 0 := ⟨_, _, Try.underlying31, rfl, rfl, by kernel_rfl⟩
theorem oneB : OneT Try.prog 4 := ⟨Try.isAgg4, by kernel_rfl⟩
structure Tur where
  ask : Nat → Bool
  tag : Nat → Int
  bp : Nat → Option Addr
  bn : Nat → Nat
  bc : Nat → Nat
  bf : Nat → Nat → Int
structure TuAt (w : World) (p : Option Addr) (n : Nat) (u : Tur) : Prop where
  at_ : ∀ i, i < n → ∃ b off, p = some ⟨b, off, none⟩ ∧ w.cell? ⟨b, off + i * 3, none⟩ = some (.bool (u.ask i)) ∧ w.cell? ⟨b, off + i * 3 + 1, none⟩ = some (.int .u8 (u.tag i)) ∧ w.cell? ⟨b, off + i * 3 + 2, none⟩ = some (.slice (u.bp i) (u.bn i) (u.bc i))
  byt : ∀ i, i < n → AtK .u8 w (u.bp i) (u.bn i) (u.bf i)
  tag : ∀ i, i < n → 0 ≤ u.tag i ∧ u.tag i < 256
  cap : ∀ i, i < n → u.bn i ≤ u.bc i
  rg : ∀ i, i < n → ∀ j, j < u.bn i → 0 ≤ u.bf i j ∧ u.bf i j < 256
def stpR (u : Tur) (s : Nat → Int) : Nat → Nat → Int
  | 0 => s
  | m + 1 => if u.ask m = true then askS (stpR u s m) (u.tag m) else tellS (stpR u s m) (u.tag m) (u.bf m) (u.bn m)
@[irreducible] def stp (u : Tur) (s : Nat → Int) (m : Nat) : Nat → Int := stpR u s m
theorem stp_0 (u : Tur) (s : Nat → Int) : stp u s 0 = s := by unfold stp; rfl
theorem stp_a {u : Tur} {s : Nat → Int} {m : Nat} (h : u.ask m = true) : askS (stp u s m) (u.tag m) = stp u s (m + 1) := by unfold stp; rw [stpR, if_pos h]
theorem stp_t {u : Tur} {s : Nat → Int} {m : Nat} (h : u.ask m = false) : tellS (stp u s m) (u.tag m) (u.bf m) (u.bn m) = stp u s (m + 1) := by unfold stp; rw [stpR, if_neg (by rw [h]; decide)]
theorem By.stp {u : Tur} {s : Nat → Int} (h : By s) : ∀ m, By (fpn.stp u s m)
  | 0 => by rw [stp_0]; exact h
  | m + 1 => by
    cases e : u.ask m with
    | true => rw [← stp_a e]; exact By.askS _ _
    | false => rw [← stp_t e]; exact By.tellS _ _ _ _
theorem mayAsk (s : Nat → Int) (t : Int) (w : World) : Calls Try.prog 11 #[RV (askN s t)] w (Ret (.bool true) w) := by
  unfold askN
  exact mayWd _ _ w
section
variable {ops : Array Oper} {ks : List Kind} {T : List Nat} {a0 : Act} {B : Nat} {w0 W0 : World} {H : List (Nat × List Value)} {i : Nat} {o : Oper}
theorem oApN {x y : Operand} {g : Nat → Int} {n c : Nat} {p : Option Addr} (j : Nat) (hn : n ≤ 1000) (hnc : n ≤ c) (hA : ∀ w, Below B w0 w → AtK .u8 w p n g)
    (hj : kd ks j = .any isE := by exact rfl) (hbf : bef T i j = true := by kernel_rfl) (hx : ∀ L, rd ops ks T a0 L i x = L.v j := by intro _; kernel_rfl) (hy : ∀ L, rd ops ks T a0 L i y = .slice p n c := by intro _; kernel_rfl)
    (hw : ∀ L, wantedR ks L o = true := by intro _; kernel_rfl) (he : Pl.early T ks i = true := by kernel_rfl) (ho : o.op = .call { callee := .builtin .append, args := #[x, y], argTypes := #[29, 29] } := by exact rfl)
    (hk : kd ks i = .any (isA g n)) : Obl Try.prog ops ks T a0 B w0 H i o := ⟨fun L w hsn => by
  rw [if_pos (hw L), hk]
  refine ⟨fun v w x h hb => h.stay hb, ?_⟩
  have hs := hsn he
  obtain ⟨a, ea⟩ := hs.any j _ hj hbf
  have ex := (hx L).trans ea
  have hAw := hA w hs.bel
  obtain ⟨i0, hi0, hz0, hz1, hz2⟩ := infoY
  by_cases h0 : 0 < n
  · obtain ⟨b, off, rfl, hc⟩ := hAw h0
    have hr := run_append_grow (P := Try.prog) (w := w) 29 o.type 5 i0 (.int .u8 0) Try.underlying29 hi0 hz0 a 0 0 (BC g 0) (by rw [BC_len, hz1, Nat.mul_one])
      (fun j v hv => by have := (List.getElem?_eq_some_iff.1 hv).1; rw [BC_len] at this; omega)
      ⟨b, off, none⟩ n c (BC g n) (by rw [BC_len, hz1, Nat.mul_one])
      (fun j v hv => by
        have hj : j < n := by have := (List.getElem?_eq_some_iff.1 hv).1; rwa [BC_len] at this
        rw [BC_at hj] at hv; rw [Addr.add_mid, hc j hj]; exact hv)
      (by omega) (by omega) (by rw [hz2, Nat.mul_one]; have := nextslicecap_le (need := 0 + n) (old := 0) (by omega); omega)
    have this : (execOp (rd ops ks T a0 L i) o).run Try.prog w = .ok (.value (.slice (some ⟨w.heap.size, 0, none⟩) (0 + n) (grownCap w (0 + n) 0 5))) (w.drew.alloc (.cells ((BC g 0).toArray ++ (BC g n).toArray ++ Builtin.zeroCells (Value.int .u8 0).cells (grownCap w (0 + n) 0 5 - (0 + n))) 5)) := by
      unfold execOp
      simp [ho, resolve, ex, hy L, invoke, builtin, Sem.run_bind, hr]
    rw [this]
    have hge := grownCap_ge w (0 + n) 0 5
    have hcm : grownCap w (0 + n) 0 5 ≤ maxLen := grownCap_le_maxLen w (0 + n) 0 _ (by simp only [maxLen]; omega)
    have h2 : ((BC g 0).toArray ++ (BC g n).toArray ++ Builtin.zeroCells (Value.int .u8 0).cells (grownCap w (0 + n) 0 5 - (0 + n))).size = grownCap w (0 + n) 0 5 * 1 := by
      have hge' := hge
      generalize grownCap w (0 + n) 0 5 = G at hge' ⊢
      simp only [Array.size_append, List.size_toArray, size_zeroCells, BC_len, Value.cells]
      simp; omega
    have h3 : ((BC g 0).toArray ++ (BC g n).toArray ++ Builtin.zeroCells (Value.int .u8 0).cells (grownCap w (0 + n) 0 5 - (0 + n))).toList.take ((0 + n) * 1) = BC (cat g 0 g) (0 + n) := by
      have hl : (BC g 0 ++ BC g n).length = (0 + n) * 1 := by rw [List.length_append, BC_len, BC_len, Nat.mul_one]
      rw [← BC_cat, ← hl]
      simp only [Array.toList_append]
      exact List.take_left
    have own : OwnY (w.drew.alloc (.cells ((BC g 0).toArray ++ (BC g n).toArray ++ Builtin.zeroCells (Value.int .u8 0).cells (grownCap w (0 + n) 0 5 - (0 + n))) 5)) w.heap.size (.slice (some ⟨w.heap.size, 0, none⟩) (0 + n) (grownCap w (0 + n) 0 5)) (cat g 0 g) (0 + n) :=
      ⟨by rw [BC_len, Nat.mul_one], .inr ⟨w.heap.size, _, _, rfl, Nat.le_refl _, heap_alloc_new w.drew _, hge, hcm, h2, h3⟩⟩
    exact ⟨(own.to (Nat.zero_add n) (fun j _ => cat_at1 g g (Nat.zero_le j))).a, Below.alloc (Below.drew (Below.refl _ _)) (Nat.le_refl _) _⟩
  · obtain rfl : n = 0 := by omega
    have hr := run_append_nothing (P := Try.prog) w 29 29 o.type 5 i0 Try.underlying29 hi0 (some a) 0 0 (Nat.le_refl _) (.slice p 0 c) (by
      cases p with
      | none => exact Src.ofNil w Try.underlying29 c
      | some q => exact Src.ofSlice w Try.underlying29 q 0 c [] (by simp) (fun j u hj => by simp at hj) (fun u hu => by cases hu))
    have this : (execOp (rd ops ks T a0 L i) o).run Try.prog w = .ok (.value (.slice (some a) 0 0)) w := by
      unfold execOp
      simp [ho, resolve, ex, hy L, invoke, builtin, Sem.run_bind, hr]
    rw [this]
    exact ⟨⟨_, _, rfl, Nat.le_refl _, AtK.nil⟩, Below.refl _ _⟩⟩
end
theorem wp_appendF {Q : Exit → Act → World → Prop} {o : Oper} {a : Act} {w : World} {K : Act → World → Prop} (s x : Operand) (ho : o.op = .call { callee := .builtin .append, args := #[s, x], argTypes := #[29, 29] })
    {B b0 : Nat} {f0 g : Nat → Int} {n c : Nat} {p : Option Addr} (hs : a.eval s = .slice (some ⟨b0, 0, none⟩) 0 0) (hown : OwnY w B (.slice (some ⟨b0, 0, none⟩) 0 0) f0 0) (hx : a.eval x = .slice p n c) (hc : AtK .u8 w p n g) (hl : n ≤ 1000) (hB : B ≤ w.heap.size)
    (h : ∀ k cc w', n ≤ cc → B ≤ k → Box w' k (BC g n) → Below B w w' → K (a.put o.dst (.slice (some ⟨k, 0, none⟩) n cc)) w') : o.wp Try.prog a w K Q := by
  by_cases h0 : 0 < n
  · refine wp_appendN s x ho hs hown hx hc (by omega) hB (fun v' w' ho' hb => ?_)
    obtain ⟨k, cc, rfl, h1, -, h2, h3⟩ := (ho'.to (Nat.zero_add n) (fun j _ => cat_at1 f0 g (Nat.zero_le j))).box h0
    exact h k cc w' h1 h2 h3 hb
  · obtain rfl : n = 0 := by omega
    obtain ⟨i, hi, hz, h1, h2⟩ := infoY
    have hr := run_append_nothing (P := Try.prog) w 29 29 o.type 5 i Try.underlying29 hi (some ⟨b0, 0, none⟩) 0 0 (Nat.le_refl _) (.slice p 0 c) (by
      cases p with
      | none => exact Src.ofNil w Try.underlying29 c
      | some q => exact Src.ofSlice w Try.underlying29 q 0 c [] (by simp) (fun j u hj => by simp at hj) (fun u hu => by cases hu))
    unfold Oper.wp execOp
    simp only [ho, resolve, invoke, builtin, Sem.run_bind, Sem.run_pure, Result.andThen_ok, List.map_toArray, List.map_cons, List.map_nil, hs, hx, hr]
    rcases hown.2 with ⟨hv, -⟩ | ⟨gb, cap, cur, hv, hBk, hg, -⟩
    · cases hv
    · cases hv
      exact h _ _ w (Nat.le_refl _) hBk ⟨(Array.getElem?_eq_some_iff.1 hg).1, fun j v hv => by simp [BC] at hv, fun j hj => by simp [BC] at hj⟩ (Below.refl _ _)
theorem dig_words {g : Nat → Int} {n : Nat} {W : Nat → BitVec 32} (h : ∀ i, i < 8 → hsx g n (padN n / 64) i = W i) (j : Nat) (hj : j < 32) : dig g n j = ob W j := by
  unfold dig ob
  rw [h (j / 4) (by omega)]
theorem bv_congr {f g : Nat → Int} : ∀ {n : Nat}, (∀ j, j < n → f j = g j) → bv f n = bv g n
  | 0, _ => rfl
  | n + 1, h => by
    unfold bv
    rw [bv_congr fun j hj => h j (by omega), h n (by omega)]
theorem cat_of {s : Nat → Int} {a : List Int} {g : Nat → Int} {b : List Int} {n : Nat} (ha : ∀ j, j < 32 → s j = lst a j) (hb : ∀ j, j < n → g j = lst b j) (hl : a.length = 32) (j : Nat) (hj : j < 32 + n) : cat s 32 g j = lst (a ++ b) j := by
  unfold lst at *
  by_cases e : j < 32
  · rw [cat_at0 _ _ e, ha j e, List.getD_eq_getElem?_getD, List.getD_eq_getElem?_getD, List.getElem?_append_left (by omega)]
  · rw [cat_at1 _ _ (by omega), hb _ (by omega), List.getD_eq_getElem?_getD, List.getD_eq_getElem?_getD, List.getElem?_append_right (by omega), hl]
def stA : ByteArray := ⟨#[97]⟩
def w0 (i : Nat) : BitVec 32 := ([36333945#32, 3873093546#32, 1524941797#32, 3831463575#32, 1897048038#32, 898859533#32, 3200380019#32, 2317678908#32] : List (BitVec 32)).getD i 0#32
theorem h0 : ∀ i, i < 8 → hsx (lst [0, 97]) 2 (padN 2 / 64) i = w0 i := by decide +kernel
theorem b0 : ∀ j, j < 32 → ob w0 j = lst [2, 42, 105, 121, 230, 218, 183, 170, 90, 228, 195, 229, 228, 95, 126, 151, 113, 18, 167, 230, 53, 147, 130, 13, 190, 193, 236, 115, 138, 36, 249, 60] j := by decide +kernel
theorem d0 (j : Nat) (hj : j < 32) : dig (lst [0, 97]) 2 j = lst [2, 42, 105, 121, 230, 218, 183, 170, 90, 228, 195, 229, 228, 95, 126, 151, 113, 18, 167, 230, 53, 147, 130, 13, 190, 193, 236, 115, 138, 36, 249, 60] j := (dig_words h0 j hj).trans (b0 j hj)
abbrev bs0 : Nat → Int := begS (sby stA) 1
theorem e0 : ∀ j, j < 32 → bs0 j = lst [2, 42, 105, 121, 230, 218, 183, 170, 90, 228, 195, 229, 228, 95, 126, 151, 113, 18, 167, 230, 53, 147, 130, 13, 190, 193, 236, 115, 138, 36, 249, 60] j := fun j hj => by
  unfold bs0 begS
  rw [dig_congr (g' := lst [0, 97]) (by decide +kernel)]
  exact d0 j hj
def w1 (i : Nat) : BitVec 32 := ([3026535605#32, 2834663092#32, 3152311027#32, 2610733848#32, 3695259640#32, 1909781612#32, 2567581469#32, 472362098#32] : List (BitVec 32)).getD i 0#32
theorem h1 : ∀ i, i < 8 → hsx (lst [2, 42, 105, 121, 230, 218, 183, 170, 90, 228, 195, 229, 228, 95, 126, 151, 113, 18, 167, 230, 53, 147, 130, 13, 190, 193, 236, 115, 138, 36, 249, 60, 1, 1, 0, 0, 0, 0, 0, 0, 0, 0]) 42 (padN 42 / 64) i = w1 i := by decide +kernel
theorem b1 : ∀ j, j < 32 → ob w1 j = lst [180, 101, 68, 181, 168, 245, 134, 180, 187, 228, 114, 243, 155, 156, 163, 24, 220, 65, 47, 248, 113, 212, 244, 108, 153, 10, 47, 29, 28, 39, 172, 114] j := by decide +kernel
theorem d1 (j : Nat) (hj : j < 32) : dig (lst [2, 42, 105, 121, 230, 218, 183, 170, 90, 228, 195, 229, 228, 95, 126, 151, 113, 18, 167, 230, 53, 147, 130, 13, 190, 193, 236, 115, 138, 36, 249, 60, 1, 1, 0, 0, 0, 0, 0, 0, 0, 0]) 42 j = lst [180, 101, 68, 181, 168, 245, 134, 180, 187, 228, 114, 243, 155, 156, 163, 24, 220, 65, 47, 248, 113, 212, 244, 108, 153, 10, 47, 29, 28, 39, 172, 114] j := (dig_words h1 j hj).trans (b1 j hj)
abbrev bs1 : Nat → Int := tellS bs0 1 (fun _ => 0) 0
theorem e1 : ∀ j, j < 32 → bs1 j = lst [180, 101, 68, 181, 168, 245, 134, 180, 187, 228, 114, 243, 155, 156, 163, 24, 220, 65, 47, 248, 113, 212, 244, 108, 153, 10, 47, 29, 28, 39, 172, 114] j := fun j hj => by
  unfold bs1 tellS
  rw [dig_congr (g' := lst [2, 42, 105, 121, 230, 218, 183, 170, 90, 228, 195, 229, 228, 95, 126, 151, 113, 18, 167, 230, 53, 147, 130, 13, 190, 193, 236, 115, 138, 36, 249, 60, 1, 1, 0, 0, 0, 0, 0, 0, 0, 0]) (cat_of (b := [1, 1, 0, 0, 0, 0, 0, 0, 0, 0]) e0 (by decide +kernel) rfl)]
  exact d1 j hj
def wA (i : Nat) : BitVec 32 := ([3105152807#32, 2711094630#32, 590602366#32, 2940403923#32, 2513781183#32, 259259443#32, 3688017404#32, 729882223#32] : List (BitVec 32)).getD i 0#32
theorem hA : ∀ i, i < 8 → hsx (lst [180, 101, 68, 181, 168, 245, 134, 180, 187, 228, 114, 243, 155, 156, 163, 24, 220, 65, 47, 248, 113, 212, 244, 108, 153, 10, 47, 29, 28, 39, 172, 114, 2, 1, 0]) 35 (padN 35 / 64) i = wA i := by decide +kernel
theorem bA : ∀ j, j < 32 → ob wA j = lst [185, 20, 223, 39, 161, 152, 5, 102, 35, 51, 224, 126, 175, 67, 0, 211, 149, 213, 65, 191, 15, 115, 252, 51, 219, 210, 173, 252, 43, 129, 30, 111] j := by decide +kernel
theorem dA (j : Nat) (hj : j < 32) : dig (lst [180, 101, 68, 181, 168, 245, 134, 180, 187, 228, 114, 243, 155, 156, 163, 24, 220, 65, 47, 248, 113, 212, 244, 108, 153, 10, 47, 29, 28, 39, 172, 114, 2, 1, 0]) 35 j = lst [185, 20, 223, 39, 161, 152, 5, 102, 35, 51, 224, 126, 175, 67, 0, 211, 149, 213, 65, 191, 15, 115, 252, 51, 219, 210, 173, 252, 43, 129, 30, 111] j := (dig_words hA j hj).trans (bA j hj)
theorem eA : ∀ j, j < 32 → askH bs1 1 0 j = lst [185, 20, 223, 39, 161, 152, 5, 102, 35, 51, 224, 126, 175, 67, 0, 211, 149, 213, 65, 191, 15, 115, 252, 51, 219, 210, 173, 252, 43, 129, 30, 111] j := fun j hj => by
  unfold askH
  rw [dig_congr (g' := lst [180, 101, 68, 181, 168, 245, 134, 180, 187, 228, 114, 243, 155, 156, 163, 24, 220, 65, 47, 248, 113, 212, 244, 108, 153, 10, 47, 29, 28, 39, 172, 114, 2, 1, 0]) (cat_of (n := 3) (b := [2, 1, 0]) e1 (fun j _ => rfl) rfl)]
  exact dA j hj
def wB (i : Nat) : BitVec 32 := ([2510831360#32, 3095339516#32, 3828407319#32, 2949668740#32, 1897242772#32, 3693273648#32, 3825997545#32, 3749278251#32] : List (BitVec 32)).getD i 0#32
theorem hB : ∀ i, i < 8 → hsx (lst [180, 101, 68, 181, 168, 245, 134, 180, 187, 228, 114, 243, 155, 156, 163, 24, 220, 65, 47, 248, 113, 212, 244, 108, 153, 10, 47, 29, 28, 39, 172, 114, 2, 1, 1]) 35 (padN 35 / 64) i = wB i := by decide +kernel
theorem bB : ∀ j, j < 32 → ob wB j = lst [149, 168, 63, 0, 184, 127, 33, 252, 228, 48, 220, 23, 175, 208, 95, 132, 113, 21, 160, 148, 220, 34, 226, 48, 228, 12, 22, 233, 223, 121, 114, 43] j := by decide +kernel
theorem dB (j : Nat) (hj : j < 32) : dig (lst [180, 101, 68, 181, 168, 245, 134, 180, 187, 228, 114, 243, 155, 156, 163, 24, 220, 65, 47, 248, 113, 212, 244, 108, 153, 10, 47, 29, 28, 39, 172, 114, 2, 1, 1]) 35 j = lst [149, 168, 63, 0, 184, 127, 33, 252, 228, 48, 220, 23, 175, 208, 95, 132, 113, 21, 160, 148, 220, 34, 226, 48, 228, 12, 22, 233, 223, 121, 114, 43] j := (dig_words hB j hj).trans (bB j hj)
theorem eB : ∀ j, j < 32 → askH bs1 1 1 j = lst [149, 168, 63, 0, 184, 127, 33, 252, 228, 48, 220, 23, 175, 208, 95, 132, 113, 21, 160, 148, 220, 34, 226, 48, 228, 12, 22, 233, 223, 121, 114, 43] j := fun j hj => by
  unfold askH
  rw [dig_congr (g' := lst [180, 101, 68, 181, 168, 245, 134, 180, 187, 228, 114, 243, 155, 156, 163, 24, 220, 65, 47, 248, 113, 212, 244, 108, 153, 10, 47, 29, 28, 39, 172, 114, 2, 1, 1]) (cat_of (n := 3) (b := [2, 1, 1]) e1 (fun j _ => rfl) rfl)]
  exact dB j hj
def wC (i : Nat) : BitVec 32 := ([276003924#32, 1181296946#32, 1708020971#32, 110227298#32, 738629857#32, 2252355670#32, 309996748#32, 2329191707#32] : List (BitVec 32)).getD i 0#32
theorem hC : ∀ i, i < 8 → hsx (lst [180, 101, 68, 181, 168, 245, 134, 180, 187, 228, 114, 243, 155, 156, 163, 24, 220, 65, 47, 248, 113, 212, 244, 108, 153, 10, 47, 29, 28, 39, 172, 114, 3, 1]) 34 (padN 34 / 64) i = wC i := by decide +kernel
theorem bC : ∀ j, j < 32 → ob wC j = lst [16, 115, 124, 84, 70, 105, 41, 50, 101, 206, 84, 235, 6, 145, 239, 98, 44, 6, 152, 225, 134, 64, 56, 86, 18, 122, 44, 204, 138, 212, 165, 27] j := by decide +kernel
theorem dC (j : Nat) (hj : j < 32) : dig (lst [180, 101, 68, 181, 168, 245, 134, 180, 187, 228, 114, 243, 155, 156, 163, 24, 220, 65, 47, 248, 113, 212, 244, 108, 153, 10, 47, 29, 28, 39, 172, 114, 3, 1]) 34 j = lst [16, 115, 124, 84, 70, 105, 41, 50, 101, 206, 84, 235, 6, 145, 239, 98, 44, 6, 152, 225, 134, 64, 56, 86, 18, 122, 44, 204, 138, 212, 165, 27] j := (dig_words hC j hj).trans (bC j hj)
theorem eC : ∀ j, j < 32 → askS bs1 1 j = lst [16, 115, 124, 84, 70, 105, 41, 50, 101, 206, 84, 235, 6, 145, 239, 98, 44, 6, 152, 225, 134, 64, 56, 86, 18, 122, 44, 204, 138, 212, 165, 27] j := fun j hj => by
  unfold askS
  rw [dig_congr (g' := lst [180, 101, 68, 181, 168, 245, 134, 180, 187, 228, 114, 243, 155, 156, 163, 24, 220, 65, 47, 248, 113, 212, 244, 108, 153, 10, 47, 29, 28, 39, 172, 114, 3, 1]) (cat_of (n := 2) (b := [3, 1]) e1 (fun j _ => rfl) rfl)]
  exact dC j hj
theorem eN : askN bs1 1 = 43538144932960474813914519365006897525805404256990384966180687015339577022552 := by
  unfold askN wd
  rw [bv_congr (g := lst ([185, 20, 223, 39, 161, 152, 5, 102, 35, 51, 224, 126, 175, 67, 0, 211, 149, 213, 65, 191, 15, 115, 252, 51, 219, 210, 173, 252, 43, 129, 30, 111] ++ [149, 168, 63, 0, 184, 127, 33, 252, 228, 48, 220, 23, 175, 208, 95, 132, 113, 21, 160, 148, 220, 34, 226, 48, 228, 12, 22, 233, 223, 121, 114, 43])) (cat_of eA eB rfl)]
  decide +kernel
theorem eS : askS bs1 1 0 = 16 := (eC 0 (by decide)).trans rfl
end Go.Proofs.Ytccidmogamnihaa.fpn

/- Law 13: talk has begun; light turns. -/
namespace Go.Proofs.Ytccidmogamnihaa.fpn
open Go.RowKit Pl
set_option linter.unusedVariables false
set_option linter.unusedSimpArgs false
set_option maxRecDepth 4000

set_option maxHeartbeats 4000000 in
theorem begun13 (w : World) : Calls Try.prog 5 #[] w (Ret (.bool true) w) := by
  have hp0 := Heap.start w
  go_enter Try.func5, Try.ntmps5
  refine wp_seq_k (fun K1 k1 => ?_)
  refine gs [.det (.bool false)] [0] [0] (fun L => [.bool false] ++ U 16) (fun L => []) hp0 ⟨
    oA,
    trivial⟩ (fun L0 w1 hp1 => ?_)
  refine k1 _ _ ?_
  refine wp_seq_k (fun K2 k2 => ?_)
  refine wp_region_list ?_
  refine oneL rfl rfl (wp_callG (vs := #[.string stA]) (R := fun v x => ∃ k, v = .pointer (some ⟨k, 0, none⟩) ∧ w1.heap.size ≤ k ∧ Box x k (BC bs0 32) ∧ Below w1.heap.size w1 x) (Calls.mono (tkNew stA _ (by decide)) (fun e x ⟨k, h1, h2, h3, h4⟩ => ⟨_, h1, k, rfl, h2, h3, h4⟩)) (fun vx1 x1 ⟨kx1, hvx1, h2x1, h3x1, h4x1⟩ => ?_))
  subst hvx1
  have hpx1 := Heap.add (Heap.later hp1 h4x1) (Nat.le_trans hp1.le h2x1) (fun b hb => Nat.lt_of_lt_of_le (Heap.lts hp1 b hb) h2x1) h3x1
  refine gsC 1 [.det (pt kx1 0)] [0] [0] (fun L _ => [.bool false, pt kx1 0, pt kx1 0] ++ U 14) (fun L => [(kx1, BC bs0 32)]) hpx1 ⟨
    oA,
    trivial⟩ (fun L1 _ w2 hp2 ha2 => ?_)
  refine wpList_nil ?_
  refine k2 _ _ ?_
  refine wp_seq_k (fun K3 k3 => ?_)
  refine wp_seq_k (fun K4 k4 => ?_)
  refine gs [.det (pt kx1 0), .det (.bool false)] [0, 1] [0, 1] (fun L => [.bool false, pt kx1 0, pt kx1 0, pt kx1 0, .bool false] ++ U 12) (fun L => [(kx1, BC bs0 32)]) hp2 ⟨
    oM, oW (u := pt kx1 0) (v := .pointer none) (r := .bool false) (fun w => guardPt _ _ _ _ _ w) (fun w => eqlPt _ w),
    trivial⟩ (fun L2 w3 hp3 => ?_)
  refine k4 _ _ ?_
  refine wp_cond_false (by kernel_rfl) ?_
  refine skips ?_
  refine k3 _ _ ?_
  refine wp_seq_k (fun K5 k5 => ?_)
  refine wp_region_list ?_
  refine gsC 1 [.det (pt kx1 0)] [0] [0] (fun L _ => [.bool false, pt kx1 0, pt kx1 0, pt kx1 0, .bool false, pt kx1 0] ++ U 11) (fun L => [(kx1, BC bs0 32)]) hp3 ⟨
    oM,
    trivial⟩ (fun L3 _ w4 hp4 ha4 => ?_)
  refine oneL rfl rfl (wp_callG (vs := #[pt kx1 0, .int .u8 1, .slice none 0 0]) (R := fun v x => v = .tuple #[] ∧ Chg kx1 w4 x ∧ Box x kx1 (BC bs1 32)) (Calls.mono (tellP kx1 bs0 1 (fun _ => 0) none 0 0 _ (hp4.bound 0 rfl).2 (By.begS _ _) (by decide) AtK.nil (Nat.le_refl _) (fun j hj => absurd hj (Nat.not_lt_zero j)) (by decide)) (fun e x ⟨h1, h2, h3⟩ => ⟨_, h1, rfl, h2, h3⟩)) (fun vx2 x2 ⟨hvx2, h2x2, h3x2⟩ => ?_))
  subst hvx2
  have hpx2 := Heap.chg (H1 := []) (H2 := []) hp4 h2x2 h3x2
  refine wpList_nil ?_
  refine k5 _ _ ?_
  refine wp_seq_k (fun K6 k6 => ?_)
  refine gs [.det (pt kx1 0), .turn 0 (RV (askN bs1 1)) (BC (askS bs1 1) 32), .det (RV 0), .det (.bool true), .det (.bool true), .det (pt kx1 0), .det (VB (askS bs1 1) 32), .det (VB (fun _ => 0) 32), .det (.bool true), .det (.bool true), .det (.bool true)] [0, 1, 2, 3, 4, 5, 6, 7, 8, 9, 10] [0, 1, 0, 7, 15, 31, 63, 31, 255, 511, 1023] (fun L => [.bool true, pt kx1 0, pt kx1 0, pt kx1 0, .bool false, pt kx1 0, .tuple #[], pt kx1 0, RV (askN bs1 1), RV 0, .bool true, .bool true, pt kx1 0, VB (askS bs1 1) 32, VB (fun _ => 0) 32, .bool true, .bool true]) (fun L => [(kx1, BC (askS bs1 1) 32)]) hpx2 ⟨
    oM, oTu (fun w hb hx => askP kx1 bs1 1 w hx (By.tellS _ _ _ _) (by decide)), oD buildRn, oW (u := RV (askN bs1 1)) (v := RV 0) (r := .bool true) (fun w => guardR _ _ _ _ _ w) (fun w => neqRd (by rw [eN]; decide +kernel) w),
    oM, oM, oCT (fun w hs => stateP (hs.base 0 _ _ rfl (by kernel_rfl))), oD buildB32n, oW (u := VB (askS bs1 1) 32) (v := VB (fun _ => 0) 32) (r := .bool true) (fun w => guardA _ _ _ _ _ w) (fun w => neqAd (by rw [eS]; decide) w),
    oP, oA,
    trivial⟩ (fun L4 w5 hp5 => ?_)
  refine k6 _ _ ?_
  refine wp_ret ?_
  refine bodyPost_ret (v := .bool true) ?_ rfl ?_
  · exact res_t rfl (by kernel_rfl) _
  · exact ⟨rfl, hp5.bel⟩
def ligI (p : Option Addr) (n c : Nat) (w : World)  : Nat → Act → World → Prop := fun L a' w' => ∃ (m : Nat) (d : Nat → Value),
  a' = { tmps := ([.slice p n c] ++ (D d 1 2 ++ ([.int .i64 ((m : Nat) : Int)] ++ D d 4 16)) : List Value).toArray, defers := [] } ∧ m + L = n ∧ Heap w.heap.size w w' []

set_option maxHeartbeats 4000000 in
theorem lightT (u : Tur) (p : Option Addr) (n c : Nat) (w : World) (hT : TuAt w p n u) (hn : n ≤ 12) (hl : ∀ i, i < n → u.bn i ≤ 200) : Calls Try.prog 6 #[.slice p n c] w (Ret (.bool true) w) := by
  have hp0 := Heap.start w
  go_enter Try.func6, Try.ntmps6
  refine wp_seq_k (fun K1 k1 => ?_)
  refine gs [.det (.bool false)] [0] [0] (fun L => [.slice p n c, undef, .bool false] ++ U 17) (fun L => []) hp0 ⟨
    oA,
    trivial⟩ (fun L0 w1 hp1 => ?_)
  refine k1 _ _ ?_
  refine wp_seq_k (fun K2 k2 => ?_)
  refine wp_seq_k (fun K3 k3 => ?_)
  refine gs [.det (.slice p n c), .det (.int .i64 n), .det (.bool false)] [0, 1, 2] [0, 1, 3] (fun L => [.slice p n c, undef, .bool false, undef, .slice p n c, .int .i64 n, .bool false] ++ U 13) (fun L => []) hp1 ⟨
    oM, fun h => ⟨ob_len (p := p) (n := n) (c := c) (fun _ => rfl) h rfl (fun _ => by kernel_rfl) Try.underlying22⟩, oJ .i64 .i64 n 12 (h := fun w => (gtrI _ _ _ w).trans (by rw [decide_eq_false (by omega)])),
    trivial⟩ (fun L1 w2 hp2 => ?_)
  refine k3 _ _ ?_
  refine wp_cond_false (by kernel_rfl) ?_
  refine skips ?_
  refine k2 _ _ ?_
  refine wp_seq_k (fun K4 k4 => ?_)
  refine wp_seq_k (fun K5 k5 => ?_)
  refine gs [.det (.int .i64 0)] [0] [0] (fun L => [.slice p n c, undef, .bool false, .int .i64 0, .slice p n c, .int .i64 n, .bool false] ++ U 13) (fun L => []) hp2 ⟨
    oA,
    trivial⟩ (fun L2 w3 hp3 => ?_)
  refine k5 _ _ ?_
  refine wp_block_k (fun K6 k6 => ?_)
  refine wp_loop_ghost (ligI p n c w ) n ⟨0, (fun zz => ([.slice p n c, undef, .bool false, .int .i64 0, .slice p n c, .int .i64 n, .bool false] ++ U 13 : List Value).getD zz undef), by kernel_rfl, Nat.zero_add _, hp3⟩ ?_
  rintro L a' W ⟨m, d, rfl, hL, hJ⟩
  by_cases hL0 : L = 0
  rotate_left
  · skip
    have hm : m < n := by omega
    obtain ⟨b0, o0, ep, hc0, hc1, hc2⟩ := hT.at_ m hm
    have hlm := hl m hm
    refine wp_seq_k (fun K7 k7 => ?_)
    refine wp_seq_k (fun K8 k8 => ?_)
    refine gs [.det (.int .i64 ((m : Nat) : Int)), .det (.slice p n c), .det (.int .i64 n), .det (.bool true)] [0, 1, 2, 3] [0, 0, 2, 7] (fun L => [.slice p n c] ++ (D d 1 2 ++ ([.int .i64 ((m : Nat) : Int)] ++ (D d 4 3 ++ ([.int .i64 ((m : Nat) : Int), .slice p n c, .int .i64 n, .bool true] ++ D d 11 9))))) (fun L => []) hJ ⟨
      oM, oM, fun h => ⟨ob_len (p := p) (n := n) (c := c) (fun _ => rfl) h rfl (fun _ => by kernel_rfl) Try.underlying22⟩, oJ .i64 .i64 ((m : Nat) : Int) n (h := fun w => (lssI _ _ _ w).trans (by rw [decide_eq_true (by omega)])),
      trivial⟩ (fun L3 w4 hp4 => ?_)
    refine k8 _ _ ?_
    refine wp_cond_true (by kernel_rfl) ?_
    refine skips ?_
    refine k7 _ _ ?_
    refine wp_seq_k (fun K9 k9 => ?_)
    refine wp_block_k (fun K10 k10 => ?_)
    refine wp_seq_k (fun K11 k11 => ?_)
    refine gs [.det (.slice p n c), .det (.int .i64 ((m : Nat) : Int)), .det (.pointer (some ⟨b0, o0 + m * 3, none⟩)), .det (.pointer (some ⟨b0, o0 + m * 3 + 2, none⟩)), .det (.slice (u.bp m) (u.bn m) (u.bc m)), .det (.int .i64 (u.bn m)), .det (.bool false)] [0, 1, 2, 3, 4, 5, 6] [0, 0, 3, 7, 15, 31, 63] (fun L => [.slice p n c] ++ (D d 1 2 ++ ([.int .i64 ((m : Nat) : Int)] ++ (D d 4 3 ++ ([.int .i64 ((m : Nat) : Int), .slice p n c, .int .i64 n, .bool true] ++ (D d 11 2 ++ [.slice p n c, .int .i64 ((m : Nat) : Int), .pointer (some ⟨b0, o0 + m * 3, none⟩), .pointer (some ⟨b0, o0 + m * 3 + 2, none⟩), .slice (u.bp m) (u.bn m) (u.bc m), .int .i64 (u.bn m), .bool false])))))) (fun L => []) hp4 ⟨
      oM, oM, oIP (n := n) (c := c) (sz := 3) m ep Try.underlying22 sizeTu hm, oF fTu2, oLT oneYS (fun w hs => cell_up hc2 hs.bel), fun h => ⟨ob_len (p := (u.bp m)) (n := (u.bn m)) (c := (u.bc m)) (fun _ => rfl) h rfl (fun _ => by kernel_rfl) Try.underlying29⟩,
      oJ .i64 .i64 (u.bn m) 200 (h := fun w => (gtrI _ _ _ w).trans (by rw [decide_eq_false (by omega)])),
      trivial⟩ (fun L4 w5 hp5 => ?_)
    refine k11 _ _ ?_
    refine wp_cond_false (by kernel_rfl) ?_
    refine skips ?_
    refine k10 _ _ _ ?_
    refine block_normal ?_
    refine k9 _ _ ?_
    refine gs [.det (.int .i64 ((m : Nat) : Int)), .det (.int .i64 ((m + 1 : Nat) : Int)), .det (.int .i64 ((m + 1 : Nat) : Int))] [0, 1, 2] [0, 1, 3] (fun L => [.slice p n c] ++ (D d 1 2 ++ ([.int .i64 ((m + 1 : Nat) : Int)] ++ (D d 4 3 ++ [.int .i64 ((m : Nat) : Int), .slice p n c, .int .i64 n, .bool true, .int .i64 ((m : Nat) : Int), .int .i64 ((m + 1 : Nat) : Int), .slice p n c, .int .i64 ((m : Nat) : Int), .pointer (some ⟨b0, o0 + m * 3, none⟩), .pointer (some ⟨b0, o0 + m * 3 + 2, none⟩), .slice (u.bp m) (u.bn m) (u.bc m), .int .i64 (u.bn m), .bool false])))) (fun L => []) hp5 ⟨
      oM, oJ .i64 .i64 ((m : Nat) : Int) 1 (h := fun w => add1N _ (m) (by omega) w), oA,
      trivial⟩ (fun L5 w6 hp6 => ?_)
    exact ⟨L - 1, by omega, m + 1, (fun zz => ([.slice p n c] ++ (D d 1 2 ++ ([.int .i64 ((m + 1 : Nat) : Int)] ++ (D d 4 3 ++ [.int .i64 ((m : Nat) : Int), .slice p n c, .int .i64 n, .bool true, .int .i64 ((m : Nat) : Int), .int .i64 ((m + 1 : Nat) : Int), .slice p n c, .int .i64 ((m : Nat) : Int), .pointer (some ⟨b0, o0 + m * 3, none⟩), .pointer (some ⟨b0, o0 + m * 3 + 2, none⟩), .slice (u.bp m) (u.bn m) (u.bc m), .int .i64 (u.bn m), .bool false]))) : List Value).getD zz undef), by kernel_rfl, by omega, hp6⟩
  obtain rfl : n = m := by omega
  refine wp_seq_k (fun K12 k12 => ?_)
  refine wp_seq_k (fun K13 k13 => ?_)
  refine gs [.det (.int .i64 ((n : Nat) : Int)), .det (.slice p n c), .det (.int .i64 n), .det (.bool false)] [0, 1, 2, 3] [0, 0, 2, 7] (fun L => [.slice p n c] ++ (D d 1 2 ++ ([.int .i64 ((n : Nat) : Int)] ++ (D d 4 3 ++ ([.int .i64 ((n : Nat) : Int), .slice p n c, .int .i64 n, .bool false] ++ D d 11 9))))) (fun L => []) hJ ⟨
    oM, oM, fun h => ⟨ob_len (p := p) (n := n) (c := c) (fun _ => rfl) h rfl (fun _ => by kernel_rfl) Try.underlying22⟩, oJ .i64 .i64 ((n : Nat) : Int) n (h := fun w => (lssI _ _ _ w).trans (by rw [decide_eq_false (by omega)])),
    trivial⟩ (fun L6 w7 hp7 => ?_)
  refine k13 _ _ ?_
  refine wp_cond_false (by kernel_rfl) ?_
  refine wp_exit ?_
  refine then_exit ?_
  refine then_exit ?_
  refine k6 _ _ _ ?_
  refine exit_in ?_
  refine k4 _ _ ?_
  refine wp_seq_k (fun K14 k14 => ?_)
  refine gs [.det (.bool true)] [0] [0] (fun L => [.slice p n c, d 1, .bool true, .int .i64 ((n : Nat) : Int)] ++ (D d 4 3 ++ ([.int .i64 ((n : Nat) : Int), .slice p n c, .int .i64 n, .bool false] ++ D d 11 9))) (fun L => []) hp7 ⟨
    oA,
    trivial⟩ (fun L7 w8 hp8 => ?_)
  refine k14 _ _ ?_
  refine wp_ret ?_
  refine bodyPost_ret (v := .bool true) ?_ rfl ?_
  · exact res_t rfl (by kernel_rfl) _
  · exact ⟨rfl, hp8.bel⟩
theorem lightF (p : Option Addr) (n c : Nat) (w : World) (hn : 12 < n) : Calls Try.prog 6 #[.slice p n c] w (Ret (.bool false) w) := by
  have hp0 := Heap.start w
  go_enter Try.func6, Try.ntmps6
  refine wp_seq_k (fun K1 k1 => ?_)
  refine gs [.det (.bool false)] [0] [0] (fun L => [.slice p n c, undef, .bool false] ++ U 17) (fun L => []) hp0 ⟨
    oA,
    trivial⟩ (fun L0 w1 hp1 => ?_)
  refine k1 _ _ ?_
  refine wp_seq_k (fun K2 k2 => ?_)
  refine wp_seq_k (fun K3 k3 => ?_)
  refine gs [.det (.slice p n c), .det (.int .i64 n), .det (.bool true)] [0, 1, 2] [0, 1, 3] (fun L => [.slice p n c, undef, .bool false, undef, .slice p n c, .int .i64 n, .bool true] ++ U 13) (fun L => []) hp1 ⟨
    oM, fun h => ⟨ob_len (p := p) (n := n) (c := c) (fun _ => rfl) h rfl (fun _ => by kernel_rfl) Try.underlying22⟩, oJ .i64 .i64 n 12 (h := fun w => (gtrI _ _ _ w).trans (by rw [decide_eq_true (by omega)])),
    trivial⟩ (fun L1 w2 hp2 => ?_)
  refine k3 _ _ ?_
  refine wp_cond_true (by kernel_rfl) ?_
  refine wp_seq_k (fun K4 k4 => ?_)
  refine gs [.det (.bool false)] [0] [0] (fun L => [.slice p n c, undef, .bool false, undef, .slice p n c, .int .i64 n, .bool true] ++ U 13) (fun L => []) hp2 ⟨
    oA,
    trivial⟩ (fun L2 w3 hp3 => ?_)
  refine k4 _ _ ?_
  refine wp_ret ?_
  refine bodyPost_ret (v := .bool false) ?_ rfl ?_
  · exact res_t rfl (by kernel_rfl) _
  · exact ⟨rfl, hp3.bel⟩
def ligJ (p : Option Addr) (n c j0 : Nat) (w : World)  : Nat → Act → World → Prop := fun L a' w' => ∃ (m : Nat) (d : Nat → Value),
  a' = { tmps := ([.slice p n c] ++ (D d 1 2 ++ ([.int .i64 ((m : Nat) : Int)] ++ D d 4 16)) : List Value).toArray, defers := [] } ∧ m + L = j0 ∧ Heap w.heap.size w w' []

set_option maxHeartbeats 4000000 in
theorem lightG (u : Tur) (p : Option Addr) (n c : Nat) (j0 : Nat) (w : World) (hT : TuAt w p n u) (hn : n ≤ 12) (hj : j0 < n) (hl : ∀ i, i < j0 → u.bn i ≤ 200) (hg : 200 < u.bn j0) : Calls Try.prog 6 #[.slice p n c] w (Ret (.bool false) w) := by
  have hp0 := Heap.start w
  go_enter Try.func6, Try.ntmps6
  refine wp_seq_k (fun K1 k1 => ?_)
  refine gs [.det (.bool false)] [0] [0] (fun L => [.slice p n c, undef, .bool false] ++ U 17) (fun L => []) hp0 ⟨
    oA,
    trivial⟩ (fun L0 w1 hp1 => ?_)
  refine k1 _ _ ?_
  refine wp_seq_k (fun K2 k2 => ?_)
  refine wp_seq_k (fun K3 k3 => ?_)
  refine gs [.det (.slice p n c), .det (.int .i64 n), .det (.bool false)] [0, 1, 2] [0, 1, 3] (fun L => [.slice p n c, undef, .bool false, undef, .slice p n c, .int .i64 n, .bool false] ++ U 13) (fun L => []) hp1 ⟨
    oM, fun h => ⟨ob_len (p := p) (n := n) (c := c) (fun _ => rfl) h rfl (fun _ => by kernel_rfl) Try.underlying22⟩, oJ .i64 .i64 n 12 (h := fun w => (gtrI _ _ _ w).trans (by rw [decide_eq_false (by omega)])),
    trivial⟩ (fun L1 w2 hp2 => ?_)
  refine k3 _ _ ?_
  refine wp_cond_false (by kernel_rfl) ?_
  refine skips ?_
  refine k2 _ _ ?_
  refine wp_seq_k (fun K4 k4 => ?_)
  refine wp_seq_k (fun K5 k5 => ?_)
  refine gs [.det (.int .i64 0)] [0] [0] (fun L => [.slice p n c, undef, .bool false, .int .i64 0, .slice p n c, .int .i64 n, .bool false] ++ U 13) (fun L => []) hp2 ⟨
    oA,
    trivial⟩ (fun L2 w3 hp3 => ?_)
  refine k5 _ _ ?_
  refine wp_block_k (fun K6 k6 => ?_)
  refine wp_loop_ghost (ligJ p n c j0 w ) j0 ⟨0, (fun zz => ([.slice p n c, undef, .bool false, .int .i64 0, .slice p n c, .int .i64 n, .bool false] ++ U 13 : List Value).getD zz undef), by kernel_rfl, Nat.zero_add _, hp3⟩ ?_
  rintro L a' W ⟨m, d, rfl, hL, hJ⟩
  by_cases hL0 : L = 0
  rotate_left
  · skip
    have hm : m < j0 := by omega
    have hmn : m < n := by omega
    have hlm := hl m hm
    replace hm := hmn
    obtain ⟨b0, o0, ep, hc0, hc1, hc2⟩ := hT.at_ m hm
    refine wp_seq_k (fun K7 k7 => ?_)
    refine wp_seq_k (fun K8 k8 => ?_)
    refine gs [.det (.int .i64 ((m : Nat) : Int)), .det (.slice p n c), .det (.int .i64 n), .det (.bool true)] [0, 1, 2, 3] [0, 0, 2, 7] (fun L => [.slice p n c] ++ (D d 1 2 ++ ([.int .i64 ((m : Nat) : Int)] ++ (D d 4 3 ++ ([.int .i64 ((m : Nat) : Int), .slice p n c, .int .i64 n, .bool true] ++ D d 11 9))))) (fun L => []) hJ ⟨
      oM, oM, fun h => ⟨ob_len (p := p) (n := n) (c := c) (fun _ => rfl) h rfl (fun _ => by kernel_rfl) Try.underlying22⟩, oJ .i64 .i64 ((m : Nat) : Int) n (h := fun w => (lssI _ _ _ w).trans (by rw [decide_eq_true (by omega)])),
      trivial⟩ (fun L3 w4 hp4 => ?_)
    refine k8 _ _ ?_
    refine wp_cond_true (by kernel_rfl) ?_
    refine skips ?_
    refine k7 _ _ ?_
    refine wp_seq_k (fun K9 k9 => ?_)
    refine wp_block_k (fun K10 k10 => ?_)
    refine wp_seq_k (fun K11 k11 => ?_)
    refine gs [.det (.slice p n c), .det (.int .i64 ((m : Nat) : Int)), .det (.pointer (some ⟨b0, o0 + m * 3, none⟩)), .det (.pointer (some ⟨b0, o0 + m * 3 + 2, none⟩)), .det (.slice (u.bp m) (u.bn m) (u.bc m)), .det (.int .i64 (u.bn m)), .det (.bool false)] [0, 1, 2, 3, 4, 5, 6] [0, 0, 3, 7, 15, 31, 63] (fun L => [.slice p n c] ++ (D d 1 2 ++ ([.int .i64 ((m : Nat) : Int)] ++ (D d 4 3 ++ ([.int .i64 ((m : Nat) : Int), .slice p n c, .int .i64 n, .bool true] ++ (D d 11 2 ++ [.slice p n c, .int .i64 ((m : Nat) : Int), .pointer (some ⟨b0, o0 + m * 3, none⟩), .pointer (some ⟨b0, o0 + m * 3 + 2, none⟩), .slice (u.bp m) (u.bn m) (u.bc m), .int .i64 (u.bn m), .bool false])))))) (fun L => []) hp4 ⟨
      oM, oM, oIP (n := n) (c := c) (sz := 3) m ep Try.underlying22 sizeTu hm, oF fTu2, oLT oneYS (fun w hs => cell_up hc2 hs.bel), fun h => ⟨ob_len (p := (u.bp m)) (n := (u.bn m)) (c := (u.bc m)) (fun _ => rfl) h rfl (fun _ => by kernel_rfl) Try.underlying29⟩,
      oJ .i64 .i64 (u.bn m) 200 (h := fun w => (gtrI _ _ _ w).trans (by rw [decide_eq_false (by omega)])),
      trivial⟩ (fun L4 w5 hp5 => ?_)
    refine k11 _ _ ?_
    refine wp_cond_false (by kernel_rfl) ?_
    refine skips ?_
    refine k10 _ _ _ ?_
    refine block_normal ?_
    refine k9 _ _ ?_
    refine gs [.det (.int .i64 ((m : Nat) : Int)), .det (.int .i64 ((m + 1 : Nat) : Int)), .det (.int .i64 ((m + 1 : Nat) : Int))] [0, 1, 2] [0, 1, 3] (fun L => [.slice p n c] ++ (D d 1 2 ++ ([.int .i64 ((m + 1 : Nat) : Int)] ++ (D d 4 3 ++ [.int .i64 ((m : Nat) : Int), .slice p n c, .int .i64 n, .bool true, .int .i64 ((m : Nat) : Int), .int .i64 ((m + 1 : Nat) : Int), .slice p n c, .int .i64 ((m : Nat) : Int), .pointer (some ⟨b0, o0 + m * 3, none⟩), .pointer (some ⟨b0, o0 + m * 3 + 2, none⟩), .slice (u.bp m) (u.bn m) (u.bc m), .int .i64 (u.bn m), .bool false])))) (fun L => []) hp5 ⟨
      oM, oJ .i64 .i64 ((m : Nat) : Int) 1 (h := fun w => add1N _ (m) (by omega) w), oA,
      trivial⟩ (fun L5 w6 hp6 => ?_)
    exact ⟨L - 1, by omega, m + 1, (fun zz => ([.slice p n c] ++ (D d 1 2 ++ ([.int .i64 ((m + 1 : Nat) : Int)] ++ (D d 4 3 ++ [.int .i64 ((m : Nat) : Int), .slice p n c, .int .i64 n, .bool true, .int .i64 ((m : Nat) : Int), .int .i64 ((m + 1 : Nat) : Int), .slice p n c, .int .i64 ((m : Nat) : Int), .pointer (some ⟨b0, o0 + m * 3, none⟩), .pointer (some ⟨b0, o0 + m * 3 + 2, none⟩), .slice (u.bp m) (u.bn m) (u.bc m), .int .i64 (u.bn m), .bool false]))) : List Value).getD zz undef), by kernel_rfl, by omega, hp6⟩
  obtain rfl : j0 = m := by omega
  have hm : j0 < n := hj
  obtain ⟨b0, o0, ep, hc0, hc1, hc2⟩ := hT.at_ j0 hm
  refine wp_seq_k (fun K12 k12 => ?_)
  refine wp_seq_k (fun K13 k13 => ?_)
  refine gs [.det (.int .i64 ((j0 : Nat) : Int)), .det (.slice p n c), .det (.int .i64 n), .det (.bool true)] [0, 1, 2, 3] [0, 0, 2, 7] (fun L => [.slice p n c] ++ (D d 1 2 ++ ([.int .i64 ((j0 : Nat) : Int)] ++ (D d 4 3 ++ ([.int .i64 ((j0 : Nat) : Int), .slice p n c, .int .i64 n, .bool true] ++ D d 11 9))))) (fun L => []) hJ ⟨
    oM, oM, fun h => ⟨ob_len (p := p) (n := n) (c := c) (fun _ => rfl) h rfl (fun _ => by kernel_rfl) Try.underlying22⟩, oJ .i64 .i64 ((j0 : Nat) : Int) n (h := fun w => (lssI _ _ _ w).trans (by rw [decide_eq_true (by omega)])),
    trivial⟩ (fun L6 w7 hp7 => ?_)
  refine k13 _ _ ?_
  refine wp_cond_true (by kernel_rfl) ?_
  refine skips ?_
  refine k12 _ _ ?_
  refine wp_seq_k (fun K14 k14 => ?_)
  refine wp_block_k (fun K15 k15 => ?_)
  refine wp_seq_k (fun K16 k16 => ?_)
  refine gs [.det (.slice p n c), .det (.int .i64 ((j0 : Nat) : Int)), .det (.pointer (some ⟨b0, o0 + j0 * 3, none⟩)), .det (.pointer (some ⟨b0, o0 + j0 * 3 + 2, none⟩)), .det (.slice (u.bp j0) (u.bn j0) (u.bc j0)), .det (.int .i64 (u.bn j0)), .det (.bool true)] [0, 1, 2, 3, 4, 5, 6] [0, 0, 3, 7, 15, 31, 63] (fun L => [.slice p n c] ++ (D d 1 2 ++ ([.int .i64 ((j0 : Nat) : Int)] ++ (D d 4 3 ++ ([.int .i64 ((j0 : Nat) : Int), .slice p n c, .int .i64 n, .bool true] ++ (D d 11 2 ++ [.slice p n c, .int .i64 ((j0 : Nat) : Int), .pointer (some ⟨b0, o0 + j0 * 3, none⟩), .pointer (some ⟨b0, o0 + j0 * 3 + 2, none⟩), .slice (u.bp j0) (u.bn j0) (u.bc j0), .int .i64 (u.bn j0), .bool true])))))) (fun L => []) hp7 ⟨
    oM, oM, oIP (n := n) (c := c) (sz := 3) j0 ep Try.underlying22 sizeTu hm, oF fTu2, oLT oneYS (fun w hs => cell_up hc2 hs.bel), fun h => ⟨ob_len (p := (u.bp j0)) (n := (u.bn j0)) (c := (u.bc j0)) (fun _ => rfl) h rfl (fun _ => by kernel_rfl) Try.underlying29⟩,
    oJ .i64 .i64 (u.bn j0) 200 (h := fun w => (gtrI _ _ _ w).trans (by rw [decide_eq_true (by omega)])),
    trivial⟩ (fun L7 w8 hp8 => ?_)
  refine k16 _ _ ?_
  refine wp_cond_true (by kernel_rfl) ?_
  refine wp_seq_k (fun K17 k17 => ?_)
  refine gs [.det (.bool false)] [0] [0] (fun L => [.slice p n c, d 1, .bool false, .int .i64 ((j0 : Nat) : Int)] ++ (D d 4 3 ++ ([.int .i64 ((j0 : Nat) : Int), .slice p n c, .int .i64 n, .bool true] ++ (D d 11 2 ++ [.slice p n c, .int .i64 ((j0 : Nat) : Int), .pointer (some ⟨b0, o0 + j0 * 3, none⟩), .pointer (some ⟨b0, o0 + j0 * 3 + 2, none⟩), .slice (u.bp j0) (u.bn j0) (u.bc j0), .int .i64 (u.bn j0), .bool true])))) (fun L => []) hp8 ⟨
    oA,
    trivial⟩ (fun L8 w9 hp9 => ?_)
  refine k17 _ _ ?_
  refine wp_ret ?_
  refine k15 _ _ _ ?_
  refine k6 _ _ _ ?_
  refine bodyPost_ret (v := .bool false) ?_ rfl ?_
  · exact res_t rfl (by kernel_rfl) _
  · exact ⟨rfl, hp9.bel⟩
end Go.Proofs.Ytccidmogamnihaa.fpn
