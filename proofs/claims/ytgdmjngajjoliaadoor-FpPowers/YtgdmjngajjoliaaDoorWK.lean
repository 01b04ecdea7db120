/- A slice that the call itself made and appends to; what the document's Cut and limb answer. -/
import Derived.Test.YtgdmjngajjoliaaDoorBA
import Derived.Laws.AppendOwnNone
namespace Go.Proofs.YtgdmjngajjoliaaDoor
open Go.RowKit

/-- The slice value v, of n numbers f of kind k, lies in a block of the call's own, from number B on (or is nil and empty). -/
def Own (w : World) (B e : Nat) (k : IntKind) (v : Value) (n : Nat) (f : Nat → Int) : Prop := w.ownsRow B e 1 v n ((List.range n).map fun j => .int k (f j))

theorem Own.nil (w : World) (B e : Nat) (k : IntKind) (f : Nat → Int) : Own w B e k (.slice none 0 0) 0 f := World.ownsRow_nil w B e 1
theorem Own.empty (w : World) {B : Nat} (e : Nat) (k : IntKind) (f : Nat → Int) (hB : B ≤ w.heap.size) : Own (w.alloc (.cells #[] e)) B e k (.slice (some ⟨w.heap.size, 0, none⟩) 0 0) 0 f :=
  World.ownsRow_lit w #[] 0 hB (Nat.zero_le _) rfl
theorem Own.congr {w : World} {B e : Nat} {k : IntKind} {v : Value} {n : Nat} {f g : Nat → Int} (h : Own w B e k v n f) (hfg : ∀ i, i < n → f i = g i) : Own w B e k v n g := by
  have : ((List.range n).map fun j => Value.int k (f j)) = (List.range n).map fun j => Value.int k (g j) :=
    List.map_congr_left fun j hj => by rw [hfg j (by simpa using hj)]
  unfold Own at *
  rwa [this] at h

theorem Own.form {w : World} {B e : Nat} {k : IntKind} {v : Value} {n : Nat} {f : Nat → Int} (h : Own w B e k v n f) :
    (v = .slice none 0 0 ∧ n = 0) ∨ ∃ g cap, v = .slice (some ⟨g, 0, none⟩) n cap ∧ B ≤ g ∧ g < w.heap.size ∧ n ≤ cap ∧ cap ≤ 9223372036854775807 ∧ MutK k w g 0 n f := by
  rcases h.2 with h | ⟨g, cap, cur, rfl, hB, hg, hn, hm, hs, ht⟩
  · exact Or.inl h
  · refine Or.inr ⟨g, cap, rfl, hB, ?_, hn, hm, fun j hj => ?_⟩
    · rcases Nat.lt_or_ge g w.heap.size with c | c
      · exact c
      · rw [Array.getElem?_eq_none c] at hg; simp at hg
    · rw [Nat.mul_one] at ht hs
      have e1 : cur[j]? = some (.int k (f j)) := by
        have e2 : (cur.toList.take n)[j]? = some (.int k (f j)) := by rw [ht]; simp [hj]
        rw [List.getElem?_take_of_lt hj] at e2
        simpa using e2
      rw [Nat.zero_add]
      refine ⟨?_, ?_⟩
      · unfold World.cell?
        simp only [hg]
        simpa using e1
      · unfold World.frozen?
        simp only [hg]
        simp

theorem Own.below {w w' : World} {B e : Nat} {k : IntKind} {v : Value} {n : Nat} {f : Nat → Int} (h : Own w B e k v n f) (hb : Below w.heap.size w w') : Own w' B e k v n f := by
  refine ⟨h.1, ?_⟩
  rcases h.2 with h2 | ⟨g, cap, cur, hv, hB, hg, r⟩
  · exact Or.inl h2
  · refine Or.inr ⟨g, cap, cur, hv, hB, ?_, r⟩
    rw [hb.block g ?_]
    · exact hg
    · rcases Nat.lt_or_ge g w.heap.size with c | c
      · exact c
      · rw [Array.getElem?_eq_none c] at hg; simp at hg

/-- f, and g behind the first n. -/
def cat (f : Nat → Int) (n : Nat) (g : Nat → Int) : Nat → Int := fun j => if j < n then f j else g (j - n)
theorem cat_lo {f g : Nat → Int} {n j : Nat} (h : j < n) : cat f n g j = f j := by unfold cat; rw [if_pos h]
theorem cat_hi {f g : Nat → Int} {n j : Nat} (h : n ≤ j) : cat f n g j = g (j - n) := by unfold cat; rw [if_neg (by omega)]

theorem cat_list (k : IntKind) (f g : Nat → Int) (n m : Nat) :
    ((List.range n).map fun j => Value.int k (f j)) ++ ((List.range m).map fun j => Value.int k (g j)) = (List.range (n + m)).map fun j => Value.int k (cat f n g j) := by
  rw [List.range_add, List.map_append, List.map_map]
  congr 1
  · exact List.map_congr_left fun j hj => by rw [cat_lo (by simpa using hj)]
  · exact List.map_congr_left fun j _ => by
      show Value.int k (g j) = Value.int k (cat f n g (n + j))
      rw [cat_hi (by omega), show n + j - n = j by omega]

theorem ownBlock_ge {w : World} {B e : Nat} {k : IntKind} {v : Value} {n : Nat} {f : Nat → Int} (h : Own w B e k v n f) : ∀ j, v.ownBlock = some j → B ≤ j := fun j hj => (World.ownsRow.lt h j hj).1

/-- append(s, x...), s a slice of the call's own. -/
theorem wpList_append_lim {P : Program} {w : World} {ops : Array Oper} {rest : List Oper} {o : Oper} {a : Act} {Q : Exit → Act → World → Prop} (k : IntKind) (hgd : o.guard = none) (s x : Operand) (t : TypeId)
    (ho : o.op = .call { callee := .builtin .append, args := #[s, x], argTypes := #[t, t] }) (B e : TypeId) (i : TypeInfo) (ht : P.underlying t = some (.slice e)) (hi : P.info? e = some i) (hz : i.zero = some (.int k 0)) (hsize : i.size = 1) (hby : i.bytes ≤ 8)
    (v : Value) (n : Nat) (f : Nat → Int) (hs : a.eval s = v) (hown : Own w B e k v n f) (ps : Option Addr) (ns cs : Nat) (fs : Nat → Int) (hx : a.eval x = .slice ps ns cs) (hat : AtK k w ps ns fs) (hle : n + ns ≤ 2000000) (hB : B ≤ w.heap.size)
    (hK : ∀ v' w', Own w' B e k v' (n + ns) (cat f n fs) → Below B w w' → wpList P ops Q rest (a.put o.dst v') w') : wpList P ops Q (o :: rest) a w := by
  by_cases h0 : ns = 0
  · subst h0
    cases ps with
    | none =>
      refine wpList_plain hgd fun K hK' => ?_
      have hrun : (Builtin.append_ #[t, t] o.type #[v, .slice none 0 cs]).run P w = .ok v w := by
        rcases hown.2 with ⟨rfl, rfl⟩ | ⟨g, cap, cur, rfl, _, _, hnc, _⟩
        · simp [Builtin.append_, run_underlying ht, sizeOf, typeInfo, hi, Builtin.lenOf, Builtin.firstCells]
        · simp [Builtin.append_, run_underlying ht, sizeOf, typeInfo, hi, Builtin.lenOf, Builtin.firstCells, hnc, storeCells]
      unfold Oper.wp
      simp [execOp, ho, resolve, invoke, builtin, hs, hx, hrun, Result.andThen]
      exact hK' _ _ (hK v w (hown.congr fun j hj => (cat_lo hj).symm) (Below.refl _ _))
    | some ad =>
      refine wpList_append_own w hgd s x t ho B e i (.int k 0) 1 i.bytes ht hi hz hsize rfl rfl (by decide) v n _ hs hown ad 0 cs [] hx rfl (by simp) (by simp) (by unfold maxLen; omega) (by have := Nat.mul_le_mul hle hby; omega) hB ?_
      intro v' w' h1 h2 _
      refine hK v' w' ?_ ((Below.refl _ _).grown h2 hB (ownBlock_ge hown))
      rw [List.append_nil] at h1
      exact (show Own w' B e k v' n f from h1).congr fun j hj => (cat_lo hj).symm
  · obtain ⟨b, off, rfl, hc⟩ := hat (by omega)
    refine wpList_append_own w hgd s x t ho B e i (.int k 0) 1 i.bytes ht hi hz hsize rfl rfl (by decide) v n _ hs hown ⟨b, off, none⟩ ns cs ((List.range ns).map fun j => .int k (fs j)) hx (by simp) ?_ (fun u hu => by simp at hu; obtain ⟨j, _, rfl⟩ := hu; rfl) (by unfold maxLen; omega) (by have := Nat.mul_le_mul hle hby; omega) hB ?_
    · intro j u hj
      rw [add_addr]
      by_cases hlt : j < ns
      · simp [hlt] at hj
        rw [← hj]; exact hc j hlt
      · simp [List.getElem?_eq_none (show (List.range ns).length ≤ j by simpa using hlt)] at hj
    · intro v' w' h1 h2 _
      refine hK v' w' ?_ ((Below.refl _ _).grown h2 hB (ownBlock_ge hown))
      rw [cat_list] at h1
      exact h1

theorem refLimb_any (p : Option Addr) (n cap : Nat) (f : Nat → Int) (i : Nat) (w : World) (hn : n ≤ 17592186044416) (hi : i ≤ 17592186044416) (hc : At w p n f) :
    Calls Tryd.prog 63 #[.slice p n cap, .int .i64 i] w fun e w' => e = .returned (.int .u64 (lm f n i)) ∧ w' = w := by
  by_cases h : i < n
  · obtain ⟨b, off, rfl, hcell⟩ := hc (by omega)
    have hm1 := hcell i h
    have E : Hid _ := lm_in (f := f) h
    clear hcell hc
    go_enter Tryd.func63, Tryd.ntmps63
    go_wp2
    go_ret
    exact ⟨by rw [E.out]; rfl, rfl⟩
  · have E : Hid _ := lm_out (f := f) (n := n) (i := i) (by omega)
    clear hc
    go_enter Tryd.func63, Tryd.ntmps63
    go_wp2
    go_ret
    exact ⟨by rw [E.out]; rfl, rfl⟩

/-- A slice in new memory, nil or not, that is the number x with no nought on top. -/
def NewP (w w' : World) (v : Value) (N : Nat) (x : Int) : Prop :=
  Below w.heap.size w w' ∧ ∃ (p : Option Addr) (n c : Nat) (h : Nat → Int), v = .slice p n c ∧ n ≤ c ∧ c ≤ 9223372036854775807 ∧ n ≤ N ∧ At w' p n h ∧ Rg h n ∧ Nm h n ∧ val h n = x

theorem Own.newP {w w' : World} {e : Nat} {v : Value} {n N : Nat} {f : Nat → Int} {x : Int} (h : Own w' w.heap.size e .u64 v n f) (hb : Below w.heap.size w w') (hN : n ≤ N) (r : Rg f n) (m : Nm f n) (hv : val f n = x) : NewP w w' v N x := by
  rcases h.form with ⟨rfl, rfl⟩ | ⟨g, cap, rfl, _, _, h1, h2, h3⟩
  · exact ⟨hb, none, 0, 0, f, rfl, Nat.le_refl _, by decide, hN, AtK.nil, r, m, hv⟩
  · exact ⟨hb, _, n, cap, f, rfl, h1, h2, hN, h3.at, r, m, hv⟩

theorem cut_own (p : Option Addr) (n cap : Nat) (f : Nat → Int) (w : World) (hn : n ≤ cap) (_hcap : cap ≤ 9223372036854775807) (hc : At w p n f) (hN : n ≤ 1000000) :
    Calls Tryd.prog 51 #[.slice p n cap] w fun e w' => ∃ v, e = .returned v ∧ Below w.heap.size w w' ∧ Own w' w.heap.size 22 .u64 v (tl f n) f := by
  obtain ⟨i0, hi0, hz0, hz1, hz2⟩ := info_parts info64
  go_enter Tryd.func51, Tryd.ntmps51
  go_wp2
  go_loop [3] (fun i => ∃ k : Nat, k ≤ n ∧ i = .int .i64 k ∧ tl f k = tl f n) (fun i => (intOf i).toNat)
  case atStart => exact ⟨n, Nat.le_refl _, rfl, rfl⟩
  case round =>
    obtain ⟨k, hk, rfl, ht⟩ := hrel
    have fin : ∀ j, tl f j = j → j ≤ n → tl f j = tl f n → ∀ v' w', Own w' w.heap.size 22 .u64 v' (0 + j) (cat f 0 f) → Own w' w.heap.size 22 .u64 v' (tl f n) f := fun j h1 h2 h3 v' w' h => by
      rw [← h3, h1]
      rw [Nat.zero_add] at h
      exact h.congr fun i _ => by rw [cat_hi (Nat.zero_le _), Nat.sub_zero]
    have FIN : Hid _ := fin
    have HT : Hid _ := ht
    have e0 := Own.empty w 22 .u64 f (Nat.le_refl w.heap.size)
    clear fin ht
    cases k with
    | zero =>
      go_wp2_with (at_builtin; refine wpList_append_lim .u64 rfl (.tmp 18) (.tmp 21) 30 (by rfl) w.heap.size 22 i0 Tryd.underlying30 hi0 hz0 hz1 (by omega) _ 0 f (by rfl) e0 p 0 cap f (by rfl) AtK.nil (by omega) (by simp) ?_; intro v' w' ho hb)
      go_ret
      exact ⟨_, rfl, (below_one w _).trans hb, FIN.out 0 rfl (Nat.zero_le _) HT.out _ _ ho⟩
    | succ k =>
      obtain ⟨b, off, rfl, hcell⟩ := hc (by omega)
      have hm1 := hcell k (by omega)
      have hsrc : AtK .u64 (w.alloc (.cells #[] 22)) (some ⟨b, off, none⟩) (k + 1) f := (AtK.mono hc (show k + 1 ≤ n by omega)).below (below_one w _)
      by_cases hz : f k = 0
      · have hz' : (f k == 0) = true := by simpa using hz
        have HZ : Hid _ := hz
        clear hz hcell hsrc
        go_wp2
        go_round
        case rel => exact ⟨k, by omega, by go_num, by rw [← HT.out, tl, if_pos HZ.out]⟩
        case measure => simp [intOf]
      · have hz' : (f k == 0) = false := by simpa using hz
        have HZ : Hid _ := hz
        clear hz hcell
        go_wp2_with (at_builtin; refine wpList_append_lim .u64 rfl (.tmp 18) (.tmp 21) 30 (by rfl) w.heap.size 22 i0 Tryd.underlying30 hi0 hz0 hz1 (by omega) _ 0 f (by rfl) e0 (some ⟨b, off, none⟩) (k + 1) cap f (by rfl) hsrc (by omega) (by simp) ?_; intro v' w' ho hb)
        go_ret
        exact ⟨_, rfl, (below_one w _).trans hb, FIN.out (k + 1) (by rw [tl, if_neg HZ.out]) (by omega) HT.out _ _ ho⟩
end Go.Proofs.YtgdmjngajjoliaaDoor
