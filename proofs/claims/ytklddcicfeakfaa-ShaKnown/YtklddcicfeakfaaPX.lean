/- A region whose last operations come behind all the others, one behind the other. No program is named here. -/
import Derived.Test.YtklddcicfeakfaaPR
namespace Go.Proofs.Ytklddcicfeakfaa.Pl
open Go Go.RowKit
set_option linter.unusedVariables false
set_option linter.unusedSimpArgs false

section
variable {P : Program} {ops : Array Oper} {ks : List Kind} {T : List Nat} {a0 : Act} {B : Nat} {w0 W0 : World} {H : List (Nat × List Value)} {Q : Exit → Act → World → Prop}

theorem step2 {nt nh : Nat} (hc : chk ops ks T nt nh = true) (hnt : nt = a0.tmps.size) (hnh : nh = H.length)
    (hB : B ≤ W0.heap.size) (hH : ∀ p ∈ H, B ≤ p.1 ∧ p.1 < W0.heap.size) (hnd : (H.map (·.1)).Nodup)
    {L : Lt} {listed : Array Bool} {a : Act} {w : World} {i : Nat} (I : Inv ops ks T a0 B w0 W0 H L listed a w) (hr : i ∈ Region.ready .any ops listed) (hobi : ∀ o, ops[i]? = some o → Ob P ops ks T a0 B w0 H i o) :
    wpOp P ops Q i (fun a' w' => ∃ L', Inv ops ks T a0 B w0 W0 H L' (listed.setIfInBounds i true) a' w') a w := by
  obtain ⟨hut, o, ho, hall⟩ := mem_ready.1 hr
  have hio : i < ops.size := (Array.getElem?_eq_some_iff.1 ho).1
  have hi : i < listed.size := by rw [I.sz]; exact hio
  have hun : listed.getD i false = false := by simp [hi] at hut ⊢; exact hut
  have S := stat hc ho
  have hall' : ∀ j ∈ aft ops i, listed.getD j false = true := fun j hj => by
    unfold aft at hj
    rw [ho] at hj
    simp only [Option.map_some, Option.getD_some, List.mem_map, List.mem_filter] at hj
    obtain ⟨e, ⟨he, hb⟩, rfl⟩ := hj
    exact hall e (by simpa using he) hb
  have hbef := listed_of_bef I S hall'
  have hex : execOp a.eval o = execOp (rd ops ks T a0 L i) o := execOp_congr o S.sel (eval_rd I S hun hbef)
  have hw := wanted_rd hc hnt I S hbef
  have hsn := seen (nt := nt) (nh := nh) I hun hB hbef
  have ob := hobi o ho
  have ob := ob L w hsn
  have sz' : (listed.setIfInBounds i true).size = ops.size := by simp [I.sz]
  have cl' := cl_next (nt := nt) (nh := nh) I hi hbef
  have hnb : ∀ j, j ≠ i → listed.getD j false = true → bef T j i = false := fun j _ hl => by
    cases h : bef T j i with
    | false => rfl
    | true => have := I.cl j hl i h; rw [hun] at this; cases this
  have hst : ∀ j, listed.getD j false = true → ∃ oj, ops[j]? = some oj := fun j hl => by
    have : j < ops.size := by
      rw [← I.sz]
      by_cases h : j < listed.size
      · exact h
      · simp [Array.getElem?_eq_none (Nat.le_of_not_lt h)] at hl
    exact ⟨ops[j], Array.getElem?_eq_getElem this⟩
  unfold wpOp
  simp only [ho, hw]
  by_cases hwt : wantedR ks L o = true
  · rw [if_pos hwt] at ob ⊢
    refine .inl ?_
    unfold Oper.wp
    rw [hex]
    cases hk : kd ks i with
    | det v =>
      rw [hk] at ob
      refine Runs.upon ob fun u w' ⟨hu, hb⟩ => ⟨L, sz', cl', ?_, ?_⟩
      · exact I.F.next S hnt ho hi (fun d _ => hu) (fun j _ _ => rfl)
      · exact I.M.quiet hi hB hb (by simp [isStore, hk]) (by simp [isAlloc, hk]) (fun C => by rw [hk]; simp)
    | detB k v =>
      rw [hk] at ob
      refine Runs.upon ob fun u w' ⟨hu, hb⟩ => ⟨L, sz', cl', ?_, ?_⟩
      · exact I.F.next S hnt ho hi (fun d _ => hu) (fun j _ _ => rfl)
      · exact I.M.quiet hi hB hb (by simp [isStore, hk]) (by simp [isAlloc, hk]) (fun C => by rw [hk]; simp)
    | detV k v =>
      rw [hk] at ob
      refine Runs.upon ob fun u w' ⟨hu, hb⟩ => ⟨L, sz', cl', ?_, ?_⟩
      · exact I.F.next S hnt ho hi (fun d _ => hu) (fun j _ _ => rfl)
      · exact I.M.quiet hi hB hb (by simp [isStore, hk]) (by simp [isAlloc, hk]) (fun C => by rw [hk]; simp)
    | any C =>
      rw [hk] at ob
      refine Runs.upon ob.2 fun u w' ⟨hu, hb⟩ => ⟨L.setV i u, sz', cl', ?_, ?_⟩
      · refine I.F.next S hnt ho hi (fun d _ => ?_) (fun j hj hl => ?_)
        · unfold val; rw [hk]; simp [Lt.setV]
        · obtain ⟨oj, hoj⟩ := hst j hl
          exact val_setV (stat hc hoj) hj (hnb j hj hl)
      · exact I.M.letter hi hun hB hb hk hu ob.1
    | alloc cs =>
      rw [hk] at ob
      obtain ⟨ty, hrun⟩ := ob
      rw [hrun]
      refine ⟨L.setB i w.heap.size, sz', cl', ?_, ?_⟩
      · refine I.F.next S hnt ho hi (fun d _ => ?_) (fun j hj hl => ?_)
        · unfold val; rw [hk]; simp [Lt.setB]
        · obtain ⟨oj, hoj⟩ := hst j hl
          exact val_setB (stat hc hoj) hj (hnb j hj hl)
      · refine I.M.made hi hun hB hk fun s hs => ?_
        obtain ⟨off, ds, new, hks⟩ := st_spec hs
        cases hl : listed.getD s false with
        | false => rfl
        | true =>
          obtain ⟨os, hos⟩ := hst s hl
          have := (stat hc hos).sto _ _ _ _ hks
          have := I.cl s hl i (this.2.2.2.1 i rfl).1
          rw [hun] at this; cases this
    | store l off cs new =>
      rw [hk] at ob
      obtain ⟨hlen, hsp, hrun⟩ := ob
      obtain ⟨hgd, hdn, hsl, hnw, hbs⟩ := S.sto _ _ _ _ hk
      have hnew : ∀ j, l = .new j → listed.getD j false = true ∧ isAlloc ks j = true := fun j e => ⟨hbef j (hnw j e).1, (hnw j e).2⟩
      have hM := I.M.stored hi hun hk hsl hnew (fun k e => by rw [← hnh]; exact hbs k e) hB hH hnd hlen hsp
      have hth : w.there (addr H L l) off cs.length := by
        have hcur : ∀ x, cur ks listed l x = x := fun x => by unfold cur; simp [hsl, hun]
        have hbox : Box w (addr H L l) (oldOf ks H l) := by
          cases l with
          | base k =>
            have hk' : k < H.length := by rw [← hnh]; exact hbs k rfl
            have hp : H[k]? = some (H.getD k (0, [])) := by simp [List.getD, List.getElem?_eq_getElem hk']
            have := I.M.hb k _ hp
            rw [hcur] at this
            exact this
          | new j =>
            obtain ⟨hl, hal⟩ := hnew j rfl
            unfold isAlloc at hal
            split at hal
            · rename_i ds hd
              have := I.M.hn j ds hd hl
              rw [hcur] at this
              simp only [oldOf, hd, addr]
              exact this.2
            · cases hal
        intro j hj
        have := hbox.free (off + j) (by omega)
        simpa using this
      rw [hrun hth]
      refine ⟨L, sz', cl', ?_, hM⟩
      exact I.F.next S hnt ho hi (fun d hd => by rw [hdn] at hd; cases hd) (fun j _ _ => rfl)
  · have hwf : wantedR ks L o = false := by simpa using hwt
    rw [if_neg hwt] at ob
    simp only [hwf, Bool.false_eq_true, if_false]
    refine ⟨L, sz', cl', ?_, ?_⟩
    · refine I.F.next S hnt ho hi (fun d _ => ?_) (fun j _ _ => rfl)
      unfold val; rw [ob]
    · exact I.M.quiet hi hB (Below.refl _ _) (by simp [isStore, ob]) (by simp [isAlloc, ob]) (fun C => by rw [ob]; simp)


theorem aft_mem {i : Nat} {o : Oper} (ho : ops[i]? = some o) {e : Edge} (he : e ∈ o.after) (hb : Region.binds .any e = true) : e.on ∈ aft ops i := by
  unfold aft
  rw [ho]
  simp only [Option.map_some, Option.getD_some, List.mem_map, List.mem_filter]
  exact ⟨e, ⟨by simpa using he, hb⟩, rfl⟩
theorem ready_aft {listed : Array Bool} {i j : Nat} (hr : i ∈ Region.ready .any ops listed) (hj : j ∈ aft ops i) : listed.getD j false = true := by
  obtain ⟨_, o, ho, hall⟩ := mem_ready.1 hr
  unfold aft at hj
  rw [ho] at hj
  simp only [Option.map_some, Option.getD_some, List.mem_map, List.mem_filter] at hj
  obtain ⟨e, ⟨he, hb⟩, rfl⟩ := hj
  exact hall e (by simpa using he) hb
theorem ready_un {listed : Array Bool} {i : Nat} (hs : listed.size = ops.size) (hr : i ∈ Region.ready .any ops listed) : i < ops.size ∧ listed.getD i false = false := by
  obtain ⟨h0, o, ho, _⟩ := mem_ready.1 hr
  have hlt := (Array.getElem?_eq_some_iff.1 ho).1
  exact ⟨hlt, by simp [hs, hlt] at h0 ⊢; exact h0⟩
theorem ready_of {listed : Array Bool} {i : Nat} (hs : listed.size = ops.size) (hlt : i < ops.size) (hu : listed.getD i false = false) (hall : ∀ j ∈ aft ops i, listed.getD j false = true) : i ∈ Region.ready .any ops listed :=
  mem_ready.2 ⟨by simp [hs, hlt] at hu ⊢; exact hu, ops[i], Array.getElem?_eq_getElem hlt, fun e he hb => hall e.on (aft_mem (Array.getElem?_eq_getElem hlt) he hb)⟩
theorem seq_tail {nt nh k : Nat} (hc : chk ops ks T nt nh = true) (hdir : ∀ i, k < i → i < ops.size → (i - 1) ∈ aft ops i) :
    ∀ (m j fuel : Nat) (listed : Array Bool) (a : Act) (w : World), j + m = ops.size → k ≤ j → m ≤ fuel → listed.size = ops.size → (∀ i, listed.getD i false = decide (i < j)) → wpOps P ops Q (List.range' j m) a w → wpAny P .any ops Q fuel listed a w
  | 0, j, fuel, listed, a, w, hj, hk, hf, hs, hl, h => by
    have hr : Region.ready .any ops listed = [] := by
      cases h : Region.ready .any ops listed with
      | nil => rfl
      | cons x xs =>
        have hx : x ∈ Region.ready .any ops listed := by rw [h]; simp
        obtain ⟨h1, h2⟩ := ready_un hs hx
        rw [hl] at h2
        simp at h2
        omega
    cases fuel with
    | zero => exact ⟨hr, h⟩
    | succ f => exact ⟨fun _ => h, fun i hi => by rw [hr] at hi; cases hi⟩
  | m + 1, j, 0, listed, a, w, hj, hk, hf, hs, hl, h => by omega
  | m + 1, j, f + 1, listed, a, w, hj, hk, hf, hs, hl, h => by
    have hlt : j < ops.size := by omega
    have hjr : j ∈ Region.ready .any ops listed := ready_of hs hlt (by rw [hl]; simp) fun x hx => by
      have := (stat hc (Array.getElem?_eq_getElem hlt)).back x hx
      rw [hl]; simpa using this
    refine ⟨fun he => (by rw [he] at hjr; cases hjr), fun i hi => ?_⟩
    obtain ⟨h1, h2⟩ := ready_un hs hi
    have hij : i = j := by
      rw [hl] at h2
      have h3 : j ≤ i := by simpa using h2
      rcases Nat.lt_or_ge j i with c | c
      · have := ready_aft hi (hdir i (by omega) h1)
        rw [hl] at this
        have : i - 1 < j := by simpa using this
        omega
      · omega
    subst hij
    rw [List.range'_succ, wpOps_cons] at h
    refine wpOp_mono (fun a' w' h' => seq_tail hc hdir m (i + 1) f _ a' w' (by omega) (by omega) (by omega) (by simp [hs]) (fun x => ?_) h') h
    rw [ls_get (by rw [hs]; exact hlt)]
    split
    · rename_i e; subst e; simp
    · rw [hl]; by_cases hx : x < i <;> simp [hx] <;> omega
def slotK (ops : Array Oper) (ks : List Kind) (a0 : Act) (L : Lt) (k t : Nat) : Value :=
  match own ops t with
  | none => a0.tmps.getD t undef
  | some j => if Nat.blt j k then val ks L j else a0.tmps.getD t undef
/-- The first k by their plan, the others as they stand. -/
theorem drawnT {id nt nh k : Nat} (hm : P.follows .mixedOrders = true) (hc : chk ops ks T nt nh = true) (hnt : nt = a0.tmps.size) (hnh : nh = H.length) (hHp : Heap B w0 W0 H) (hk : k < ops.size)
    (hno : (List.range ks.length).all (fun s => !isStore ks s) = true) (hob : ∀ i o, i < k → ops[i]? = some o → Ob P ops ks T a0 B w0 H i o) (hkall : ∀ j, j < k → bef T k j = true) (hdir : ∀ i, k < i → i < ops.size → (i - 1) ∈ aft ops i)
    (hQ : ∀ L w, Heap B w0 w H → (∀ j C, j < k → kd ks j = .any C → C (L.v j) w) → wpOps P ops Q (List.range' k (ops.size - k)) { tmps := ((List.range a0.tmps.size).map (slotK ops ks a0 L k)).toArray, defers := a0.defers } w) :
    (Code.region id ops true).wp P Q a0 W0 := by
  refine wp_region_any hm ?_
  have hst : ∀ s, isStore ks s = true → False := fun s hs => by
    have := List.all_eq_true.1 hno s (by simpa using isStore_lt hs)
    rw [hs] at this; cases this
  have main : ∀ (fuel : Nat) (listed : Array Bool) (a : Act) (w : World) (L : Lt), Inv ops ks T a0 B w0 W0 H L listed a w → (∀ j, k ≤ j → listed.getD j false = false) → ((List.range ops.size).filter fun i => !listed.getD i false).length ≤ fuel → wpAny P .any ops Q fuel listed a w := by
    intro fuel
    induction fuel with
    | zero =>
      intro listed a w L I hun hf
      have hz := List.length_eq_zero_iff.1 (Nat.le_zero.1 hf)
      have : k ∈ (List.range ops.size).filter fun i => !listed.getD i false := List.mem_filter.2 ⟨by simpa using hk, by simpa using hun k (Nat.le_refl _)⟩
      rw [hz] at this; cases this
    | succ fuel ih =>
      intro listed a w L I hun hf
      -- one of the first k that is left, or k itself, is ready
      have hex : ∃ i, i ∈ Region.ready .any ops listed := by
        have : ∀ n, (∀ i, i < n → i < ops.size → listed.getD i false = true) ∨ ∃ i, i ∈ Region.ready .any ops listed := by
          intro n
          induction n with
          | zero => exact .inl fun i hi => absurd hi (Nat.not_lt_zero _)
          | succ n ihn =>
            rcases ihn with h | h
            · rcases Nat.lt_or_ge n ops.size with c | c
              · cases hl : listed.getD n false with
                | true =>
                  refine .inl (fun i hi hlt => ?_)
                  rcases Nat.lt_or_ge i n with c' | c'
                  · exact h i c' hlt
                  · obtain rfl : i = n := by omega
                    exact hl
                | false => exact .inr ⟨n, ready_of I.sz c hl fun x hx => h x ((stat hc (Array.getElem?_eq_getElem c)).back x hx) (Nat.lt_trans ((stat hc (Array.getElem?_eq_getElem c)).back x hx) c)⟩
              · exact .inl fun i hi hlt => h i (by omega) hlt
            · exact .inr h
        rcases this ops.size with h | h
        · have := h k hk hk
          rw [hun k (Nat.le_refl _)] at this; cases this
        · exact h
      refine ⟨fun he => (by obtain ⟨i, hi⟩ := hex; rw [he] at hi; cases hi), fun i hi => ?_⟩
      obtain ⟨hlt, hu⟩ := ready_un I.sz hi
      have hil : i < listed.size := by rw [I.sz]; exact hlt
      rcases Nat.lt_or_ge i k with c | c
      · refine wpOp_mono (fun a' w' ⟨L', I'⟩ => ih _ a' w' L' I' (fun j hj => ?_) ?_) (step2 hc hnt hnh hHp.le (Heap.bounds hHp) hHp.nd I hi (fun o ho => hob i o c ho))
        · rw [ls_get hil, if_neg (by omega)]; exact hun j hj
        · have e : ((List.range ops.size).filter fun j => !(listed.setIfInBounds i true).getD j false) = ((List.range ops.size).filter fun j => !listed.getD j false).filter (fun j => j != i) := by
            rw [List.filter_filter]
            congr 1
            funext j
            rw [ls_get hil]
            by_cases h : j = i <;> simp [h]
          rw [e]
          have hm : i ∈ (List.range ops.size).filter fun j => !listed.getD j false := List.mem_filter.2 ⟨by simpa using hlt, by simpa using hu⟩
          have : (((List.range ops.size).filter fun j => !listed.getD j false).filter (fun j => j != i)).length < ((List.range ops.size).filter fun j => !listed.getD j false).length := by
            refine List.length_filter_lt_length_iff_exists.2 ⟨i, hm, by simp⟩
          omega
      · have hik : i = k := by
          rcases Nat.lt_or_ge k i with c' | c'
          · have := ready_aft hi (hdir i c' hlt)
            rw [hun (i - 1) (by omega)] at this; cases this
          · omega
        subst hik
        obtain ⟨_, o, ho, _⟩ := mem_ready.1 hi
        have hall := listed_of_bef I (stat hc ho) (fun j hj => ready_aft hi hj)
        have hl : ∀ j, listed.getD j false = decide (j < i) := fun j => by
          by_cases h : j < i
          · rw [hall j (hkall j h)]; simp [h]
          · rw [hun j (by omega)]; simp [h]
        have hbox : Heap B w0 w H := ⟨I.M.bl, fun p hp => by
            obtain ⟨x, hx⟩ := List.getElem?_of_mem hp
            have := I.M.hb x p hx
            rw [cur_none (fun s hs => (hst s hs).elim)] at this
            exact ⟨(hHp.box p hp).1, this⟩, hHp.nd, Nat.le_trans hHp.le I.M.le⟩
        have hq := hQ L w hbox (fun j C hj hkj => I.M.an (fun s hs => (hst s hs).elim) j C hkj (by rw [hl]; simpa using hj))
        have ha : a = { tmps := ((List.range a0.tmps.size).map (slotK ops ks a0 L i)).toArray, defers := a0.defers } := by
          obtain ⟨tm, df⟩ := a
          have h1 : df = a0.defers := I.F.df
          have h2 : tm.size = a0.tmps.size := I.F.ts
          subst h1
          congr 1
          apply Array.ext
          · simp [h2]
          · intro t h3 h4
            have h5 := I.F.fr t
            have e1 : tm.getD t undef = tm[t] := by simp [h3]
            have e2 : slot ops ks a0 L listed t = slotK ops ks a0 L i t := by
              unfold slot slotK
              cases hw : own ops t with
              | none => rfl
              | some j =>
                simp only [hl j]
                by_cases hji : j < i
                · have : Nat.blt j i = true := by simpa using hji
                  simp [hji, this]
                · have : Nat.blt j i = false := by
                    cases hb : Nat.blt j i with
                    | false => rfl
                    | true => exact absurd (by simpa using hb) hji
                  simp [hji, this]
            have h6 : tm[t] = slotK ops ks a0 L i t := by rw [← e1, ← e2]; exact h5
            rw [h6]
            simp
        rw [← ha] at hq
        exact (seq_tail hc hdir (ops.size - i) i (fuel + 1) listed a w (by omega) (Nat.le_refl _) (by
          have : (List.range' i (ops.size - i)).length ≤ ((List.range ops.size).filter fun j => !listed.getD j false).length := by
            refine List.Sublist.length_le ?_
            have e : List.range ops.size = List.range i ++ List.range' i (ops.size - i) := by
              have h := @List.range_add i (ops.size - i)
              rw [show i + (ops.size - i) = ops.size by omega] at h
              rw [h, List.range'_eq_map_range]
            rw [e, List.filter_append]
            have e2 : (List.range' i (ops.size - i)).filter (fun j => !listed.getD j false) = List.range' i (ops.size - i) := by
              refine List.filter_eq_self.2 fun x hx => ?_
              have hx' := (List.mem_range'_1.1 hx).1
              rw [hl x]
              simp; omega
            rw [e2]
            exact List.sublist_append_right _ _
          simp only [List.length_range'] at this
          omega) I.sz hl hq).2 i hi
  refine main _ _ _ _ ⟨fun _ => undef, fun _ => 0⟩ (Inv.start hHp (Below.refl _ _).drew rfl _) (fun j hj => ?_) ?_
  · by_cases h : j < ops.size
    · simp [h]
    · simp [Array.getElem?_eq_none, h]
  · exact Nat.le_trans (List.length_filter_le _ _) (by simp)
theorem dT {id nt : Nat} (k : Nat) (ks : List Kind) (N T : List Nat) (A : Lt → List Value) (hHp : Heap B w0 W0 H) (hob : AllOb2 P ops ks T a0 B w0 H N (ops.toList.take k) (ks.take k))
    (hQ : ∀ L w, Heap B w0 w H → (∀ j C, j < k → kd ks j = .any C → C (L.v j) w) → wpOps P ops Q (List.range' k (ops.size - k)) { tmps := (A L).toArray, defers := [] } w)
    (hm : P.follows .mixedOrders = true := by kernel_rfl) (hnt : nt = a0.tmps.size := by exact rfl) (hc : chk ops ks T nt H.length = true := by kernel_rfl) (hdf : a0.defers = [] := by exact rfl)
    (hA : ∀ L, (List.range nt).map (slotK ops ks a0 L k) = A L := by intro _; kernel_rfl) (hN : N = List.range' 0 (ops.toList.take k).length := by kernel_rfl) (hk : Nat.blt k ops.size = true := by kernel_rfl) (hno : (List.range ks.length).all (fun s => !isStore ks s) = true := by kernel_rfl)
    (hkall : (List.range k).all (fun j => bef T k j) = true := by kernel_rfl) (hdir : (List.range ops.size).all (fun i => Nat.ble i k || (aft ops i).contains (i - 1)) = true := by kernel_rfl) :
    (Code.region id ops true).wp P Q a0 W0 := by
  have hk' : k < ops.size := by simpa using hk
  have hks := chk_len hc
  refine drawnT hm hc hnt rfl hHp hk' hno (fun i o hi ho => ?_) (fun j hj => List.all_eq_true.1 hkall j (by simpa using hj)) (fun i hi hs => ?_) (fun L w h ha => ?_)
  · have h := AllOb2.to _ 0 N (ks.take k) hN (fun j hj => ?_) hob
    · have hl : (ops.toList.take k)[i]? = some o := by rw [List.getElem?_take_of_lt hi]; simpa using ho
      have := AllOb.at _ 0 i o h hl
      rwa [Nat.zero_add] at this
    · rw [Nat.zero_add]
      have hj' : j < k := by
        have := hj
        rw [List.length_take] at this
        omega
      unfold kd
      rw [List.getD_eq_getElem?_getD, List.getD_eq_getElem?_getD, List.getElem?_take_of_lt hj']
  · have := List.all_eq_true.1 hdir i (by simpa using hs)
    simp only [Bool.or_eq_true, List.contains_iff_mem] at this
    rcases this with h | h
    · exact absurd (Nat.le_of_ble_eq_true h) (by omega)
    · exact h
  · rw [← hnt, hA L, hdf]
    exact hQ L w h ha
theorem wpOp_of {i : Nat} {o : Oper} {a : Act} {w : World} {K : Act → World → Prop} (ho : ops[i]? = some o) (hg : o.guard = none) (h : o.wp P a w K Q) : wpOp P ops Q i K a w := by
  unfold wpOp
  rw [ho]
  simp only [Region.wanted, hg]
  exact .inl h
theorem wp_assign {o : Oper} {x : Operand} {v : Value} {a : Act} {w : World} {K : Act → World → Prop} (ho : o.op = .assign x) (hx : a.eval x = v) (h : K (a.put o.dst v) w) : o.wp P a w K Q := by
  unfold Oper.wp execOp
  simp only [ho, hx]
  exact h
theorem tail2 {k : Nat} {a : Act} {w : World} (hr : List.range' k (ops.size - k) = [k, k + 1]) (h : wpOp P ops Q k (fun a' w' => wpOp P ops Q (k + 1) (fun a'' w'' => Q .normal a'' w'') a' w') a w) : wpOps P ops Q (List.range' k (ops.size - k)) a w := by
  rw [hr, wpOps_cons]
  refine wpOp_mono (fun a' w' h' => ?_) h
  rw [wpOps_cons]
  exact h'
section
variable {i : Nat} {o : Oper}
/-- The lesser of two numbers. -/
theorem oMn {x y : Operand} {ts : Array TypeId} {m n r : Nat} (hr : min m n = r) (hw : ∀ L, wantedR ks L o = true := by intro _; kernel_rfl) (ho : o.op = .call { callee := .builtin .min, args := #[x, y], argTypes := ts } := by exact rfl)
    (hx : ∀ L, rd ops ks T a0 L i x = .int .i64 (m : Int) := by intro _; kernel_rfl) (hy : ∀ L, rd ops ks T a0 L i y = .int .i64 (n : Int) := by intro _; kernel_rfl) (hk : kd ks i = .det (.int .i64 (r : Int))) : Obl P ops ks T a0 B w0 H i o := ⟨ob_pure hw hk fun L w => by
    have e : (if n < m then (n : Int) else (m : Int)) = (r : Int) := by subst hr; split <;> omega
    unfold execOp
    simp [ho, resolve, hx L, hy L, invoke, builtin, Builtin.min_, Builtin.min2, Sem.run_bind, e]⟩
/-- The front of a slice. -/
theorem oSS {t e : TypeId} {x h : Operand} {p : Option Addr} {len c n sz : Nat} (hu : P.underlying t = some (.slice e)) (hs : (P.info? e).map (·.size) = some sz) (hn : n ≤ c) (hw : ∀ L, wantedR ks L o = true := by intro _; kernel_rfl) (ho : o.op = .slice t x none (some h) none := by exact rfl)
    (hx : ∀ L, rd ops ks T a0 L i x = .slice p len c := by intro _; kernel_rfl) (hy : ∀ L, rd ops ks T a0 L i h = .int .i64 (n : Int) := by intro _; kernel_rfl) (hk : kd ks i = .det (.slice p n c)) : Obl P ops ks T a0 B w0 H i o := ⟨ob_pure hw hk fun L w => by
    have h1 : (0 : Int) ≤ (n : Int) ∧ (n : Int) ≤ (c : Int) := ⟨by omega, by omega⟩
    have hsz : (sizeOf e).run P w = .ok sz w := by
      cases hi : P.info? e with
      | none => simp [hi] at hs
      | some inf =>
        have : inf.size = sz := by simpa [hi] using hs
        simp [sizeOf, typeInfo, Sem.run_bind, hi, this]
    have e0 : ∀ a : Addr, a.add 0 = a := fun a => by unfold Addr.add; simp
    unfold execOp
    cases p <;> simp [ho, hx L, hy L, Instr.sliceAt, Instr.slice, Instr.sliceBounds, Instr.sliceBound, asIntOf, Sem.run_bind, run_underlying hu, hsz, hn, e0]⟩
end
end
end Go.Proofs.Ytklddcicfeakfaa.Pl
