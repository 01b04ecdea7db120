/- Texts laid together. -/
import Derived.Test.YtmibajbpimcfnaaGreatDoorGX
import Derived.Laws.AppendOwn
import Derived.Test.YtmibajbpimcfnaaGreatDoorGC
import Derived.Test.YtmibajbpimcfnaaGreatDoorGA
import Derived.Test.YtmibajbpimcfnaaGreatDoorGO
set_option linter.unusedVariables false
set_option linter.unusedSimpArgs false
set_option maxRecDepth 4000
/- Rows of bytes of one's own; a region's last operations. -/
namespace Go.Proofs.YtmibajbpimcfnaaGreatDoor.fpn
open Go.RowKit Pl EC
theorem Heap.later {B:Nat} {w0 w x:World} {H:List (Nat × List Value)} (h:Heap B w0 w H) (hb:Below w.heap.size w x):Heap B w0 x H :=
 ⟨h.bel.trans (hb.mono h.le),fun p hp=>⟨(h.box p hp).1,(h.box p hp).2.up hb⟩,h.nd,Nat.le_trans h.le hb.size⟩
theorem Heap.lts {B:Nat} {w0 w:World} {H:List (Nat × List Value)} (h:Heap B w0 w H):∀ b∈H.map (·.1),b<w.heap.size:=fun b hb=>by
 obtain ⟨p,hp,rfl⟩:=List.mem_map.1 hb
 exact (h.box p hp).2.lt
section
variable {ops:Array Oper} {Q:Exit→Act→World→Prop}
theorem tail3 {k:Nat} {a:Act} {w:World} (hr:List.range' k (ops.size-k)=[k,k+1,k+2]) (h:wpOp Tryz.prog ops Q k (fun a1 w1=>wpOp Tryz.prog ops Q (k+1) (fun a2 w2=>wpOp Tryz.prog ops Q (k+2) (fun a3 w3=>Q .normal a3 w3) a2 w2) a1 w1) a w):wpOps Tryz.prog ops Q (List.range' k (ops.size-k)) a w:=by
 rw [hr,wpOps_cons]
 refine wpOp_mono (fun a' w' h'=>?_) h
 rw [wpOps_cons]
 refine wpOp_mono (fun a' w' h'=>?_) h'
 rw [wpOps_cons]
 exact h'
theorem wp_callB {o:Oper} {a:Act} {w:World} {K:Act→World→Prop} {fn:FuncId} {xs:Array Operand} {ts:Array TypeId} {vs:Array Value} {f:Nat→Int} {n:Nat} (h:Calls Tryz.prog fn vs w (RetB f n w))
  (hK:∀ k c x,n≤c→c≤9223372036854775807→w.heap.size≤k→Below w.heap.size w x→Box x k (BC f n)→K (a.put o.dst (.slice (some ⟨k,0,none⟩) n c)) x)
  (hf:plainF Tryz.prog fn=true:=by kernel_rfl) (ho:o.op=.call { callee:=.value (.func fn),args:=xs,argTypes:=ts }:=by exact rfl) (hx:xs.map a.eval=vs:=by kernel_rfl):o.wp Tryz.prog a w K Q:=by
 have this:(execOp a.eval o).run Tryz.prog w=.ok (.enter fn vs) w:=by
  unfold execOp
  simp only [ho,resolve,hx,Deferred.ofValue,Act.eval,Sem.run_bind,Sem.run_pure,Result.andThen_ok,Array.empty_append,run_enter hf]
 unfold Oper.wp
 rw [this]
 refine Runs.upon (R:=fun v x=>∃ k c,v=.slice (some ⟨k,0,none⟩) n c∧n≤c∧c≤9223372036854775807∧w.heap.size≤k∧Below w.heap.size w x∧Box x k (BC f n)) (Calls.mono h fun e x hx=>?_) fun v x hx=>?_
 ·obtain ⟨v,he,⟨k,c,hv,h1,h2,h3,-,h5⟩,hb⟩:=hx
  exact ⟨v,he,k,c,hv,h1,h2,h3,hb,h5⟩
 ·obtain ⟨k,c,rfl,h1,h2,h3,hb,h5⟩:=hx
  exact hK k c x h1 h2 h3 hb h5
end
def OwnY (w:World) (B:Nat) (v:Value) (f:Nat→Int) (n:Nat):Prop:=w.ownsRow B 5 1 v n (BC f n)
theorem OwnY.nil {w:World} {B:Nat} {f:Nat→Int}:OwnY w B (.slice none 0 0) f 0:=World.ownsRow_nil w B _ 1
theorem OwnY.below {w x:World} {B:Nat} {v:Value} {f:Nat→Int} {n:Nat} (h:OwnY w B v f n) (hb:Below w.heap.size w x):OwnY x B v f n:=by
 refine ⟨h.1,?_⟩
 rcases h.2 with h2 | ⟨g,cap,cur,hv,hB,hg,r⟩
 ·exact Or.inl h2
 ·refine Or.inr ⟨g,cap,cur,hv,hB,?_,r⟩
  rw [hb.block g ?_]
  ·exact hg
  ·exact (Array.getElem?_eq_some_iff.1 hg).1
theorem OwnY.congr {w:World} {B:Nat} {v:Value} {f g:Nat→Int} {n:Nat} (h:OwnY w B v f n) (e:∀ j,j<n→f j=g j):OwnY w B v g n:=by
 unfold OwnY;rw [← BC_congr e];exact h
theorem OwnY.box {w:World} {B:Nat} {v:Value} {f:Nat→Int} {n:Nat} (h:OwnY w B v f n) (h0:0<n):∃ k c,v=.slice (some ⟨k,0,none⟩) n c∧n≤c∧c≤9223372036854775807∧B≤k∧Box w k (BC f n):=by
 rcases h.2 with ⟨-,hn⟩ | ⟨g,cap,cur,rfl,hB,hg,hn,hm,hs,ht⟩
 ·omega
 ·have hc:∀ j,j<n→w.cell? ⟨g,0+j,none⟩=some (.int .u8 (f j)):=fun j hj=>by
   have e:=BC_at (f:=f) hj
   rw [← ht,List.getElem?_take_of_lt (by omega)] at e
   have e':cur[j]?=some (.int .u8 (f j)):=by simpa using e
   rw [Nat.zero_add,cell_of_row w g j cur _ _ hg];exact e'
  refine ⟨g,cap,rfl,hn,by simp only [maxLen] at hm;omega,hB,(Array.getElem?_eq_some_iff.1 hg).1,fun j v hv=>?_,fun j hj=>?_⟩
  ·have hj:j<n:=by have:=(List.getElem?_eq_some_iff.1 hv).1;rwa [BC_len] at this
   rw [BC_at hj] at hv;rw [hc j hj];exact hv
  ·rw [BC_len] at hj
   exact ⟨by rw [hc j hj];rfl,by rw [Nat.zero_add];exact frozen_of_row w g j cur _ hg⟩
def isO (B:Nat) (bs:List Nat) (f:Nat→Int) (n:Nat) (v:Value) (w:World):Prop:=∃ k,B≤k∧k≤w.heap.size∧(∀ b∈bs,b<k)∧OwnY w k v f n
theorem isO.stay {B:Nat} {bs:List Nat} {f:Nat→Int} {n:Nat} {v:Value} {w x:World} (h:isO B bs f n v w) (hb:Below w.heap.size w x):isO B bs f n v x:=by
 obtain ⟨k,h1,h2,h3,h4⟩:=h
 exact ⟨k,h1,Nat.le_trans h2 hb.size,h3,h4.below hb⟩
theorem infoY:∃ i,Tryz.prog.info? 5=some i∧i.zero=some (.int .u8 0)∧i.size=1∧i.bytes=1:=info_parts info8
theorem BC_one (f:Nat→Int) (n:Nat):∀ u∈BC f n,u.oneCell'=true:=fun u hu=>by
 obtain ⟨j,-,rfl⟩:=List.mem_map.1 hu
 rfl
theorem wp_appendY {Q:Exit→Act→World→Prop} {o:Oper} {a:Act} {w:World} {K:Act→World→Prop} (s x:Operand) (ho:o.op=.call { callee:=.builtin .append,args:=#[s,x],argTypes:=#[45,45] })
  {B:Nat} {v:Value} {f g:Nat→Int} {m n c:Nat} {ad:Addr} (hs:a.eval s=v) (hown:OwnY w B v f m) (hx:a.eval x=.slice (some ad) n c) (hc:∀ j,j<n→w.cell? (ad.add j)=some (.int .u8 (g j))) (hl:m+n≤1000) (hB:B≤w.heap.size)
  (h:∀ v' w',OwnY w' B v' (cat f m g) (m+n)→Below B w w'→K (a.put o.dst v') w'):o.wp Tryz.prog a w K Q:=by
 obtain ⟨i,hi,hz,h1,h2⟩:=infoY
 refine wp_append_own w s x 45 ho B 5 i (.int .u8 0) 1 1 Tryz.underlying45 hi hz h1 h2 rfl (by decide) v m (BC f m) hs hown ad n c (BC g n) hx (by rw [BC_len,Nat.mul_one]) (fun j u hu=>?_) (BC_one g n) (by simp only [maxLen];omega) (by omega) hB (fun v' w' ho' hgr _=>h v' w' ?_ ?_)
 ·have hj:j<n:=by have:=(List.getElem?_eq_some_iff.1 hu).1;rwa [BC_len] at this
  rw [BC_at hj] at hu;rw [hc j hj];exact hu
 ·unfold OwnY;rw [← BC_cat];exact ho'
 ·have hrow:∀ k,v.ownBlock=some k→B≤k:=fun k hk=>(World.ownsRow.lt hown k hk).1
  exact ⟨hgr.os,hgr.tape,hgr.output,hgr.size,fun k hk=>hgr.block k (by omega) (fun e=>by have:=hrow k e.symm;omega)⟩
section
variable {ops:Array Oper} {ks:List Kind} {T:List Nat} {a0:Act} {B:Nat} {w0 W0:World} {H:List (Nat × List Value)} {i:Nat} {o:Oper}
theorem oApO {x y:Operand} {f0 g:Nat→Int} {m n:Nat} (bs:List Nat) (h0:0<n) (hm:m+n≤1000)
  (hx:∀ L w,Seen ks T B w0 H L i w→∃ a,rd ops ks T a0 L i x=.slice (some a) m m∧∀ j,j<m→w.cell? (a.add j)=some (.int .u8 (f0 j)))
  (hy:∀ L w,Seen ks T B w0 H L i w→∃ a c,rd ops ks T a0 L i y=.slice (some a) n c∧∀ j,j<n→w.cell? (a.add j)=some (.int .u8 (g j)))
  (hw:∀ L,wantedR ks L o=true:=by intro _;kernel_rfl) (he:Pl.early T ks i=true:=by kernel_rfl) (ho:o.op=.call { callee:=.builtin .append,args:=#[x,y],argTypes:=#[45,45] }:=by exact rfl)
  (hb:bs=H.map (·.1):=by rfl) (hk:kd ks i=.any (isO B bs (cat f0 m g) (m+n))):Obl Tryz.prog ops ks T a0 B w0 H i o:=⟨fun L w hsn=>by
 rw [if_pos (hw L),hk]
 refine ⟨fun v w x h hb=>h.stay hb,?_⟩
 have hs:=hsn he
 obtain ⟨a,ex,hcx⟩:=hx L w hs
 obtain ⟨a',c,ey,hcy⟩:=hy L w hs
 obtain ⟨i0,hi0,hz0,hz1,hz2⟩:=infoY
 have hr:=run_append_grow (P:=Tryz.prog) (w:=w) 45 o.type 5 i0 (.int .u8 0) Tryz.underlying45 hi0 hz0 a m m (BC f0 m) (by rw [BC_len,hz1,Nat.mul_one])
  (fun j v hv=>by
   have hj:j<m:=by have:=(List.getElem?_eq_some_iff.1 hv).1;rwa [BC_len] at this
   rw [BC_at hj] at hv;rw [hcx j hj];exact hv)
  a' n c (BC g n) (by rw [BC_len,hz1,Nat.mul_one])
  (fun j v hv=>by
   have hj:j<n:=by have:=(List.getElem?_eq_some_iff.1 hv).1;rwa [BC_len] at this
   rw [BC_at hj] at hv;rw [hcy j hj];exact hv)
  (by omega) (by omega) (by rw [hz2,Nat.mul_one];have:=nextslicecap_le (need:=m+n) (old:=m) (by omega);omega)
 have this:(execOp (rd ops ks T a0 L i) o).run Tryz.prog w=.ok (.value (.slice (some ⟨w.heap.size,0,none⟩) (m+n) (grownCap w (m+n) m 5))) (w.drew.alloc (.cells ((BC f0 m).toArray++(BC g n).toArray++Builtin.zeroCells (Value.int .u8 0).cells (grownCap w (m+n) m 5-(m+n))) 5)):=by
  unfold execOp
  simp [ho,resolve,ex,ey,invoke,builtin,Sem.run_bind,hr]
 rw [this]
 have hge:=grownCap_ge w (m+n) m 5
 have hcm:grownCap w (m+n) m 5≤maxLen:=grownCap_le_maxLen w (m+n) m _ (by simp only [maxLen];omega)
 have h2:((BC f0 m).toArray++(BC g n).toArray++Builtin.zeroCells (Value.int .u8 0).cells (grownCap w (m+n) m 5-(m+n))).size=grownCap w (m+n) m 5*1:=by
  simp only [Array.size_append,List.size_toArray,size_zeroCells,BC_len,Value.cells]
  simp;omega
 have h3:((BC f0 m).toArray++(BC g n).toArray++Builtin.zeroCells (Value.int .u8 0).cells (grownCap w (m+n) m 5-(m+n))).toList.take ((m+n)*1)=BC (cat f0 m g) (m+n):=by
  have hl:(BC f0 m++BC g n).length=(m+n)*1:=by rw [List.length_append,BC_len,BC_len,Nat.mul_one]
  rw [← BC_cat,← hl]
  simp only [Array.toList_append]
  exact List.take_left
 refine ⟨⟨w.heap.size,hs.le,by simp,fun b hbm=>?_,by rw [BC_len,Nat.mul_one],.inr ⟨w.heap.size,_,_,rfl,Nat.le_refl _,heap_alloc_new w.drew _,hge,hcm,h2,h3⟩⟩,Below.alloc (Below.drew (Below.refl _ _)) (Nat.le_refl _) _⟩
 rw [hb] at hbm
 obtain ⟨p,hp,rfl⟩:=List.mem_map.1 hbm
 exact (hs.base p hp).lt⟩
end
end Go.Proofs.YtmibajbpimcfnaaGreatDoor.fpn
/- A plain region in pieces; a scope whose label is met a few times. No program is named here. -/
namespace Go.Proofs.YtmibajbpimcfnaaGreatDoor.Pl
open Go Go.RowKit
def edge (j:Nat):Edge:=⟨j,.data⟩
def renum (n:Nat):List Oper→List Oper
 | []=>[]
 | o :: r=>{ o with after:=((List.range n).map edge).toArray } :: renum (n+1) r
theorem renum_len:∀ (l:List Oper) (n:Nat),(renum n l).length=l.length
 | [],_=>rfl
 | _ :: r,n=>congrArg (·+1) (renum_len r (n+1))
theorem renum_at:∀ (l:List Oper) (n k:Nat) (o:Oper),l[k]?=some o→(renum n l)[k]?=some { o with after:=((List.range (n+k)).map edge).toArray }
 | [],_,_,_,h=>by simp at h
 | p :: r,n,0,o,h=>by
  obtain rfl:p=o:=by simpa using h
  rfl
 | p :: r,n,k+1,o,h=>by
  have:=renum_at r (n+1) k o (by simpa using h)
  rw [show n+1+k=n+(k+1) by omega] at this
  exact this
section
variable {P:Program} {ks:List Kind} {T:List Nat} {a0:Act} {B:Nat} {w0 W0:World} {H:List (Nat × List Value)} {Q:Exit→Act→World→Prop}
theorem piece {opsX:Array Oper} {l1 l2:List Oper} {nt nh:Nat} (hg:l1.all (fun o=>o.guard.isNone)=true) (hc:chk (renum 0 l1).toArray ks T nt nh=true) (hnt:nt=a0.tmps.size) (hnh:nh=H.length) (hHp:Heap B w0 W0 H) (hob:AllOb P (renum 0 l1).toArray ks T a0 B w0 H 0 (renum 0 l1))
  (hQ:∀ L w,Heap B w0 w (heapF ks H L)→((List.range ks.length).all (fun s=>!isStore ks s)=true→AnyF ks L w (List.range ks.length))→wpList P opsX Q l2 { tmps:=((List.range a0.tmps.size).map (slotF (renum 0 l1).toArray ks a0 L)).toArray,defers:=a0.defers } w) :
  wpList P opsX Q (l1++l2) a0 W0:=by
 have hsz:(renum 0 l1).toArray.size=l1.length:=by simp [renum_len]
 have main:∀ (m k:Nat) (listed:Array Bool) (a:Act) (w:World) (L:Lt),k+m=l1.length→(∀ j,listed.getD j false=decide (j<k))→Inv (renum 0 l1).toArray ks T a0 B w0 W0 H L listed a w→wpList P opsX Q (l1.drop k++l2) a w:=by
  intro m
  induction m with
  | zero =>
   intro k listed a w L hk hl I
   obtain ⟨ha,hh,hy⟩:=done hc hHp.le (Heap.bounds hHp) hHp.nd I (fun i hi=>by rw [hl];rw [hsz] at hi;simp;omega)
   rw [List.drop_of_length_le (by omega),List.nil_append,ha]
   exact hQ L w hh hy
  | succ m ih =>
   intro k listed a w L hk hl I
   have hlt:k<l1.length:=by omega
   have hlt':k<(renum 0 l1).toArray.size:=by rw [hsz];exact hlt
   have hil:k<listed.size:=by rw [I.sz];exact hlt'
   have hr:k∈Region.ready .any (renum 0 l1).toArray listed:=mem_ready.2 ⟨by have:=hl k;simp [hil] at this ⊢;exact this,(renum 0 l1).toArray[k],Array.getElem?_eq_getElem hlt',fun e he hb=>by
    have hb':=(stat hc (Array.getElem?_eq_getElem hlt')).back e.on (by
     unfold aft;rw [Array.getElem?_eq_getElem hlt']
     simp only [Option.map_some,Option.getD_some,List.mem_map,List.mem_filter]
     exact ⟨e,⟨by simpa using he,hb⟩,rfl⟩)
    rw [hl];simpa using hb'⟩
   have hs:=step (Q:=Q) hc hnt hnh hob hHp.le (Heap.bounds hHp) hHp.nd I hr
   have hs2:=wpOp_mono (fun a' w' ⟨L',I'⟩=>ih (k+1) _ a' w' L' (by omega) (fun j=>by
    rw [ls_get hil]
    split
    ·rename_i e;subst e;simp
    ·rw [hl];by_cases h:j<k<;>simp [h]<;>omega) I') hs
   have hgk:l1[k].guard=none:=by
    have:=List.all_eq_true.1 hg l1[k] (List.getElem_mem hlt)
    simpa using this
   rw [List.drop_eq_getElem_cons hlt,List.cons_append]
   have hat:=renum_at l1 0 k l1[k] (List.getElem?_eq_getElem hlt)
   have hat':(renum 0 l1).toArray[k]?=some { l1[k] with after:=((List.range (0+k)).map edge).toArray }:=by simpa using hat
   unfold wpOp at hs2
   simp only [hat',Region.wanted,hgk,if_true] at hs2
   unfold wpList
   simp only [Region.wanted,hgk,if_true]
   exact hs2
 have h0:=main l1.length 0 (Array.replicate (renum 0 l1).toArray.size false) a0 W0 ⟨fun _=>undef,fun _=>0⟩ (by omega) (fun j=>by
  rw [decide_eq_false (by omega:¬ j<0)]
  simp only [Array.getD_eq_getD_getElem?,Array.getElem?_replicate]
  split<;>rfl) (Inv.start hHp (Below.refl _ _) rfl _)
 simpa using h0
theorem gsC {opsX:Array Oper} {l:List Oper} {nt:Nat} (k:Nat) (ks:List Kind) (N T:List Nat) (A:Lt→(Nat→Value)→List Value) (H':Lt→List (Nat × List Value)) (hHp:Heap B w0 W0 H) (hob:AllOb2 P (renum 0 (l.take k)).toArray ks T a0 B w0 H N (renum 0 (l.take k)) ks)
  (hQ:∀ L d w,Heap B w0 w (H' L)→((List.range ks.length).all (fun s=>!isStore ks s)=true→AnyF ks L w (List.range ks.length))→wpList P opsX Q (l.drop k) { tmps:=(A L d).toArray,defers:=[] } w) (hnt:nt=a0.tmps.size:=by exact rfl) (hg:(l.take k).all (fun o=>o.guard.isNone)=true:=by kernel_rfl) (hc:chk (renum 0 (l.take k)).toArray ks T nt H.length=true:=by kernel_rfl) (hdf:a0.defers=[]:=by exact rfl)
  (hA:∀ L,(List.range nt).map (slotF (renum 0 (l.take k)).toArray ks a0 L)=A L (slotF (renum 0 (l.take k)).toArray ks a0 L):=by intro _;kernel_rfl) (hF:∀ L,heapF ks H L=H' L:=by intro _;kernel_rfl) (hN:N=List.range' 0 (renum 0 (l.take k)).length:=by kernel_rfl) :
  wpList P opsX Q l a0 W0:=by
 have:=piece (P:=P) (opsX:=opsX) (l1:=l.take k) (l2:=l.drop k) (Q:=Q) hg hc hnt rfl hHp (AllOb2.to _ _ _ _ hN (fun j _=>by simp [kd]) hob) (fun L w h ha=>by
  rw [← hnt,hA L,hdf]
  exact hQ L _ w (hF L▸h) ha)
 rwa [List.take_append_drop] at this
theorem oneL {opsX:Array Oper} {l r:List Oper} {o:Oper} {a:Act} {w:World} (hl:l=o :: r) (hg:o.guard=none) (h:o.wp P a w (wpList P opsX Q r) Q):wpList P opsX Q l a w:=by
 subst hl
 exact wpList_plain hg fun K hK=>Oper.wp_mono hK h
theorem wp_store1 {t:TypeId} {o:Oper} {x y:Operand} {a:Act} {w:World} {K:Act→World→Prop} {b off:Nat} {v:Value} {cs new:List Value} (hO:OneT P t) (ho:o.op=.store t x y) (hx:a.eval x=.pointer (some ⟨b,off,none⟩)) (hy:a.eval y=v) (hvc:v.cells=#[v]) (h1:v.oneCell'=true) (hb:Box w b cs) (hle:off+1≤cs.length) (hsp:new=splice cs off [v]) (hd:o.dst=none)
  (h:∀ w',Wr b w w'→Box w' b new→K a w'):o.wp P a w K Q:=by
 have ht:w.there b off 1:=fun j hj=>by
  have:=hb.free (off+j) (by omega)
  simpa using this
 have hrun:=run_storeVar1 (P:=P) w b off t v hvc ht hO.size h1
 have this:(execOp a.eval o).run P w=.ok .skip (w.setCells b off [v]):=by
  unfold execOp
  simp [ho,hx,hy,Sem.run_bind,Instr.storeAt,Instr.sureAddr,hrun]
 unfold Oper.wp
 rw [this]
 simp only [Oper.upon,hd,Act.put]
 exact h _ (Wr.set b [v] off w) (by rw [hsp];exact Box.set hb hle)
def Rnd (P:Program) (Q:Exit→Act→World→Prop) (l:Nat) (rest:Code):Nat→Act→World→Prop
 | 0=>fun _ _=>False
 | n+1=>fun a w=>rest.wp P (Exit.jump l (Rnd P Q l rest n) Q) a w
theorem least {p:Nat→Prop}:∀ n,p n→∃ m,p m∧∀ k,p k→m≤k:=by
 intro n
 induction n using Nat.strongRecOn with
 | _ n ih =>
  intro hn
  by_cases h:∃ k,k<n∧p k
  ·obtain ⟨k,hk,hp⟩:=h
   exact ih k hk hp
  ·exact ⟨n,hn,fun k hk=>by
    rcases Nat.lt_or_ge k n with h1 | h1
    ·exact absurd ⟨k,h1,hk⟩ h
    ·exact h1⟩
theorem scope_rounds {a:Act} {w:World} {c rest:Code} (l n:Nat) (hf:findLabel c l=some (.seq .skip rest)) (first:∀ K:Exit→Act→World→Prop,(∀ e a w,Exit.jump l (Rnd P Q l rest n) Q e a w→K e a w)→c.wp P K a w):(Code.scope c).wp P Q a w:=by
 classical
 let M:Act→World→Nat:=fun a w=>if h:∃ n,Rnd P Q l rest n a w then (least (p:=fun n=>Rnd P Q l rest n a w) h.choose h.choose_spec).choose else 0
 have hM:∀ n a w,Rnd P Q l rest n a w→Rnd P Q l rest (M a w) a w∧M a w≤n:=fun n a w h=>by
  have he:∃ n,Rnd P Q l rest n a w:=⟨n,h⟩
  have e:M a w=(least (p:=fun n=>Rnd P Q l rest n a w) he.choose he.choose_spec).choose:=dif_pos he
  have:=(least (p:=fun n=>Rnd P Q l rest n a w) he.choose he.choose_spec).choose_spec
  rw [e]
  exact ⟨this.1,this.2 n h⟩
 refine wp_scope_goto l (fun a w=>∃ n,Rnd P Q l rest n a w) M hf (fun a w ⟨n,h⟩=>?_) (fun _=>wp_mono (first _ fun _ _ _ h=>h) (fun e a w q=>?_))
 ·have h1:=(hM n a w h).1
  cases hm:M a w with
  | zero=>rw [hm] at h1;exact h1.elim
  | succ m =>
   rw [hm] at h1
   refine wp_mono h1 (fun e a' w' q=>?_)
   cases e<;>first | exact q | exact ⟨q.1,⟨m,q.2⟩,Nat.lt_succ_of_le (hM m a' w' q.2).2⟩
 ·cases e<;>first | exact q | exact ⟨q.1,n,q.2⟩
theorem rnd_k {rest:Code} {l n:Nat} {a:Act} {w:World} (h:∀ K:Exit→Act→World→Prop,(∀ e a w,Exit.jump l (Rnd P Q l rest n) Q e a w→K e a w)→rest.wp P K a w):Rnd P Q l rest (n+1) a w:=h _ fun _ _ _ h=>h
theorem then_goto {K:Act→World→Prop} {l:Nat} {a:Act} {w:World} (h:Q (.goto l) a w):Exit.then K Q (.goto l) a w:=h
theorem jump_in {l:Nat} {J:Act→World→Prop} {a:Act} {w:World} (h:J a w):Exit.jump l J Q (.goto l) a w:=⟨rfl,h⟩
theorem Heap.one {b : Nat} {cs : List Value} {x : World} (h : Below B w0 x) (hB : B ≤ b) (hle : B ≤ x.heap.size) (hx : Box x b cs) : Heap B w0 x [(b, cs)] :=
  ⟨h, fun p hp => (by obtain rfl : p = (b, cs) := by simpa using hp
                      exact ⟨hB, hx⟩), by simp, hle⟩
theorem Heap.turn {b1 b2:Nat} {c1 c2 d2:List Value} {w x:World} (h:Heap B w0 w [(b1,c1),(b2,c2)]) (hw:Wr b2 w x) (hx:Box x b2 d2):Heap B w0 x [(b1,c1),(b2,d2)]:=by
 have hne:b1≠b2:=by have:=h.nd;simp at this;exact this
 refine ⟨h.bel.trans (hw.below (h.bound 1 rfl).1),fun p hp=>?_,h.nd,by rw [hw.size];exact h.le⟩
 rcases List.mem_cons.1 hp with rfl | hp
 ·exact ⟨(h.bound 0 rfl).1,(h.bound 0 rfl).2.wr hw hne⟩
 ·obtain rfl:p=(b2,d2):=by simpa using hp
  exact ⟨(h.bound 1 rfl).1,hx⟩
theorem Heap.under {B C:Nat} {w0 w x:World} {H:List (Nat × List Value)} (h:Heap B w0 w H) (hB:B≤C) (hb:Below C w x) (hH:∀ b∈H.map (·.1),b<C):Heap B w0 x H :=
 ⟨h.bel.trans (hb.mono hB),fun p hp=>⟨(h.box p hp).1,(h.box p hp).2.below hb (hH p.1 (List.mem_map.2 ⟨p,hp,rfl⟩))⟩,h.nd,Nat.le_trans h.le hb.size⟩
end
end Go.Proofs.YtmibajbpimcfnaaGreatDoor.Pl
/- Texts as values, rows of numbers of one's own, bits of bytes. -/
namespace Go.Proofs.YtmibajbpimcfnaaGreatDoor.fpn
open Go.RowKit Pl EC
structure Tx where
 i:Bool
 g:Bool
 s:Value
def TXC (t:Tx):List Value:=[.bool t.i,.bool t.g,t.s]
def TXV (t:Tx):Value:=.agg (TXC t).toArray
theorem rTX:RowT Tryz.prog 85 3 (TXC ⟨false,false,.slice none 0 0⟩):=⟨⟨_,Tryz.underlying85,rfl⟩,by kernel_rfl,by kernel_rfl⟩
theorem fX0:FldT Tryz.prog 85 0 0 0:=⟨_,_,Tryz.underlying85,rfl,rfl,by kernel_rfl⟩
theorem fX1:FldT Tryz.prog 85 1 1 0:=⟨_,_,Tryz.underlying85,rfl,rfl,by kernel_rfl⟩
theorem fX2:FldT Tryz.prog 85 2 2 0:=⟨_,_,Tryz.underlying85,rfl,rfl,by kernel_rfl⟩
theorem buildXn (w:World):(Instr.build 85 #[]).run Tryz.prog w=.ok (TXV ⟨false,false,.slice none 0 0⟩) w:=run_build w _ _ _ (by kernel_rfl)
theorem buildXi (b:Bool) (w:World):(Instr.build 85 #[(0,.bool b)]).run Tryz.prog w=.ok (TXV ⟨b,false,.slice none 0 0⟩) w:=run_build w _ _ _ (by kernel_rfl)
theorem buildXg (b:Bool) (w:World):(Instr.build 85 #[(1,.bool b)]).run Tryz.prog w=.ok (TXV ⟨false,b,.slice none 0 0⟩) w:=run_build w _ _ _ (by kernel_rfl)
theorem oneFS:OneT Tryz.prog 83:=⟨Tryz.isAgg83,by kernel_rfl⟩
theorem guardN (op:BinOp) (x y:Operand) (a:Addr) (n c:Nat) (w:World):(eqGuard op 45 x y (.slice (some a) n c) (.slice none 0 0)).run Tryz.prog w=.ok () w:=by
 have h:Tryz.prog.eqGuardType Tryz.prog.depth 45=false:=by kernel_rfl
 unfold eqGuard
 cases op<;>simp [Sem.run_bind,h]
theorem eqSN (d:Nat) (a:Addr) (n c:Nat) (w:World):(Op.equalIn (d+1) 45 (.slice (some a) n c) (.slice none 0 0)).run Tryz.prog w=.ok false w:=by
 rw [Op.equalIn.eq_def]
 simp [Sem.run_bind,run_underlying Tryz.underlying45]
theorem eqlN (a:Addr) (n c:Nat) (w:World):(binOp .eql 45 (.slice (some a) n c) (.slice none 0 0)).run Tryz.prog w=.ok (.bool false) w:=by
 have:=eqSN 9999 a n c w
 simp [binOp,Sem.run_bind,Op.equal,Op.maxDepth,this]
theorem rangeF {w x:World} {b off:Nat} {a:F} (h:w.rangeAt b off (FC a)) (k:Below w.heap.size w x):x.rangeAt b off (FC a):=range_up h k
theorem cell_up {w x:World} {q n:Nat} {v:Value} (h:w.cell? ⟨q,n,none⟩=some v) (k:Below w.heap.size w x):x.cell? ⟨q,n,none⟩=some v :=
 (k.cell (p:=⟨q,n,none⟩) (cell_lt h)).trans h
def isRow2 (x y:F) (v:Value) (w:World):Prop:=∃ k:Nat,v=.slice (some ⟨k,0,none⟩) 2 2∧w.rangeAt k 0 (FC x)∧w.rangeAt k 6 (FC y)
theorem run_row2 (x y:F) (w:World):(Instr.buildSlice 83 2 #[(0,FV x),(1,FV y)]).run Tryz.prog w=.ok (.slice (some ⟨w.heap.size,0,none⟩) 2 2) (w.alloc (.cells (FC x++FC y).toArray 28)):=by
 have hs:=rF.size
 have hz:=rF.zero
 cases hi:Tryz.prog.info? 28 with
 | none=>simp [hi] at hs
 | some ie =>
  simp [hi] at hs hz
  refine run_buildSlice w _ _ 2 _ _ ie _ Tryz.underlying83 hi hz (by rw [hs];omega) (by rw [hs];omega) ?_
  rw [hs]
  kernel_rfl
section
variable {ops:Array Oper} {ks:List Kind} {T:List Nat} {a0:Act} {B:Nat} {w0 W0:World} {H:List (Nat × List Value)} {i:Nat} {o:Oper}
theorem oS22 {p q:Operand} {x y:F} (hw:∀ L,wantedR ks L o=true:=by intro _;kernel_rfl) (ho:o.op=.buildSlice 83 2 #[(0,p),(1,q)]:=by exact rfl)
  (hp:∀ L,rd ops ks T a0 L i p=FV x:=by intro _;kernel_rfl) (hq:∀ L,rd ops ks T a0 L i q=FV y:=by intro _;kernel_rfl) (hk:kd ks i=.any (isRow2 x y)):Obl Tryz.prog ops ks T a0 B w0 H i o:=⟨fun L w hsn=>by
 rw [if_pos (hw L),hk]
 refine ⟨fun v w x h hb=>?_,?_⟩
 ·obtain ⟨k,e,h1,h2⟩:=h
  exact ⟨k,e,rangeF h1 hb,rangeF h2 hb⟩
 have this:(execOp (rd ops ks T a0 L i) o).run Tryz.prog w=.ok (.value (.slice (some ⟨w.heap.size,0,none⟩) 2 2)) (w.alloc (.cells (FC x++FC y).toArray 28)):=by
  unfold execOp
  have h1:(#[((0:Nat),p),(1,q)].map fun z=>(z.1,rd ops ks T a0 L i z.2))=#[(0,FV x),(1,FV y)]:=by simp [hp L,hq L]
  simp only [ho,h1,Sem.run_bind,run_row2]
  rfl
 rw [this]
 have hc:=(Box.new w (FC x++FC y) 28).cells
 refine ⟨⟨w.heap.size,rfl,fun j v hv=>?_,fun j v hv=>?_⟩,(Below.refl _ _).alloc (Nat.le_refl _) _⟩
 ·exact hc j v (by rw [List.getElem?_append_left (List.getElem?_eq_some_iff.1 hv).1];exact hv)
 ·have:=hc (6+j) v (by rw [List.getElem?_append_right (by show 6≤6+j;omega)];rw [show 6+j-(FC x).length=j from Nat.add_sub_cancel_left 6 j];exact hv)
  rwa [Nat.zero_add] at this⟩
theorem oLC {t:TypeId} {x:Operand} {v:Value} {b off:Nat} (hO:OneT Tryz.prog t) (hc:∀ L w,Seen ks T B w0 H L i w→w.cell? ⟨b,off,none⟩=some v) (he:Pl.early T ks i=true:=by kernel_rfl) (hw:∀ L,wantedR ks L o=true:=by intro _;kernel_rfl) (ho:o.op=.load t x:=by exact rfl)
  (hx:∀ L,rd ops ks T a0 L i x=.pointer (some ⟨b,off,none⟩):=by intro _;kernel_rfl) (hk:kd ks i=.det v):Obl Tryz.prog ops ks T a0 B w0 H i o:=⟨ob_det hw hk fun L w hs=>by
  have:(execOp (rd ops ks T a0 L i) o).run Tryz.prog w=.ok (.value v) w:=by
   unfold execOp
   simp only [ho,hx L,Sem.run_bind,run_load1 hO (hc L w (hs he))]
   rfl
  rw [this]
  exact ⟨rfl,Below.refl _ _⟩⟩
theorem oCw {v:Value} {f:FuncId} {t:Operand} {xs:Array Operand} {ts:Array TypeId} {vs:Array Value} {G:World→Prop} (st:∀ {w x:World},G w→Below w.heap.size w x→G x) (hg:G w0) (h:∀ w,G w→Calls Tryz.prog f vs w fun e w'=>e=.returned v∧Below w.heap.size w w')
  (hf:plainF Tryz.prog f=true:=by kernel_rfl) (he:Pl.early T ks i=true:=by kernel_rfl) (hw:∀ L,wantedR ks L o=true:=by intro _;kernel_rfl) (ho:o.op=.call { callee:=.value t,args:=xs,argTypes:=ts }:=by exact rfl)
  (ht:∀ L,rd ops ks T a0 L i t=.func (.func f) #[] #[]:=by intro _;kernel_rfl) (hx:∀ L,xs.map (rd ops ks T a0 L i)=vs:=by intro _;kernel_rfl) (hk:kd ks i=.det v):Obl Tryz.prog ops ks T a0 w0.heap.size w0 H i o:=⟨fun L w hs=>by
 rw [if_pos (hw L),hk]
 have this:(execOp (rd ops ks T a0 L i) o).run Tryz.prog w=.ok (.enter f vs) w:=by
  unfold execOp
  simp only [ho,resolve,ht L,hx L,Deferred.ofValue,Sem.run_bind,Sem.run_pure,Result.andThen_ok,Array.empty_append,run_enter hf]
 rw [this]
 show Calls Tryz.prog f vs w _
 refine Calls.mono (h w (st hg (hs he).bel)) ?_
 rintro e w' ⟨rfl,hb⟩
 exact ⟨v,rfl,(by unfold Pl.val;rw [hk]),hb⟩⟩
end
def OwnF (w:World) (B:Nat) (v:Value) (cs:List Value) (n:Nat):Prop:=w.ownsRow B 28 6 v n cs
theorem OwnF.nil {w:World} {B:Nat}:OwnF w B (.slice none 0 0) [] 0:=World.ownsRow_nil w B _ 6
theorem OwnF.keep {w x:World} {B:Nat} {v:Value} {cs:List Value} {n:Nat} (h:OwnF w B v cs n) (hb:∀ k,v.ownBlock=some k→k<w.heap.size→x.heap[k]?=w.heap[k]?):OwnF x B v cs n:=by
 refine ⟨h.1,?_⟩
 rcases h.2 with h2 | ⟨g,cap,cur,rfl,hB,hg,r⟩
 ·exact Or.inl h2
 ·refine Or.inr ⟨g,cap,cur,rfl,hB,?_,r⟩
  rw [hb g rfl (Array.getElem?_eq_some_iff.1 hg).1]
  exact hg
theorem OwnF.below {w x:World} {B:Nat} {v:Value} {cs:List Value} {n:Nat} (h:OwnF w B v cs n) (hb:Below w.heap.size w x):OwnF x B v cs n:=h.keep fun k _ hk=>hb.block k hk
theorem OwnF.wr {w x:World} {B b:Nat} {v:Value} {cs:List Value} {n:Nat} (h:OwnF w B v cs n) (hw:Wr b w x) (hb:b<B):OwnF x B v cs n:=h.keep fun k hv _=>hw.block k (by have:=(World.ownsRow.lt h k hv).1;omega)
theorem OwnF.box {w:World} {B:Nat} {v:Value} {cs:List Value} {n:Nat} (h:OwnF w B v cs n) (h0:0<n):∃ k c,v=.slice (some ⟨k,0,none⟩) n c∧n≤c∧B≤k∧Box w k cs:=by
 have hl:=h.1
 rcases h.2 with ⟨-,hn⟩ | ⟨g,cap,cur,rfl,hB,hg,hn,hm,hs,ht⟩
 ·omega
 ·have hc:∀ j v,cs[j]?=some v→w.cell? ⟨g,0+j,none⟩=some v:=fun j v hv=>by
   have hj:j<n*6:=by have:=(List.getElem?_eq_some_iff.1 hv).1;omega
   rw [← ht,List.getElem?_take_of_lt hj] at hv
   have e':cur[j]?=some v:=by simpa using hv
   rw [Nat.zero_add,cell_of_row w g j cur _ _ hg];exact e'
  exact ⟨g,cap,rfl,hn,hB,(Array.getElem?_eq_some_iff.1 hg).1,hc,fun j hj=>⟨by rw [hc j cs[j] (List.getElem?_eq_getElem hj)];rfl,by rw [Nat.zero_add];exact frozen_of_row w g j cur _ hg⟩⟩
theorem infoFp:∃ i z,Tryz.prog.info? 28=some i∧i.zero=some z∧i.size=6∧i.bytes=48∧z.cells.size=6:=by
 have e:(Tryz.prog.info? 28).map (fun i=>(i.size,i.bytes,i.zero.map (·.cells.size)))=some (6,48,some 6):=by kernel_rfl
 cases hi:Tryz.prog.info? 28 with
 | none=>simp [hi] at e
 | some i =>
  simp only [hi,Option.map_some,Option.some.injEq,Prod.mk.injEq,Option.map_eq_some_iff] at e
  obtain ⟨h1,h2,z,hz,h3⟩:=e
  exact ⟨i,z,rfl,hz,h1,h2,h3⟩
theorem wp_appendF {Q:Exit→Act→World→Prop} {o:Oper} {a:Act} {w:World} {K:Act→World→Prop} (s x:Operand) (ho:o.op=.call { callee:=.builtin .append,args:=#[s,x],argTypes:=#[83,83] })
  {B:Nat} {v u:Value} {cs:List Value} {n:Nat} {y:F} (hs:a.eval s=v) (hown:OwnF w B v cs n) (hx:a.eval x=u) (hu:isRow1 (FC y) u w) (hl:n≤1000) (hB:B≤w.heap.size)
  (h:∀ v' w',OwnF w' B v' (cs++FC y) (n+1)→Below B w w'→K (a.put o.dst v') w'):o.wp Tryz.prog a w K Q:=by
 obtain ⟨i,z,hi,hz,h1,h2,h3⟩:=infoFp
 obtain ⟨k,rfl,hc⟩:=hu
 refine wp_append_own w s x 83 ho B 28 i z 6 48 Tryz.underlying83 hi hz h1 h2 h3 (by decide) v n cs hs hown ⟨k,0,none⟩ 1 1 (FC y) hx rfl (fun j u hu=>?_) (fun u hu=>?_) (by simp only [maxLen];omega) (by omega) hB (fun v' w' ho' hgr _=>h v' w' ho' ?_)
 ·have:=hc j u hu
  rw [Addr.add_mid]
  exact this
 ·have:(FC y).all (fun v=>v.oneCell')=true:=by kernel_rfl
  exact List.all_eq_true.1 this u hu
 ·have hrow:∀ k,v.ownBlock=some k→B≤k:=fun k hk=>(World.ownsRow.lt hown k hk).1
  exact ⟨hgr.os,hgr.tape,hgr.output,hgr.size,fun k hk=>hgr.block k (by omega) (fun e=>by have:=hrow k e.symm;omega)⟩
def RetN (gr:Bool) (cs:List Value) (n:Nat) (w:World):Ending→World→Prop:=fun e w'=>∃ k c,e=.returned (.tuple #[TXV ⟨false,gr,.slice (some ⟨k,0,none⟩) n c⟩,.int .i64 0])∧n≤c∧w.heap.size≤k∧Box w' k cs∧Below w.heap.size w w'
def isN (B:Nat) (bs:List Nat) (gr:Bool) (cs:List Value) (n:Nat) (v:Value) (w:World):Prop:=∃ k c,v=.tuple #[TXV ⟨false,gr,.slice (some ⟨k,0,none⟩) n c⟩,.int .i64 0]∧n≤c∧B≤k∧(∀ b∈bs,b<k)∧Box w k cs
theorem isN.stay {B:Nat} {bs:List Nat} {gr:Bool} {cs:List Value} {n:Nat} {v:Value} {w x:World} (h:isN B bs gr cs n v w) (hb:Below w.heap.size w x):isN B bs gr cs n v x:=by
 obtain ⟨k,c,e,h1,h2,h3,h4⟩:=h
 exact ⟨k,c,e,h1,h2,h3,h4.up hb⟩
theorem newN {ks:List Kind} {T:List Nat} {B:Nat} {w0:World} {H:List (Nat × List Value)} {i:Nat} {L:Lt} {w:World} {fn:FuncId} {vs:Array Value} {gr:Bool} {cs:List Value} {n:Nat} (hs:Seen ks T B w0 H L i w) (bs:List Nat) (h:Calls Tryz.prog fn vs w (RetN gr cs n w)) (hb:bs=H.map (·.1):=by rfl):Calls Tryz.prog fn vs w fun e w'=>∃ v,e=.returned v∧isN B bs gr cs n v w'∧Below w.heap.size w w':=by
 refine Calls.mono h ?_
 rintro e w' ⟨k,c,he,h1,h2,h3,h4⟩
 refine ⟨_,he,⟨k,c,rfl,h1,Nat.le_trans hs.le h2,fun b hbm=>?_,h3⟩,h4⟩
 rw [hb] at hbm
 obtain ⟨p,hp,rfl⟩:=List.mem_map.1 hbm
 exact Nat.lt_of_lt_of_le (hs.base p hp).lt h2
theorem or_at:∀ a:Fin 32,bits .or .u8 ((a:Nat):Int) 128=((a:Nat):Int)+128∧bits .or .u8 (((a:Nat):Int)+128) 32=((a:Nat):Int)+160:=of_decide_eq_true (by kernel_rfl)
theorem or128 {a:Int} (h0:0≤a) (h1:a<32):bits .or .u8 a 128=a+128:=by
 obtain ⟨n,rfl⟩:=Int.eq_ofNat_of_zero_le h0
 exact (or_at ⟨n,by omega⟩).1
theorem or160 {a:Int} (h0:0≤a) (h1:a<32):bits .or .u8 (a+128) 32=a+160:=by
 obtain ⟨n,rfl⟩:=Int.eq_ofNat_of_zero_le h0
 exact (or_at ⟨n,by omega⟩).2
end Go.Proofs.YtmibajbpimcfnaaGreatDoor.fpn
/- Bytes as texts. -/
namespace Go.Proofs.YtmibajbpimcfnaaGreatDoor.fpn
open Go.RowKit Pl EC
def sB (f:Nat→Int) (n:Nat):Value:=.string (strOfNums ((List.range n).map f))
theorem guardS (op:BinOp) (t:TypeId) (x y:Operand) (a b:ByteArray) (w:World):(eqGuard op t x y (.string a) (.string b)).run Tryz.prog w=.ok () w:=by
 unfold eqGuard
 cases op<;>simp [Sem.run_bind]
theorem eqlS (t:TypeId) (a:ByteArray) (w:World):(binOp .eql t (.string a) (.string a)).run Tryz.prog w=.ok (.bool true) w:=by
 simp [binOp,Sem.run_bind,Op.stringOp]
section
variable {ops:Array Oper} {ks:List Kind} {T:List Nat} {a0:Act} {B:Nat} {w0 W0:World} {H:List (Nat × List Value)} {i:Nat} {o:Oper}
theorem oCs {x:Operand} {f:Nat→Int} {n:Nat} {bs:List Nat} (j:Nat) (hn:0<n) (hj:kd ks j=.any (isB B bs f n):=by exact rfl) (hbf:bef T i j=true:=by kernel_rfl) (hx:∀ L,rd ops ks T a0 L i x=L.v j:=by intro _;kernel_rfl)
  (he:Pl.early T ks i=true:=by kernel_rfl) (hw:∀ L,wantedR ks L o=true:=by intro _;kernel_rfl) (ho:o.op=.convert 45 9 x:=by exact rfl) (hk:kd ks i=.det (sB f n)):Obl Tryz.prog ops ks T a0 B w0 H i o:=⟨ob_det hw hk fun L w hs=>by
 obtain ⟨k,c,e,h1,h2,-,-,hB⟩:=(hs he).any j _ hj hbf
 have hr:=str_at w (some ⟨k,0,none⟩) n c f (box_at hB) hn
 have:(execOp (rd ops ks T a0 L i) o).run Tryz.prog w=.ok (.value (sB f n)) w:=by
  unfold execOp
  simp only [ho,hx L,e,Sem.run_bind,hr]
  rfl
 rw [this]
 exact ⟨rfl,Below.refl _ _⟩⟩
theorem oCsB {x:Operand} {f:Nat→Int} {n b c:Nat} (k:Nat) (hn:0<n) (hb:H[k]?=some (b,BC f n):=by exact rfl) (hx:∀ L,rd ops ks T a0 L i x=.slice (some ⟨b,0,none⟩) n c:=by intro _;kernel_rfl)
  (he:Pl.early T ks i=true:=by kernel_rfl) (hw:∀ L,wantedR ks L o=true:=by intro _;kernel_rfl) (ho:o.op=.convert 45 9 x:=by exact rfl) (hk:kd ks i=.det (sB f n)):Obl Tryz.prog ops ks T a0 B w0 H i o:=⟨ob_det hw hk fun L w hs=>by
 have hr:=str_at w (some ⟨b,0,none⟩) n c f (box_at (seen_at (hs he) hb)) hn
 have:(execOp (rd ops ks T a0 L i) o).run Tryz.prog w=.ok (.value (sB f n)) w:=by
  unfold execOp
  simp only [ho,hx L,Sem.run_bind,hr]
  rfl
 rw [this]
 exact ⟨rfl,Below.refl _ _⟩⟩
end
end Go.Proofs.YtmibajbpimcfnaaGreatDoor.fpn
