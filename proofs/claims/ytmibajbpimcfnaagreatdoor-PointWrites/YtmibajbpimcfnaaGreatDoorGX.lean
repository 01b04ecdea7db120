/- Texts laid together. -/
import Derived.Test.YtmibajbpimcfnaaGreatDoorGB
import Derived.Test.YtmibajbpimcfnaaGreatDoorGE
import Derived.Test.YtmibajbpimcfnaaGreatDoorGK
import Derived.Test.YtmibajbpimcfnaaGreatDoorGC
import Derived.Test.YtmibajbpimcfnaaGreatDoorGD
import Derived.Laws.MakeOwn
import Derived.Test.YtmibajbpimcfnaaGreatDoorGL
import Derived.Test.YtmibajbpimcfnaaGreatDoorGG
import Derived.Test.YtmibajbpimcfnaaGreatDoorGO
set_option linter.unusedVariables false
set_option linter.unusedSimpArgs false
set_option maxRecDepth 4000
set_option maxHeartbeats 4000000
/- Bytes that a scalar is put into, as a number; string(b) of bytes. -/
namespace Go.Proofs.YtmibajbpimcfnaaGreatDoor.fpn
open Go.RowKit
theorem v8_mod (x:Int) (k:Nat):v8 (fun t=>x / 2^(8*t)%256) k=x%2^(8*k):=by
 induction k with
 | zero=>simp [v8]
 | succ k ih =>
  rw [v8,ih,show 8*(k+1)=8*k+8 by omega,Int.pow_add]
  have p:(0:Int)<2^(8*k):=Int.pow_pos (by decide)
  show _=x%(2^(8*k)*256)
  generalize (2:Int)^(8*k)=P at *
  have e1:=Int.emod_add_mul_ediv x P
  have e2:=Int.emod_add_mul_ediv (x / P) 256
  have e3:x / (P*256)=x / P / 256:=(Int.ediv_ediv_of_nonneg (Int.le_of_lt p)).symm
  have e4:=Int.emod_add_mul_ediv x (P*256)
  rw [e3] at e4
  generalize x / P / 256=d at *
  generalize x / P%256=c at *
  generalize x / P=b at *
  generalize x%P=a at *
  generalize x%(P*256)=z at *
  grind
theorem pl_put {f:Nat→Int} {m n q:Nat} (rf:Rg f m) (hq:8*q+8≤n):pl (fun j=>byt f m (n-1-j)) n n q=lm f m q:=by
 have r:=lm_rg rf (q+1) q (by omega)
 unfold pl
 rw [show min 8 (n-8*q)=8 by omega]
 have e:v8 (fun t=>byt f m (n-1-(n-1-(8*q+t)))) 8=v8 (fun t=>lm f m q / 2^(8*t)%256) 8:=by
  have g:∀ k,k≤8→v8 (fun t=>byt f m (n-1-(n-1-(8*q+t)))) k=v8 (fun t=>lm f m q / 2^(8*t)%256) k:=by
   intro k hk
   induction k with
   | zero=>rfl
   | succ k ih =>
    rw [v8,v8,ih (by omega)]
    congr 2
    show byt f m _=_
    rw [show n-1-(n-1-(8*q+k))=8*q+k by omega]
    unfold byt
    rw [show (8*q+k) / 8=q by omega,show (8*q+k)%8=k by omega]
  exact g 8 (by omega)
 rw [e,v8_mod]
 rw [B64_eq] at r
 exact Int.emod_eq_of_lt r.1 r.2
theorem bv_put {f:Nat→Int} (rf:Rg f 6):bv (fun j=>byt f 6 (48-1-j)) 48=val f 6:=by
 rw [← pl_bv]
 exact val_congr fun q hq=>by rw [pl_put rf (by omega),lm_in (show q<6 from hq)]
theorem str_at (w:World) (p:Option Addr) (n cap:Nat) (f:Nat→Int) (h:AtK .u8 w p n f) (h0:0<n) :
  (convert 45 9 (.slice p n cap)).run Tryz.prog w=.ok (.string (strOfNums ((List.range n).map f))) w:=by
 obtain ⟨b,off,rfl,hc⟩:=h h0
 exact run_convert_bytes_arg w 45 5 Tryz.underlying45 Tryz.underlying5 b off n cap ((List.range n).map f) (by simp) (fun i hi=>by
  rw [hc i hi]
  simp [hi]) 9 Tryz.underlying9
end Go.Proofs.YtmibajbpimcfnaaGreatDoor.fpn
/- Bytes in a plan: slices of bytes of one's own, as boxes. -/
namespace Go.Proofs.YtmibajbpimcfnaaGreatDoor.fpn
open Go.RowKit Pl EC
def BC (f:Nat→Int) (n:Nat):List Value:=(List.range n).map fun j=>.int .u8 (f j)
theorem BC_len (f:Nat→Int) (n:Nat):(BC f n).length=n:=by simp [BC]
theorem BC_at {f:Nat→Int} {n j:Nat} (hj:j<n):(BC f n)[j]?=some (.int .u8 (f j)):=by simp [BC,hj]
theorem BC_congr {f g:Nat→Int} {n:Nat} (h:∀ j,j<n→f j=g j):BC f n=BC g n:=by
 unfold BC
 exact List.map_congr_left fun j hj=>by rw [h j (by simpa using hj)]
def su (f:Nat→Int) (i:Nat) (x:Int):Nat→Int:=fun j=>bif Nat.beq j i then x else f j
theorem su_at (f:Nat→Int) (i:Nat) (x:Int):su f i x i=x:=by unfold su;rw [show Nat.beq i i=true by simp];rfl
theorem su_ne {f:Nat→Int} {i j:Nat} {x:Int} (h:j≠i):su f i x j=f j:=by unfold su;rw [show Nat.beq j i=false by cases hh:Nat.beq j i with | false=>rfl | true=>exact absurd (Nat.eq_of_beq_eq_true hh) h];rfl
theorem box_of {w:World} {b n:Nat} {f:Nat→Int} (h0:0<n) (h:MutK .u8 w b 0 n f):Box w b (BC f n):=by
 refine ⟨cell_lt (h 0 h0).1,fun j v hv=>?_,fun j hj=>?_⟩
 ·have hj:j<n:=by have:=(List.getElem?_eq_some_iff.1 hv).1;rwa [BC_len] at this
  rw [BC_at hj] at hv
  rw [(h j hj).1];exact hv
 ·rw [BC_len] at hj
  exact ⟨by rw [(h j hj).1];rfl,(h j hj).2⟩
theorem box_at {w:World} {b n:Nat} {f:Nat→Int} (h:Box w b (BC f n)):AtK .u8 w (some ⟨b,0,none⟩) n f:=fun _=>⟨b,0,rfl,fun j hj=>h.cells j _ (BC_at hj)⟩
theorem box_eq {w:World} {b:Nat} {cs ds:List Value} (h:cs=ds) (hb:Box w b cs):Box w b ds:=h▸hb
theorem box_sub {w:World} {b n:Nat} {f:Nat→Int} (off m:Nat) (h:Box w b (BC f n)) (hm:off+m≤n):AtK .u8 w (some ⟨b,off,none⟩) m (fun j=>f (off+j)):=fun _=>⟨b,off,rfl,fun j hj=>by
 have:=h.cells (off+j) _ (BC_at (show off+j<n by omega))
 rwa [Nat.zero_add] at this⟩
def isB (B:Nat) (bs:List Nat) (f:Nat→Int) (n:Nat) (v:Value) (w:World):Prop:=∃ k c,v=.slice (some ⟨k,0,none⟩) n c∧n≤c∧c≤9223372036854775807∧B≤k∧(∀ b∈bs,b<k)∧Box w k (BC f n)
theorem isB.stay {B:Nat} {bs:List Nat} {f:Nat→Int} {n:Nat} {v:Value} {w x:World} (h:isB B bs f n v w) (hb:Below w.heap.size w x):isB B bs f n v x:=by
 obtain ⟨k,c,e,h1,h2,h3,h4,h5⟩:=h
 exact ⟨k,c,e,h1,h2,h3,h4,h5.up hb⟩
def RetB (f:Nat→Int) (n:Nat) (w:World):Ending→World→Prop:=fun e w'=>∃ v,e=.returned v∧isB w.heap.size [] f n v w'∧Below w.heap.size w w'
theorem RetB.congr {f g:Nat→Int} {n:Nat} {w:World} {fn:FuncId} {vs:Array Value} (h:∀ j,j<n→f j=g j) (hc:Calls Tryz.prog fn vs w (RetB f n w)):Calls Tryz.prog fn vs w (RetB g n w):=by
 refine Calls.mono hc ?_
 rintro e w' ⟨v,he,⟨k,c,hv,h1,h2,h3,h4,h5⟩,hb⟩
 exact ⟨v,he,⟨k,c,hv,h1,h2,h3,h4,by rw [← BC_congr h];exact h5⟩,hb⟩
def isT (G:Value→Value) (B:Nat) (bs:List Nat) (f:Nat→Int) (n:Nat) (v:Value) (w:World):Prop:=∃ s,v=G s∧isB B bs f n s w
theorem isT.stay {G:Value→Value} {B:Nat} {bs:List Nat} {f:Nat→Int} {n:Nat} {v:Value} {w x:World} (h:isT G B bs f n v w) (hb:Below w.heap.size w x):isT G B bs f n v x:=by
 obtain ⟨s,e,h⟩:=h
 exact ⟨s,e,h.stay hb⟩
def RetT (G:Value→Value) (f:Nat→Int) (n:Nat) (w:World):Ending→World→Prop:=fun e w'=>∃ v,e=.returned v∧isT G w.heap.size [] f n v w'∧Below w.heap.size w w'
def tupAt (n:Nat) (v:Value):Value:=(part? v n).getD undef
theorem Heap.add {B k:Nat} {w0 w:World} {H:List (Nat × List Value)} {cs:List Value} (h:Heap B w0 w H) (hB:B≤k) (hb:∀ b∈H.map (·.1),b<k) (hx:Box w k cs):Heap B w0 w (H++[(k,cs)]):=by
 refine ⟨h.bel,fun p hp=>?_,?_,h.le⟩
 ·rcases List.mem_append.1 hp with h1 | h1
  ·exact h.box p h1
  ·obtain rfl:p=(k,cs):=by simpa using h1
   exact ⟨hB,hx⟩
 ·rw [List.map_append,List.nodup_append]
  refine ⟨h.nd,by simp,fun a ha b hb'=>?_⟩
  obtain rfl:b=k:=by simpa using hb'
  exact Nat.ne_of_lt (hb a ha)
section
variable {ops:Array Oper} {ks:List Kind} {T:List Nat} {a0:Act} {B:Nat} {w0 W0:World} {H:List (Nat × List Value)} {i:Nat} {o:Oper}
theorem newB {L:Lt} {w:World} {fn:FuncId} {vs:Array Value} {f:Nat→Int} {n:Nat} (hs:Seen ks T B w0 H L i w) (bs:List Nat) (h:Calls Tryz.prog fn vs w (RetB f n w)) (hb:bs=H.map (·.1):=by rfl):Calls Tryz.prog fn vs w fun e w'=>∃ v,e=.returned v∧isB B bs f n v w'∧Below w.heap.size w w':=by
 refine Calls.mono h ?_
 rintro e w' ⟨v,he,⟨k,c,hv,h1,h2,h3,h4,h5⟩,hbl⟩
 refine ⟨v,he,⟨k,c,hv,h1,h2,Nat.le_trans hs.le h3,fun b hbm=>?_,h5⟩,hbl⟩
 rw [hb] at hbm
 obtain ⟨p,hp,rfl⟩:=List.mem_map.1 hbm
 exact Nat.lt_of_lt_of_le (hs.base p hp).lt h3
theorem newT {L:Lt} {w:World} {fn:FuncId} {vs:Array Value} {G:Value→Value} {f:Nat→Int} {n:Nat} (hs:Seen ks T B w0 H L i w) (bs:List Nat) (h:Calls Tryz.prog fn vs w (RetT G f n w)) (hb:bs=H.map (·.1):=by rfl):Calls Tryz.prog fn vs w fun e w'=>∃ v,e=.returned v∧isT G B bs f n v w'∧Below w.heap.size w w':=by
 refine Calls.mono h ?_
 rintro e w' ⟨v,he,⟨s,es,⟨k,c,hv,h1,h2,h3,h4,h5⟩⟩,hbl⟩
 refine ⟨v,he,⟨s,es,⟨k,c,hv,h1,h2,Nat.le_trans hs.le h3,fun b hbm=>?_,h5⟩⟩,hbl⟩
 rw [hb] at hbm
 obtain ⟨p,hp,rfl⟩:=List.mem_map.1 hbm
 exact Nat.lt_of_lt_of_le (hs.base p hp).lt h3
theorem run_ext {t:Operand} {n:Nat} {x c:Value} {L:Lt} {w:World} (ho:o.op=.extract t n) (hx:rd ops ks T a0 L i t=x) (h:part? x n=some c):(execOp (rd ops ks T a0 L i) o).run Tryz.prog w=.ok (.value c) w:=by
 unfold execOp
 simp only [ho,hx]
 cases x<;>simp only [part?] at h<;>try (cases h;done)
 simp only [Instr.extract,h];rfl
theorem oXT {G:Value→Value} {bs:List Nat} {f:Nat→Int} {n0 n:Nat} {t:Operand} {c:Value} (j:Nat) (hG:∀ s,part? (G s) n=some c) (hj:kd ks j=.any (isT G B bs f n0):=by exact rfl) (hbf:bef T i j=true:=by kernel_rfl)
  (hx:∀ L,rd ops ks T a0 L i t=L.v j:=by intro _;kernel_rfl) (he:Pl.early T ks i=true:=by kernel_rfl) (hw:∀ L,wantedR ks L o=true:=by intro _;kernel_rfl) (ho:o.op=.extract t n:=by exact rfl) (hk:kd ks i=.det c):Obl Tryz.prog ops ks T a0 B w0 H i o:=⟨ob_det hw hk fun L w hs=>by
 obtain ⟨s,es,_⟩:=(hs he).any j _ hj hbf
 rw [run_ext ho ((hx L).trans es) (hG s)]
 exact ⟨rfl,Below.refl _ _⟩⟩
theorem oXS {G:Value→Value} {bs:List Nat} {f:Nat→Int} {n0 n:Nat} {t:Operand} (j:Nat) (hG:∀ s,part? (G s) n=some s) (hj:kd ks j=.any (isT G B bs f n0):=by exact rfl) (hbf:bef T i j=true:=by kernel_rfl)
  (hx:∀ L,rd ops ks T a0 L i t=L.v j:=by intro _;kernel_rfl) (he:Pl.early T ks i=true:=by kernel_rfl) (hw:∀ L,wantedR ks L o=true:=by intro _;kernel_rfl) (ho:o.op=.extract t n:=by exact rfl) (hk:kd ks i=.detV j (tupAt n)):Obl Tryz.prog ops ks T a0 B w0 H i o:=⟨fun L w hs=>by
 rw [if_pos (hw L),hk]
 obtain ⟨s,es,_⟩:=(hs he).any j _ hj hbf
 have hv:Pl.val ks L i=s:=by unfold Pl.val;rw [hk];show tupAt n (L.v j)=s;rw [es];unfold tupAt;rw [hG s];rfl
 simp only [hv]
 rw [run_ext ho ((hx L).trans es) (hG s)]
 exact ⟨rfl,Below.refl _ _⟩⟩
theorem oAX {n k:Nat} {x:Operand} (hw:∀ L,wantedR ks L o=true:=by intro _;kernel_rfl) (ho:o.op=.assign x:=by exact rfl) (hx:∀ L,rd ops ks T a0 L i x=tupAt n (L.v k):=by intro _;kernel_rfl) (hk:kd ks i=.detV k (tupAt n)):Obl Tryz.prog ops ks T a0 B w0 H i o :=
 ⟨ob_pureV hw hk fun L w=>by unfold execOp;simp only [ho,hx L];rfl⟩
theorem oneY:OneT Tryz.prog 5:=⟨Tryz.isAgg5,by kernel_rfl⟩
theorem sizeY:(Tryz.prog.info? 5).map (·.size)=some 1:=by kernel_rfl
theorem oMa {x y:Operand} {n:Nat} (h0:0<n) (hn:n≤1000) (hw:∀ L,wantedR ks L o=true:=by intro _;kernel_rfl) (ho:o.op=.makeSlice 45 x y:=by exact rfl)
  (hx:∀ L,rd ops ks T a0 L i x=.int .i64 (n:Int):=by intro _;kernel_rfl) (hy:∀ L,rd ops ks T a0 L i y=.int .i64 (n:Int):=by intro _;kernel_rfl) (hz:∀ b,yields (BC (fun _=>0) n) b=.slice (some ⟨b,0,none⟩) n n:=by intro _;kernel_rfl) (hk:kd ks i=.alloc (BC (fun _=>0) n)):Obl Tryz.prog ops ks T a0 B w0 H i o:=⟨fun L w hsn=>by
 rw [if_pos (hw L),hk]
 obtain ⟨i0,hi0,hz0,hz1,hz2⟩:=info_parts info8
 have hr:=run_makeSlice (P:=Tryz.prog) (w:=w) 45 5 i0 (.int .u8 0) Tryz.underlying45 hi0 hz0 .i64 .i64 (n:Int) (n:Int) (by omega) (Int.le_refl _) (by rw [hz1];omega) (by rw [hz2];omega) (by omega)
 have hc:madeCells (Value.int .u8 0).cells (n*i0.size)=(BC (fun _=>0) n).toArray:=by
  apply Array.ext'
  rw [hz1,Nat.mul_one]
  unfold madeCells BC
  simp [Value.cells,Nat.mod_one]
 refine ⟨5,?_⟩
 rw [hz,← hc]
 unfold execOp
 simp only [ho,hx L,hy L,Sem.run_bind,hr]
 rfl⟩
theorem oAN {n k:Nat} {x:Operand} (hw:∀ L,wantedR ks L o=true:=by intro _;kernel_rfl) (ho:o.op=.assign x:=by exact rfl) (hx:∀ L,rd ops ks T a0 L i x=.slice (some ⟨L.b k,0,none⟩) n n:=by intro _;kernel_rfl) (hk:kd ks i=.detB k (fun b=>.slice (some ⟨b,0,none⟩) n n)):Obl Tryz.prog ops ks T a0 B w0 H i o :=
 ⟨ob_pureB hw hk fun L w=>by unfold execOp;simp only [ho,hx L];rfl⟩
def isE (v:Value) (w:World):Prop:=∃ a:Addr,v=.slice (some a) 0 0
theorem oE0 (hw:∀ L,wantedR ks L o=true:=by intro _;kernel_rfl) (ho:o.op=.buildSlice 45 0 #[]:=by exact rfl) (hk:kd ks i=.any isE):Obl Tryz.prog ops ks T a0 B w0 H i o:=⟨fun L w hsn=>by
 rw [if_pos (hw L),hk]
 refine ⟨fun v w x h hb=>h,?_⟩
 obtain ⟨i0,hi0,hz0,hz1,hz2⟩:=info_parts info8
 have this:(execOp (rd ops ks T a0 L i) o).run Tryz.prog w=.ok (.value (.slice (some ⟨w.heap.size,0,none⟩) 0 0)) (w.alloc (.cells #[] 5)):=by
  unfold execOp
  simp [ho,Instr.buildSlice,Sem.run_bind,run_underlying Tryz.underlying45,sizeOf,typeInfo,hi0,hz1,Instr.fill,newRow]
  rw [show Array.map (fun _:Nat=>(default:Value)) (Array.range 0)=#[] from Array.eq_empty_of_size_eq_zero (by simp)]
 rw [this]
 exact ⟨⟨_,rfl⟩,(Below.refl _ _).alloc (Nat.le_refl _) _⟩⟩
def cat (f:Nat→Int) (m:Nat) (g:Nat→Int):Nat→Int:=fun j=>bif Nat.blt j m then f j else g (j-m)
theorem BC_cat (f:Nat→Int) (m:Nat) (g:Nat→Int) (n:Nat):BC f m++BC g n=BC (cat f m g) (m+n):=by
 unfold BC
 rw [List.range_add,List.map_append,List.map_map]
 congr 1
 ·exact List.map_congr_left fun j hj=>by
   have:j<m:=by simpa using hj
   show _=Value.int .u8 (bif Nat.blt j m then f j else g (j-m))
   rw [show Nat.blt j m=true by simpa using this];rfl
 ·exact List.map_congr_left fun j hj=>by
   show _=Value.int .u8 (bif Nat.blt (m+j) m then f (m+j) else g (m+j-m))
   rw [show Nat.blt (m+j) m=false by cases hh:Nat.blt (m+j) m with | false=>rfl | true=>exact absurd (Nat.le_of_ble_eq_true hh) (by omega),Nat.add_sub_cancel_left];rfl
theorem box_front {w:World} {b:Nat} {cs ds:List Value} (h:Box w b (cs++ds)):Box w b cs :=
 ⟨h.lt,fun j v hv=>h.cells j v (by rw [List.getElem?_append_left (List.getElem?_eq_some_iff.1 hv).1];exact hv),fun j hj=>h.free j (by rw [List.length_append];omega)⟩
theorem oAp {x y:Operand} {f0 g:Nat→Int} {m n:Nat} (bs:List Nat) (h0:0<n) (hm:m+n≤1000)
  (hx:∀ L w,Seen ks T B w0 H L i w→∃ a,rd ops ks T a0 L i x=.slice (some a) m m∧∀ j,j<m→w.cell? (a.add j)=some (.int .u8 (f0 j)))
  (hy:∀ L w,Seen ks T B w0 H L i w→∃ a c,rd ops ks T a0 L i y=.slice (some a) n c∧∀ j,j<n→w.cell? (a.add j)=some (.int .u8 (g j)))
  (hw:∀ L,wantedR ks L o=true:=by intro _;kernel_rfl) (he:Pl.early T ks i=true:=by kernel_rfl) (ho:o.op=.call { callee:=.builtin .append,args:=#[x,y],argTypes:=#[45,45] }:=by exact rfl)
  (hb:bs=H.map (·.1):=by rfl) (hk:kd ks i=.any (isB B bs (cat f0 m g) (m+n))):Obl Tryz.prog ops ks T a0 B w0 H i o:=⟨fun L w hsn=>by
 rw [if_pos (hw L),hk]
 refine ⟨fun v w x h hb=>h.stay hb,?_⟩
 have hs:=hsn he
 obtain ⟨a,ex,hcx⟩:=hx L w hs
 obtain ⟨a',c,ey,hcy⟩:=hy L w hs
 obtain ⟨i0,hi0,hz0,hz1,hz2⟩:=info_parts info8
 have hr:=run_append_grow (P:=Tryz.prog) (w:=w) 45 o.type 5 i0 (.int .u8 0) Tryz.underlying45 hi0 hz0 a m m (BC f0 m) (by rw [BC_len,hz1,Nat.mul_one])
  (fun j v hv=>by
   have hj:j<m:=by have:=(List.getElem?_eq_some_iff.1 hv).1;rwa [BC_len] at this
   rw [BC_at hj] at hv;rw [hcx j hj];exact hv)
  a' n c (BC g n) (by rw [BC_len,hz1,Nat.mul_one])
  (fun j v hv=>by
   have hj:j<n:=by have:=(List.getElem?_eq_some_iff.1 hv).1;rwa [BC_len] at this
   rw [BC_at hj] at hv;rw [hcy j hj];exact hv)
  (by omega) (by omega) (by rw [hz2,Nat.mul_one];have:=nextslicecap_le (need:=m+n) (old:=m) (by omega);omega)
 have this:(execOp (rd ops ks T a0 L i) o).run Tryz.prog w=.ok (.value (.slice (some ⟨w.heap.size,0,none⟩) (m+n) (grownCap w (m+n) m 5))) (w.drew.alloc (.cells ((BC f0 m).toArray++(BC g n).toArray++Builtin.zeroCells (Value.int .u8 0).cells (grownCap w (m+n) m 5-(m+n))) 5)):=by
  unfold execOp
  simp [ho,resolve,ex,ey,invoke,builtin,Sem.run_bind,hr]
 rw [this]
 have hc:(BC f0 m).toArray++(BC g n).toArray++Builtin.zeroCells (Value.int .u8 0).cells (grownCap w (m+n) m 5-(m+n))=(BC (cat f0 m g) (m+n)++(Builtin.zeroCells (Value.int .u8 0).cells (grownCap w (m+n) m 5-(m+n))).toList).toArray:=by
  apply Array.ext'
  rw [← BC_cat]
  simp
 rw [hc]
 refine ⟨⟨w.heap.size,_,rfl,grownCap_ge _ _ _ _,Nat.le_trans (grownCap_le_maxLen _ _ _ _ (by unfold maxLen;omega)) (by unfold maxLen;omega),hs.le,fun b hbm=>?_,box_front (Box.new w.drew _ _)⟩,Below.alloc (Below.drew (Below.refl _ _)) (Nat.le_refl _) _⟩
 rw [hb] at hbm
 obtain ⟨p,hp,rfl⟩:=List.mem_map.1 hbm
 exact (hs.base p hp).lt⟩
theorem oApE {x y:Operand} {g:Nat→Int} {n c:Nat} {p:Option Addr} (bs:List Nat) (j:Nat) (h0:0<n) (hm:n≤1000) (hb0:AtK .u8 w0 p n g)
  (hj:kd ks j=.any isE:=by exact rfl) (hbf:bef T i j=true:=by kernel_rfl) (hx:∀ L,rd ops ks T a0 L i x=L.v j:=by intro _;kernel_rfl) (hy:∀ L,rd ops ks T a0 L i y=.slice p n c:=by intro _;kernel_rfl)
  (hw:∀ L,wantedR ks L o=true:=by intro _;kernel_rfl) (he:Pl.early T ks i=true:=by kernel_rfl) (ho:o.op=.call { callee:=.builtin .append,args:=#[x,y],argTypes:=#[45,45] }:=by exact rfl)
  (hb:bs=H.map (·.1):=by rfl) (hk:kd ks i=.any (isB w0.heap.size bs g n)):Obl Tryz.prog ops ks T a0 w0.heap.size w0 H i o:=by
 have e:isB w0.heap.size bs g n=isB w0.heap.size bs (cat (fun _=>0) 0 g) (0+n):=by rw [Nat.zero_add];rfl
 rw [e] at hk
 refine oAp bs h0 (by omega) (fun L w hs=>?_) (fun L w hs=>?_) hw he ho hb hk
 ·obtain ⟨a,ea⟩:=hs.any j _ hj hbf
  exact ⟨a,(hx L).trans ea,fun j hj=>absurd hj (by omega)⟩
 ·obtain ⟨b,off,rfl,hc⟩:=(AtK.below hb0 hs.bel) h0
  exact ⟨⟨b,off,none⟩,c,hy L,fun j hj=>by rw [Addr.add_mid];exact hc j hj⟩
theorem oLY {x:Operand} {b n j:Nat} {f:Nat→Int} (k:Nat) (hj:j<n) (he:Pl.early T ks i=true:=by kernel_rfl) (hw:∀ L,wantedR ks L o=true:=by intro _;kernel_rfl) (ho:o.op=.load 5 x:=by exact rfl)
  (hb:H[k]?=some (b,BC f n):=by exact rfl) (hx:∀ L,rd ops ks T a0 L i x=.pointer (some ⟨b,0+j*1,none⟩):=by intro _;kernel_rfl) (hk:kd ks i=.det (.int .u8 (f j))):Obl Tryz.prog ops ks T a0 B w0 H i o:=⟨ob_det hw hk fun L w hs=>by
  have hc:=(seen_at (hs he) hb).cells j _ (BC_at hj)
  have:(execOp (rd ops ks T a0 L i) o).run Tryz.prog w=.ok (.value (.int .u8 (f j))) w:=by
   unfold execOp
   simp only [ho,hx L,Sem.run_bind,Nat.mul_one,run_load1 oneY hc]
   rfl
  rw [this]
  exact ⟨rfl,Below.refl _ _⟩⟩
theorem oSG {x l:Operand} {b len c n:Nat} (hn:n≤len) (hc:n<c) (hlc:len≤c) (hw:∀ L,wantedR ks L o=true:=by intro _;kernel_rfl) (ho:o.op=.slice 45 x (some l) none none:=by exact rfl)
  (hx:∀ L,rd ops ks T a0 L i x=.slice (some ⟨b,0,none⟩) len c:=by intro _;kernel_rfl) (hl:∀ L,rd ops ks T a0 L i l=.int .i64 (n:Int):=by intro _;kernel_rfl) (hk:kd ks i=.det (.slice (some ⟨b,n,none⟩) (len-n) (c-n))):Obl Tryz.prog ops ks T a0 B w0 H i o:=⟨ob_pure hw hk fun L w=>by
  have h1:(0:Int)≤(n:Int)∧(n:Int)≤(len:Int):=⟨by omega,by omega⟩
  have h2:¬ c=n:=by omega
  have h3:(0:Int)≤(len:Int)∧(len:Int)≤(c:Int):=⟨by omega,by omega⟩
  have hsz:(sizeOf 5).run Tryz.prog w=.ok 1 w:=size_of sizeY w
  unfold execOp
  simp [ho,hx L,hl L,Instr.sliceAt,Instr.slice,Instr.sliceBounds,Instr.sliceBound,asIntOf,Sem.run_bind,run_underlying Tryz.underlying45,hsz,hn,hlc,h2,Addr.add_mid]⟩
def isC (B:Nat) (bs:List Nat) (f:Nat→Int) (n:Nat) (v:Value) (w:World):Prop:=∃ k,v=.slice (some ⟨k,0,none⟩) n n∧Box w k (BC f n)
theorem isC.stay {B:Nat} {bs:List Nat} {f:Nat→Int} {n:Nat} {v:Value} {w x:World} (h:isC B bs f n v w) (hb:Below w.heap.size w x):isC B bs f n v x:=by
 obtain ⟨k,e,h5⟩:=h
 exact ⟨k,e,h5.up hb⟩
def RetC (f:Nat→Int) (n:Nat) (w:World):Ending→World→Prop:=fun e w'=>∃ v,e=.returned v∧isC 0 [] f n v w'∧Below w.heap.size w w'
theorem newC {L:Lt} {w:World} {fn:FuncId} {vs:Array Value} {f:Nat→Int} {n:Nat} (hs:Seen ks T B w0 H L i w) (bs:List Nat) (h:Calls Tryz.prog fn vs w (RetC f n w)):Calls Tryz.prog fn vs w fun e w'=>∃ v,e=.returned v∧isC B bs f n v w'∧Below w.heap.size w w':=h
theorem oApC {x y:Operand} {f g:Nat→Int} {m n:Nat} {bs1 bs2:List Nat} (bs:List Nat) (j1 j2:Nat) (h0:0<n) (hm:m+n≤1000)
  (hj1:kd ks j1=.any (isC B bs1 f m):=by exact rfl) (hb1:bef T i j1=true:=by kernel_rfl) (hx:∀ L,rd ops ks T a0 L i x=L.v j1:=by intro _;kernel_rfl)
  (hj2:kd ks j2=.any (isC B bs2 g n):=by exact rfl) (hb2:bef T i j2=true:=by kernel_rfl) (hy:∀ L,rd ops ks T a0 L i y=L.v j2:=by intro _;kernel_rfl)
  (hw:∀ L,wantedR ks L o=true:=by intro _;kernel_rfl) (he:Pl.early T ks i=true:=by kernel_rfl) (ho:o.op=.call { callee:=.builtin .append,args:=#[x,y],argTypes:=#[45,45] }:=by exact rfl)
  (hb:bs=H.map (·.1):=by rfl) (hk:kd ks i=.any (isB B bs (cat f m g) (m+n))):Obl Tryz.prog ops ks T a0 B w0 H i o:=by
 refine oAp bs h0 hm (fun L w hs=>?_) (fun L w hs=>?_) hw he ho hb hk
 ·obtain ⟨k,e,hB⟩:=hs.any j1 _ hj1 hb1
  exact ⟨⟨k,0,none⟩,(hx L).trans e,fun j hj=>by rw [Addr.add_mid];exact hB.cells j _ (BC_at hj)⟩
 ·obtain ⟨k,e,hB⟩:=hs.any j2 _ hj2 hb2
  exact ⟨⟨k,0,none⟩,n,(hy L).trans e,fun j hj=>by rw [Addr.add_mid];exact hB.cells j _ (BC_at hj)⟩
theorem splice_BC (f:Nat→Int) {n j:Nat} (v:Int) (hj:j<n):BC (su f j v) n=Pl.splice (BC f n) (0+j*1) [.int .u8 v]:=by
 rw [Nat.zero_add,Nat.mul_one]
 unfold Pl.splice
 rw [List.append_assoc]
 refine List.ext_getElem? fun i=>?_
 have l1:(List.take j (BC f n)).length=j:=by rw [List.length_take,BC_len];omega
 rcases Nat.lt_or_ge i n with hi | hi
 ·rw [BC_at hi]
  rcases Nat.lt_trichotomy i j with h | h | h
  ·rw [List.getElem?_append_left (by rw [l1];exact h),List.getElem?_take_of_lt h,BC_at hi,su_ne (by omega)]
  ·subst h
   rw [List.getElem?_append_right (by rw [l1];exact Nat.le_refl _),l1,Nat.sub_self,su_at];rfl
  ·rw [List.getElem?_append_right (by rw [l1];omega),l1,List.getElem?_append_right (by show 1≤i-j;omega),List.getElem?_drop,su_ne (by omega)]
   show _=(BC f n)[j+1+(i-j-1)]?
   rw [show j+1+(i-j-1)=i by omega,BC_at hi]
 ·rw [List.getElem?_eq_none (by rw [BC_len];exact hi),List.getElem?_eq_none]
  rw [List.length_append,List.length_append,l1,List.length_drop,BC_len]
  show j+(1+(n-(j+1)))≤i
  omega
theorem oTY {x y:Operand} {l:Pl.Loc} {j n:Nat} {f:Nat→Int} {v:Int} (hj:j<n) (hl:oldOf ks H l=BC f n:=by kernel_rfl) (hw:∀ L,wantedR ks L o=true:=by intro _;kernel_rfl) (ho:o.op=.store 5 x y:=by exact rfl)
  (hx:∀ L,rd ops ks T a0 L i x=.pointer (some ⟨addr H L l,0+j*1,none⟩):=by intro _;kernel_rfl) (hy:∀ L,rd ops ks T a0 L i y=.int .u8 v:=by intro _;kernel_rfl) (hk:kd ks i=.store l (0+j*1) [.int .u8 v] (BC (su f j v) n)):Obl Tryz.prog ops ks T a0 B w0 H i o :=
 oT1 oneY rfl hw ho hx hy rfl (by rw [hl,BC_len];exact Nat.ble_eq_true_of_le (by omega)) (by rw [hl];exact splice_BC f v hj) hk
theorem remN (t:TypeId) (n m r:Nat) (hm:0<m) (hn:n<1000000) (hr:n%m=r) (w:World):(binOp .rem t (.int .i64 (n:Int)) (.int .i64 (m:Int))).run Tryz.prog w=.ok (.int .i64 (r:Int)) w:=by
 have e0:(n:Int).tmod (m:Int)=(r:Int):=by rw [Int.tmod_eq_emod_of_nonneg (by omega),← hr];rfl
 have h1:¬ m=0:=by omega
 have e:IntKind.i64.wrap (r:Int)=(r:Int):=by
  have:r≤n:=by rw [← hr];exact Nat.mod_le _ _
  unfold IntKind.wrap;simp [IntKind.bits,IntKind.signed];omega
 simp [binOp,Sem.run_bind,Op.intDiv,e0,h1,e]
theorem mulY (t:TypeId) (a b c:Int) (h:a*b=c) (h0:0≤c∧c<256) (w:World):(binOp .mul t (.int .u8 a) (.int .u8 b)).run Tryz.prog w=.ok (.int .u8 c) w:=by
 have e:IntKind.u8.wrap (a*b)=c:=by unfold IntKind.wrap;simp [IntKind.bits,IntKind.signed];omega
 simp only [binOp,Op.intArith,e];simp [Sem.run_bind,e]
theorem shrY (t:TypeId) (a b:Int) (k:Nat) (h:a / 2^k=b) (hk:k<8) (w:World):(binOp .shr t (.int .u8 a) (.int .u64 (k:Int))).run Tryz.prog w=.ok (.int .u8 b) w:=by
 have e:min k IntKind.u8.bits=k:=by simp [IntKind.bits];omega
 have e2:a.fdiv (2^k)=a / 2^k:=Int.fdiv_eq_ediv_of_nonneg _ (Int.le_of_lt (Int.pow_pos (by decide)))
 simp [binOp,Op.shift,Sem.run_bind,e,e2,h]
theorem remY (t:TypeId) (a b c:Int) (h:a%b=c) (h0:0≤a) (hb:0<b) (w:World):(binOp .rem t (.int .u8 a) (.int .u8 b)).run Tryz.prog w=.ok (.int .u8 c) w:=by
 have e:a.tmod b=c:=by rw [Int.tmod_eq_emod_of_nonneg h0];exact h
 have h1:¬ b=0:=by omega
 simp [binOp,Op.intDiv,Sem.run_bind,h1,e]
theorem lssY (t:TypeId) (a b:Int) (w:World):(binOp .lss t (.int .u8 a) (.int .u8 b)).run Tryz.prog w=.ok (.bool (decide (a<b))) w:=by simp [binOp,Op.intCmp,Sem.run_bind]
theorem geqY (t:TypeId) (a b:Int) (w:World):(binOp .geq t (.int .u8 a) (.int .u8 b)).run Tryz.prog w=.ok (.bool (decide (b≤a))) w:=by simp [binOp,Op.intCmp,Sem.run_bind]
end
def pb (a:F):Nat→Int:=fun j=>byt (lb a.val) 6 (48-1-j)
theorem pb_rg (a:F) (j:Nat):0≤pb a j∧pb a j<256:=by unfold pb byt;omega
theorem pb_aux (v z r:Int) (h:v+z*2135987035920910082395021706169552114602704522356652769947041607822219725780640550022962086936576<4002409555221667393417789825735904156556882819939007885332058136124031650490837864442687629129015664037894272559787) (hv:0≤v) (hz:0≤z):z / 72057594037927936%256<32:=by omega
theorem pw5:pw 5=2135987035920910082395021706169552114602704522356652769947041607822219725780640550022962086936576:=by kernel_rfl
theorem pb_top (a:F):0≤pb a 0∧pb a 0<32:=by
 refine ⟨(pb_rg a 0).1,?_⟩
 show byt (lb a.val) 6 47<32
 unfold byt
 rw [lm_in (by decide)]
 have h:val (lb a.val) 5+lb a.val 5*pw 5<RI:=lt_RI a
 rw [pw5] at h
 exact pb_aux _ _ 0 h (val_bd (lb_rg _ _)).1 (lb_rg a.val 6 5 (by decide)).1
def ptx:Pt F→Nat→Int
 | .inf=>fun j=>bif Nat.beq j 0 then 192 else 0
 | .aff x y=>su (pb x) 0 (pb x 0+(bif great y then 160 else 128))
def ofB (g:Nat→Int):F:=Fin.ofNat RN (bv g 48).toNat
theorem refTakeF (g:Nat→Int) (p:Option Addr) (c:Nat) (w:World) (h:AtK .u8 w p 48 g) (hg:∀ j,j<48→0≤g j∧g j<256) (a:F) (ha:bv g 48=(a.val:Int)):Calls Tryz.prog 58 #[.slice p 48 c] w (Ret (.tuple #[FV a,.int .i64 0]) w):=by
 refine Calls.mono (takeR_any p c g w h hg) ?_
 have e:val (pl g 48 48) 6=(a.val:Int):=(pl_bv g 48).trans ha
 have hl:val (pl g 48 48) 6<RI:=by rw [e,RI_RN];have:=a.isLt;omega
 rintro e' w' ⟨hc | ⟨hc,-⟩,hb⟩
 ·obtain ⟨-,v,he,⟨f,hv,rf,vf⟩⟩:=hc
  exact ⟨by rw [he,hv,show (Value.agg _)=FV a from agg_of rf (vf.trans e)],hb⟩
 ·omega
theorem refTakeBig (g:Nat→Int) (p:Option Addr) (c:Nat) (w:World) (h:AtK .u8 w p 48 g) (hg:∀ j,j<48→0≤g j∧g j<256) (hl:RI≤bv g 48):Calls Tryz.prog 58 #[.slice p 48 c] w (Ret (.tuple #[FV 0,.int .i64 4]) w):=by
 refine Calls.mono (takeR_any p c g w h hg) ?_
 have e:val (pl g 48 48) 6=bv g 48:=pl_bv g 48
 rintro e' w' ⟨⟨hc,-⟩ | ⟨-,he⟩,hb⟩
 ·omega
 ·exact ⟨he.trans (congrArg (fun v=>Ending.returned (.tuple #[v,.int .i64 4])) (agg_of (h:=Z) (Z_rg 6) (c:=0) (val_Z 6))),hb⟩
theorem fpPutB (a:F) (w:World):Calls Tryz.prog 79 #[FV a] w (RetB (pb a) 48 w):=by
 refine Calls.mono (frPut_new (lb a.val) w (lb_rg _ _)) ?_
 rintro e w' ⟨b,lb',he,hb,m⟩
 exact ⟨_,he,⟨b,48,rfl,Nat.le_refl _,by decide,lb',fun b hb=>(by cases hb),box_of (by decide) m⟩,hb⟩
theorem refPutB (a:F) (w:World):Calls Tryz.prog 50 #[FV a] w (RetB (pb a) 48 w):=by
 refine Calls.mono (putR_new (lb a.val) w (lb_rg _ _)) ?_
 rintro e w' ⟨b,lb',he,hb,m⟩
 exact ⟨_,he,⟨b,48,rfl,Nat.le_refl _,by decide,lb',fun b hb=>(by cases hb),box_of (by decide) m⟩,hb⟩
theorem addY (t:TypeId) (a b c:Int) (h:a+b=c) (h0:0≤c∧c<256) (w:World):(binOp .add t (.int .u8 a) (.int .u8 b)).run Tryz.prog w=.ok (.int .u8 c) w:=by
 have e:IntKind.u8.wrap (a+b)=c:=by unfold IntKind.wrap;simp [IntKind.bits,IntKind.signed];omega
 simp only [binOp,Op.intArith,e];simp [Sem.run_bind,e]
theorem refPutC (a:F) (w:World):Calls Tryz.prog 50 #[FV a] w (RetC (pb a) 48 w):=by
 refine Calls.mono (putR_new (lb a.val) w (lb_rg _ _)) ?_
 rintro e w' ⟨b,lb',he,hb,m⟩
 exact ⟨_,he,⟨b,rfl,box_of (by decide) m⟩,hb⟩
end Go.Proofs.YtmibajbpimcfnaaGreatDoor.fpn
/- Points as bytes: what the reference writes. -/
namespace Go.Proofs.YtmibajbpimcfnaaGreatDoor.fpn
open Go.RowKit Pl EC
theorem ref5Put1i (R:RefK)  (w:World):Calls Tryz.prog 20 #[GV ⟨0,0,true⟩] w (RetB (ptx .inf) 48 w):=by
 have fin0:BC (su (fun _=>0) 0 192) 48=BC (ptx .inf) 48:=by subst_vars;kernel_rfl
 have hp0:=Heap.start w
 go_enter Tryz.func20,Tryz.ntmps20
 refine sgsD [.alloc (GC ⟨0,0,true⟩),.det (.slice none 0 0)] [0,1] [0,0] (fun L d=>[d 0,L.p 0]++D d 2 24) (fun L=>[(L.b 0,GC ⟨0,0,true⟩)]) hp0 ⟨
  oB,oA,
  trivial⟩ (fun L0 d0 w1 hp1=>?_)
 refine wp_seq_k (fun K2 k2=>?_)
 refine gsA [.det (L0.p 0),.det (FV 0),.any (isB w.heap.size [L0.b 0] (pb 0) 48),.detV 2 (fun v=>v)] [0,1,2,3] [0,1,3,7] (fun L=>[d0 0,L0.p 0,d0 2,L.v 2,L0.p 0,FV 0,L.v 2]++D d0 7 19) (fun L=>[(L0.b 0,GC ⟨0,0,true⟩)]) hp1 ⟨
  oF fG0,oL 0 0 rF,oY (fun L=>#[FV 0]) (fun _ _ _ h hb=>h.stay hb) (fun L w hs=>newB hs [L0.b 0] (refPutB 0 w)),oAV,
  trivial⟩ (fun L1 w2 hp2 ha2=>?_)
 obtain ⟨kb1b2,cb1b2,eb1b2,lb1b2,mb1b2,qb1b2,ub1b2,xb1b2⟩:=AnyF.at ha2 (j:=2) rfl rfl
 rw [eb1b2]
 have hp21b2:=Heap.add hp2 qb1b2 ub1b2 xb1b2
 refine k2 _ _ ?_
 refine wp_seq_k (fun K3 k3=>?_)
 refine sgsD [.det (pt (L0.b 0) 12),.det (.bool true)] [0,1] [0,1] (fun L d=>D d 0 8++([.bool true]++D d 9 17)) (fun L=>[(L0.b 0,GC ⟨0,0,true⟩),(kb1b2,BC (pb 0) 48)]) hp21b2 ⟨
  oF fG2,oL1 0 12 oneB,
  trivial⟩ (fun L2 d2 w3 hp3=>?_)
 refine cT ?_
 refine sgsD [.alloc (BC (fun _=>0) 48),.detB 0 (fun b=>.slice (some ⟨b,0,none⟩) 48 48)] [0,1] [0,1] (fun L d=>D d 0 3++([.slice (some ⟨L.b 0,0,none⟩) 48 48]++D d 4 22)) (fun L=>[(L0.b 0,GC ⟨0,0,true⟩),(kb1b2,BC (pb 0) 48),(L.b 0,BC (fun _=>0) 48)]) hp3 ⟨
  oMa (by decide) (by decide),oAN,
  trivial⟩ (fun L3 d3 w4 hp4=>?_)
 refine gsD [.det (.slice (some ⟨(L3.b 0),0,none⟩) 48 48),.det (L3.p 0),.store (.base 2) 0 ([.int .u8 64]) (BC (su (fun _=>0) 0 64) 48)] [0,1,2] [0,1,3] (fun L d=>D d 0 3++([.slice (some ⟨(L3.b 0),0,none⟩) 48 48]++D d 4 22)) (fun L=>[(L0.b 0,GC ⟨0,0,true⟩),(kb1b2,BC (pb 0) 48),(L3.b 0,BC (su (fun _=>0) 0 64) 48)]) hp4 ⟨
  oM,oIS (b:=(L3.b 0)) (off:=0) (n:=48) (c:=48) (sz:=1) 0 Tryz.underlying45 sizeY (by decide),oT1 oneY,
  trivial⟩ (fun L4 d4 w5 hp5=>?_)
 refine k3 _ _ ?_
 refine sgsD [.det (.slice (some ⟨(L3.b 0),0,none⟩) 48 48),.det (L3.p 0),.det (.int .u8 64),.det (.int .u8 192),.det (L3.p 0),.store (.base 2) 0 ([.int .u8 192]) (BC (su (fun _=>0) 0 192) 48)] (nn 6) [0,1,3,7,15,31] (fun L d=>D d 0 3++([.slice (some ⟨(L3.b 0),0,none⟩) 48 48]++D d 4 22)) (fun L=>[(L0.b 0,GC ⟨0,0,true⟩),(kb1b2,BC (pb 0) 48),(L3.b 0,BC (su (fun _=>0) 0 192) 48)]) hp5 ⟨
  oM,oIS (b:=(L3.b 0)) (off:=0) (n:=48) (c:=48) (sz:=1) 0 Tryz.underlying45 sizeY (by decide),oL1 2 0 oneY,oJ .u8 .u8 64 128 (h:=fun w=>addY _ _ _ _ (by decide) (by decide) w),
  oIS (b:=(L3.b 0)) (off:=0) (n:=48) (c:=48) (sz:=1) 0 Tryz.underlying45 sizeY (by decide),oT1 oneY,
  trivial⟩ (fun L5 d5 w6 hp6=>?_)
 refine sgsD [.det (.slice (some ⟨(L3.b 0),0,none⟩) 48 48),.det (.slice (some ⟨(L3.b 0),0,none⟩) 48 48)] [0,1] [0,1] (fun L d=>D d 0 2++([.slice (some ⟨(L3.b 0),0,none⟩) 48 48]++D d 3 23)) (fun L=>[(L0.b 0,GC ⟨0,0,true⟩),(kb1b2,BC (pb 0) 48),(L3.b 0,BC (su (fun _=>0) 0 192) 48)]) hp6 ⟨
  oM,oA,
  trivial⟩ (fun L6 d6 w7 hp7=>?_)
 refine wp_ret ?_
 refine bodyPost_ret (v:=.slice (some ⟨(L3.b 0),0,none⟩) 48 48) ?_ rfl ?_
 ·exact res_t rfl (by kernel_rfl) _
 ·exact ⟨_,rfl,⟨(L3.b 0),48,rfl,Nat.le_refl _,by decide,(hp7.bound 2 rfl).1,(fun b hb=>by cases hb),box_eq fin0 (hp7.bound 2 rfl).2⟩,hp7.bel⟩
theorem ref5Put1a (R:RefK) (x y:F) (w:World):Calls Tryz.prog 20 #[GV ⟨x,y,false⟩] w (RetB (ptx (.aff x y)) 48 w):=by
 have fin0:(great y)=true→BC (su (pb x) 0 (pb x 0+160)) 48=BC (ptx (.aff x y)) 48:=by subst_vars;intro h1q;show _=BC (su (pb x) 0 (pb x 0+(bif great y then 160 else 128))) 48;rw [h1q];kernel_rfl
 have fin1:(great y)=false→BC (su (pb x) 0 (pb x 0+128)) 48=BC (ptx (.aff x y)) 48:=by subst_vars;intro h1q;show _=BC (su (pb x) 0 (pb x 0+(bif great y then 160 else 128))) 48;rw [h1q];kernel_rfl
 have hp0:=Heap.start w
 go_enter Tryz.func20,Tryz.ntmps20
 refine sgsD [.alloc (GC ⟨x,y,false⟩),.det (.slice none 0 0)] [0,1] [0,0] (fun L d=>[d 0,L.p 0]++D d 2 24) (fun L=>[(L.b 0,GC ⟨x,y,false⟩)]) hp0 ⟨
  oB,oA,
  trivial⟩ (fun L0 d0 w1 hp1=>?_)
 refine wp_seq_k (fun K2 k2=>?_)
 refine gsA [.det (L0.p 0),.det (FV x),.any (isB w.heap.size [L0.b 0] (pb x) 48),.detV 2 (fun v=>v)] [0,1,2,3] [0,1,3,7] (fun L=>[d0 0,L0.p 0,d0 2,L.v 2,L0.p 0,FV x,L.v 2]++D d0 7 19) (fun L=>[(L0.b 0,GC ⟨x,y,false⟩)]) hp1 ⟨
  oF fG0,oL 0 0 rF,oY (fun L=>#[FV x]) (fun _ _ _ h hb=>h.stay hb) (fun L w hs=>newB hs [L0.b 0] (refPutB x w)),oAV,
  trivial⟩ (fun L1 w2 hp2 ha2=>?_)
 obtain ⟨kb1b2,cb1b2,eb1b2,lb1b2,mb1b2,qb1b2,ub1b2,xb1b2⟩:=AnyF.at ha2 (j:=2) rfl rfl
 rw [eb1b2]
 have hp21b2:=Heap.add hp2 qb1b2 ub1b2 xb1b2
 refine k2 _ _ ?_
 refine wp_seq_k (fun K3 k3=>?_)
 refine sgsD [.det (pt (L0.b 0) 12),.det (.bool false)] [0,1] [0,1] (fun L d=>[d 0,L0.p 0,d 2,.slice (some ⟨kb1b2,0,none⟩) 48 cb1b2]++(D d 4 4++([.bool false]++D d 9 17))) (fun L=>[(L0.b 0,GC ⟨x,y,false⟩),(kb1b2,BC (pb x) 48)]) hp21b2 ⟨
  oF fG2,oL1 0 12 oneB,
  trivial⟩ (fun L2 d2 w3 hp3=>?_)
 refine cF ?_
 refine sgsD [.det (pt (L0.b 0) 6),.det (FV y),.det (.bool (great y))] [0,1,2] [0,1,3] (fun L d=>D d 0 3++([.slice (some ⟨kb1b2,0,none⟩) 48 cb1b2]++(D d 4 10++([.bool (great y)]++D d 15 11)))) (fun L=>[(L0.b 0,GC ⟨x,y,false⟩),(kb1b2,BC (pb x) 48)]) hp3 ⟨
  oF fG1,oL 0 6 rF,oR (fun w=>R.great y w trivial),
  trivial⟩ (fun L3 d3 w4 hp4=>?_)
 rcases Bool.eq_false_or_eq_true (great y) with h1q | h1q
 ·skip
  refine cond_t h1q ?_
  refine gsD [.det (.slice (some ⟨kb1b2,0,none⟩) 48 cb1b2),.det (pt kb1b2 0),.det (.int .u8 (pb x 0)),.det (.int .u8 (pb x 0+32)),.det (pt kb1b2 0),.store (.base 1) 0 ([.int .u8 (pb x 0+32)]) (BC (su (pb x) 0 (pb x 0+32)) 48)] (nn 6) [0,1,3,7,15,31] (fun L d=>D d 0 3++([.slice (some ⟨kb1b2,0,none⟩) 48 cb1b2]++D d 4 22)) (fun L=>[(L0.b 0,GC ⟨x,y,false⟩),(kb1b2,BC (su (pb x) 0 (pb x 0+32)) 48)]) hp4 ⟨
   oM,oIS (b:=kb1b2) (off:=0) (n:=48) (c:=cb1b2) (sz:=1) 0 Tryz.underlying45 sizeY (by decide),oL1 1 0 oneY,oJ .u8 .u8 (pb x 0) 32 (h:=fun w=>addY _ _ _ _ (by omega) (by have:=pb_top x;omega) w),
   oIS (b:=kb1b2) (off:=0) (n:=48) (c:=cb1b2) (sz:=1) 0 Tryz.underlying45 sizeY (by decide),oT1 oneY,
   trivial⟩ (fun L4 d4 w5 hp5=>?_)
  refine k3 _ _ ?_
  refine sgsD [.det (.slice (some ⟨kb1b2,0,none⟩) 48 cb1b2),.det (pt kb1b2 0),.det (.int .u8 (pb x 0+32)),.det (.int .u8 (pb x 0+160)),.det (pt kb1b2 0),.store (.base 1) 0 ([.int .u8 (pb x 0+160)]) (BC (su (pb x) 0 (pb x 0+160)) 48)] (nn 6) [0,1,3,7,15,31] (fun L d=>D d 0 3++([.slice (some ⟨kb1b2,0,none⟩) 48 cb1b2]++D d 4 22)) (fun L=>[(L0.b 0,GC ⟨x,y,false⟩),(kb1b2,BC (su (pb x) 0 (pb x 0+160)) 48)]) hp5 ⟨
   oM,oIS (b:=kb1b2) (off:=0) (n:=48) (c:=cb1b2) (sz:=1) 0 Tryz.underlying45 sizeY (by decide),oL1 1 0 oneY,oJ .u8 .u8 (pb x 0+32) 128 (h:=fun w=>addY _ _ _ _ (by omega) (by have:=pb_top x;omega) w),
   oIS (b:=kb1b2) (off:=0) (n:=48) (c:=cb1b2) (sz:=1) 0 Tryz.underlying45 sizeY (by decide),oT1 oneY,
   trivial⟩ (fun L5 d5 w6 hp6=>?_)
  refine sgsD [.det (.slice (some ⟨kb1b2,0,none⟩) 48 cb1b2),.det (.slice (some ⟨kb1b2,0,none⟩) 48 cb1b2)] [0,1] [0,1] (fun L d=>D d 0 2++([.slice (some ⟨kb1b2,0,none⟩) 48 cb1b2]++D d 3 23)) (fun L=>[(L0.b 0,GC ⟨x,y,false⟩),(kb1b2,BC (su (pb x) 0 (pb x 0+160)) 48)]) hp6 ⟨
   oM,oA,
   trivial⟩ (fun L6 d6 w7 hp7=>?_)
  refine wp_ret ?_
  refine bodyPost_ret (v:=.slice (some ⟨kb1b2,0,none⟩) 48 cb1b2) ?_ rfl ?_
  ·exact res_t rfl (by kernel_rfl) _
  ·exact ⟨_,rfl,⟨kb1b2,cb1b2,rfl,lb1b2,mb1b2,qb1b2,(fun b hb=>by cases hb),box_eq (fin0 h1q) (hp7.bound 1 rfl).2⟩,hp7.bel⟩
 ·skip
  refine cond_f h1q ?_
  refine skips ?_
  refine k3 _ _ ?_
  refine sgsD [.det (.slice (some ⟨kb1b2,0,none⟩) 48 cb1b2),.det (pt kb1b2 0),.det (.int .u8 (pb x 0)),.det (.int .u8 (pb x 0+128)),.det (pt kb1b2 0),.store (.base 1) 0 ([.int .u8 (pb x 0+128)]) (BC (su (pb x) 0 (pb x 0+128)) 48)] (nn 6) [0,1,3,7,15,31] (fun L d=>D d 0 3++([.slice (some ⟨kb1b2,0,none⟩) 48 cb1b2]++D d 4 22)) (fun L=>[(L0.b 0,GC ⟨x,y,false⟩),(kb1b2,BC (su (pb x) 0 (pb x 0+128)) 48)]) hp4 ⟨
   oM,oIS (b:=kb1b2) (off:=0) (n:=48) (c:=cb1b2) (sz:=1) 0 Tryz.underlying45 sizeY (by decide),oL1 1 0 oneY,oJ .u8 .u8 (pb x 0) 128 (h:=fun w=>addY _ _ _ _ (by omega) (by have:=pb_top x;omega) w),
   oIS (b:=kb1b2) (off:=0) (n:=48) (c:=cb1b2) (sz:=1) 0 Tryz.underlying45 sizeY (by decide),oT1 oneY,
   trivial⟩ (fun L4 d4 w5 hp5=>?_)
  refine sgsD [.det (.slice (some ⟨kb1b2,0,none⟩) 48 cb1b2),.det (.slice (some ⟨kb1b2,0,none⟩) 48 cb1b2)] [0,1] [0,1] (fun L d=>D d 0 2++([.slice (some ⟨kb1b2,0,none⟩) 48 cb1b2]++D d 3 23)) (fun L=>[(L0.b 0,GC ⟨x,y,false⟩),(kb1b2,BC (su (pb x) 0 (pb x 0+128)) 48)]) hp5 ⟨
   oM,oA,
   trivial⟩ (fun L5 d5 w6 hp6=>?_)
  refine wp_ret ?_
  refine bodyPost_ret (v:=.slice (some ⟨kb1b2,0,none⟩) 48 cb1b2) ?_ rfl ?_
  ·exact res_t rfl (by kernel_rfl) _
  ·exact ⟨_,rfl,⟨kb1b2,cb1b2,rfl,lb1b2,mb1b2,qb1b2,(fun b hb=>by cases hb),box_eq (fin1 h1q) (hp6.bound 1 rfl).2⟩,hp6.bel⟩
theorem ref5Put1 (R:RefK) (P:Pt F) (w:World):Calls Tryz.prog 20 #[GV (gp P)] w (RetB (ptx P) 48 w):=by
 cases P with
 | inf=>exact ref5Put1i R w
 | aff x y=>exact ref5Put1a R x y w
end Go.Proofs.YtmibajbpimcfnaaGreatDoor.fpn
/- What Take1 answers. -/
namespace Go.Proofs.YtmibajbpimcfnaaGreatDoor.fpn
open Go.RowKit Pl EC
def hdz (g:Nat→Int) (n:Nat):Bool:=decide ((∀ j,j<n→su g 0 (g 0%32) j=0)∧¬ g 0 / 32=7)
def tkE (e:Int):Value:=.tuple #[GV ⟨0,0,false⟩,.int .i64 e]
noncomputable def tk1 (a:F) (gr:Bool):Value :=
 bif isq (a*a*a+4) then
  bif decide (root (a*a*a+4)=0) && gr then tkE 3 else
  bif gr then (bif decide (mul finv ordR (.aff a (-root (a*a*a+4)))=.inf) then .tuple #[GV ⟨a,-root (a*a*a+4),false⟩,.int .i64 0] else tkE 6)
  else (bif decide (mul finv ordR (.aff a (root (a*a*a+4)))=.inf) then .tuple #[GV ⟨a,root (a*a*a+4),false⟩,.int .i64 0] else tkE 6)
 else tkE 5
noncomputable def tkA (g:Nat→Int) (n:Nat):Value :=
 if n<48 then tkE 2 else if 48<n then tkE 8 else if g 0 / 32<4 then tkE 3
 else if 6≤g 0 / 32 then (bif hdz g 48 then .tuple #[GV ⟨0,0,true⟩,.int .i64 0] else tkE 3)
 else if bv (su g 0 (g 0%32)) 48<RI then tk1 (ofB (su g 0 (g 0%32))) (decide (g 0 / 32=5)) else tkE 4
theorem su_rg {g:Nat→Int} {n:Nat} (h:∀ j,j<n→0≤g j∧g j<256) (h0:0<n):∀ j,j<n→0≤su g 0 (g 0%32) j∧su g 0 (g 0%32) j<256:=fun j hj=>by
 by_cases e:j=0
 ·subst e;rw [su_at];have:=h 0 h0;omega
 ·rw [su_ne e];exact h j hj
theorem bv_nn {g:Nat→Int}:∀ {n:Nat},(∀ j,j<n→0≤g j∧g j<256)→0≤bv g n
 | 0,_=>Int.le_refl _
 | n+1,h=>by
  have h1:=bv_nn (n:=n) fun j hj=>h j (by omega)
  have h2:=h n (by omega)
  show 0≤bv g n*256+g n
  omega
theorem ofB_val {g:Nat→Int} (h:∀ j,j<48→0≤g j∧g j<256) (hl:bv g 48<RI):bv g 48=((ofB g).val:Int):=by
 have h0:=bv_nn h
 show _=(((bv g 48).toNat%RN:Nat):Int)
 rw [RI_RN] at hl
 rw [Nat.mod_eq_of_lt (by omega)]
 omega
end Go.Proofs.YtmibajbpimcfnaaGreatDoor.fpn
