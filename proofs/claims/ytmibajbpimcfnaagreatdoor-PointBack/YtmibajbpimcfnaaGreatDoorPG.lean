/- Texts laid together. -/
import Derived.Test.YtmibajbpimcfnaaGreatDoorPA
import Derived.Test.YtmibajbpimcfnaaGreatDoorGX
import Derived.Test.YtmibajbpimcfnaaGreatDoorGO
import Derived.Test.YtmibajbpimcfnaaGreatDoorQA
import Derived.Laws.Closers25b
set_option linter.unusedVariables false
set_option linter.unusedSimpArgs false
set_option maxRecDepth 4000
set_option maxHeartbeats 4000000
/- Bytes that are read are those that are written. -/
namespace Go.Proofs.YtmibajbpimcfnaaGreatDoor.fpn
open Go.RowKit Pl EC
theorem bv_inj {f g:Nat→Int}:∀ {n:Nat},(∀ j,j<n→0≤f j∧f j<256)→(∀ j,j<n→0≤g j∧g j<256)→bv f n=bv g n→∀ j,j<n→f j=g j
 | 0,_,_,_,j,hj=>absurd hj (by omega)
 | n+1,hf,hg,h,j,hj=>by
  have h':bv f n*256+f n=bv g n*256+g n:=h
  have a:=hf n (by omega);have b:=hg n (by omega)
  have e:bv f n=bv g n:=by omega
  rcases Nat.lt_or_ge j n with c | c
  ·exact bv_inj (fun j hj=>hf j (by omega)) (fun j hj=>hg j (by omega)) e j c
  ·obtain rfl:j=n:=by omega
   omega
theorem tup_inj {a b:Value} {x y:Int} (h:(.tuple #[a,.int .i64 x]:Value)=.tuple #[b,.int .i64 y]):a=b∧x=y:=by
 simpa using h
theorem tkE_no {V:G1p} {e:Int} (he:e≠0) (h:tkE e=.tuple #[GV V,.int .i64 0]):False:=he (tup_inj h).2
theorem tkH_inv {q d gr i1 i0:Bool} {V1 V0:Value} {V:G1p} (h:tkH q d gr i1 i0 V1 V0=.tuple #[GV V,.int .i64 0]):(gr=true∧d=false∧q=true∧V1=.tuple #[GV V,.int .i64 0])∨(gr=false∧q=true∧V0=.tuple #[GV V,.int .i64 0]):=by
 cases q with
 | false=>exact (tkE_no (e:=5) (by decide) h).elim
 | true =>
  cases gr with
  | false =>
   cases i0 with
   | false=>cases d<;>exact (tkE_no (e:=6) (by decide) h).elim
   | true=>cases d<;>exact .inr ⟨rfl,rfl,h⟩
  | true =>
   cases d with
   | true=>exact (tkE_no (e:=3) (by decide) h).elim
   | false =>
    cases i1 with
    | false=>exact (tkE_no (e:=6) (by decide) h).elim
    | true=>exact .inl ⟨rfl,rfl,rfl,h⟩
theorem tk_inj1 {g:Nat→Int} (rg:∀ j,j<48→0≤g j∧g j<256) {V:G1p} (h:tkA g 48=.tuple #[GV V,.int .i64 0]):∃ P:Pt F,GV V=GV (gp P)∧∀ j,j<48→ptx P j=g j:=by
 unfold tkA at h
 rw [if_neg (by decide),if_neg (by decide)] at h
 by_cases hl:g 0 / 32<4
 ·rw [if_pos hl] at h;exact (tkE_no (e:=3) (by decide) h).elim
 rw [if_neg hl] at h
 have r0:=rg 0 (by decide)
 by_cases h6:6≤g 0 / 32
 ·rw [if_pos h6] at h
  cases hz:hdz g 48 with
  | false=>rw [hz] at h;exact (tkE_no (e:=3) (by decide) h).elim
  | true =>
   rw [hz] at h
   obtain ⟨ha,h7⟩:=of_decide_eq_true hz
   refine ⟨.inf,(tup_inj h).1.symm,fun j hj=>?_⟩
   by_cases e:j=0
   ·subst e
    have h0:=ha 0 (by decide)
    rw [su_at] at h0
    show (192:Int)=g 0
    omega
   ·have h0:=ha j hj
    rw [su_ne e] at h0
    show (bif Nat.beq j 0 then (192:Int) else 0)=g j
    rw [h0,show Nat.beq j 0=false by cases hh:Nat.beq j 0 with | false=>rfl | true=>exact absurd (Nat.eq_of_beq_eq_true hh) e];rfl
 rw [if_neg h6] at h
 have rf:=su_rg rg (by decide)
 by_cases ha:bv (su g 0 (g 0%32)) 48<RI
 ·rw [if_pos ha] at h
  have hv:=ofB_val rf ha
  generalize ofB (su g 0 (g 0%32))=x at h hv
  have hp:∀ j,j<48→pb x j=su g 0 (g 0%32) j:=bv_inj (fun j _=>pb_rg x j) rf ((bv_pb x).trans hv.symm)
  have hb:∀ (y:F),(pb x 0+(bif great y then 160 else 128)=g 0)→∀ j,j<48→ptx (.aff x y) j=g j:=fun y hy j hj=>by
   by_cases e:j=0
   ·subst e;exact (su_at _ _ _).trans hy
   ·rw [show ptx (.aff x y) j=pb x j from su_ne e,hp j hj,su_ne e]
  have p0:pb x 0=g 0%32:=(hp 0 (by decide)).trans (su_at _ _ _)
  rw [tk1_H x _ (root (x*x*x+4)) rfl] at h
  rcases tkH_inv h with ⟨hgr,hd,hq,hV⟩ | ⟨hgr,hq,hV⟩
  ·have hr:root (x*x*x+4)≠0:=of_decide_eq_false hd
   refine ⟨.aff x (-root (x*x*x+4)),(tup_inj hV).1.symm,hb _ ?_⟩
   rw [great_neg hr,root_low,p0]
   have:=of_decide_eq_true hgr
   show g 0%32+160=g 0
   omega
  ·refine ⟨.aff x (root (x*x*x+4)),(tup_inj hV).1.symm,hb _ ?_⟩
   rw [root_low,p0]
   have:=of_decide_eq_false hgr
   show g 0%32+128=g 0
   omega
 ·rw [if_neg ha] at h;exact (tkE_no (e:=4) (by decide) h).elim
end Go.Proofs.YtmibajbpimcfnaaGreatDoor.fpn
/- A place below 48, whatever the number. -/
namespace Go.Proofs.YtmibajbpimcfnaaGreatDoor.fpn
open Go.RowKit Pl EC
theorem remI (t:TypeId) (a b c:Int) (h:a.tmod b=c) (hb:¬ b=0) (hc:-9223372036854775808≤c∧c≤9223372036854775807) (w:World):(binOp .rem t (.int .i64 a) (.int .i64 b)).run Tryz.prog w=.ok (.int .i64 c) w:=by
 have e:IntKind.i64.wrap c=c:=by unfold IntKind.wrap;simp [IntKind.bits,IntKind.signed];omega
 simp [binOp,Sem.run_bind,Op.intDiv,hb,h,e]
theorem addI (t:TypeId) (a b c:Int) (h:a+b=c) (hc:-9223372036854775808≤c∧c≤9223372036854775807) (w:World):(binOp .add t (.int .i64 a) (.int .i64 b)).run Tryz.prog w=.ok (.int .i64 c) w:=by
 have e:IntKind.i64.wrap (a+b)=c:=by unfold IntKind.wrap;simp [IntKind.bits,IntKind.signed];omega
 simp only [binOp,Op.intArith,e];simp [Sem.run_bind,e]
theorem place_n (k m:Int) (j:Nat) (w:World) (hm:k.tmod 48=m) (h:m<0) (hj:m+48=j) (hj2:j<48):Calls Tryz.prog 27 #[.int .i64 k,.int .i64 48] w (Ret (.int .i64 ((j:Nat):Int)) w):=by
 have hp0:=Heap.start w
 go_enter Tryz.func27,Tryz.ntmps27
 refine sgsD [.det (.int .i64 0)] [0] [0] (fun L d=>[.int .i64 k,.int .i64 48]++D d 2 14) (fun L=>[]) hp0 ⟨
  oA,
  trivial⟩ (fun L0 _ w1 hp1=>?_)
 refine wp_seq_k (fun K2 k2=>?_)
 refine sgsD [.det (.int .i64 48),.det (.bool false)] [0,1] [0,1] (fun L d=>[.int .i64 k,.int .i64 48]++(D d 2 4++([.bool false]++D d 7 9))) (fun L=>[]) hp1 ⟨
  oM,oJ .i64 .i64 48 1,
  trivial⟩ (fun L1 _ w2 hp2=>?_)
 refine cfk (k2 _ _ ?_)
 refine sgsD [.det (.int .i64 k),.det (.int .i64 48),.det (.int .i64 m),.det (.int .i64 m)] [0,1,2,3] [0,0,3,7] (fun L d=>[.int .i64 m,.int .i64 48]++D d 2 14) (fun L=>[]) hp2 ⟨
  oM,oM,oJ .i64 .i64 k 48 (h:=fun w=>remI _ k 48 m hm (by decide) (by omega) w),oA,
  trivial⟩ (fun L2 _ w3 hp3=>?_)
 refine wp_seq_k (fun K5 k5=>?_)
 refine sgsD [.det (.int .i64 m),.det (.bool true)] [0,1] [0,1] (fun L d=>[.int .i64 m,.int .i64 48]++(D d 2 9++([.bool true]++D d 12 4))) (fun L=>[]) hp3 ⟨
  oM,oJ .i64 .i64 m 0 (h:=fun w=>(lssI _ _ _ w).trans (by rw [decide_eq_true (by omega)])),
  trivial⟩ (fun L3 _ w4 hp4=>?_)
 refine cT ?_
 refine gsD [.det (.int .i64 m),.det (.int .i64 48),.det (.int .i64 ((j:Nat):Int)),.det (.int .i64 ((j:Nat):Int))] [0,1,2,3] [0,0,3,7] (fun L d=>[.int .i64 ((j:Nat):Int)]++D d 1 15) (fun L=>[]) hp4 ⟨
  oM,oM,oJ .i64 .i64 m 48 (h:=fun w=>addI _ m 48 _ (by omega) (by omega) w),oA,
  trivial⟩ (fun L4 _ w5 hp5=>?_)
 refine k5 _ _ ?_
 refine sgsD [.det (.int .i64 ((j:Nat):Int)),.det (.int .i64 ((j:Nat):Int))] [0,1] [0,1] (fun L d=>D d 0 4++([.int .i64 ((j:Nat):Int)]++D d 5 11)) (fun L=>[]) hp5 ⟨
  oM,oA,
  trivial⟩ (fun L5 _ w6 hp6=>?_)
 refine wp_ret ?_
 refine bodyPost_ret (v:=.int .i64 ((j:Nat):Int)) ?_ rfl ?_
 ·exact res_t rfl (by kernel_rfl) _
 ·exact ⟨rfl,hp6.bel⟩
theorem place_p (k m:Int) (j:Nat) (w:World) (hm:k.tmod 48=m) (h:¬ m<0) (hj:m=j) (hj2:j<48):Calls Tryz.prog 27 #[.int .i64 k,.int .i64 48] w (Ret (.int .i64 ((j:Nat):Int)) w):=by
 have hp0:=Heap.start w
 go_enter Tryz.func27,Tryz.ntmps27
 refine sgsD [.det (.int .i64 0)] [0] [0] (fun L d=>[.int .i64 k,.int .i64 48]++D d 2 14) (fun L=>[]) hp0 ⟨
  oA,
  trivial⟩ (fun L0 _ w1 hp1=>?_)
 refine wp_seq_k (fun K2 k2=>?_)
 refine sgsD [.det (.int .i64 48),.det (.bool false)] [0,1] [0,1] (fun L d=>[.int .i64 k,.int .i64 48]++(D d 2 4++([.bool false]++D d 7 9))) (fun L=>[]) hp1 ⟨
  oM,oJ .i64 .i64 48 1,
  trivial⟩ (fun L1 _ w2 hp2=>?_)
 refine cfk (k2 _ _ ?_)
 refine sgsD [.det (.int .i64 k),.det (.int .i64 48),.det (.int .i64 m),.det (.int .i64 m)] [0,1,2,3] [0,0,3,7] (fun L d=>[.int .i64 m]++D d 1 15) (fun L=>[]) hp2 ⟨
  oM,oM,oJ .i64 .i64 k 48 (h:=fun w=>remI _ k 48 m hm (by decide) (by omega) w),oA,
  trivial⟩ (fun L2 _ w3 hp3=>?_)
 refine wp_seq_k (fun K5 k5=>?_)
 refine sgsD [.det (.int .i64 m),.det (.bool false)] [0,1] [0,1] (fun L d=>[.int .i64 m]++(D d 1 10++([.bool false]++D d 12 4))) (fun L=>[]) hp3 ⟨
  oM,oJ .i64 .i64 m 0 (h:=fun w=>(lssI _ _ _ w).trans (by rw [decide_eq_false (by omega)])),
  trivial⟩ (fun L3 _ w4 hp4=>?_)
 refine cfk (k5 _ _ ?_)
 refine sgsD [.det (.int .i64 m),.det (.int .i64 m)] [0,1] [0,1] (fun L d=>D d 0 4++([.int .i64 m]++D d 5 11)) (fun L=>[]) hp4 ⟨
  oM,oA,
  trivial⟩ (fun L4 _ w5 hp5=>?_)
 refine wp_ret ?_
 refine bodyPost_ret (v:=.int .i64 m) ?_ rfl ?_
 ·exact res_t rfl (by kernel_rfl) _
 ·exact ⟨congrArg (fun z=>Ending.returned (.int .i64 z)) hj,hp5.bel⟩
theorem place48 (k:Int):∃ j:Nat,j<48∧∀ w,Calls Tryz.prog 27 #[.int .i64 k,.int .i64 48] w (Ret (.int .i64 ((j:Nat):Int)) w):=by
 have h1:-48<k.tmod 48:=Int.lt_tmod_of_pos k (by decide)
 have h2:k.tmod 48<48:=Int.tmod_lt_of_pos k (by decide)
 by_cases h:k.tmod 48<0
 ·exact ⟨(k.tmod 48+48).toNat,by omega,fun w=>place_n k _ _ w rfl h (by omega) (by omega)⟩
 ·exact ⟨(k.tmod 48).toNat,by omega,fun w=>place_p k _ _ w rfl h (by omega) (by omega)⟩
end Go.Proofs.YtmibajbpimcfnaaGreatDoor.fpn
/- PointBack's paths. -/
namespace Go.Proofs.YtmibajbpimcfnaaGreatDoor.fpn
open Go.RowKit Pl EC
theorem xorYb (t:TypeId) (a b c:Int) (h:bits .xor .u8 a b=c) (w:World):(binOp .xor t (.int .u8 a) (.int .u8 b)).run Tryz.prog w=.ok (.int .u8 c) w:=by
 simp [binOp,Sem.run_bind,Op.intBits]
 exact h
def isY1 (x:Int) (v:Value) (w:World):Prop:=∃ k:Nat,v=.slice (some ⟨k,0,none⟩) 1 1∧w.cell? ⟨k,0,none⟩=some (.int .u8 x)
section
variable {ops:Array Oper} {ks:List Kind} {T:List Nat} {a0:Act} {B:Nat} {w0 W0:World} {H:List (Nat × List Value)} {i:Nat} {o:Oper}
theorem oY1 {x:Operand} {n:Int} (hw:∀ L,wantedR ks L o=true:=by intro _;kernel_rfl) (ho:o.op=.buildSlice 45 1 #[(0,x)]:=by exact rfl)
  (hx:∀ L,rd ops ks T a0 L i x=.int .u8 n:=by intro _;kernel_rfl) (hk:kd ks i=.any (isY1 n)):Obl Tryz.prog ops ks T a0 B w0 H i o:=⟨fun L w hsn=>by
 rw [if_pos (hw L),hk]
 refine ⟨fun v w x h hb=>?_,?_⟩
 ·obtain ⟨k,e,h⟩:=h
  exact ⟨k,e,(hb.cell (p:=⟨k,0,none⟩) (cell_lt h)).trans h⟩
 obtain ⟨ie,hi,hz,h1,h2⟩:=infoY
 have hr:(Instr.buildSlice 45 1 #[(0,.int .u8 n)]).run Tryz.prog w=.ok (.slice (some ⟨w.heap.size,0,none⟩) 1 1) (w.alloc (.cells #[.int .u8 n] 5)) :=
  run_buildSlice w _ _ 1 _ _ ie _ Tryz.underlying45 hi hz (by rw [h1];decide) (by rw [h1];decide) (by rw [h1];kernel_rfl)
 have this:(execOp (rd ops ks T a0 L i) o).run Tryz.prog w=.ok (.value (.slice (some ⟨w.heap.size,0,none⟩) 1 1)) (w.alloc (.cells #[.int .u8 n] 5)):=by
  unfold execOp
  have h1:(#[((0:Nat),x)].map fun p=>(p.1,rd ops ks T a0 L i p.2))=#[(0,.int .u8 n)]:=by simp [hx L]
  simp only [ho,h1,Sem.run_bind,hr]
  rfl
 rw [this]
 exact ⟨⟨w.heap.size,rfl,(Box.new w [.int .u8 n] 5).cells 0 _ rfl⟩,(Below.refl _ _).alloc (Nat.le_refl _) _⟩⟩
theorem oApBB {x y:Operand} {g:Nat→Int} {n c b:Nat} (bs:List Nat) (j k:Nat) (h0:0<n) (hm:n≤1000) (hb0:H[k]?=some (b,BC g n):=by exact rfl)
  (hj:kd ks j=.any isE:=by exact rfl) (hbf:bef T i j=true:=by kernel_rfl) (hx:∀ L,rd ops ks T a0 L i x=L.v j:=by intro _;kernel_rfl) (hy:∀ L,rd ops ks T a0 L i y=.slice (some ⟨b,0,none⟩) n c:=by intro _;kernel_rfl)
  (hw:∀ L,wantedR ks L o=true:=by intro _;kernel_rfl) (he:Pl.early T ks i=true:=by kernel_rfl) (ho:o.op=.call { callee:=.builtin .append,args:=#[x,y],argTypes:=#[45,45] }:=by exact rfl)
  (hb:bs=H.map (·.1):=by rfl) (hk:kd ks i=.any (isB B bs g n)):Obl Tryz.prog ops ks T a0 B w0 H i o:=by
 have e:isB B bs g n=isB B bs (cat (fun _=>0) 0 g) (0+n):=by rw [Nat.zero_add];rfl
 rw [e] at hk
 refine oAp bs h0 (by omega) (fun L w hs=>?_) (fun L w hs=>?_) hw he ho hb hk
 ·obtain ⟨a,ea⟩:=hs.any j _ hj hbf
  exact ⟨a,(hx L).trans ea,fun j hj=>absurd hj (by omega)⟩
 ·exact ⟨⟨b,0,none⟩,c,hy L,fun j hj=>by rw [Addr.add_mid];exact (seen_at hs hb0).cells j _ (BC_at hj)⟩
theorem oApOB {x y:Operand} {g:Nat→Int} {n c b:Nat} (bs:List Nat) (j k:Nat) (h0:0<n) (hm:n≤1000) (hb0:H[k]?=some (b,BC g n):=by exact rfl)
  (hj:kd ks j=.any isE:=by exact rfl) (hbf:bef T i j=true:=by kernel_rfl) (hx:∀ L,rd ops ks T a0 L i x=L.v j:=by intro _;kernel_rfl) (hy:∀ L,rd ops ks T a0 L i y=.slice (some ⟨b,0,none⟩) n c:=by intro _;kernel_rfl)
  (hw:∀ L,wantedR ks L o=true:=by intro _;kernel_rfl) (he:Pl.early T ks i=true:=by kernel_rfl) (ho:o.op=.call { callee:=.builtin .append,args:=#[x,y],argTypes:=#[45,45] }:=by exact rfl)
  (hb:bs=H.map (·.1):=by rfl) (hk:kd ks i=.any (isO B bs g n)):Obl Tryz.prog ops ks T a0 B w0 H i o:=by
 have e:isO B bs g n=isO B bs (cat (fun _=>0) 0 g) (0+n):=by rw [Nat.zero_add];rfl
 rw [e] at hk
 refine oApO bs h0 (by omega) (fun L w hs=>?_) (fun L w hs=>?_) hw he ho hb hk
 ·obtain ⟨a,ea⟩:=hs.any j _ hj hbf
  exact ⟨a,(hx L).trans ea,fun j hj=>absurd hj (by omega)⟩
 ·exact ⟨⟨b,0,none⟩,c,hy L,fun j hj=>by rw [Addr.add_mid];exact (seen_at hs hb0).cells j _ (BC_at hj)⟩
end
theorem backA {G:World→Prop} (K:PtK G) (R:RefK) (k:Nat) (at_ x cut:Int) (g1 P:Pt F) (j j2:Nat) (y:Int) (w:World) (hg:G w) (hk6:k<2^256) (hk:¬ k<ordR):Calls Tryz.prog 6 #[RV k,.int .i64 at_,.int .u8 x,.int .i64 cut] w (Ret (.bool true) w):=by
 have hp0:=Heap.start w
 go_enter Tryz.func6,Tryz.ntmps6
 refine sgsD [.alloc (RC k),.det (.bool false)] [0,1] [0,0] (fun L d=>D d 0 4++([L.p 0]++D d 5 94)) (fun L=>[(L.b 0,RC k)]) hp0 ⟨
  oB,oA,
  trivial⟩ (fun L0 _ w1 hp1=>?_)
 refine wp_seq_k (fun K2 k2=>?_)
 refine sgsD [.det (.bool true),.det (.bool false)] [0,1] [0,1] (fun L d=>D d 0 4++([L0.p 0]++(D d 5 16++([.bool false]++D d 22 77)))) (fun L=>[(L0.b 0,RC k)]) hp1 ⟨
  oC K.stay hg (begun10 K R),oN,
  trivial⟩ (fun L1 _ w2 hp2=>?_)
 refine cfk (k2 _ _ ?_)
 refine wp_seq_k (fun K4 k4=>?_)
 refine sgsD [.det (RV k),.det (.bool false),.det (.bool true)] [0,1,2] [0,1,3] (fun L d=>D d 0 24++([.bool true]++D d 25 74)) (fun L=>[(L0.b 0,RC k)]) hp2 ⟨
  oL 0 0 rR,oH (v:=.bool false) (vs:=#[RV k]) (fun w _ _=>by have h:=mayR hk6 w;rw [decide_eq_false hk] at h;exact h),oN,
  trivial⟩ (fun L2 _ w3 hp3=>?_)
 refine cT ?_
 refine sgsD [.det (.bool true)] [0] [0] (fun L d=>D d 0 8++([.bool true]++D d 9 90)) (fun L=>[(L0.b 0,RC k)]) hp3 ⟨
  oA,
  trivial⟩ (fun L3 _ w4 hp4=>?_)
 refine wp_ret ?_
 refine bodyPost_ret (v:=.bool true) ?_ rfl ?_
 ·exact res_t rfl (by kernel_rfl) _
 ·exact ⟨rfl,hp4.bel⟩
theorem backE {G:World→Prop} (K:PtK G) (R:RefK) (k:Nat) (at_ x cut:Int) (g1 P:Pt F) (j j2:Nat) (y:Int) (V:G1p) (e:Int) (w:World) (hg:G w) (hk6:k<2^256) (hk:k<ordR) (hg1:g1=gen1) (h1:On (4:F) g1) (hP:mul finv k g1=P) (hj:j<48) (hj2:j2<48) (hJ:∀ w,Calls Tryz.prog 27 #[.int .i64 at_,.int .i64 48] w (Ret (.int .i64 ((j:Nat):Int)) w)) (hJ2:∀ w,Calls Tryz.prog 27 #[.int .i64 cut,.int .i64 48] w (Ret (.int .i64 ((j2:Nat):Int)) w)) (hx:bits .xor .u8 (ptx P j) x=y) (rP:∀ i,i<48→0≤ptx P i∧ptx P i<256) (rT:∀ i,i<48→0≤(su (ptx P) j y) i∧(su (ptx P) j y) i<256) (rX:∀ i,i<49→0≤(cat (ptx P) 48 fun _=>x) i∧(cat (ptx P) 48 fun _=>x) i<256) (ht0:tkA (ptx P) 48=.tuple #[GV (gp P),.int .i64 0]) (ht2:tkA (ptx P) j2=.tuple #[GV ⟨0,0,false⟩,.int .i64 2]) (ht8:tkA (cat (ptx P) 48 fun _=>x) 49=.tuple #[GV ⟨0,0,false⟩,.int .i64 8]) (he:¬ e=0) (ht:tkA (su (ptx P) j y) 48=.tuple #[GV V,.int .i64 e]):Calls Tryz.prog 6 #[RV k,.int .i64 at_,.int .u8 x,.int .i64 cut] w (Ret (.bool true) w):=by
 have hp0:=Heap.start w
 go_enter Tryz.func6,Tryz.ntmps6
 refine sgsD [.alloc (RC k),.det (.bool false)] [0,1] [0,0] (fun L d=>[d 0,.int .i64 at_,.int .u8 x,.int .i64 cut,L.p 0,undef,undef,undef,d 8]++U 90) (fun L=>[(L.b 0,RC k)]) hp0 ⟨
  oB,oA,
  trivial⟩ (fun L0 _ w1 hp1=>?_)
 refine wp_seq_k (fun K2 k2=>?_)
 refine sgsD [.det (.bool true),.det (.bool false)] [0,1] [0,1] (fun L d=>[d 0,.int .i64 at_,.int .u8 x,.int .i64 cut,L0.p 0,undef,undef,undef,d 8]++(U 11++([d 20,.bool false]++U 77))) (fun L=>[(L0.b 0,RC k)]) hp1 ⟨
  oC K.stay hg (begun10 K R),oN,
  trivial⟩ (fun L1 _ w2 hp2=>?_)
 refine cfk (k2 _ _ ?_)
 refine wp_seq_k (fun K4 k4=>?_)
 refine sgsD [.det (RV k),.det (.bool true),.det (.bool false)] [0,1,2] [0,1,3] (fun L d=>[d 0,.int .i64 at_,.int .u8 x,.int .i64 cut,L0.p 0]++(D d 5 19++([.bool false]++(D d 25 43++([undef]++D d 69 30))))) (fun L=>[(L0.b 0,RC k)]) hp2 ⟨
  oL 0 0 rR,oH (v:=.bool true) (vs:=#[RV k]) (fun w _ _=>by have h:=mayR hk6 w;rw [decide_eq_true hk] at h;exact h),oN,
  trivial⟩ (fun L2 _ w3 hp3=>?_)
 refine cfk (k4 _ _ ?_)
 refine sdrD [.det (GV (gp g1)),.det (RV k),.det (GV (gp P)),.alloc (GC ⟨0,0,false⟩),.store (.new 3) 0 (GC (gp P)) (GC (gp P))] (nn 5) [0,0,3,0,15] (fun L d=>[d 0,.int .i64 at_,.int .u8 x,.int .i64 cut]++(D d 4 5++([L.p 3]++(D d 10 58++([undef]++D d 69 30))))) (fun L=>[(L0.b 0,RC k),(L.b 3,GC (gp P))]) hp3 ⟨
  oR (by rw [hg1];exact ref5Gen1 R),oL 0 0 rR,oH (v:=GV (gp P)) (vs:=#[GV (gp g1),RV k]) (fun w _ _=>by rw [← hP];exact ref5Times1 R g1 k w h1 hk6),
  oZ rG,oT rG,
  trivial⟩ (fun L3 d3 w4 hp4=>?_)
 refine wp_seq_k (fun K7 k7=>?_)
 refine gsA [.det (GV (gp P)),.any (isB w.heap.size [L0.b 0,L3.b 3] (ptx P) 48),.detV 1 (fun v=>v)] [0,1,2] [0,1,3] (fun L=>[d3 0,.int .i64 at_,.int .u8 x,.int .i64 cut]++(D d3 4 5++([L3.p 3,L.v 1]++(D d3 11 17++([GV (gp P),L.v 1]++(D d3 30 38++([undef]++D d3 69 30))))))) (fun L=>[(L0.b 0,RC k),(L3.b 3,GC (gp P))]) hp4 ⟨
  oL 1 0 rG,oY (fun L=>#[GV (gp P)]) (fun _ _ _ h hb=>h.stay hb) (fun L w hs=>newB hs [L0.b 0,L3.b 3] (K.put1 P w (K.stay hg hs.bel))),oAV,
  trivial⟩ (fun L4 w5 hp5 ha5=>?_)
 obtain ⟨kb4b1,cb4b1,eb4b1,lb4b1,mb4b1,qb4b1,ub4b1,xb4b1⟩:=AnyF.at ha5 (j:=1) rfl rfl
 rw [eb4b1]
 have hp54b1:=Heap.add hp5 qb4b1 ub4b1 xb4b1
 refine k7 _ _ ?_
 refine wp_seq_k (fun K8 k8=>?_)
 refine sgsD [.det (.slice (some ⟨kb4b1,0,none⟩) 48 cb4b1),.det (.int .i64 48),.det (.bool false)] [0,1,2] [0,1,3] (fun L d=>[d 0,.int .i64 at_,.int .u8 x,.int .i64 cut]++(D d 4 5++([L3.p 3,.slice (some ⟨kb4b1,0,none⟩) 48 cb4b1]++(D d 11 21++([.bool false]++(D d 33 35++([undef]++D d 69 30))))))) (fun L=>[(L0.b 0,RC k),(L3.b 3,GC (gp P)),(kb4b1,BC (ptx P) 48)]) hp54b1 ⟨
  oM,fun h=>⟨ob_len (p:=(some ⟨kb4b1,0,none⟩)) (n:=48) (c:=cb4b1) (fun _=>rfl) h rfl (fun _=>by kernel_rfl) Tryz.underlying45⟩,oJ .i64 .i64 48 48 (h:=fun w=>(neqI _ _ _ _ w).trans rfl),
  trivial⟩ (fun L5 _ w6 hp6=>?_)
 refine cfk (k8 _ _ ?_)
 refine sgsD [.det (.slice (some ⟨kb4b1,0,none⟩) 48 cb4b1),.det (.tuple #[GV (gp P),.int .i64 0]),.det (.tuple #[GV (gp P),.int .i64 0]),.det (GV (gp P)),.det (.int .i64 0),.alloc (GC ⟨0,0,false⟩),.store (.new 5) 0 (GC (gp P)) (GC (gp P)),.det (.int .i64 0)] (nn 8) [0,1,3,7,7,0,47,127] (fun L d=>[d 0,.int .i64 at_,.int .u8 x,.int .i64 cut]++(D d 4 5++([L3.p 3,.slice (some ⟨kb4b1,0,none⟩) 48 cb4b1,L.p 5,.int .i64 0]++(D d 13 55++([undef]++D d 69 30))))) (fun L=>[(L0.b 0,RC k),(L3.b 3,GC (gp P)),(kb4b1,BC (ptx P) 48),(L.b 5,GC (gp P))]) hp6 ⟨
  oM,oCS (fun L=>#[.slice (some ⟨kb4b1,0,none⟩) 48 cb4b1]) (fun L w hs=>by have h:=K.take1 _ 48 _ _ w (K.stay hg hs.bel) lb4b1 mb4b1 (box_at (seen_at hs (k:=2) rfl)) rP;rw [ht0] at h;exact h),
  oM,oX,oX,oZ rG,oT rG,oA,
  trivial⟩ (fun L6 d6 w7 hp7=>?_)
 refine wp_seq_k (fun K11 k11=>?_)
 refine gsA [.any isE,.det (.slice (some ⟨kb4b1,0,none⟩) 48 cb4b1),.any (isB w.heap.size [L0.b 0,L3.b 3,kb4b1,L6.b 5] (ptx P) 48),.detV 2 (fun v=>v)] [0,1,2,3] [0,0,3,7] (fun L=>[d6 0,.int .i64 at_,.int .u8 x,.int .i64 cut]++(D d6 4 5++([L3.p 3,.slice (some ⟨kb4b1,0,none⟩) 48 cb4b1,L6.p 5,.int .i64 0,L.v 2]++(D d6 14 24++([L.v 0,.slice (some ⟨kb4b1,0,none⟩) 48 cb4b1,L.v 2]++(D d6 41 27++([undef]++D d6 69 30))))))) (fun L=>[(L0.b 0,RC k),(L3.b 3,GC (gp P)),(kb4b1,BC (ptx P) 48),(L6.b 5,GC (gp P))]) hp7 ⟨
  oE0,oM,oApBB (n:=48) (c:=cb4b1) [L0.b 0,L3.b 3,kb4b1,L6.b 5] 0 2 (by decide) (by decide),oAV,
  trivial⟩ (fun L7 w8 hp8 ha8=>?_)
 obtain ⟨kb7b2,cb7b2,eb7b2,lb7b2,mb7b2,qb7b2,ub7b2,xb7b2⟩:=AnyF.at ha8 (j:=2) rfl rfl
 rw [eb7b2]
 have hp87b2:=Heap.add hp8 qb7b2 ub7b2 xb7b2
 refine k11 _ _ ?_
 refine sgsD [.det (.slice (some ⟨kb7b2,0,none⟩) 48 cb7b2),.det (.int .i64 at_),.det (.int .i64 ((j:Nat):Int)),.det (.pointer (some ⟨kb7b2,0+j*1,none⟩)),.det (.int .u8 (ptx P j)),.det (.int .u8 x),.det (.int .u8 y),.det (.pointer (some ⟨kb7b2,0+j*1,none⟩)),.store (.base 4) (0+j*1) ([.int .u8 y]) (BC (su (ptx P) j y) 48)] (nn 9) [0,0,2,7,15,0,63,127,255] (fun L d=>D d 0 2++([.int .u8 x,.int .i64 cut]++(D d 4 5++([L3.p 3,.slice (some ⟨kb4b1,0,none⟩) 48 cb4b1,L6.p 5,.int .i64 0,.slice (some ⟨kb7b2,0,none⟩) 48 cb7b2]++(D d 14 54++([undef]++D d 69 30)))))) (fun L=>[(L0.b 0,RC k),(L3.b 3,GC (gp P)),(kb4b1,BC (ptx P) 48),(L6.b 5,GC (gp P)),(kb7b2,BC (su (ptx P) j y) 48)]) hp87b2 ⟨
  oM,oM,oR hJ,oIS (n:=48) (c:=cb7b2) j Tryz.underlying45 sizeY (show j<48 by omega),oLY 4 (show j<48 by omega),oM,oJ .u8 .u8 (ptx P j) x (h:=fun w=>xorYb _ _ _ _ hx w),
  oIS (n:=48) (c:=cb7b2) j Tryz.underlying45 sizeY (show j<48 by omega),oTY (j:=j) (show j<48 by omega),
  trivial⟩ (fun L8 _ w9 hp9=>?_)
 refine sgsD [.det (.slice (some ⟨kb7b2,0,none⟩) 48 cb7b2),.det (.tuple #[GV V,.int .i64 e]),.det (.tuple #[GV V,.int .i64 e]),.det (GV V),.det (.int .i64 e),.alloc (GC ⟨0,0,false⟩),.store (.new 5) 0 (GC V) (GC V),.det (.int .i64 e)] (nn 8) [0,1,3,7,7,0,47,127] (fun L d=>D d 0 2++([.int .u8 x,.int .i64 cut]++(D d 4 5++([L3.p 3,.slice (some ⟨kb4b1,0,none⟩) 48 cb4b1,L6.p 5,.int .i64 0]++(D d 13 2++([.int .i64 e]++(D d 16 52++([undef]++D d 69 30)))))))) (fun L=>[(L0.b 0,RC k),(L3.b 3,GC (gp P)),(kb4b1,BC (ptx P) 48),(L6.b 5,GC (gp P)),(kb7b2,BC (su (ptx P) j y) 48),(L.b 5,GC V)]) hp9 ⟨
  oM,oCS (fun L=>#[.slice (some ⟨kb7b2,0,none⟩) 48 cb7b2]) (fun L w hs=>by have h:=K.take1 _ 48 _ _ w (K.stay hg hs.bel) lb7b2 mb7b2 (box_at (seen_at hs (k:=4) rfl)) rT;rw [ht] at h;exact h),
  oM,oX,oX,oZ rG,oT rG,oA,
  trivial⟩ (fun L9 _ w10 hp10=>?_)
 refine sgsD [.det (.slice (some ⟨kb4b1,0,none⟩) 48 cb4b1),.det (.int .i64 cut),.det (.int .i64 ((j2:Nat):Int)),.det (.slice (some ⟨kb4b1,0,none⟩) j2 cb4b1),.det (.tuple #[GV ⟨0,0,false⟩,.int .i64 2]),.det (.tuple #[GV ⟨0,0,false⟩,.int .i64 2]),.det (GV ⟨0,0,false⟩),.det (.int .i64 2),.alloc (GC ⟨0,0,false⟩),.store (.new 8) 0 (GC ⟨0,0,false⟩) (GC ⟨0,0,false⟩),.det (.int .i64 2)] (nn 11) [0,0,2,7,15,31,63,63,0,383,1023] (fun L d=>D d 0 2++([.int .u8 x]++(D d 3 6++([L3.p 3,.slice (some ⟨kb4b1,0,none⟩) 48 cb4b1,L6.p 5,.int .i64 0]++(D d 13 2++([.int .i64 e,d 16,.int .i64 2]++(D d 18 50++([undef]++D d 69 30)))))))) (fun L=>[(L0.b 0,RC k),(L3.b 3,GC (gp P)),(kb4b1,BC (ptx P) 48),(L6.b 5,GC (gp P)),(kb7b2,BC (su (ptx P) j y) 48),(L9.b 5,GC V),(L.b 8,GC ⟨0,0,false⟩)]) hp10 ⟨
  oM,oM,oR hJ2,oSS (len:=48) (n:=j2) Tryz.underlying45 sizeY (by have:=lb4b1;omega),oCS (fun L=>#[.slice (some ⟨kb4b1,0,none⟩) j2 cb4b1]) (fun L w hs=>by have h:=K.take1 _ j2 _ (ptx P) w (K.stay hg hs.bel) (by have:=lb4b1;omega) mb4b1 (AtK.mono (box_at (seen_at hs (k:=2) rfl)) (by omega)) (fun j hj=>rP j (by omega));rw [ht2] at h;exact h),
  oM,oX,oX,oZ rG,oT rG,oA,
  trivial⟩ (fun L10 _ w11 hp11=>?_)
 refine wp_seq_k (fun K15 k15=>?_)
 refine wp_region_list ?_
 refine gsC 5 [.any isE,.det (.slice (some ⟨kb4b1,0,none⟩) 48 cb4b1),.any (isO w.heap.size [L0.b 0,L3.b 3,kb4b1,L6.b 5,kb7b2,L9.b 5,L10.b 8] (ptx P) 48),.det (.int .u8 x),.any (isY1 x)] (nn 5) [0,1,3,7,15] (fun L d=>D d 0 9++([L3.p 3,d 10,L6.p 5,.int .i64 0]++(D d 13 2++([.int .i64 e,d 16,.int .i64 2]++(D d 18 47++([L.v 2,d 66,L.v 4,undef]++D d 69 30)))))) (fun L=>[(L0.b 0,RC k),(L3.b 3,GC (gp P)),(kb4b1,BC (ptx P) 48),(L6.b 5,GC (gp P)),(kb7b2,BC (su (ptx P) j y) 48),(L9.b 5,GC V),(L10.b 8,GC ⟨0,0,false⟩)]) hp11 ⟨
  oE0,oM,oApOB (n:=48) (c:=cb4b1) [L0.b 0,L3.b 3,kb4b1,L6.b 5,kb7b2,L9.b 5,L10.b 8] 0 2 (by decide) (by decide),oM,oY1,
  trivial⟩ (fun L11 _ w12 hp12 ha12=>?_)
 obtain ⟨k0,hB0,hle0,hbs0,o0⟩:=AnyF.at (ha12 (by kernel_rfl)) (j:=2) rfl rfl
 obtain ⟨ky,ey,hy⟩:=AnyF.at (ha12 (by kernel_rfl)) (j:=4) rfl rfl
 rw [ey]
 have hy1:∀ j,j<1→w12.cell? ((⟨ky,0,none⟩:Addr).add j)=some (.int .u8 x):=fun j hj=>by rw [Addr.add_mid,show j=0 by omega];exact hy
 refine oneL rfl rfl (wp_appendY (B:=k0) (ad:=⟨ky,0,none⟩) (n:=1) (c:=1) (g:=fun _=>x) (.tmp 65) (.tmp 67) rfl (by kernel_rfl) o0 (by kernel_rfl) hy1 (by decide) hle0 (fun vO xO pO bO=>?_))
 have pO:OwnY xO k0 vO (cat (ptx P) 48 fun _=>x) 49:=pO
 obtain ⟨kbO,cbO,rfl,lbO,mbO,qbO,xbO⟩:=OwnY.box pO (by decide)
 have hpO:=Heap.add (Heap.under hp12 hB0 bO hbs0) (Nat.le_trans hB0 qbO) (fun b hb=>Nat.lt_of_lt_of_le (hbs0 b hb) qbO) xbO
 refine gsC 7 [.det (.tuple #[GV ⟨0,0,false⟩,.int .i64 8]),.det (.tuple #[GV ⟨0,0,false⟩,.int .i64 8]),.det (GV ⟨0,0,false⟩),.det (.int .i64 8),.alloc (GC ⟨0,0,false⟩),.store (.new 4) 0 (GC ⟨0,0,false⟩) (GC ⟨0,0,false⟩),.det (.int .i64 8)] (nn 7) [0,1,3,7,15,31,63] (fun L d=>D d 0 9++([L3.p 3,d 10,L6.p 5,.int .i64 0]++(D d 13 2++([.int .i64 e,d 16,.int .i64 2,d 18,.int .i64 8]++D d 20 79)))) (fun L=>[(L0.b 0,RC k),(L3.b 3,GC (gp P)),(kb4b1,BC (ptx P) 48),(L6.b 5,GC (gp P)),(kb7b2,BC (su (ptx P) j y) 48),(L9.b 5,GC V),(L10.b 8,GC ⟨0,0,false⟩),(kbO,BC (cat (ptx P) 48 fun _=>x) 49),(L.b 4,GC ⟨0,0,false⟩)]) hpO ⟨
  oCS (fun L=>#[.slice (some ⟨kbO,0,none⟩) 49 cbO]) (fun L w hs=>by have h:=K.take1 _ 49 _ _ w (K.stay hg hs.bel) lbO mbO (box_at (seen_at hs (k:=7) rfl)) rX;rw [ht8] at h;exact h),
  oM,oX,oX,oZ rG,oT rG,oA,
  trivial⟩ (fun L12 _ w13 hp13 ha13=>?_)
 refine wpList_nil ?_
 refine k15 _ _ ?_
 refine sdrD [.det (.int .i64 0),.det (.bool true),.det (.bool true),.det (GV (gp P)),.det (GV (gp P)),.det (.bool true),.det (.bool true),.det (.bool true),.det (.int .i64 e),.det (.bool true),.det (.bool true),.det undef,.det undef,.det undef,.det undef,.det undef,.det undef,.det (.bool true),.det (.bool true),.det (.bool true),.det (.int .i64 2),.det (.bool true),.det (.bool true),.det (.bool true),.det (.int .i64 8),.det (.bool true),.det (.bool true),.det (.bool true)] (nn 28) [0,1,3,7,7,31,63,127,255,511,1023,2047,4095,8191,2047,18431,65535,131071,262143,524287,1048575,2097151,4194303,8388607,16777215,33554431,67108863,134217727] (fun L d=>D d 0 8++([.bool true]++D d 9 90)) (fun L=>[(L0.b 0,RC k),(L3.b 3,GC (gp P)),(kb4b1,BC (ptx P) 48),(L6.b 5,GC (gp P)),(kb7b2,BC (su (ptx P) j y) 48),(L9.b 5,GC V),(L10.b 8,GC ⟨0,0,false⟩),(kbO,BC (cat (ptx P) 48 fun _=>x) 49),(L12.b 4,GC ⟨0,0,false⟩)]) hp13 ⟨
  oM,oJ .i64 .i64 0 0 (h:=fun w=>(eqlI _ _ _ _ w).trans rfl),oM,oL 3 0 rG,oL 1 0 rG,oE (a:=(gp P)) (b:=(gp P)) qG (yes rfl),oP,oM,oM,oJ .i64 .i64 e 0 (h:=fun w=>(neqI _ _ _ _ w).trans (by rw [decide_eq_false he];rfl)),
  oM,oS,oS,oS,oS,oS,oS,oP,oP,oM,oM,oJ .i64 .i64 2 2 (h:=fun w=>(eqlI _ _ _ _ w).trans rfl),oP,oM,oM,oJ .i64 .i64 8 8 (h:=fun w=>(eqlI _ _ _ _ w).trans rfl),
  oP,oA,
  trivial⟩ (fun L13 _ w14 hp14=>?_)
 refine wp_ret ?_
 refine bodyPost_ret (v:=.bool true) ?_ rfl ?_
 ·exact res_t rfl (by kernel_rfl) _
 ·exact ⟨rfl,hp14.bel⟩
theorem backO {G:World→Prop} (K:PtK G) (R:RefK) (k:Nat) (at_ x cut:Int) (g1 P:Pt F) (j j2:Nat) (y:Int) (Q:Pt F) (w:World) (hg:G w) (hk6:k<2^256) (hk:k<ordR) (hg1:g1=gen1) (h1:On (4:F) g1) (hP:mul finv k g1=P) (hj:j<48) (hj2:j2<48) (hJ:∀ w,Calls Tryz.prog 27 #[.int .i64 at_,.int .i64 48] w (Ret (.int .i64 ((j:Nat):Int)) w)) (hJ2:∀ w,Calls Tryz.prog 27 #[.int .i64 cut,.int .i64 48] w (Ret (.int .i64 ((j2:Nat):Int)) w)) (hx:bits .xor .u8 (ptx P j) x=y) (rP:∀ i,i<48→0≤ptx P i∧ptx P i<256) (rT:∀ i,i<48→0≤(su (ptx P) j y) i∧(su (ptx P) j y) i<256) (rX:∀ i,i<49→0≤(cat (ptx P) 48 fun _=>x) i∧(cat (ptx P) 48 fun _=>x) i<256) (ht0:tkA (ptx P) 48=.tuple #[GV (gp P),.int .i64 0]) (ht2:tkA (ptx P) j2=.tuple #[GV ⟨0,0,false⟩,.int .i64 2]) (ht8:tkA (cat (ptx P) 48 fun _=>x) 49=.tuple #[GV ⟨0,0,false⟩,.int .i64 8]) (ht:tkA (su (ptx P) j y) 48=.tuple #[GV (gp Q),.int .i64 0]) (hQ:∀ i,i<48→ptx Q i=(su (ptx P) j y) i):Calls Tryz.prog 6 #[RV k,.int .i64 at_,.int .u8 x,.int .i64 cut] w (Ret (.bool true) w):=by
 have hp0:=Heap.start w
 go_enter Tryz.func6,Tryz.ntmps6
 refine sgsD [.alloc (RC k),.det (.bool false)] [0,1] [0,0] (fun L d=>[d 0,.int .i64 at_,.int .u8 x,.int .i64 cut,L.p 0,undef,undef,undef,d 8]++U 90) (fun L=>[(L.b 0,RC k)]) hp0 ⟨
  oB,oA,
  trivial⟩ (fun L0 _ w1 hp1=>?_)
 refine wp_seq_k (fun K2 k2=>?_)
 refine sgsD [.det (.bool true),.det (.bool false)] [0,1] [0,1] (fun L d=>[d 0,.int .i64 at_,.int .u8 x,.int .i64 cut,L0.p 0,undef,undef,undef,d 8]++(U 11++([d 20,.bool false]++U 77))) (fun L=>[(L0.b 0,RC k)]) hp1 ⟨
  oC K.stay hg (begun10 K R),oN,
  trivial⟩ (fun L1 _ w2 hp2=>?_)
 refine cfk (k2 _ _ ?_)
 refine wp_seq_k (fun K4 k4=>?_)
 refine sgsD [.det (RV k),.det (.bool true),.det (.bool false)] [0,1,2] [0,1,3] (fun L d=>[d 0,.int .i64 at_,.int .u8 x,.int .i64 cut,L0.p 0]++(D d 5 19++([.bool false]++(D d 25 43++([undef]++D d 69 30))))) (fun L=>[(L0.b 0,RC k)]) hp2 ⟨
  oL 0 0 rR,oH (v:=.bool true) (vs:=#[RV k]) (fun w _ _=>by have h:=mayR hk6 w;rw [decide_eq_true hk] at h;exact h),oN,
  trivial⟩ (fun L2 _ w3 hp3=>?_)
 refine cfk (k4 _ _ ?_)
 refine sdrD [.det (GV (gp g1)),.det (RV k),.det (GV (gp P)),.alloc (GC ⟨0,0,false⟩),.store (.new 3) 0 (GC (gp P)) (GC (gp P))] (nn 5) [0,0,3,0,15] (fun L d=>[d 0,.int .i64 at_,.int .u8 x,.int .i64 cut]++(D d 4 5++([L.p 3]++(D d 10 58++([undef]++D d 69 30))))) (fun L=>[(L0.b 0,RC k),(L.b 3,GC (gp P))]) hp3 ⟨
  oR (by rw [hg1];exact ref5Gen1 R),oL 0 0 rR,oH (v:=GV (gp P)) (vs:=#[GV (gp g1),RV k]) (fun w _ _=>by rw [← hP];exact ref5Times1 R g1 k w h1 hk6),
  oZ rG,oT rG,
  trivial⟩ (fun L3 d3 w4 hp4=>?_)
 refine wp_seq_k (fun K7 k7=>?_)
 refine gsA [.det (GV (gp P)),.any (isB w.heap.size [L0.b 0,L3.b 3] (ptx P) 48),.detV 1 (fun v=>v)] [0,1,2] [0,1,3] (fun L=>[d3 0,.int .i64 at_,.int .u8 x,.int .i64 cut]++(D d3 4 5++([L3.p 3,L.v 1]++(D d3 11 17++([GV (gp P),L.v 1]++(D d3 30 38++([undef]++D d3 69 30))))))) (fun L=>[(L0.b 0,RC k),(L3.b 3,GC (gp P))]) hp4 ⟨
  oL 1 0 rG,oY (fun L=>#[GV (gp P)]) (fun _ _ _ h hb=>h.stay hb) (fun L w hs=>newB hs [L0.b 0,L3.b 3] (K.put1 P w (K.stay hg hs.bel))),oAV,
  trivial⟩ (fun L4 w5 hp5 ha5=>?_)
 obtain ⟨kb4b1,cb4b1,eb4b1,lb4b1,mb4b1,qb4b1,ub4b1,xb4b1⟩:=AnyF.at ha5 (j:=1) rfl rfl
 rw [eb4b1]
 have hp54b1:=Heap.add hp5 qb4b1 ub4b1 xb4b1
 refine k7 _ _ ?_
 refine wp_seq_k (fun K8 k8=>?_)
 refine sgsD [.det (.slice (some ⟨kb4b1,0,none⟩) 48 cb4b1),.det (.int .i64 48),.det (.bool false)] [0,1,2] [0,1,3] (fun L d=>[d 0,.int .i64 at_,.int .u8 x,.int .i64 cut]++(D d 4 5++([L3.p 3,.slice (some ⟨kb4b1,0,none⟩) 48 cb4b1]++(D d 11 21++([.bool false]++(D d 33 35++([undef]++D d 69 30))))))) (fun L=>[(L0.b 0,RC k),(L3.b 3,GC (gp P)),(kb4b1,BC (ptx P) 48)]) hp54b1 ⟨
  oM,fun h=>⟨ob_len (p:=(some ⟨kb4b1,0,none⟩)) (n:=48) (c:=cb4b1) (fun _=>rfl) h rfl (fun _=>by kernel_rfl) Tryz.underlying45⟩,oJ .i64 .i64 48 48 (h:=fun w=>(neqI _ _ _ _ w).trans rfl),
  trivial⟩ (fun L5 _ w6 hp6=>?_)
 refine cfk (k8 _ _ ?_)
 refine sgsD [.det (.slice (some ⟨kb4b1,0,none⟩) 48 cb4b1),.det (.tuple #[GV (gp P),.int .i64 0]),.det (.tuple #[GV (gp P),.int .i64 0]),.det (GV (gp P)),.det (.int .i64 0),.alloc (GC ⟨0,0,false⟩),.store (.new 5) 0 (GC (gp P)) (GC (gp P)),.det (.int .i64 0)] (nn 8) [0,1,3,7,7,0,47,127] (fun L d=>[d 0,.int .i64 at_,.int .u8 x,.int .i64 cut]++(D d 4 5++([L3.p 3,.slice (some ⟨kb4b1,0,none⟩) 48 cb4b1,L.p 5,.int .i64 0]++(D d 13 55++([undef]++D d 69 30))))) (fun L=>[(L0.b 0,RC k),(L3.b 3,GC (gp P)),(kb4b1,BC (ptx P) 48),(L.b 5,GC (gp P))]) hp6 ⟨
  oM,oCS (fun L=>#[.slice (some ⟨kb4b1,0,none⟩) 48 cb4b1]) (fun L w hs=>by have h:=K.take1 _ 48 _ _ w (K.stay hg hs.bel) lb4b1 mb4b1 (box_at (seen_at hs (k:=2) rfl)) rP;rw [ht0] at h;exact h),
  oM,oX,oX,oZ rG,oT rG,oA,
  trivial⟩ (fun L6 d6 w7 hp7=>?_)
 refine wp_seq_k (fun K11 k11=>?_)
 refine gsA [.any isE,.det (.slice (some ⟨kb4b1,0,none⟩) 48 cb4b1),.any (isB w.heap.size [L0.b 0,L3.b 3,kb4b1,L6.b 5] (ptx P) 48),.detV 2 (fun v=>v)] [0,1,2,3] [0,0,3,7] (fun L=>[d6 0,.int .i64 at_,.int .u8 x,.int .i64 cut]++(D d6 4 5++([L3.p 3,.slice (some ⟨kb4b1,0,none⟩) 48 cb4b1,L6.p 5,.int .i64 0,L.v 2]++(D d6 14 24++([L.v 0,.slice (some ⟨kb4b1,0,none⟩) 48 cb4b1,L.v 2]++(D d6 41 27++([undef]++D d6 69 30))))))) (fun L=>[(L0.b 0,RC k),(L3.b 3,GC (gp P)),(kb4b1,BC (ptx P) 48),(L6.b 5,GC (gp P))]) hp7 ⟨
  oE0,oM,oApBB (n:=48) (c:=cb4b1) [L0.b 0,L3.b 3,kb4b1,L6.b 5] 0 2 (by decide) (by decide),oAV,
  trivial⟩ (fun L7 w8 hp8 ha8=>?_)
 obtain ⟨kb7b2,cb7b2,eb7b2,lb7b2,mb7b2,qb7b2,ub7b2,xb7b2⟩:=AnyF.at ha8 (j:=2) rfl rfl
 rw [eb7b2]
 have hp87b2:=Heap.add hp8 qb7b2 ub7b2 xb7b2
 refine k11 _ _ ?_
 refine sgsD [.det (.slice (some ⟨kb7b2,0,none⟩) 48 cb7b2),.det (.int .i64 at_),.det (.int .i64 ((j:Nat):Int)),.det (.pointer (some ⟨kb7b2,0+j*1,none⟩)),.det (.int .u8 (ptx P j)),.det (.int .u8 x),.det (.int .u8 y),.det (.pointer (some ⟨kb7b2,0+j*1,none⟩)),.store (.base 4) (0+j*1) ([.int .u8 y]) (BC (su (ptx P) j y) 48)] (nn 9) [0,0,2,7,15,0,63,127,255] (fun L d=>D d 0 2++([.int .u8 x,.int .i64 cut]++(D d 4 5++([L3.p 3,.slice (some ⟨kb4b1,0,none⟩) 48 cb4b1,L6.p 5,.int .i64 0,.slice (some ⟨kb7b2,0,none⟩) 48 cb7b2]++(D d 14 54++([undef]++D d 69 30)))))) (fun L=>[(L0.b 0,RC k),(L3.b 3,GC (gp P)),(kb4b1,BC (ptx P) 48),(L6.b 5,GC (gp P)),(kb7b2,BC (su (ptx P) j y) 48)]) hp87b2 ⟨
  oM,oM,oR hJ,oIS (n:=48) (c:=cb7b2) j Tryz.underlying45 sizeY (show j<48 by omega),oLY 4 (show j<48 by omega),oM,oJ .u8 .u8 (ptx P j) x (h:=fun w=>xorYb _ _ _ _ hx w),
  oIS (n:=48) (c:=cb7b2) j Tryz.underlying45 sizeY (show j<48 by omega),oTY (j:=j) (show j<48 by omega),
  trivial⟩ (fun L8 _ w9 hp9=>?_)
 refine sgsD [.det (.slice (some ⟨kb7b2,0,none⟩) 48 cb7b2),.det (.tuple #[GV (gp Q),.int .i64 0]),.det (.tuple #[GV (gp Q),.int .i64 0]),.det (GV (gp Q)),.det (.int .i64 0),.alloc (GC ⟨0,0,false⟩),.store (.new 5) 0 (GC (gp Q)) (GC (gp Q)),.det (.int .i64 0)] (nn 8) [0,1,3,7,7,0,47,127] (fun L d=>D d 0 2++([.int .u8 x,.int .i64 cut]++(D d 4 5++([L3.p 3,.slice (some ⟨kb4b1,0,none⟩) 48 cb4b1,L6.p 5,.int .i64 0,.slice (some ⟨kb7b2,0,none⟩) 48 cb7b2,L.p 5,.int .i64 0]++(D d 16 52++([undef]++D d 69 30)))))) (fun L=>[(L0.b 0,RC k),(L3.b 3,GC (gp P)),(kb4b1,BC (ptx P) 48),(L6.b 5,GC (gp P)),(kb7b2,BC (su (ptx P) j y) 48),(L.b 5,GC (gp Q))]) hp9 ⟨
  oM,oCS (fun L=>#[.slice (some ⟨kb7b2,0,none⟩) 48 cb7b2]) (fun L w hs=>by have h:=K.take1 _ 48 _ _ w (K.stay hg hs.bel) lb7b2 mb7b2 (box_at (seen_at hs (k:=4) rfl)) rT;rw [ht] at h;exact h),
  oM,oX,oX,oZ rG,oT rG,oA,
  trivial⟩ (fun L9 _ w10 hp10=>?_)
 refine sgsD [.det (.slice (some ⟨kb4b1,0,none⟩) 48 cb4b1),.det (.int .i64 cut),.det (.int .i64 ((j2:Nat):Int)),.det (.slice (some ⟨kb4b1,0,none⟩) j2 cb4b1),.det (.tuple #[GV ⟨0,0,false⟩,.int .i64 2]),.det (.tuple #[GV ⟨0,0,false⟩,.int .i64 2]),.det (GV ⟨0,0,false⟩),.det (.int .i64 2),.alloc (GC ⟨0,0,false⟩),.store (.new 8) 0 (GC ⟨0,0,false⟩) (GC ⟨0,0,false⟩),.det (.int .i64 2)] (nn 11) [0,0,2,7,15,31,63,63,0,383,1023] (fun L d=>D d 0 2++([.int .u8 x]++(D d 3 6++([L3.p 3,.slice (some ⟨kb4b1,0,none⟩) 48 cb4b1,L6.p 5,.int .i64 0,.slice (some ⟨kb7b2,0,none⟩) 48 cb7b2,L9.p 5,.int .i64 0,d 16,.int .i64 2]++(D d 18 50++([undef]++D d 69 30)))))) (fun L=>[(L0.b 0,RC k),(L3.b 3,GC (gp P)),(kb4b1,BC (ptx P) 48),(L6.b 5,GC (gp P)),(kb7b2,BC (su (ptx P) j y) 48),(L9.b 5,GC (gp Q)),(L.b 8,GC ⟨0,0,false⟩)]) hp10 ⟨
  oM,oM,oR hJ2,oSS (len:=48) (n:=j2) Tryz.underlying45 sizeY (by have:=lb4b1;omega),oCS (fun L=>#[.slice (some ⟨kb4b1,0,none⟩) j2 cb4b1]) (fun L w hs=>by have h:=K.take1 _ j2 _ (ptx P) w (K.stay hg hs.bel) (by have:=lb4b1;omega) mb4b1 (AtK.mono (box_at (seen_at hs (k:=2) rfl)) (by omega)) (fun j hj=>rP j (by omega));rw [ht2] at h;exact h),
  oM,oX,oX,oZ rG,oT rG,oA,
  trivial⟩ (fun L10 _ w11 hp11=>?_)
 refine wp_seq_k (fun K15 k15=>?_)
 refine wp_region_list ?_
 refine gsC 5 [.any isE,.det (.slice (some ⟨kb4b1,0,none⟩) 48 cb4b1),.any (isO w.heap.size [L0.b 0,L3.b 3,kb4b1,L6.b 5,kb7b2,L9.b 5,L10.b 8] (ptx P) 48),.det (.int .u8 x),.any (isY1 x)] (nn 5) [0,1,3,7,15] (fun L d=>D d 0 9++([L3.p 3,d 10,L6.p 5,.int .i64 0,.slice (some ⟨kb7b2,0,none⟩) 48 cb7b2,L9.p 5,.int .i64 0,d 16,.int .i64 2]++(D d 18 47++([L.v 2,d 66,L.v 4,undef]++D d 69 30)))) (fun L=>[(L0.b 0,RC k),(L3.b 3,GC (gp P)),(kb4b1,BC (ptx P) 48),(L6.b 5,GC (gp P)),(kb7b2,BC (su (ptx P) j y) 48),(L9.b 5,GC (gp Q)),(L10.b 8,GC ⟨0,0,false⟩)]) hp11 ⟨
  oE0,oM,oApOB (n:=48) (c:=cb4b1) [L0.b 0,L3.b 3,kb4b1,L6.b 5,kb7b2,L9.b 5,L10.b 8] 0 2 (by decide) (by decide),oM,oY1,
  trivial⟩ (fun L11 _ w12 hp12 ha12=>?_)
 obtain ⟨k0,hB0,hle0,hbs0,o0⟩:=AnyF.at (ha12 (by kernel_rfl)) (j:=2) rfl rfl
 obtain ⟨ky,ey,hy⟩:=AnyF.at (ha12 (by kernel_rfl)) (j:=4) rfl rfl
 rw [ey]
 have hy1:∀ j,j<1→w12.cell? ((⟨ky,0,none⟩:Addr).add j)=some (.int .u8 x):=fun j hj=>by rw [Addr.add_mid,show j=0 by omega];exact hy
 refine oneL rfl rfl (wp_appendY (B:=k0) (ad:=⟨ky,0,none⟩) (n:=1) (c:=1) (g:=fun _=>x) (.tmp 65) (.tmp 67) rfl (by kernel_rfl) o0 (by kernel_rfl) hy1 (by decide) hle0 (fun vO xO pO bO=>?_))
 have pO:OwnY xO k0 vO (cat (ptx P) 48 fun _=>x) 49:=pO
 obtain ⟨kbO,cbO,rfl,lbO,mbO,qbO,xbO⟩:=OwnY.box pO (by decide)
 have hpO:=Heap.add (Heap.under hp12 hB0 bO hbs0) (Nat.le_trans hB0 qbO) (fun b hb=>Nat.lt_of_lt_of_le (hbs0 b hb) qbO) xbO
 refine gsC 7 [.det (.tuple #[GV ⟨0,0,false⟩,.int .i64 8]),.det (.tuple #[GV ⟨0,0,false⟩,.int .i64 8]),.det (GV ⟨0,0,false⟩),.det (.int .i64 8),.alloc (GC ⟨0,0,false⟩),.store (.new 4) 0 (GC ⟨0,0,false⟩) (GC ⟨0,0,false⟩),.det (.int .i64 8)] (nn 7) [0,1,3,7,15,31,63] (fun L d=>D d 0 9++([L3.p 3,d 10,L6.p 5,.int .i64 0,.slice (some ⟨kb7b2,0,none⟩) 48 cb7b2,L9.p 5,.int .i64 0,d 16,.int .i64 2,d 18,.int .i64 8]++D d 20 79)) (fun L=>[(L0.b 0,RC k),(L3.b 3,GC (gp P)),(kb4b1,BC (ptx P) 48),(L6.b 5,GC (gp P)),(kb7b2,BC (su (ptx P) j y) 48),(L9.b 5,GC (gp Q)),(L10.b 8,GC ⟨0,0,false⟩),(kbO,BC (cat (ptx P) 48 fun _=>x) 49),(L.b 4,GC ⟨0,0,false⟩)]) hpO ⟨
  oCS (fun L=>#[.slice (some ⟨kbO,0,none⟩) 49 cbO]) (fun L w hs=>by have h:=K.take1 _ 49 _ _ w (K.stay hg hs.bel) lbO mbO (box_at (seen_at hs (k:=7) rfl)) rX;rw [ht8] at h;exact h),
  oM,oX,oX,oZ rG,oT rG,oA,
  trivial⟩ (fun L12 _ w13 hp13 ha13=>?_)
 refine wpList_nil ?_
 refine k15 _ _ ?_
 refine sdrD [.det (.int .i64 0),.det (.bool true),.det (.bool true),.det (GV (gp P)),.det (GV (gp P)),.det (.bool true),.det (.bool true),.det (.bool true),.det (.int .i64 0),.det (.bool false),.det (.bool false),.det (GV (gp Q)),.any (isB w.heap.size [L0.b 0,L3.b 3,kb4b1,L6.b 5,kb7b2,L9.b 5,L10.b 8,kbO,L12.b 4] (su (ptx P) j y) 48),.det (sB (su (ptx P) j y) 48),.det (.slice (some ⟨kb7b2,0,none⟩) 48 cb7b2),.det (sB (su (ptx P) j y) 48),.det (.bool true),.det (.bool true),.det (.bool true),.det (.bool true),.det (.int .i64 2),.det (.bool true),.det (.bool true),.det (.bool true),.det (.int .i64 8),.det (.bool true),.det (.bool true),.det (.bool true)] (nn 28) [0,1,3,7,7,31,63,127,255,511,1023,2047,4095,8191,2047,18431,65535,131071,262143,524287,1048575,2097151,4194303,8388607,16777215,33554431,67108863,134217727] (fun L d=>D d 0 8++([.bool true]++D d 9 90)) (fun L=>[(L0.b 0,RC k),(L3.b 3,GC (gp P)),(kb4b1,BC (ptx P) 48),(L6.b 5,GC (gp P)),(kb7b2,BC (su (ptx P) j y) 48),(L9.b 5,GC (gp Q)),(L10.b 8,GC ⟨0,0,false⟩),(kbO,BC (cat (ptx P) 48 fun _=>x) 49),(L12.b 4,GC ⟨0,0,false⟩)]) hp13 ⟨
  oM,oJ .i64 .i64 0 0 (h:=fun w=>(eqlI _ _ _ _ w).trans rfl),oM,oL 3 0 rG,oL 1 0 rG,oE (a:=(gp P)) (b:=(gp P)) qG (yes rfl),oP,oM,oM,oJ .i64 .i64 0 0 (h:=fun w=>(neqI _ _ _ _ w).trans rfl),
  oM,oL 5 0 rG,oY (fun L=>#[GV (gp Q)]) (fun _ _ _ h hb=>h.stay hb) (fun L w hs=>newB hs [L0.b 0,L3.b 3,kb4b1,L6.b 5,kb7b2,L9.b 5,L10.b 8,kbO,L12.b 4] ((RetB.congr hQ (K.put1 Q w (K.stay hg hs.bel))))),
  oCs 12 (by decide),oM,oCsB 4 (c:=cb7b2) (by decide),oW (u:=sB (su (ptx P) j y) 48) (v:=sB (su (ptx P) j y) 48) (r:=.bool true) (fun w=>guardS _ _ _ _ _ _ w) (fun w=>eqlS _ _ w),
  oP,oP,oM,oM,oJ .i64 .i64 2 2 (h:=fun w=>(eqlI _ _ _ _ w).trans rfl),oP,oM,oM,oJ .i64 .i64 8 8 (h:=fun w=>(eqlI _ _ _ _ w).trans rfl),oP,oA,
  trivial⟩ (fun L13 _ w14 hp14=>?_)
 refine wp_ret ?_
 refine bodyPost_ret (v:=.bool true) ?_ rfl ?_
 ·exact res_t rfl (by kernel_rfl) _
 ·exact ⟨rfl,hp14.bel⟩
end Go.Proofs.YtmibajbpimcfnaaGreatDoor.fpn
/- PointBack walked. -/
namespace Go.Proofs.YtmibajbpimcfnaaGreatDoor.fpn
open Go.RowKit Pl EC
theorem pointBack_walk {G:World→Prop} (K:PtK G) (R:RefK) (k:Nat) (at_:Int) (xb:Nat) (cut:Int) (w:World) (hg:G w) (hk6:k<2^256) (hx:xb<256):Calls Tryz.prog 6 #[RV k,.int .i64 at_,.int .u8 ((xb:Nat):Int),.int .i64 cut] w (Ret (.bool true) w):=by
 obtain ⟨x,hxe⟩:∃ x:Int,x=((xb:Nat):Int):=⟨_,rfl⟩
 rw [← hxe]
 by_cases hk:k<ordR
 ·obtain ⟨j,hj,hJ⟩:=place48 at_
  obtain ⟨j2,hj2,hJ2⟩:=place48 cut
  obtain ⟨P,hP⟩:∃ P,mul finv k gen1=P:=⟨_,rfl⟩
  have hO:On (4:F) P:=hP▸mul_on crv1 gen1_on k
  have hI:mul finv ordR P=.inf:=by rw [← hP,← mul_mul crv1 gen1_on,Nat.mul_comm,mul_mul crv1 gen1_on,gen1_order];exact mul_inf _
  obtain ⟨y,hy⟩:∃ y,bits .xor .u8 (ptx P j) x=y:=⟨_,rfl⟩
  have hy0:0≤y∧y≤255:=by rw [← hy];exact ⟨bits_lo_u8 _ _ _,bits_hi_u8 _ _ _⟩
  have rP:=ptx_rg P
  have rT:∀ i,i<48→0≤su (ptx P) j y i∧su (ptx P) j y i<256:=fun i hi=>by
   by_cases e:i=j
   ·subst e;rw [su_at];omega
   ·rw [su_ne e];exact rP i hi
  have rX:∀ i,i<49→0≤(cat (ptx P) 48 fun _=>x) i∧(cat (ptx P) 48 fun _=>x) i<256:=fun i hi=>by
   show 0≤(bif Nat.blt i 48 then ptx P i else x)∧(bif Nat.blt i 48 then ptx P i else x)<256
   cases hb:Nat.blt i 48 with
   | true=>exact rP i (Nat.le_of_ble_eq_true hb)
   | false=>show 0≤x∧x<256;omega
  have ht2:tkA (ptx P) j2=.tuple #[GV ⟨0,0,false⟩,.int .i64 2]:=by unfold tkA;rw [if_pos hj2];rfl
  have ht8:tkA (cat (ptx P) 48 fun _=>x) 49=.tuple #[GV ⟨0,0,false⟩,.int .i64 8]:=by unfold tkA;rw [if_neg (by decide),if_pos (by decide)];rfl
  obtain ⟨V,e,ht⟩:=tk_some1 (su (ptx P) j y) 48
  by_cases he:e=0
  ·subst he
   obtain ⟨Q,hV,hQ⟩:=tk_inj1 rT ht
   rw [hV] at ht
   exact backO K R k at_ x cut gen1 P j j2 y Q w hg hk6 hk rfl gen1_on hP hj hj2 hJ hJ2 hy rP rT rX (tk_back1 hO hI) ht2 ht8 ht hQ
  ·exact backE K R k at_ x cut gen1 P j j2 y V e w hg hk6 hk rfl gen1_on hP hj hj2 hJ hJ2 hy rP rT rX (tk_back1 hO hI) ht2 ht8 he ht
 ·exact backA K R k at_ x cut gen1 gen1 0 0 0 w hg hk6 hk
end Go.Proofs.YtmibajbpimcfnaaGreatDoor.fpn
