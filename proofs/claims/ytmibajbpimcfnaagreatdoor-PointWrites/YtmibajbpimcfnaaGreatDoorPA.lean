/- Texts laid together. -/
import Derived.Test.YtmibajbpimcfnaaGreatDoorGX
import Derived.Test.YtmibajbpimcfnaaGreatDoorGZ
import Derived.Test.YtmibajbpimcfnaaGreatDoorGM
import Derived.Test.YtmibajbpimcfnaaGreatDoorGS
set_option linter.unusedVariables false
set_option linter.unusedSimpArgs false
set_option maxRecDepth 4000
set_option maxHeartbeats 4000000
/- Points as bytes: what is written is read. -/
namespace Go.Proofs.YtmibajbpimcfnaaGreatDoor.fpn
open Go.RowKit Pl EC
theorem root_of {c r:F} (h:r*r=c):root c=bif great r then -r else r:=by
 have hq:=isq_of h
 have h1:=root_sq hq
 have h2:=root_low c
 have hp:(root c-r)*(root c+r)=0:=by rw [show (root c-r)*(root c+r)=root c*root c-r*r by grind,h1,h];grind
 rcases no_zero hp with e | e
 ·have e':root c=r:=by grind
  rw [e'] at h2
  rw [e',h2];rfl
 ·have e':root c=-r:=by grind
  by_cases hr:r=0
  ·rw [e',hr,great_zero]
   show -(0:F)=0
   exact Rn.neg_zero
  ·have:=great_neg hr
   rw [← e',h2] at this
   rw [e']
   cases hg:great r with
   | true=>rfl
   | false=>rw [hg] at this;cases this
theorem bv_congr {f g:Nat→Int}:∀ {n:Nat},(∀ j,j<n→f j=g j)→bv f n=bv g n
 | 0,_=>rfl
 | n+1,h=>by
  show bv f n*256+f n=bv g n*256+g n
  rw [bv_congr fun j hj=>h j (by omega),h n (by omega)]
theorem bv_pb (a:F):bv (pb a) 48=(a.val:Int):=(bv_put (lb_rg _ _)).trans (lbF a)
theorem ofB_pb (a:F):ofB (pb a)=a:=by
 unfold ofB
 rw [bv_pb]
 exact Fin.ext (Nat.mod_eq_of_lt a.isLt)
theorem ofB_congr {f g:Nat→Int} (h:∀ j,j<48→f j=g j):ofB f=ofB g:=by unfold ofB;rw [bv_congr h]
def tkH (q d gr i1 i0:Bool) (V1 V0:Value):Value:=bif q then bif d && gr then tkE 3 else bif gr then (bif i1 then V1 else tkE 6) else (bif i0 then V0 else tkE 6) else tkE 5
theorem tk1_H (a:F) (gr:Bool) (r:F) (h:root (a*a*a+4)=r):tk1 a gr=tkH (isq (a*a*a+4)) (decide (r=0)) gr (decide (mul finv ordR (.aff a (-r))=.inf)) (decide (mul finv ordR (.aff a r)=.inf)) (.tuple #[GV ⟨a,-r,false⟩,.int .i64 0]) (.tuple #[GV ⟨a,r,false⟩,.int .i64 0]):=by
 subst h;rfl
theorem tkH_f (d i1:Bool) (V1 V0:Value):tkH true d false i1 true V1 V0=V0:=by cases d<;>rfl
theorem tkH_t (i0:Bool) (V1 V0:Value):tkH true false true true i0 V1 V0=V1:=rfl
theorem tk1_back {x y:F} (hO:y*y=x*x*x+4) (hI:mul finv ordR (.aff x y)=.inf):tk1 x (great y)=.tuple #[GV ⟨x,y,false⟩,.int .i64 0]:=by
 have hr:=root_of hO
 cases hg:great y with
 | false =>
  rw [hg] at hr
  rw [tk1_H x false y hr,isq_of hO,decide_eq_true hI]
  exact tkH_f _ _ _ _
 | true =>
  rw [hg] at hr
  have hn:- -y=y:=by grind
  have hy:¬ -y=0:=fun e=>by
   have:y=0:=by rw [← hn,e];exact Rn.neg_zero
   rw [this,great_zero] at hg;cases hg
  rw [tk1_H x true (-y) hr,isq_of hO,decide_eq_false hy,hn,decide_eq_true hI]
  exact tkH_t _ _ _
theorem top_div (a:Int) (h:0≤a∧a<32) (b:Bool):(a+(bif b then 160 else 128)) / 32=(bif b then 5 else 4)∧(a+(bif b then 160 else 128))%32=a:=by
 cases b
 ·show (a+128) / 32=4∧(a+128)%32=a;omega
 ·show (a+160) / 32=5∧(a+160)%32=a;omega
theorem su_same (f:Nat→Int) (v x:Int) (h:x=f 0):∀ j,su (su f 0 v) 0 x j=f j:=fun j=>by
 by_cases e:j=0
 ·subst e;rw [su_at];exact h
 ·rw [su_ne e,su_ne e]
theorem hdz_inf (n:Nat):hdz (fun j=>bif Nat.beq j 0 then 192 else 0) n=true:=by
 unfold hdz
 refine decide_eq_true ⟨fun j hj=>?_,by decide⟩
 by_cases e:j=0
 ·subst e;rw [su_at];rfl
 ·rw [su_ne e]
  show (bif Nat.beq j 0 then (192:Int) else 0)=0
  rw [show Nat.beq j 0=false by cases hh:Nat.beq j 0 with | false=>rfl | true=>exact absurd (Nat.eq_of_beq_eq_true hh) e];rfl
theorem tk_back1 {P:Pt F} (hO:On (4:F) P) (hI:mul finv ordR P=.inf):tkA (ptx P) 48=.tuple #[GV (gp P),.int .i64 0]:=by
 cases P with
 | inf =>
  unfold tkA
  rw [if_neg (by decide),if_neg (by decide),if_neg (by show ¬ (192:Int) / 32<4;decide),if_pos (by show (6:Int)≤192 / 32;decide)]
  rw [show hdz (ptx .inf) 48=true from hdz_inf 48];rfl
 | aff x y =>
  have hy:y*y=x*x*x+4:=hO
  obtain ⟨t1,t2⟩:=top_div _ (pb_top x) (great y)
  have g0:ptx (.aff x y) 0=pb x 0+(bif great y then 160 else 128):=su_at _ _ _
  unfold tkA
  rw [if_neg (by decide),if_neg (by decide),g0,t1,t2]
  have hc:∀ j,j<48→su (ptx (.aff x y)) 0 (pb x 0) j=pb x j:=fun j _=>su_same _ _ _ rfl j
  rw [bv_congr hc,bv_pb,ofB_congr hc,ofB_pb]
  have hl:(x.val:Int)<RI:=by rw [RI_RN];have:=x.isLt;omega
  rw [if_pos hl]
  have hk:=tk1_back hy hI
  cases hg:great y with
  | false =>
   rw [hg] at hk
   rw [if_neg (by decide),if_neg (by decide)]
   exact hk
  | true =>
   rw [hg] at hk
   rw [if_neg (by decide),if_neg (by decide)]
   exact hk
end Go.Proofs.YtmibajbpimcfnaaGreatDoor.fpn
/- Points of G2 as bytes: what is written is read. -/
namespace Go.Proofs.YtmibajbpimcfnaaGreatDoor.fpn.T2
open Go.RowKit Pl EC
theorem root_of {c r:F2} (h:r*r=c):F2.sq2 c=bif F2.great r then -r else r:=by
 cases hg:r.great with
 | false=>exact F2.sq2_of h hg
 | true =>
  have h0:r≠0:=fun e=>by rw [e,F2.great_zero'] at hg;cases hg
  exact F2.sq2_of (r:=-r) (by rw [F2.neg_mul_neg'];exact h) (by rw [F2.great_neg' h0,hg];rfl)
def tkH (q d gr i1 i0:Bool) (V1 V0:Value):Value:=bif q then bif d && gr then tkF 3 else bif gr then (bif i1 then V1 else tkF 6) else (bif i0 then V0 else tkF 6) else tkF 5
theorem tk2_H (a:F2) (gr:Bool) (r:F2) (h:F2.sq2 (a*a*a+b2)=r):tk2 a gr=tkH (F2.is2 (a*a*a+b2)) (decide (r=0)) gr (decide (mul F2.inv ordR (.aff a (-r))=.inf)) (decide (mul F2.inv ordR (.aff a r)=.inf)) (.tuple #[GV ⟨a,-r,false⟩,.int .i64 0]) (.tuple #[GV ⟨a,r,false⟩,.int .i64 0]):=by
 subst h;rfl
theorem tkH_f (d i1:Bool) (V1 V0:Value):tkH true d false i1 true V1 V0=V0:=by cases d<;>rfl
theorem tkH_t (i0:Bool) (V1 V0:Value):tkH true false true true i0 V1 V0=V1:=rfl
theorem neg2_neg (y:F2):- -y=y:=F2.ext' (by simp;grind) (by simp;grind)
theorem tk2_back {x y:F2} (hO:y*y=x*x*x+b2) (hI:mul F2.inv ordR (.aff x y)=.inf):tk2 x (F2.great y)=.tuple #[GV ⟨x,y,false⟩,.int .i64 0]:=by
 have hr:=root_of hO
 cases hg:y.great with
 | false =>
  rw [hg] at hr
  rw [tk2_H x false y hr,F2.is2_of hO,decide_eq_true hI]
  exact tkH_f _ _ _ _
 | true =>
  rw [hg] at hr
  have hn:=neg2_neg y
  have hy:¬ -y=0:=fun e=>by
   have h0:y≠0:=fun e=>by rw [e,F2.great_zero'] at hg;cases hg
   have h1:=F2.great_neg' h0
   rw [e,hg,F2.great_zero'] at h1
   apply h0
   rw [← hn,e]
   exact F2.ext' (by simp;exact Rn.neg_zero) (by simp;exact Rn.neg_zero)
  rw [tk2_H x true (-y) hr,F2.is2_of hO,decide_eq_false hy,hn,decide_eq_true hI]
  exact tkH_t _ _ _
theorem cat_lo (f g:Nat→Int) (m j:Nat) (h:j<m):cat f m g j=f j:=by
 unfold cat;rw [show Nat.blt j m=true by simpa using h];rfl
theorem cat_hi (f g:Nat→Int) (m j:Nat):cat f m g (m+j)=g j:=by
 unfold cat
 rw [show Nat.blt (m+j) m=false by cases hh:Nat.blt (m+j) m with | false=>rfl | true=>exact absurd (Nat.le_of_ble_eq_true hh) (by omega),Nat.add_sub_cancel_left];rfl
theorem tk_back2 {P:Pt F2} (hO:On b2 P) (hI:mul F2.inv ordR P=.inf):tkB (ptx2 P) 96=.tuple #[GV (gp P),.int .i64 0]:=by
 cases P with
 | inf =>
  unfold tkB
  rw [if_neg (by decide),if_neg (by decide),if_neg (by show ¬ (192:Int) / 32<4;decide),if_pos (by show (6:Int)≤192 / 32;decide)]
  rw [show hdz (ptx2 .inf) 96=true from hdz_inf 96];rfl
 | aff x y =>
  have hy:y*y=x*x*x+b2:=hO
  obtain ⟨t1,t2⟩:=top_div _ (pb_top x.c1) y.great
  have g0:ptx2 (.aff x y) 0=pb x.c1 0+(bif y.great then 160 else 128):=su_at _ _ _
  unfold tkB
  rw [if_neg (by decide),if_neg (by decide),g0,t1,t2]
  have hc:∀ j,su (ptx2 (.aff x y)) 0 (pb x.c1 0) j=cat (pb x.c1) 48 (pb x.c0) j:=fun j=>su_same _ _ _ rfl j
  have h1:∀ j,j<48→(fun j=>su (ptx2 (.aff x y)) 0 (pb x.c1 0) (0+j)) j=pb x.c1 j:=fun j hj=>by
   show su (ptx2 (.aff x y)) 0 (pb x.c1 0) (0+j)=_
   rw [hc,Nat.zero_add];exact cat_lo _ _ _ _ hj
  have h0:∀ j,j<48→(fun j=>su (ptx2 (.aff x y)) 0 (pb x.c1 0) (48+j)) j=pb x.c0 j:=fun j _=>by
   show su (ptx2 (.aff x y)) 0 (pb x.c1 0) (48+j)=_
   rw [hc];exact cat_hi _ _ _ _
  rw [bv_congr h1,bv_congr h0,bv_pb,bv_pb,ofB_congr h1,ofB_congr h0,ofB_pb,ofB_pb]
  have hl:∀ a:F,(a.val:Int)<RI:=fun a=>by rw [RI_RN];have:=a.isLt;omega
  rw [if_pos (hl _),if_pos (hl _)]
  have hk:tk2 ⟨x.c0,x.c1⟩ (F2.great y)=.tuple #[GV ⟨x,y,false⟩,.int .i64 0]:=tk2_back hy hI
  cases hg:y.great with
  | false =>
   rw [hg] at hk
   rw [if_neg (by decide),if_neg (by decide)]
   exact hk
  | true =>
   rw [hg] at hk
   rw [if_neg (by decide),if_neg (by decide)]
   exact hk
end Go.Proofs.YtmibajbpimcfnaaGreatDoor.fpn.T2
/- What is asked of package point; has it begun? -/
namespace Go.Proofs.YtmibajbpimcfnaaGreatDoor.fpn
open Go.RowKit Pl EC
structure PtK (G:World→Prop):Prop where
 stay:∀ {w x:World},G w→Below w.heap.size w x→G x
 put1:∀ (P:Pt F) (w:World),G w→Calls Tryz.prog 19 #[GV (gp P)] w (RetB (ptx P) 48 w)
 put2:∀ (P:Pt F2) (w:World),G w→Calls Tryz.prog 21 #[T2.GV (T2.gp P)] w (RetB (T2.ptx2 P) 96 w)
 take1:∀ (p:Option Addr) (n c:Nat) (g:Nat→Int) (w:World),G w→n≤c→c≤9223372036854775807→AtK .u8 w p n g→(∀ j,j<n→0≤g j∧g j<256)→Calls Tryz.prog 23 #[.slice p n c] w (Ret (tkA g n) w)
 take2:∀ (p:Option Addr) (n c:Nat) (g:Nat→Int) (w:World),G w→n≤c→c≤9223372036854775807→AtK .u8 w p n g→(∀ j,j<n→0≤g j∧g j<256)→Calls Tryz.prog 25 #[.slice p n c] w (Ret (T2.tkB g n) w)
theorem ptx_rg (P:Pt F):∀ j,j<48→0≤ptx P j∧ptx P j<256:=fun j _=>by
 cases P with
 | inf=>show 0≤(bif Nat.beq j 0 then (192:Int) else 0)∧(bif Nat.beq j 0 then (192:Int) else 0)<256;cases Nat.beq j 0<;>decide
 | aff x y =>
  by_cases e:j=0
  ·subst e
   rw [show ptx (.aff x y) 0=pb x 0+(bif great y then 160 else 128) from su_at _ _ _]
   have:=pb_top x
   cases great y
   ·show 0≤pb x 0+128∧pb x 0+128<256;omega
   ·show 0≤pb x 0+160∧pb x 0+160<256;omega
  ·rw [show ptx (.aff x y) j=pb x j from su_ne e];exact pb_rg x j
theorem ptx2_rg (P:Pt F2):∀ j,j<96→0≤T2.ptx2 P j∧T2.ptx2 P j<256:=fun j _=>by
 cases P with
 | inf=>show 0≤(bif Nat.beq j 0 then (192:Int) else 0)∧(bif Nat.beq j 0 then (192:Int) else 0)<256;cases Nat.beq j 0<;>decide
 | aff x y =>
  by_cases e:j=0
  ·subst e
   rw [show T2.ptx2 (.aff x y) 0=pb x.c1 0+(bif F2.great y then 160 else 128) from su_at _ _ _]
   have:=pb_top x.c1
   cases F2.great y
   ·show 0≤pb x.c1 0+128∧pb x.c1 0+128<256;omega
   ·show 0≤pb x.c1 0+160∧pb x.c1 0+160<256;omega
  ·rw [show T2.ptx2 (.aff x y) j=cat (pb x.c1) 48 (pb x.c0) j from su_ne e]
   unfold cat
   cases Nat.blt j 48
   ·exact pb_rg _ _
   ·exact pb_rg _ _
theorem take1B {G:World→Prop} (K:PtK G) {B:Nat} {bs:List Nat} {f:Nat→Int} {n:Nat} {v:Value} {w:World} (hg:G w) (h:isB B bs f n v w) (rf:∀ j,j<n→0≤f j∧f j<256) (u:Value) (hu:tkA f n=u):Calls Tryz.prog 23 #[v] w (Ret u w):=by
 obtain ⟨k,c,rfl,h1,h2,-,-,hx⟩:=h
 rw [← hu]
 exact K.take1 _ n c f w hg h1 h2 (box_at hx) rf
theorem take2B {G:World→Prop} (K:PtK G) {B:Nat} {bs:List Nat} {f:Nat→Int} {n:Nat} {v:Value} {w:World} (hg:G w) (h:isB B bs f n v w) (rf:∀ j,j<n→0≤f j∧f j<256) (u:Value) (hu:T2.tkB f n=u):Calls Tryz.prog 25 #[v] w (Ret u w):=by
 obtain ⟨k,c,rfl,h1,h2,-,-,hx⟩:=h
 rw [← hu]
 exact K.take2 _ n c f w hg h1 h2 (box_at hx) rf
theorem begun10a {G:World→Prop} (K:PtK G) (R:RefK) (g1:Pt F) (g2:Pt F2) (w:World) (hg:G w) (hg1:g1=gen1) (hg2:g2=gen2) (ht1:tkA (ptx g1) 48=.tuple #[GV (gp g1),.int .i64 0]) (ht2:T2.tkB (T2.ptx2 g2) 96=.tuple #[T2.GV (T2.gp g2),.int .i64 0]):Calls Tryz.prog 9 #[] w (Ret (.bool true) w):=by
 have hp0:=Heap.start w
 go_enter Tryz.func9,Tryz.ntmps9
 refine sgsD [.det (.bool false)] [0] [0] (fun L d=>D d 0 33) (fun L=>[]) hp0 ⟨
  oA,
  trivial⟩ (fun L0 _ w1 hp1=>?_)
 refine sgsD [.det (GV (gp g1)),.any (isB w.heap.size [] (ptx g1) 48),.det (.tuple #[GV (gp g1),.int .i64 0]),.det (.tuple #[GV (gp g1),.int .i64 0]),.det (GV (gp g1)),.det (.int .i64 0),.alloc (GC ⟨0,0,false⟩),.store (.new 6) 0 (GC (gp g1)) (GC (gp g1)),.det (.int .i64 0)] (nn 9) [0,1,3,7,15,15,0,95,255] (fun L d=>[d 0,L.p 6,.int .i64 0]++D d 3 30) (fun L=>[(L.b 6,GC (gp g1))]) hp1 ⟨
  oR (by rw [hg1];exact ref5Gen1 R),oY (fun L=>#[GV (gp g1)]) (fun _ _ _ h hb=>h.stay hb) (fun L w hs=>newB hs [] (K.put1 g1 w (K.stay hg hs.bel))),oCS (fun L=>#[L.v 1]) (fun L w hs=>take1B K (K.stay hg hs.bel) (hs.any 1 _ rfl rfl) (ptx_rg g1) _ ht1),
  oM,oX,oX,oZ rG,oT rG,oA,
  trivial⟩ (fun L1 _ w2 hp2=>?_)
 refine sgsD [.det (T2.GV (T2.gp g2)),.any (isB w.heap.size [L1.b 6] (T2.ptx2 g2) 96),.det (.tuple #[T2.GV (T2.gp g2),.int .i64 0]),.det (.tuple #[T2.GV (T2.gp g2),.int .i64 0]),.det (T2.GV (T2.gp g2)),.det (.int .i64 0),.alloc (T2.GC ⟨0,0,false⟩),.store (.new 6) 0 (T2.GC (T2.gp g2)) (T2.GC (T2.gp g2)),.det (.int .i64 0)] (nn 9) [0,1,3,7,15,15,0,95,255] (fun L d=>[d 0,L1.p 6,.int .i64 0,L.p 6,.int .i64 0]++D d 5 28) (fun L=>[(L1.b 6,GC (gp g1)),(L.b 6,T2.GC (T2.gp g2))]) hp2 ⟨
  oR (by rw [hg2];exact T2.ref5Gen1 R),oY (fun L=>#[T2.GV (T2.gp g2)]) (fun _ _ _ h hb=>h.stay hb) (fun L w hs=>newB hs [L1.b 6] (K.put2 g2 w (K.stay hg hs.bel))),
  oCS (fun L=>#[L.v 1]) (fun L w hs=>take2B K (K.stay hg hs.bel) (hs.any 1 _ rfl rfl) (ptx2_rg g2) _ ht2),oM,oX,oX,oZ T2.rG,oT T2.rG,oA,
  trivial⟩ (fun L2 _ w3 hp3=>?_)
 refine sdrD [.det (.int .i64 0),.det (.bool true),.det (.bool true),.det (GV (gp g1)),.det (GV (gp g1)),.det (.bool true),.det (.bool true),.det (.bool true),.det (.int .i64 0),.det (.bool true),.det (.bool true),.det (.bool true),.det (T2.GV (T2.gp g2)),.det (T2.GV (T2.gp g2)),.det (.bool true),.det (.bool true),.det (.bool true)] (nn 17) [0,1,3,7,7,31,63,127,255,511,1023,2047,4095,4095,16383,32767,65535] (fun L d=>[.bool true]++D d 1 32) (fun L=>[(L1.b 6,GC (gp g1)),(L2.b 6,T2.GC (T2.gp g2))]) hp3 ⟨
  oM,oJ .i64 .i64 0 0 (h:=fun w=>(eqlI _ _ _ _ w).trans rfl),oM,oL 0 0 rG,oR (by rw [hg1];exact ref5Gen1 R),oE (a:=(gp g1)) (b:=(gp g1)) qG (yes rfl),
  oP,oM,oM,oJ .i64 .i64 0 0 (h:=fun w=>(eqlI _ _ _ _ w).trans rfl),oP,oM,oL 1 0 T2.rG,oR (by rw [hg2];exact T2.ref5Gen1 R),oE (a:=(T2.gp g2)) (b:=(T2.gp g2)) T2.qG (yes rfl),
  oP,oA,
  trivial⟩ (fun L3 _ w4 hp4=>?_)
 refine wp_ret ?_
 refine bodyPost_ret (v:=.bool true) ?_ rfl ?_
 ·exact res_t rfl (by kernel_rfl) _
 ·exact ⟨rfl,hp4.bel⟩
theorem begun10 {G:World→Prop} (K:PtK G) (R:RefK) (w:World) (hg:G w):Calls Tryz.prog 9 #[] w (Ret (.bool true) w) :=
 begun10a K R gen1 gen2 w hg rfl rfl (tk_back1 gen1_on gen1_order) (T2.tk_back2 gen2_on gen2_order)
end Go.Proofs.YtmibajbpimcfnaaGreatDoor.fpn
/- What is read is a point and an error. -/
namespace Go.Proofs.YtmibajbpimcfnaaGreatDoor.fpn
open Go.RowKit Pl EC
def IsT1 (v:Value):Prop:=∃ (P:G1p) (e:Int),v=.tuple #[GV P,.int .i64 e]
theorem IsT1.bif {b:Bool} {u v:Value} (hu:IsT1 u) (hv:IsT1 v):IsT1 (bif b then u else v):=by cases b;exact hv;exact hu
theorem tk_some1 (g:Nat→Int) (n:Nat):IsT1 (tkA g n):=by
 have hE:∀ e,IsT1 (tkE e):=fun e=>⟨_,_,rfl⟩
 have h1:∀ a gr,IsT1 (tk1 a gr):=fun a gr=>by
  unfold tk1
  exact IsT1.bif (IsT1.bif (hE _) (IsT1.bif (IsT1.bif ⟨_,_,rfl⟩ (hE _)) (IsT1.bif ⟨_,_,rfl⟩ (hE _)))) (hE _)
 unfold tkA
 split;exact hE _
 split;exact hE _
 split;exact hE _
 split;exact IsT1.bif ⟨_,_,rfl⟩ (hE _)
 split;exact h1 _ _
 exact hE _
def IsT2 (v:Value):Prop:=∃ (P:T2.G2p) (e:Int),v=.tuple #[T2.GV P,.int .i64 e]
theorem IsT2.bif {b:Bool} {u v:Value} (hu:IsT2 u) (hv:IsT2 v):IsT2 (bif b then u else v):=by cases b;exact hv;exact hu
theorem tk_some2 (g:Nat→Int) (n:Nat):IsT2 (T2.tkB g n):=by
 have hE:∀ e,IsT2 (T2.tkF e):=fun e=>⟨_,_,rfl⟩
 have h1:∀ a gr,IsT2 (T2.tk2 a gr):=fun a gr=>by
  unfold T2.tk2
  exact IsT2.bif (IsT2.bif (hE _) (IsT2.bif (IsT2.bif ⟨_,_,rfl⟩ (hE _)) (IsT2.bif ⟨_,_,rfl⟩ (hE _)))) (hE _)
 unfold T2.tkB
 split;exact hE _
 split;exact hE _
 split;exact hE _
 split;exact IsT2.bif ⟨_,_,rfl⟩ (hE _)
 split
 ·split;exact h1 _ _;exact hE _
 ·exact hE _
end Go.Proofs.YtmibajbpimcfnaaGreatDoor.fpn
