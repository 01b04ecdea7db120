/- Texts laid together. -/
import Derived.Test.YthnfgmhehfombaaGreatDoorGO
import Derived.Test.YthnfgmhehfombaaGreatDoorGJ
import Derived.Laws.Tables
set_option linter.unusedVariables false
set_option linter.unusedSimpArgs false
set_option maxRecDepth 4000
set_option maxHeartbeats 4000000
/- Points, their three numbers, scalars: cells, fields, how they are held against each other and built. -/
namespace Go.Proofs.YthnfgmhehfombaaGreatDoor.fpn
open Go.RowKit Pl EC
structure G1p where
 x:F
 y:F
 i:Bool
 deriving DecidableEq
theorem G1p.ext' {a b:G1p} (h0:a.x=b.x) (h1:a.y=b.y) (h2:a.i=b.i):a=b:=by cases a;cases b;simp_all
def gp:Pt F→G1p
 | .inf=>⟨0,0,true⟩
 | .aff x y=>⟨x,y,false⟩
def GC (p:G1p):List Value:=FC p.x++FC p.y++[.bool p.i]
def GV (p:G1p):Value:=.agg (GC p).toArray
def QGC (f g:Nat→Int) (i:Bool):List Value:=QC f++QC g++[.bool i]
def QGV (f g:Nat→Int) (i:Bool):Value:=.agg (QGC f g i).toArray
def JC (a:Jc F):List Value:=FC a.x++FC a.y++FC a.z
def JV (a:Jc F):Value:=.agg (JC a).toArray
theorem rG:RowT Tryz.prog 32 13 (GC ⟨0,0,false⟩):=⟨⟨_,Tryz.underlying32,rfl⟩,by kernel_rfl,by kernel_rfl⟩
theorem rJ:RowT Tryz.prog 121 18 (JC ⟨0,0,0⟩):=⟨⟨_,Tryz.underlying121,rfl⟩,by kernel_rfl,by kernel_rfl⟩
theorem fG0:FldT Tryz.prog 32 0 0 5:=⟨_,_,Tryz.underlying32,rfl,rfl,by kernel_rfl⟩
theorem fG1:FldT Tryz.prog 32 1 6 5:=⟨_,_,Tryz.underlying32,rfl,rfl,by kernel_rfl⟩
theorem fG2:FldT Tryz.prog 32 2 12 0:=⟨_,_,Tryz.underlying32,rfl,rfl,by kernel_rfl⟩
theorem fG2a (fs:Array Field) (f:Field) (h:Tryz.prog.underlying 32=some (.struct fs)) (hf:fs[2]?=some f) (w:World):(isAgg f.type).run Tryz.prog w=.ok false w:=by
 have e:=h.symm.trans Tryz.underlying32
 injection e with e
 injection e with e
 subst e
 have:f.type=4:=by
  injection hf with hf
  subst hf;rfl
 rw [this]
 exact Tryz.isAgg4 w
theorem fJ0:FldT Tryz.prog 121 0 0 5:=⟨_,_,Tryz.underlying121,rfl,rfl,by kernel_rfl⟩
theorem fJ1:FldT Tryz.prog 121 1 6 5:=⟨_,_,Tryz.underlying121,rfl,rfl,by kernel_rfl⟩
theorem fJ2:FldT Tryz.prog 121 2 12 5:=⟨_,_,Tryz.underlying121,rfl,rfl,by kernel_rfl⟩
theorem notHeld:Tryz.prog.stoodInHeld 32=false:=by kernel_rfl
theorem QGC_cut0 (f g:Nat→Int) (i:Bool):List.take 6 (QGC f g i)=QC f:=rfl
theorem QGC_cut1 (f g:Nat→Int) (i:Bool):List.take 6 (List.drop 6 (QGC f g i))=QC g:=rfl
theorem QGC_cut2 (f g:Nat→Int) (i:Bool):(QGC f g i)[12]?=some (.bool i):=rfl
theorem QG_eq (d:Nat) (f g f' g':Nat→Int) (i i':Bool) (w:World):∃ b:Bool,(b=true↔(∀ k,k<6→f k=f' k)∧(∀ k,k<6→g k=g' k)∧i=i')∧(Op.equalIn (d+3) 32 (QGV f g i) (QGV f' g' i')).run Tryz.prog w=.ok b w:=by
 obtain ⟨b0,h0,e0⟩:=eqN d f f' w
 obtain ⟨b1,h1,e1⟩:=eqN d g g' w
 have e2:(Op.equalIn (d+2) 4 (.bool i) (.bool i')).run Tryz.prog w=.ok (i == i') w:=by
  rw [show d+2=(d+1)+1 from rfl,Op.equalIn.eq_def]
  simp [Sem.run_bind,run_underlying Tryz.underlying4]
 have p0:∀ (f g:Nat→Int) (i:Bool),(part 30 (QGC f g i).toArray 0).run Tryz.prog w=.ok (QV f) w:=fun f g i=>by
  simp [part,Sem.run_bind,Tryz.isAgg30,Tryz.sizeOf30,QGC_cut0,QV]
 have p1:∀ (f g:Nat→Int) (i:Bool),(part 30 (QGC f g i).toArray 6).run Tryz.prog w=.ok (QV g) w:=fun f g i=>by
  simp [part,Sem.run_bind,Tryz.isAgg30,Tryz.sizeOf30,QGC_cut1,QV]
 have p2:∀ (f g:Nat→Int) (i:Bool),(part 4 (QGC f g i).toArray 12).run Tryz.prog w=.ok (.bool i) w:=fun f g i=>by
  simp [part,Sem.run_bind,Tryz.isAgg4,QGC_cut2]
 refine ⟨b0 && (b1 && i == i'),?_,?_⟩
 ·rw [← h0,← h1];simp
 ·unfold QGV
  rw [show d+3=(d+2)+1 from rfl,Op.equalIn.eq_def]
  simp only [Sem.run_bind,run_underlying Tryz.underlying32,Result.andThen_ok,run_program,notHeld,Bool.false_eq_true,if_false]
  simp only [List.forIn_toArray,List.forIn_cons,List.forIn_nil]
  simp [Sem.run_bind,p0,p1,p2,e0,e1,e2]
  cases b0<;>cases b1<;>cases i<;>cases i'<;>simp [p0,p1,p2,e0,e1,e2]
theorem GV_eq (d:Nat) (x y:G1p) (w:World):(Op.equalIn (d+3) 32 (GV x) (GV y)).run Tryz.prog w=.ok (decide (x=y)) w:=by
 obtain ⟨b,hb,e⟩:=QG_eq d (lb x.x.val) (lb x.y.val) (lb y.x.val) (lb y.y.val) x.i y.i w
 have hE:b=decide (x=y):=by
  by_cases h:x=y
  ·rw [decide_eq_true h];subst h;exact hb.2 ⟨fun _ _=>rfl,fun _ _=>rfl,rfl⟩
  ·rw [decide_eq_false h]
   cases hb':b with
   | false=>rfl
   | true =>
    obtain ⟨h0,h1,h2⟩:=hb.1 hb'
    exact absurd (G1p.ext' (lb_eq h0) (lb_eq h1) h2) h
 rw [← hE]
 exact e
theorem guardG (op:BinOp) (x y:Operand) (cs ds:Array Value) (w:World):(eqGuard op 32 x y (.agg cs) (.agg ds)).run Tryz.prog w=.ok () w:=by
 have h:Tryz.prog.eqGuardType Tryz.prog.depth 32=false:=by kernel_rfl
 unfold eqGuard
 cases op<;>simp [Sem.run_bind,h]
theorem eqlG (a b:G1p) (w:World):(binOp .eql 32 (GV a) (GV b)).run Tryz.prog w=.ok (.bool (decide (a=b))) w:=by
 have:=GV_eq 9997 a b w
 unfold GV at *
 simp [binOp,Sem.run_bind,Op.equal,Op.maxDepth,this]
theorem neqG (a b:G1p) (w:World):(binOp .neq 32 (GV a) (GV b)).run Tryz.prog w=.ok (.bool (!decide (a=b))) w:=by
 have:=GV_eq 9997 a b w
 unfold GV at *
 simp [binOp,Sem.run_bind,Op.equal,Op.maxDepth,this]
theorem qG:EqT Tryz.prog 32 GV:=⟨fun _ _ _ _ _ w=>guardG _ _ _ _ _ w,eqlG,neqG⟩
theorem buildGn (w:World):(Instr.build 32 #[]).run Tryz.prog w=.ok (GV ⟨0,0,false⟩) w:=run_build w _ _ _ (by kernel_rfl)
theorem buildGi (b:Bool) (w:World):(Instr.build 32 #[(2,.bool b)]).run Tryz.prog w=.ok (GV ⟨0,0,b⟩) w:=run_build w _ _ _ (by kernel_rfl)
theorem buildG01 (a b:F) (w:World):(Instr.build 32 #[(0,FV a),(1,FV b)]).run Tryz.prog w=.ok (GV ⟨a,b,false⟩) w:=run_build w _ _ _ (by kernel_rfl)
theorem buildJn (w:World):(Instr.build 121 #[]).run Tryz.prog w=.ok (JV ⟨0,0,0⟩) w:=run_build w _ _ _ (by kernel_rfl)
theorem buildJ012 (a b c:F) (w:World):(Instr.build 121 #[(0,FV a),(1,FV b),(2,FV c)]).run Tryz.prog w=.ok (JV ⟨a,b,c⟩) w:=run_build w _ _ _ (by kernel_rfl)
theorem buildFg1x (w:World):(Instr.build 30 #[(0,.int .u64 18103045581585958587),(1,.int .u64 7806400890582735599),(2,.int .u64 11623291730934869080),(3,.int .u64 14080658508445169925),(4,.int .u64 2780237799254240271),(5,.int .u64 1725392847304644500)]).run Tryz.prog w=.ok (FV g1x) w:=run_build w _ _ _ (by kernel_rfl)
theorem buildFg1y (w:World):(Instr.build 30 #[(0,.int .u64 912580534683953121),(1,.int .u64 15005087156090211044),(2,.int .u64 61670280795567085),(3,.int .u64 18227722000993880822),(4,.int .u64 11573741888802228964),(5,.int .u64 627113611842199793)]).run Tryz.prog w=.ok (FV g1y) w:=run_build w _ _ _ (by kernel_rfl)
end Go.Proofs.YthnfgmhehfombaaGreatDoor.fpn
/- Package g1. -/
namespace Go.Proofs.YthnfgmhehfombaaGreatDoor.fpn
open Go.RowKit Pl EC
theorem g1square {G:World→Prop} (K:FpK G) (x:F) (w:World) (hg:G w):Calls Tryz.prog 117 #[FV x] w (Ret (FV (x*x)) w):=by
 obtain ⟨n1,o1⟩:=nm (x*x)
 have fin:Ending.returned (FV n1)=Ending.returned (FV (x*x)):=by subst_vars;exact rfl
 have hp0:=Heap.start w
 go_enter Tryz.func117,Tryz.ntmps117
 refine sgsD [.alloc (FC x),.alloc (FC 0)] [0,1] [0,0] (fun L d=>[d 0,L.p 0,L.p 1]++D d 3 3) (fun L=>[(L.b 0,FC x),(L.b 1,FC 0)]) hp0 ⟨
  oB,oZ rF,
  trivial⟩ (fun L0 _ w1 hp1=>?_)
 refine sgsD [.det (FV x),.det (FV x),.det (FV n1),.store (.base 1) 0 (FC n1) (FC n1)] [0,1,2,3] [0,0,3,7] (fun L d=>D d 0 2++([L0.p 1]++D d 3 3)) (fun L=>[(L0.b 0,FC x),(L0.b 1,FC n1)]) hp1 ⟨
  oL 0 0 rF,oL 0 0 rF,oC K.stay hg (nF o1 (K.mul x x)),oT rF,
  trivial⟩ (fun L1 _ w2 hp2=>?_)
 refine wp_ret ?_
 refine bodyPost_ret (v:=FV n1) ?_ rfl ?_
 ·exact rc rF rfl (by kernel_rfl) (hp2.bound 1 rfl).2
 ·exact ⟨fin,hp2.bel⟩
theorem g1double {G:World→Prop} (K:FpK G) (x:F) (w:World) (hg:G w):Calls Tryz.prog 154 #[FV x] w (Ret (FV (x+x)) w):=by
 obtain ⟨n1,o1⟩:=nm (x+x)
 have fin:Ending.returned (FV n1)=Ending.returned (FV (x+x)):=by subst_vars;exact rfl
 have hp0:=Heap.start w
 go_enter Tryz.func154,Tryz.ntmps154
 refine sgsD [.alloc (FC x),.alloc (FC 0)] [0,1] [0,0] (fun L d=>[d 0,L.p 0,L.p 1]++D d 3 3) (fun L=>[(L.b 0,FC x),(L.b 1,FC 0)]) hp0 ⟨
  oB,oZ rF,
  trivial⟩ (fun L0 _ w1 hp1=>?_)
 refine sgsD [.det (FV x),.det (FV x),.det (FV n1),.store (.base 1) 0 (FC n1) (FC n1)] [0,1,2,3] [0,0,3,7] (fun L d=>D d 0 2++([L0.p 1]++D d 3 3)) (fun L=>[(L0.b 0,FC x),(L0.b 1,FC n1)]) hp1 ⟨
  oL 0 0 rF,oL 0 0 rF,oC K.stay hg (nF o1 (K.add x x)),oT rF,
  trivial⟩ (fun L1 _ w2 hp2=>?_)
 refine wp_ret ?_
 refine bodyPost_ret (v:=FV n1) ?_ rfl ?_
 ·exact rc rF rfl (by kernel_rfl) (hp2.bound 1 rfl).2
 ·exact ⟨fin,hp2.bel⟩
theorem g1isInf {G:World→Prop} (K:FpK G) (a:Jc F) (w:World) (hg:G w):Calls Tryz.prog 91 #[JV a] w (Ret (.bool (decide (a.z=0))) w):=by
 have hp0:=Heap.start w
 go_enter Tryz.func91,Tryz.ntmps91
 refine sgsD [.alloc (JC a),.det (.bool false)] [0,1] [0,0] (fun L d=>[d 0,L.p 0]++D d 2 5) (fun L=>[(L.b 0,JC a)]) hp0 ⟨
  oB,oA,
  trivial⟩ (fun L0 _ w1 hp1=>?_)
 refine sgsD [.det (pt (L0.b 0) 12),.det (FV a.z),.det (FV 0),.det (.bool (decide (a.z=0))),.det (.bool (decide (a.z=0)))] (nn 5) [0,1,0,7,15] (fun L d=>D d 0 2++([.bool (decide (a.z=0))]++D d 3 4)) (fun L=>[(L0.b 0,JC a)]) hp1 ⟨
  oF fJ2,oL 0 12 rF,oD buildF0,oE (a:=a.z) (b:=0) qF rfl,oA,
  trivial⟩ (fun L1 _ w2 hp2=>?_)
 refine wp_ret ?_
 refine bodyPost_ret (v:=.bool (decide (a.z=0))) ?_ rfl ?_
 ·exact res_t rfl (by kernel_rfl) _
 ·exact ⟨rfl,hp2.bel⟩
theorem g1lift1 {G:World→Prop} (K:FpK G) (x y:F) (w:World) (hg:G w):Calls Tryz.prog 162 #[GV ⟨x,y,false⟩] w (Ret (JV ⟨x,y,1⟩) w):=by
 have hp0:=Heap.start w
 go_enter Tryz.func162,Tryz.ntmps162
 refine sgsD [.alloc (GC ⟨x,y,false⟩),.alloc (JC ⟨0,0,0⟩)] [0,1] [0,0] (fun L d=>[d 0,L.p 0,L.p 1]++U 9) (fun L=>[(L.b 0,GC ⟨x,y,false⟩),(L.b 1,JC ⟨0,0,0⟩)]) hp0 ⟨
  oB,oZ rJ,
  trivial⟩ (fun L0 _ w1 hp1=>?_)
 refine wp_seq_k (fun K2 k2=>?_)
 refine sgsD [.det (pt (L0.b 0) 12),.det (.bool false)] [0,1] [0,1] (fun L d=>[d 0,L0.p 0,L0.p 1,d 3,.bool false]++U 7) (fun L=>[(L0.b 0,GC ⟨x,y,false⟩),(L0.b 1,JC ⟨0,0,0⟩)]) hp1 ⟨
  oF fG2,oL1 0 12 oneB,
  trivial⟩ (fun L1 _ w2 hp2=>?_)
 refine cfk (k2 _ _ ?_)
 refine sdrD [.det (L0.p 0),.det (FV x),.det (pt (L0.b 0) 6),.det (FV y),.det (FV 1),.det (JV ⟨x,y,1⟩),.store (.base 1) 0 (JC ⟨x,y,1⟩) (JC ⟨x,y,1⟩)] (nn 7) [0,1,0,4,0,31,63] (fun L d=>D d 0 2++([L0.p 1]++D d 3 9)) (fun L=>[(L0.b 0,GC ⟨x,y,false⟩),(L0.b 1,JC ⟨x,y,1⟩)]) hp2 ⟨
  oF fG0,oL 0 0 rF,oF fG1,oL 0 6 rF,oC K.stay hg K.of1,oD (buildJ012 x y 1),oT rJ,
  trivial⟩ (fun L2 _ w3 hp3=>?_)
 refine wp_ret ?_
 refine bodyPost_ret (v:=JV ⟨x,y,1⟩) ?_ rfl ?_
 ·exact rc rJ rfl (by kernel_rfl) (hp3.bound 1 rfl).2
 ·exact ⟨rfl,hp3.bel⟩
theorem g1twice {G:World→Prop} (K:FpK G) (a:Jc F) (w:World) (hg:G w):Calls Tryz.prog 142 #[JV a] w (Ret (JV (jtwice a)) w):=by
 obtain ⟨n1,o1⟩:=nm (a.x*a.x)
 obtain ⟨n2,o2⟩:=nm (a.y*a.y)
 obtain ⟨n3,o3⟩:=nm (n1+n1)
 obtain ⟨n4,o4⟩:=nm (n3+n1)
 obtain ⟨n5,o5⟩:=nm (a.x*n2)
 obtain ⟨n6,o6⟩:=nm (n5+n5)
 obtain ⟨n7,o7⟩:=nm (n6+n6)
 obtain ⟨n8,o8⟩:=nm (n4*n4)
 obtain ⟨n9,o9⟩:=nm (n7+n7)
 obtain ⟨n10,o10⟩:=nm (n8-n9)
 obtain ⟨n11,o11⟩:=nm (n2*n2)
 obtain ⟨n12,o12⟩:=nm (n11+n11)
 obtain ⟨n13,o13⟩:=nm (n12+n12)
 obtain ⟨n14,o14⟩:=nm (n13+n13)
 obtain ⟨n15,o15⟩:=nm (n7-n10)
 obtain ⟨n16,o16⟩:=nm (n4*n15)
 obtain ⟨n17,o17⟩:=nm (n16-n14)
 obtain ⟨n18,o18⟩:=nm (a.y*a.z)
 obtain ⟨n19,o19⟩:=nm (n18+n18)
 have fin:Ending.returned (JV ⟨n10,n17,n19⟩)=Ending.returned (JV (jtwice a)):=by subst_vars;exact congrArg (fun z=>Ending.returned (JV z)) (Jc.ext' rfl rfl rfl)
 have hp0:=Heap.start w
 go_enter Tryz.func142,Tryz.ntmps142
 refine sgs [.alloc (JC a),.alloc (JC ⟨0,0,0⟩)] [0,1] [0,0] (fun L=>[JV a,L.p 0,L.p 1]++U 49) (fun L=>[(L.b 0,JC a),(L.b 1,JC ⟨0,0,0⟩)]) hp0 ⟨
  oB,oZ rJ,
  trivial⟩ (fun L0 w1 hp1=>?_)
 refine sdrD [.det (L0.p 0),.det (FV a.x),.det (FV n1),.det (pt (L0.b 0) 6),.det (FV a.y),.det (FV n2),.alloc (FC 0),.alloc (FC 0),.store (.new 6) 0 (FC n1) (FC n1),.store (.new 7) 0 (FC n2) (FC n2)] (nn 10) [0,1,3,0,8,31,0,0,255,511] (fun L d=>[d 0,L0.p 0,L0.p 1,L.p 6,L.p 7]++D d 5 47) (fun L=>[(L0.b 0,JC a),(L0.b 1,JC ⟨0,0,0⟩),(L.b 6,FC n1),(L.b 7,FC n2)]) hp1 ⟨
  oF fJ0,oL 0 0 rF,oC K.stay hg (nF o1 (g1square K a.x)),oF fJ1,oL 0 6 rF,oC K.stay hg (nF o2 (g1square K a.y)),oZ rF,oZ rF,oT rF,oT rF,
  trivial⟩ (fun L1 _ w2 hp2=>?_)
 refine sdrD [.det (FV n1),.det (FV n3),.det (FV n1),.det (FV n4),.alloc (FC 0),.store (.new 4) 0 (FC n4) (FC n4)] (nn 6) [0,1,0,7,0,31] (fun L d=>[d 0,L0.p 0,L0.p 1,d 3,L1.p 7,L.p 4]++D d 6 46) (fun L=>[(L0.b 0,JC a),(L0.b 1,JC ⟨0,0,0⟩),(L1.b 6,FC n1),(L1.b 7,FC n2),(L.b 4,FC n4)]) hp2 ⟨
  oL 2 0 rF,oC K.stay hg (nF o3 (g1double K n1)),oL 2 0 rF,oC K.stay hg (nF o4 (K.add n3 n1)),oZ rF,oT rF,
  trivial⟩ (fun L2 _ w3 hp3=>?_)
 refine sgsD [.det (L0.p 0),.det (FV a.x),.det (FV n2),.det (FV n5),.det (FV n6),.det (FV n7),.alloc (FC 0),.store (.new 6) 0 (FC n7) (FC n7)] (nn 8) [0,1,0,7,15,31,0,127] (fun L d=>[d 0,L0.p 0,L0.p 1,d 3,L1.p 7,L2.p 4,L.p 6]++D d 7 45) (fun L=>[(L0.b 0,JC a),(L0.b 1,JC ⟨0,0,0⟩),(L1.b 6,FC n1),(L1.b 7,FC n2),(L2.b 4,FC n4),(L.b 6,FC n7)]) hp3 ⟨
  oF fJ0,oL 0 0 rF,oL 3 0 rF,oC K.stay hg (nF o5 (K.mul a.x n2)),oC K.stay hg (nF o6 (g1double K n5)),oC K.stay hg (nF o7 (g1double K n6)),oZ rF,oT rF,
  trivial⟩ (fun L3 _ w4 hp4=>?_)
 refine sdrD [.det (FV n4),.det (FV n8),.det (FV n7),.det (FV n9),.det (FV n10),.alloc (FC 0),.store (.new 5) 0 (FC n10) (FC n10)] (nn 7) [0,1,0,7,15,0,63] (fun L d=>[d 0,L0.p 0,L0.p 1,d 3,L1.p 7,L2.p 4,L3.p 6,L.p 5]++D d 8 44) (fun L=>[(L0.b 0,JC a),(L0.b 1,JC ⟨0,0,0⟩),(L1.b 6,FC n1),(L1.b 7,FC n2),(L2.b 4,FC n4),(L3.b 6,FC n7),(L.b 5,FC n10)]) hp4 ⟨
  oL 4 0 rF,oC K.stay hg (nF o8 (g1square K n4)),oL 5 0 rF,oC K.stay hg (nF o9 (g1double K n7)),oC K.stay hg (nF o10 (K.sub n8 n9)),oZ rF,oT rF,
  trivial⟩ (fun L4 _ w5 hp5=>?_)
 refine sgsD [.det (FV n2),.det (FV n11),.det (FV n12),.det (FV n13),.det (FV n14),.alloc (FC 0),.store (.new 5) 0 (FC n14) (FC n14)] (nn 7) [0,1,3,7,15,0,63] (fun L d=>[d 0,L0.p 0,L0.p 1]++(D d 3 2++([L2.p 4,L3.p 6,L4.p 5,L.p 5]++D d 9 43))) (fun L=>[(L0.b 0,JC a),(L0.b 1,JC ⟨0,0,0⟩),(L1.b 6,FC n1),(L1.b 7,FC n2),(L2.b 4,FC n4),(L3.b 6,FC n7),(L4.b 5,FC n10),(L.b 5,FC n14)]) hp5 ⟨
  oL 3 0 rF,oC K.stay hg (nF o11 (g1square K n2)),oC K.stay hg (nF o12 (g1double K n11)),oC K.stay hg (nF o13 (g1double K n12)),oC K.stay hg (nF o14 (g1double K n13)),
  oZ rF,oT rF,
  trivial⟩ (fun L5 _ w6 hp6=>?_)
 refine sdrD [.det (FV n4),.det (FV n7),.det (FV n10),.det (FV n15),.det (FV n16),.det (FV n14),.det (FV n17),.alloc (FC 0),.store (.new 7) 0 (FC n17) (FC n17)] (nn 9) [0,0,0,6,15,0,63,0,255] (fun L d=>[d 0,L0.p 0,L0.p 1]++(D d 3 4++([L4.p 5,d 8,L.p 7]++D d 10 42))) (fun L=>[(L0.b 0,JC a),(L0.b 1,JC ⟨0,0,0⟩),(L1.b 6,FC n1),(L1.b 7,FC n2),(L2.b 4,FC n4),(L3.b 6,FC n7),(L4.b 5,FC n10),(L5.b 5,FC n14),(L.b 7,FC n17)]) hp6 ⟨
  oL 4 0 rF,oL 5 0 rF,oL 6 0 rF,oC K.stay hg (nF o15 (K.sub n7 n10)),oC K.stay hg (nF o16 (K.mul n4 n15)),oL 7 0 rF,oC K.stay hg (nF o17 (K.sub n16 n14)),
  oZ rF,oT rF,
  trivial⟩ (fun L6 _ w7 hp7=>?_)
 refine sdrD [.det (FV n10),.det (FV n17),.det (pt (L0.b 0) 6),.det (FV a.y),.det (pt (L0.b 0) 12),.det (FV a.z),.det (FV n18),.det (FV n19),.det (JV ⟨n10,n17,n19⟩),.store (.base 1) 0 (JC ⟨n10,n17,n19⟩) (JC ⟨n10,n17,n19⟩)] (nn 10) [0,0,0,4,0,16,60,124,255,511] (fun L d=>D d 0 2++([L0.p 1]++D d 3 49)) (fun L=>[(L0.b 0,JC a),(L0.b 1,JC ⟨n10,n17,n19⟩),(L1.b 6,FC n1),(L1.b 7,FC n2),(L2.b 4,FC n4),(L3.b 6,FC n7),(L4.b 5,FC n10),(L5.b 5,FC n14),(L6.b 7,FC n17)]) hp7 ⟨
  oL 6 0 rF,oL 8 0 rF,oF fJ1,oL 0 6 rF,oF fJ2,oL 0 12 rF,oC K.stay hg (nF o18 (K.mul a.y a.z)),oC K.stay hg (nF o19 (g1double K n18)),oD (buildJ012 n10 n17 n19),
  oT rJ,
  trivial⟩ (fun L7 _ w8 hp8=>?_)
 refine wp_ret ?_
 refine bodyPost_ret (v:=JV ⟨n10,n17,n19⟩) ?_ rfl ?_
 ·exact rc rJ rfl (by kernel_rfl) (hp8.bound 1 rfl).2
 ·exact ⟨fin,hp8.bel⟩
theorem g1across {G:World→Prop} (K:FpK G) (a:Jc F) (s t:F) (w:World) (hg:G w):Calls Tryz.prog 163 #[JV a,FV s,FV t] w (Ret (JV (jacross a s t)) w):=by
 obtain ⟨n1,o1⟩:=nm (s*s)
 obtain ⟨n2,o2⟩:=nm (n1*s)
 obtain ⟨n3,o3⟩:=nm (a.x*n1)
 obtain ⟨n4,o4⟩:=nm (t*t)
 obtain ⟨n5,o5⟩:=nm (n4-n2)
 obtain ⟨n6,o6⟩:=nm (n3+n3)
 obtain ⟨n7,o7⟩:=nm (n5-n6)
 obtain ⟨n8,o8⟩:=nm (n3-n7)
 obtain ⟨n9,o9⟩:=nm (t*n8)
 obtain ⟨n10,o10⟩:=nm (a.y*n2)
 obtain ⟨n11,o11⟩:=nm (n9-n10)
 obtain ⟨n12,o12⟩:=nm (a.z*s)
 have fin:Ending.returned (JV ⟨n7,n11,n12⟩)=Ending.returned (JV (jacross a s t)):=by subst_vars;exact congrArg (fun z=>Ending.returned (JV z)) (Jc.ext' rfl rfl rfl)
 have hp0:=Heap.start w
 go_enter Tryz.func163,Tryz.ntmps163
 refine sgs [.alloc (JC a),.alloc (FC s),.alloc (FC t),.alloc (JC ⟨0,0,0⟩)] [0,1,2,3] [0,0,0,0] (fun L=>[JV a,FV s,FV t,L.p 0,L.p 1,L.p 2,L.p 3]++U 38) (fun L=>[(L.b 0,JC a),(L.b 1,FC s),(L.b 2,FC t),(L.b 3,JC ⟨0,0,0⟩)]) hp0 ⟨
  oB,oB,oB,oZ rJ,
  trivial⟩ (fun L0 w1 hp1=>?_)
 refine sgsD [.det (FV s),.det (FV n1),.alloc (FC 0),.store (.new 2) 0 (FC n1) (FC n1)] [0,1,2,3] [0,1,0,7] (fun L d=>D d 0 3++([L0.p 0,L0.p 1,L0.p 2,L0.p 3,L.p 2]++D d 8 37)) (fun L=>[(L0.b 0,JC a),(L0.b 1,FC s),(L0.b 2,FC t),(L0.b 3,JC ⟨0,0,0⟩),(L.b 2,FC n1)]) hp1 ⟨
  oL 1 0 rF,oC K.stay hg (nF o1 (g1square K s)),oZ rF,oT rF,
  trivial⟩ (fun L1 _ w2 hp2=>?_)
 refine sgsD [.det (FV n1),.det (FV s),.det (FV n2),.alloc (FC 0),.store (.new 3) 0 (FC n2) (FC n2)] (nn 5) [0,0,3,0,15] (fun L d=>D d 0 3++([L0.p 0,L0.p 1,L0.p 2,L0.p 3,L1.p 2,L.p 3]++D d 9 36)) (fun L=>[(L0.b 0,JC a),(L0.b 1,FC s),(L0.b 2,FC t),(L0.b 3,JC ⟨0,0,0⟩),(L1.b 2,FC n1),(L.b 3,FC n2)]) hp2 ⟨
  oL 4 0 rF,oL 1 0 rF,oC K.stay hg (nF o2 (K.mul n1 s)),oZ rF,oT rF,
  trivial⟩ (fun L2 _ w3 hp3=>?_)
 refine sgsD [.det (L0.p 0),.det (FV a.x),.det (FV n1),.det (FV n3),.alloc (FC 0),.store (.new 4) 0 (FC n3) (FC n3)] (nn 6) [0,1,0,7,0,31] (fun L d=>D d 0 3++([L0.p 0,L0.p 1,L0.p 2,L0.p 3,d 7,L2.p 3,L.p 4]++D d 10 35)) (fun L=>[(L0.b 0,JC a),(L0.b 1,FC s),(L0.b 2,FC t),(L0.b 3,JC ⟨0,0,0⟩),(L1.b 2,FC n1),(L2.b 3,FC n2),(L.b 4,FC n3)]) hp3 ⟨
  oF fJ0,oL 0 0 rF,oL 4 0 rF,oC K.stay hg (nF o3 (K.mul a.x n1)),oZ rF,oT rF,
  trivial⟩ (fun L3 _ w4 hp4=>?_)
 refine sdrD [.det (FV t),.det (FV n4),.det (FV n2),.det (FV n5),.det (FV n3),.det (FV n6),.det (FV n7),.alloc (FC 0),.store (.new 7) 0 (FC n7) (FC n7)] (nn 9) [0,1,0,7,0,31,63,0,255] (fun L d=>D d 0 3++([L0.p 0,L0.p 1,L0.p 2,L0.p 3,d 7,L2.p 3,L3.p 4,L.p 7]++D d 11 34)) (fun L=>[(L0.b 0,JC a),(L0.b 1,FC s),(L0.b 2,FC t),(L0.b 3,JC ⟨0,0,0⟩),(L1.b 2,FC n1),(L2.b 3,FC n2),(L3.b 4,FC n3),(L.b 7,FC n7)]) hp4 ⟨
  oL 2 0 rF,oC K.stay hg (nF o4 (g1square K t)),oL 5 0 rF,oC K.stay hg (nF o5 (K.sub n4 n2)),oL 6 0 rF,oC K.stay hg (nF o6 (g1double K n3)),oC K.stay hg (nF o7 (K.sub n5 n6)),
  oZ rF,oT rF,
  trivial⟩ (fun L4 _ w5 hp5=>?_)
 refine sdrD [.det (FV t),.det (FV n3),.det (FV n7),.det (FV n8),.det (FV n9),.det (pt (L0.b 0) 6),.det (FV a.y),.det (FV n2),.det (FV n10),.det (FV n11),.alloc (FC 0),.store (.new 10) 0 (FC n11) (FC n11)] (nn 12) [0,0,0,6,15,0,32,0,255,511,0,2047] (fun L d=>D d 0 3++([L0.p 0,L0.p 1,d 5,L0.p 3]++(D d 7 3++([L4.p 7,L.p 10]++D d 12 33)))) (fun L=>[(L0.b 0,JC a),(L0.b 1,FC s),(L0.b 2,FC t),(L0.b 3,JC ⟨0,0,0⟩),(L1.b 2,FC n1),(L2.b 3,FC n2),(L3.b 4,FC n3),(L4.b 7,FC n7),(L.b 10,FC n11)]) hp5 ⟨
  oL 2 0 rF,oL 6 0 rF,oL 7 0 rF,oC K.stay hg (nF o8 (K.sub n3 n7)),oC K.stay hg (nF o9 (K.mul t n8)),oF fJ1,oL 0 6 rF,oL 5 0 rF,oC K.stay hg (nF o10 (K.mul a.y n2)),
  oC K.stay hg (nF o11 (K.sub n9 n10)),oZ rF,oT rF,
  trivial⟩ (fun L5 _ w6 hp6=>?_)
 refine sdrD [.det (FV n7),.det (FV n11),.det (pt (L0.b 0) 12),.det (FV a.z),.det (FV s),.det (FV n12),.det (JV ⟨n7,n11,n12⟩),.store (.base 3) 0 (JC ⟨n7,n11,n12⟩) (JC ⟨n7,n11,n12⟩)] (nn 8) [0,0,0,4,0,28,63,127] (fun L d=>D d 0 6++([L0.p 3]++D d 7 38)) (fun L=>[(L0.b 0,JC a),(L0.b 1,FC s),(L0.b 2,FC t),(L0.b 3,JC ⟨n7,n11,n12⟩),(L1.b 2,FC n1),(L2.b 3,FC n2),(L3.b 4,FC n3),(L4.b 7,FC n7),(L5.b 10,FC n11)]) hp6 ⟨
  oL 7 0 rF,oL 8 0 rF,oF fJ2,oL 0 12 rF,oL 1 0 rF,oC K.stay hg (nF o12 (K.mul a.z s)),oD (buildJ012 n7 n11 n12),oT rJ,
  trivial⟩ (fun L6 _ w7 hp7=>?_)
 refine wp_ret ?_
 refine bodyPost_ret (v:=JV ⟨n7,n11,n12⟩) ?_ rfl ?_
 ·exact rc rJ rfl (by kernel_rfl) (hp7.bound 3 rfl).2
 ·exact ⟨fin,hp7.bel⟩
theorem g1plus0 {G:World→Prop} (K:FpK G) (a:Jc F) (w:World) (hg:G w):Calls Tryz.prog 153 #[JV a,GV ⟨0,0,true⟩] w (Ret (JV a) w):=by
 have hp0:=Heap.start w
 go_enter Tryz.func153,Tryz.ntmps153
 refine sgsD [.alloc (JC a),.alloc (GC ⟨0,0,true⟩),.alloc (JC ⟨0,0,0⟩)] [0,1,2] [0,0,0] (fun L d=>D d 0 2++([L.p 0,L.p 1,L.p 2]++U 43)) (fun L=>[(L.b 0,JC a),(L.b 1,GC ⟨0,0,true⟩),(L.b 2,JC ⟨0,0,0⟩)]) hp0 ⟨
  oB,oB,oZ rJ,
  trivial⟩ (fun L0 _ w1 hp1=>?_)
 refine wp_seq_k (fun K2 k2=>?_)
 refine sgsD [.det (pt (L0.b 1) 12),.det (.bool true)] [0,1] [0,1] (fun L d=>D d 0 2++([L0.p 0,d 3,L0.p 2]++(D d 5 4++([.bool true]++D d 10 38)))) (fun L=>[(L0.b 0,JC a),(L0.b 1,GC ⟨0,0,true⟩),(L0.b 2,JC ⟨0,0,0⟩)]) hp1 ⟨
  oF fG2,oL1 1 12 oneB,
  trivial⟩ (fun L1 _ w2 hp2=>?_)
 refine cT ?_
 refine sgsD [.det (JV a),.store (.base 2) 0 (JC a) (JC a)] [0,1] [0,1] (fun L d=>D d 0 4++([L0.p 2]++D d 5 43)) (fun L=>[(L0.b 0,JC a),(L0.b 1,GC ⟨0,0,true⟩),(L0.b 2,JC a)]) hp2 ⟨
  oL 0 0 rJ,oT rJ,
  trivial⟩ (fun L2 _ w3 hp3=>?_)
 refine wp_ret ?_
 refine bodyPost_ret (v:=JV a) ?_ rfl ?_
 ·exact rc rJ rfl (by kernel_rfl) (hp3.bound 2 rfl).2
 ·exact ⟨rfl,hp3.bel⟩
theorem g1plusA {G:World→Prop} (K:FpK G) (a:Jc F) (x y:F) (w:World) (hg:G w):Calls Tryz.prog 153 #[JV a,GV ⟨x,y,false⟩] w (Ret (JV (jplus a (.aff x y))) w):=by
 obtain ⟨n1,o1⟩:=nm (a.z*a.z:F)
 obtain ⟨n2,o2⟩:=nm (x*n1:F)
 obtain ⟨n3,o3⟩:=nm (n2-a.x:F)
 obtain ⟨n4,o4⟩:=nm (n1*a.z:F)
 obtain ⟨n5,o5⟩:=nm (y*n4:F)
 obtain ⟨n6,o6⟩:=nm (n5-a.y:F)
 have fin0:(decide (a.z=0))=true→Ending.returned (JV ⟨x,y,1⟩)=Ending.returned (JV (jplus a (.aff x y))):=by subst_vars;intro h1q;rw [jplus_aff,if_pos (of_decide_eq_true h1q)];try rfl
 have fin1:(decide (a.z=0))=false→(!decide (n3=0))=true→Ending.returned (JV (jacross a n3 n6))=Ending.returned (JV (jplus a (.aff x y))):=by subst_vars;intro h1q h2q;rw [jplus_aff,if_neg (of_decide_eq_false h1q),if_pos (show jrun a x≠0 from of_not_t h2q)];try rfl
 have fin2:(decide (a.z=0))=false→(!decide (n3=0))=false→(!decide (n6=0))=true→Ending.returned (JV ⟨0,0,0⟩)=Ending.returned (JV (jplus a (.aff x y))):=by subst_vars;intro h1q h2q h3q;rw [jplus_aff,if_neg (of_decide_eq_false h1q),if_neg (not_not_intro (show jrun a x=0 from of_not_f h2q)),if_pos (show jrise a y≠0 from of_not_t h3q)];try rfl
 have fin3:(decide (a.z=0))=false→(!decide (n3=0))=false→(!decide (n6=0))=false→Ending.returned (JV (jtwice a))=Ending.returned (JV (jplus a (.aff x y))):=by subst_vars;intro h1q h2q h3q;rw [jplus_aff,if_neg (of_decide_eq_false h1q),if_neg (not_not_intro (show jrun a x=0 from of_not_f h2q)),if_neg (not_not_intro (show jrise a y=0 from of_not_f h3q))];try rfl
 have hp0:=Heap.start w
 go_enter Tryz.func153,Tryz.ntmps153
 refine sgsD [.alloc (JC a),.alloc (GC ⟨x,y,false⟩),.alloc (JC ⟨0,0,0⟩)] [0,1,2] [0,0,0] (fun L d=>D d 0 2++([L.p 0,L.p 1,L.p 2]++U 43)) (fun L=>[(L.b 0,JC a),(L.b 1,GC ⟨x,y,false⟩),(L.b 2,JC ⟨0,0,0⟩)]) hp0 ⟨
  oB,oB,oZ rJ,
  trivial⟩ (fun L0 d0 w1 hp1=>?_)
 refine wp_seq_k (fun K2 k2=>?_)
 refine sgsD [.det (pt (L0.b 1) 12),.det (.bool false)] [0,1] [0,1] (fun L d=>D d 0 2++([L0.p 0,L0.p 1,L0.p 2]++(D d 5 4++([.bool false]++D d 10 38)))) (fun L=>[(L0.b 0,JC a),(L0.b 1,GC ⟨x,y,false⟩),(L0.b 2,JC ⟨0,0,0⟩)]) hp1 ⟨
  oF fG2,oL1 1 12 oneB,
  trivial⟩ (fun L1 d1 w2 hp2=>?_)
 refine cfk (k2 _ _ ?_)
 refine wp_seq_k (fun K4 k4=>?_)
 refine sgsD [.det (JV a),.det (.bool (decide (a.z=0)))] [0,1] [0,1] (fun L d=>D d 0 2++([L0.p 0,L0.p 1,L0.p 2]++(D d 5 7++([.bool (decide (a.z=0))]++D d 13 35)))) (fun L=>[(L0.b 0,JC a),(L0.b 1,GC ⟨x,y,false⟩),(L0.b 2,JC ⟨0,0,0⟩)]) hp2 ⟨
  oL 0 0 rJ,oC K.stay hg (g1isInf K a),
  trivial⟩ (fun L2 d2 w3 hp3=>?_)
 rcases Bool.eq_false_or_eq_true (decide (a.z=0)) with h1q | h1q
 ·skip
  refine cond_t h1q ?_
  refine sgsD [.det (GV ⟨x,y,false⟩),.det (JV ⟨x,y,1⟩),.store (.base 2) 0 (JC ⟨x,y,1⟩) (JC ⟨x,y,1⟩)] [0,1,2] [0,1,3] (fun L d=>D d 0 4++([L0.p 2]++D d 5 43)) (fun L=>[(L0.b 0,JC a),(L0.b 1,GC ⟨x,y,false⟩),(L0.b 2,JC ⟨x,y,1⟩)]) hp3 ⟨
   oL 1 0 rG,oH (v:=JV ⟨x,y,1⟩) (vs:=#[GV ⟨x,y,false⟩]) (fun w hb _=>g1lift1 K _ _ w (K.stay hg hb)),oT rJ,
   trivial⟩ (fun L3 d3 w4 hp4=>?_)
  refine wp_ret ?_
  refine bodyPost_ret (v:=JV ⟨x,y,1⟩) ?_ rfl ?_
  ·exact rc rJ rfl (by kernel_rfl) (hp4.bound 2 rfl).2
  ·exact ⟨fin0 h1q,hp4.bel⟩
 ·skip
  refine cond_f h1q ?_
  refine skips ?_
  refine k4 _ _ ?_
  refine sgsD [.det (pt (L0.b 0) 12),.det (FV a.z),.det (FV n1),.alloc (FC 0),.store (.new 3) 0 (FC n1) (FC n1)] (nn 5) [0,1,3,0,15] (fun L d=>D d 0 2++([L0.p 0,L0.p 1,L0.p 2,L.p 3]++D d 6 42)) (fun L=>[(L0.b 0,JC a),(L0.b 1,GC ⟨x,y,false⟩),(L0.b 2,JC ⟨0,0,0⟩),(L.b 3,FC n1)]) hp3 ⟨
   oF fJ2,oL 0 12 rF,oC K.stay hg (nF o1 (g1square K a.z)),oZ rF,oT rF,
   trivial⟩ (fun L3 d3 w4 hp4=>?_)
  refine sdrD [.det (L0.p 1),.det (FV x),.det (FV n1),.det (FV n2),.det (L0.p 0),.det (FV a.x),.det (FV n3),.alloc (FC 0),.store (.new 7) 0 (FC n3) (FC n3)] (nn 9) [0,1,0,7,0,16,63,0,255] (fun L d=>D d 0 2++([L0.p 0,L0.p 1,L0.p 2,L3.p 3,L.p 7]++D d 7 41)) (fun L=>[(L0.b 0,JC a),(L0.b 1,GC ⟨x,y,false⟩),(L0.b 2,JC ⟨0,0,0⟩),(L3.b 3,FC n1),(L.b 7,FC n3)]) hp4 ⟨
   oF fG0,oL 1 0 rF,oL 3 0 rF,oC K.stay hg (nF o2 (K.mul x n1)),oF fJ0,oL 0 0 rF,oC K.stay hg (nF o3 (K.sub n2 a.x)),oZ rF,oT rF,
   trivial⟩ (fun L4 d4 w5 hp5=>?_)
  refine sdrD [.det (pt (L0.b 1) 6),.det (FV y),.det (FV n1),.det (pt (L0.b 0) 12),.det (FV a.z),.det (FV n4),.det (FV n5),.det (pt (L0.b 0) 6),.det (FV a.y),.det (FV n6),.alloc (FC 0),.store (.new 10) 0 (FC n6) (FC n6)] (nn 12) [0,1,0,0,8,28,63,0,128,511,0,2047] (fun L d=>D d 0 2++([L0.p 0,d 3,L0.p 2,d 5,L4.p 7,L.p 10]++D d 8 40)) (fun L=>[(L0.b 0,JC a),(L0.b 1,GC ⟨x,y,false⟩),(L0.b 2,JC ⟨0,0,0⟩),(L3.b 3,FC n1),(L4.b 7,FC n3),(L.b 10,FC n6)]) hp5 ⟨
   oF fG1,oL 1 6 rF,oL 3 0 rF,oF fJ2,oL 0 12 rF,oC K.stay hg (nF o4 (K.mul n1 a.z)),oC K.stay hg (nF o5 (K.mul y n4)),oF fJ1,oL 0 6 rF,oC K.stay hg (nF o6 (K.sub n5 a.y)),
   oZ rF,oT rF,
   trivial⟩ (fun L5 d5 w6 hp6=>?_)
  refine wp_seq_k (fun K9 k9=>?_)
  refine sgsD [.det (FV n3),.det (FV 0),.det (.bool (!decide (n3=0)))] [0,1,2] [0,0,3] (fun L d=>D d 0 2++([L0.p 0,d 3,L0.p 2,d 5,L4.p 7,L5.p 10]++(D d 8 29++([.bool (!decide (n3=0))]++D d 38 10)))) (fun L=>[(L0.b 0,JC a),(L0.b 1,GC ⟨x,y,false⟩),(L0.b 2,JC ⟨0,0,0⟩),(L3.b 3,FC n1),(L4.b 7,FC n3),(L5.b 10,FC n6)]) hp6 ⟨
   oL 4 0 rF,oD buildF0,oU (a:=n3) (b:=0) qF rfl,
   trivial⟩ (fun L6 d6 w7 hp7=>?_)
  rcases Bool.eq_false_or_eq_true (!decide (n3=0)) with h2q | h2q
  ·skip
   refine cond_t h2q ?_
   refine sgsD [.det (JV a),.det (FV n3),.det (FV n6),.det (JV (jacross a n3 n6)),.store (.base 2) 0 (JC (jacross a n3 n6)) (JC (jacross a n3 n6))] (nn 5) [0,0,0,7,15] (fun L d=>D d 0 4++([L0.p 2]++D d 5 43)) (fun L=>[(L0.b 0,JC a),(L0.b 1,GC ⟨x,y,false⟩),(L0.b 2,JC (jacross a n3 n6)),(L3.b 3,FC n1),(L4.b 7,FC n3),(L5.b 10,FC n6)]) hp7 ⟨
    oL 0 0 rJ,oL 4 0 rF,oL 5 0 rF,oC K.stay hg (g1across K a n3 n6),oT rJ,
    trivial⟩ (fun L7 d7 w8 hp8=>?_)
   refine wp_ret ?_
   refine bodyPost_ret (v:=JV (jacross a n3 n6)) ?_ rfl ?_
   ·exact rc rJ rfl (by kernel_rfl) (hp8.bound 2 rfl).2
   ·exact ⟨fin1 h1q h2q,hp8.bel⟩
  ·skip
   refine cond_f h2q ?_
   refine skips ?_
   refine k9 _ _ ?_
   refine wp_seq_k (fun K11 k11=>?_)
   refine sgsD [.det (FV n6),.det (FV 0),.det (.bool (!decide (n6=0)))] [0,1,2] [0,0,3] (fun L d=>D d 0 2++([L0.p 0,d 3,L0.p 2]++(D d 5 39++([.bool (!decide (n6=0))]++D d 45 3)))) (fun L=>[(L0.b 0,JC a),(L0.b 1,GC ⟨x,y,false⟩),(L0.b 2,JC ⟨0,0,0⟩),(L3.b 3,FC n1),(L4.b 7,FC n3),(L5.b 10,FC n6)]) hp7 ⟨
    oL 5 0 rF,oD buildF0,oU (a:=n6) (b:=0) qF rfl,
    trivial⟩ (fun L7 d7 w8 hp8=>?_)
   rcases Bool.eq_false_or_eq_true (!decide (n6=0)) with h3q | h3q
   ·skip
    refine cond_t h3q ?_
    refine sgsD [.det (JV ⟨0,0,0⟩),.store (.base 2) 0 (JC ⟨0,0,0⟩) (JC ⟨0,0,0⟩)] [0,1] [0,1] (fun L d=>D d 0 4++([L0.p 2]++D d 5 43)) (fun L=>[(L0.b 0,JC a),(L0.b 1,GC ⟨x,y,false⟩),(L0.b 2,JC ⟨0,0,0⟩),(L3.b 3,FC n1),(L4.b 7,FC n3),(L5.b 10,FC n6)]) hp8 ⟨
     oD buildJn,oT rJ,
     trivial⟩ (fun L8 d8 w9 hp9=>?_)
    refine wp_ret ?_
    refine bodyPost_ret (v:=JV ⟨0,0,0⟩) ?_ rfl ?_
    ·exact rc rJ rfl (by kernel_rfl) (hp9.bound 2 rfl).2
    ·exact ⟨fin2 h1q h2q h3q,hp9.bel⟩
   ·skip
    refine cond_f h3q ?_
    refine skips ?_
    refine k11 _ _ ?_
    refine sgsD [.det (JV a),.det (JV (jtwice a)),.store (.base 2) 0 (JC (jtwice a)) (JC (jtwice a))] [0,1,2] [0,1,3] (fun L d=>D d 0 4++([L0.p 2]++D d 5 43)) (fun L=>[(L0.b 0,JC a),(L0.b 1,GC ⟨x,y,false⟩),(L0.b 2,JC (jtwice a)),(L3.b 3,FC n1),(L4.b 7,FC n3),(L5.b 10,FC n6)]) hp8 ⟨
     oL 0 0 rJ,oC K.stay hg (g1twice K a),oT rJ,
     trivial⟩ (fun L8 d8 w9 hp9=>?_)
    refine wp_ret ?_
    refine bodyPost_ret (v:=JV (jtwice a)) ?_ rfl ?_
    ·exact rc rJ rfl (by kernel_rfl) (hp9.bound 2 rfl).2
    ·exact ⟨fin3 h1q h2q h3q,hp9.bel⟩
theorem g1plus {G:World→Prop} (K:FpK G) (a:Jc F) (P:Pt F) (w:World) (hg:G w):Calls Tryz.prog 153 #[JV a,GV (gp P)] w (Ret (JV (jplus a P)) w):=by
 cases P with
 | inf=>exact g1plus0 K a w hg
 | aff x y =>
  exact g1plusA K a x y w hg
end Go.Proofs.YthnfgmhehfombaaGreatDoor.fpn
