/- Texts laid together. -/
import Derived.Test.YthnfgmhehfombaaGreatDoorGO
import Derived.Test.YthnfgmhehfombaaGreatDoorGJ
import Derived.Laws.Tables
import Derived.Test.YthnfgmhehfombaaGreatDoorGF
set_option linter.unusedVariables false
set_option linter.unusedSimpArgs false
set_option maxRecDepth 4000
set_option maxHeartbeats 4000000
/- Points, their three numbers, scalars: cells, fields, how they are held against each other and built. -/
namespace Go.Proofs.YthnfgmhehfombaaGreatDoor.fpn.T2
open Go.RowKit Pl EC
structure G2p where
 x:F2
 y:F2
 i:Bool
 deriving DecidableEq
theorem G2p.ext' {a b:G2p} (h0:a.x=b.x) (h1:a.y=b.y) (h2:a.i=b.i):a=b:=by cases a;cases b;simp_all
def gp:Pt F2→G2p
 | .inf=>⟨0,0,true⟩
 | .aff x y=>⟨x,y,false⟩
def GC (p:G2p):List Value:=PC p.x++PC p.y++[.bool p.i]
def GV (p:G2p):Value:=.agg (GC p).toArray
def QGC (f e g h:Nat→Int) (i:Bool):List Value:=QC2 f e++QC2 g h++[.bool i]
def QGV (f e g h:Nat→Int) (i:Bool):Value:=.agg (QGC f e g h i).toArray
def JC (a:Jc F2):List Value:=PC a.x++PC a.y++PC a.z
def JV (a:Jc F2):Value:=.agg (JC a).toArray
theorem rG:RowT Tryz.prog 37 25 (GC ⟨0,0,false⟩):=⟨⟨_,Tryz.underlying37,rfl⟩,by kernel_rfl,by kernel_rfl⟩
theorem rJ:RowT Tryz.prog 125 36 (JC ⟨0,0,0⟩):=⟨⟨_,Tryz.underlying125,rfl⟩,by kernel_rfl,by kernel_rfl⟩
theorem fG0:FldT Tryz.prog 37 0 0 11:=⟨_,_,Tryz.underlying37,rfl,rfl,by kernel_rfl⟩
theorem fG1:FldT Tryz.prog 37 1 12 11:=⟨_,_,Tryz.underlying37,rfl,rfl,by kernel_rfl⟩
theorem fG2:FldT Tryz.prog 37 2 24 0:=⟨_,_,Tryz.underlying37,rfl,rfl,by kernel_rfl⟩
theorem fJ0:FldT Tryz.prog 125 0 0 11:=⟨_,_,Tryz.underlying125,rfl,rfl,by kernel_rfl⟩
theorem fJ1:FldT Tryz.prog 125 1 12 11:=⟨_,_,Tryz.underlying125,rfl,rfl,by kernel_rfl⟩
theorem fJ2:FldT Tryz.prog 125 2 24 11:=⟨_,_,Tryz.underlying125,rfl,rfl,by kernel_rfl⟩
theorem notHeld:Tryz.prog.stoodInHeld 37=false:=by kernel_rfl
theorem QC2_cut0 (f e:Nat→Int):List.take 6 (QC2 f e)=QC f:=rfl
theorem QC2_cut1 (f e:Nat→Int):List.take 6 (List.drop 6 (QC2 f e))=QC e:=rfl
theorem eqN2 (d:Nat) (f e f' e':Nat→Int) (w:World):∃ b:Bool,(b=true↔(∀ i,i<6→f i=f' i)∧(∀ i,i<6→e i=e' i))∧(Op.equalIn (d+3) 35 (QV2 f e) (QV2 f' e')).run Tryz.prog w=.ok b w:=by
 obtain ⟨b0,h0,e0⟩:=eqN d f f' w
 obtain ⟨b1,h1,e1⟩:=eqN d e e' w
 have hp0:∀ (f e:Nat→Int),(part 30 (QC2 f e).toArray 0).run Tryz.prog w=.ok (QV f) w:=fun f e=>by
  simp [part,Sem.run_bind,Tryz.isAgg30,Tryz.sizeOf30,QC2_cut0,QV]
 have hp1:∀ (f e:Nat→Int),(part 30 (QC2 f e).toArray 6).run Tryz.prog w=.ok (QV e) w:=fun f e=>by
  simp [part,Sem.run_bind,Tryz.isAgg30,Tryz.sizeOf30,QC2_cut1,QV]
 refine ⟨b0 && b1,?_,?_⟩
 ·rw [← h0,← h1];simp
 ·unfold QV2
  rw [show d+3=(d+2)+1 from rfl,Op.equalIn.eq_def]
  simp only [Sem.run_bind,run_underlying Tryz.underlying35,Result.andThen_ok]
  simp only [Std.Legacy.Range.forIn_eq_forIn_range',Std.Legacy.Range.size,Nat.sub_zero,Nat.add_sub_cancel,Nat.div_one,List.range'_succ,List.range'_zero,List.forIn_cons,List.forIn_nil]
  simp only [Sem.run_bind,Tryz.sizeOf30,Result.andThen_ok,Nat.zero_mul,Nat.reduceAdd,Nat.reduceMul,Nat.one_mul,hp0,hp1,e0,e1]
  cases b0<;>cases b1<;>simp [hp0,hp1,e0,e1]
theorem QGC_cut0 (f e g h:Nat→Int) (i:Bool):List.take 12 (QGC f e g h i)=QC2 f e:=rfl
theorem QGC_cut1 (f e g h:Nat→Int) (i:Bool):List.take 12 (List.drop 12 (QGC f e g h i))=QC2 g h:=rfl
theorem QGC_cut2 (f e g h:Nat→Int) (i:Bool):(QGC f e g h i)[24]?=some (.bool i):=rfl
theorem QG_eq (d:Nat) (f e g h f' e' g' h':Nat→Int) (i i':Bool) (w:World):∃ b:Bool,(b=true↔((∀ k,k<6→f k=f' k)∧(∀ k,k<6→e k=e' k))∧((∀ k,k<6→g k=g' k)∧(∀ k,k<6→h k=h' k))∧i=i')∧(Op.equalIn (d+4) 37 (QGV f e g h i) (QGV f' e' g' h' i')).run Tryz.prog w=.ok b w:=by
 obtain ⟨b0,h0,e0⟩:=eqN2 d f e f' e' w
 obtain ⟨b1,h1,e1⟩:=eqN2 d g h g' h' w
 have e2:(Op.equalIn (d+3) 4 (.bool i) (.bool i')).run Tryz.prog w=.ok (i == i') w:=by
  rw [show d+3=(d+2)+1 from rfl,Op.equalIn.eq_def]
  simp [Sem.run_bind,run_underlying Tryz.underlying4]
 have p0:∀ (f e g h:Nat→Int) (i:Bool),(part 35 (QGC f e g h i).toArray 0).run Tryz.prog w=.ok (QV2 f e) w:=fun f e g h i=>by
  simp [part,Sem.run_bind,Tryz.isAgg35,Tryz.sizeOf35,QGC_cut0,QV2]
 have p1:∀ (f e g h:Nat→Int) (i:Bool),(part 35 (QGC f e g h i).toArray 12).run Tryz.prog w=.ok (QV2 g h) w:=fun f e g h i=>by
  simp [part,Sem.run_bind,Tryz.isAgg35,Tryz.sizeOf35,QGC_cut1,QV2]
 have p2:∀ (f e g h:Nat→Int) (i:Bool),(part 4 (QGC f e g h i).toArray 24).run Tryz.prog w=.ok (.bool i) w:=fun f e g h i=>by
  simp [part,Sem.run_bind,Tryz.isAgg4,QGC_cut2]
 refine ⟨b0 && (b1 && i == i'),?_,?_⟩
 ·rw [← h0,← h1];simp
 ·unfold QGV
  rw [show d+4=(d+3)+1 from rfl,Op.equalIn.eq_def]
  simp only [Sem.run_bind,run_underlying Tryz.underlying37,Result.andThen_ok,run_program,notHeld,Bool.false_eq_true,if_false]
  simp only [List.forIn_toArray,List.forIn_cons,List.forIn_nil]
  simp [Sem.run_bind,p0,p1,p2,e0,e1,e2]
  cases b0<;>cases b1<;>cases i<;>cases i'<;>simp [p0,p1,p2,e0,e1,e2]
theorem GV_eq (d:Nat) (x y:G2p) (w:World):(Op.equalIn (d+4) 37 (GV x) (GV y)).run Tryz.prog w=.ok (decide (x=y)) w:=by
 obtain ⟨b,hb,e⟩:=QG_eq d (lb x.x.c0.val) (lb x.x.c1.val) (lb x.y.c0.val) (lb x.y.c1.val) (lb y.x.c0.val) (lb y.x.c1.val) (lb y.y.c0.val) (lb y.y.c1.val) x.i y.i w
 have hE:b=decide (x=y):=by
  by_cases h:x=y
  ·rw [decide_eq_true h];subst h;exact hb.2 ⟨⟨fun _ _=>rfl,fun _ _=>rfl⟩,⟨fun _ _=>rfl,fun _ _=>rfl⟩,rfl⟩
  ·rw [decide_eq_false h]
   cases hb':b with
   | false=>rfl
   | true =>
    obtain ⟨⟨h0,h1⟩,⟨h2,h3⟩,h4⟩:=hb.1 hb'
    exact absurd (G2p.ext' (F2.ext' (lb_eq h0) (lb_eq h1)) (F2.ext' (lb_eq h2) (lb_eq h3)) h4) h
 rw [← hE]
 exact e
theorem guardG (op:BinOp) (x y:Operand) (cs ds:Array Value) (w:World):(eqGuard op 37 x y (.agg cs) (.agg ds)).run Tryz.prog w=.ok () w:=by
 have h:Tryz.prog.eqGuardType Tryz.prog.depth 37=false:=by kernel_rfl
 unfold eqGuard
 cases op<;>simp [Sem.run_bind,h]
theorem eqlG (a b:G2p) (w:World):(binOp .eql 37 (GV a) (GV b)).run Tryz.prog w=.ok (.bool (decide (a=b))) w:=by
 have:=GV_eq 9996 a b w
 unfold GV at *
 simp [binOp,Sem.run_bind,Op.equal,Op.maxDepth,this]
theorem neqG (a b:G2p) (w:World):(binOp .neq 37 (GV a) (GV b)).run Tryz.prog w=.ok (.bool (!decide (a=b))) w:=by
 have:=GV_eq 9996 a b w
 unfold GV at *
 simp [binOp,Sem.run_bind,Op.equal,Op.maxDepth,this]
theorem qG:EqT Tryz.prog 37 GV:=⟨fun _ _ _ _ _ w=>guardG _ _ _ _ _ w,eqlG,neqG⟩
theorem buildGi (b:Bool) (w:World):(Instr.build 37 #[(2,.bool b)]).run Tryz.prog w=.ok (GV ⟨0,0,b⟩) w:=run_build w _ _ _ (by kernel_rfl)
theorem buildG01 (a b:F2) (w:World):(Instr.build 37 #[(0,PV a),(1,PV b)]).run Tryz.prog w=.ok (GV ⟨a,b,false⟩) w:=run_build w _ _ _ (by kernel_rfl)
theorem buildJn (w:World):(Instr.build 125 #[]).run Tryz.prog w=.ok (JV ⟨0,0,0⟩) w:=run_build w _ _ _ (by kernel_rfl)
theorem buildJ012 (a b c:F2) (w:World):(Instr.build 125 #[(0,PV a),(1,PV b),(2,PV c)]).run Tryz.prog w=.ok (JV ⟨a,b,c⟩) w:=run_build w _ _ _ (by kernel_rfl)
theorem buildFg2x0 (w:World):(Instr.build 30 #[(0,.int .u64 15312334153293348280),(1,.int .u64 841050694974028783),(2,.int .u64 12993178926126977399),(3,.int .u64 14331714969349929730),(4,.int .u64 2740446039084699729),(5,.int .u64 165123225776229009)]).run Tryz.prog w=.ok (FV g2x.c0) w:=run_build w _ _ _ (by kernel_rfl)
theorem buildFg2x1 (w:World):(Instr.build 30 #[(0,.int .u64 16549740192668593022),(1,.int .u64 3696594454104530263),(2,.int .u64 13103893525273989193),(3,.int .u64 6443473286224459290),(4,.int .u64 9055845637167730533),(5,.int .u64 1432192374203850592)]).run Tryz.prog w=.ok (FV g2x.c1) w:=run_build w _ _ _ (by kernel_rfl)
theorem buildFg2y0 (w:World):(Instr.build 30 #[(0,.int .u64 16254428414758889473),(1,.int .u64 10536956157198377609),(2,.int .u64 7873024875724591404),(3,.int .u64 12537348094477325223),(4,.int .u64 10144865889576432922),(5,.int .u64 929383263523139089)]).run Tryz.prog w=.ok (FV g2y.c0) w:=run_build w _ _ _ (by kernel_rfl)
theorem buildFg2y1 (w:World):(Instr.build 30 #[(0,.int .u64 12297368366147926462),(1,.int .u64 4555124010822409633),(2,.int .u64 2771000935339432363),(3,.int .u64 14645187562128761775),(4,.int .u64 3651525051980876697),(5,.int .u64 434250606344352972)]).run Tryz.prog w=.ok (FV g2y.c1) w:=run_build w _ _ _ (by kernel_rfl)
end Go.Proofs.YthnfgmhehfombaaGreatDoor.fpn.T2
/- Package g1. -/
namespace Go.Proofs.YthnfgmhehfombaaGreatDoor.fpn.T2
open Go.RowKit Pl EC
theorem g2square {G:World→Prop} (K:FpK G) (x:F2) (w:World) (hg:G w):Calls Tryz.prog 123 #[PV x] w (Ret (PV (x*x)) w):=by
 obtain ⟨n1,o1⟩:=nm (x*x)
 have fin:Ending.returned (PV n1)=Ending.returned (PV (x*x)):=by subst_vars;exact rfl
 have hp0:=Heap.start w
 go_enter Tryz.func123,Tryz.ntmps123
 refine sgsD [.alloc (PC x),.alloc (PC 0)] [0,1] [0,0] (fun L d=>[d 0,L.p 0,L.p 1]++D d 3 3) (fun L=>[(L.b 0,PC x),(L.b 1,PC 0)]) hp0 ⟨
  oB,oZ rP,
  trivial⟩ (fun L0 _ w1 hp1=>?_)
 refine sgsD [.det (PV x),.det (PV x),.det (PV n1),.store (.base 1) 0 (PC n1) (PC n1)] [0,1,2,3] [0,0,3,7] (fun L d=>D d 0 2++([L0.p 1]++D d 3 3)) (fun L=>[(L0.b 0,PC x),(L0.b 1,PC n1)]) hp1 ⟨
  oL 0 0 rP,oL 0 0 rP,oC K.stay hg (nP o1 (fp2Mul K x x)),oT rP,
  trivial⟩ (fun L1 _ w2 hp2=>?_)
 refine wp_ret ?_
 refine bodyPost_ret (v:=PV n1) ?_ rfl ?_
 ·exact rc rP rfl (by kernel_rfl) (hp2.bound 1 rfl).2
 ·exact ⟨fin,hp2.bel⟩
theorem g2double {G:World→Prop} (K:FpK G) (x:F2) (w:World) (hg:G w):Calls Tryz.prog 157 #[PV x] w (Ret (PV (x+x)) w):=by
 obtain ⟨n1,o1⟩:=nm (x+x)
 have fin:Ending.returned (PV n1)=Ending.returned (PV (x+x)):=by subst_vars;exact rfl
 have hp0:=Heap.start w
 go_enter Tryz.func157,Tryz.ntmps157
 refine sgsD [.alloc (PC x),.alloc (PC 0)] [0,1] [0,0] (fun L d=>[d 0,L.p 0,L.p 1]++D d 3 3) (fun L=>[(L.b 0,PC x),(L.b 1,PC 0)]) hp0 ⟨
  oB,oZ rP,
  trivial⟩ (fun L0 _ w1 hp1=>?_)
 refine sgsD [.det (PV x),.det (PV x),.det (PV n1),.store (.base 1) 0 (PC n1) (PC n1)] [0,1,2,3] [0,0,3,7] (fun L d=>D d 0 2++([L0.p 1]++D d 3 3)) (fun L=>[(L0.b 0,PC x),(L0.b 1,PC n1)]) hp1 ⟨
  oL 0 0 rP,oL 0 0 rP,oC K.stay hg (nP o1 (fp2Add K x x)),oT rP,
  trivial⟩ (fun L1 _ w2 hp2=>?_)
 refine wp_ret ?_
 refine bodyPost_ret (v:=PV n1) ?_ rfl ?_
 ·exact rc rP rfl (by kernel_rfl) (hp2.bound 1 rfl).2
 ·exact ⟨fin,hp2.bel⟩
theorem g2isInf {G:World→Prop} (K:FpK G) (a:Jc F2) (w:World) (hg:G w):Calls Tryz.prog 95 #[JV a] w (Ret (.bool (decide (a.z=0))) w):=by
 have hp0:=Heap.start w
 go_enter Tryz.func95,Tryz.ntmps95
 refine sgsD [.alloc (JC a),.det (.bool false)] [0,1] [0,0] (fun L d=>[d 0,L.p 0]++D d 2 5) (fun L=>[(L.b 0,JC a)]) hp0 ⟨
  oB,oA,
  trivial⟩ (fun L0 _ w1 hp1=>?_)
 refine sgsD [.det (pt (L0.b 0) 24),.det (PV a.z),.det (PV 0),.det (.bool (decide (a.z=0))),.det (.bool (decide (a.z=0)))] (nn 5) [0,1,0,7,15] (fun L d=>D d 0 2++([.bool (decide (a.z=0))]++D d 3 4)) (fun L=>[(L0.b 0,JC a)]) hp1 ⟨
  oF fJ2,oL 0 24 rP,oD buildP0,oE (a:=a.z) (b:=0) qP rfl,oA,
  trivial⟩ (fun L1 _ w2 hp2=>?_)
 refine wp_ret ?_
 refine bodyPost_ret (v:=.bool (decide (a.z=0))) ?_ rfl ?_
 ·exact res_t rfl (by kernel_rfl) _
 ·exact ⟨rfl,hp2.bel⟩
theorem g2lift1 {G:World→Prop} (K:FpK G) (x y:F2) (w:World) (hg:G w):Calls Tryz.prog 164 #[GV ⟨x,y,false⟩] w (Ret (JV ⟨x,y,1⟩) w):=by
 have hp0:=Heap.start w
 go_enter Tryz.func164,Tryz.ntmps164
 refine sgsD [.alloc (GC ⟨x,y,false⟩),.alloc (JC ⟨0,0,0⟩)] [0,1] [0,0] (fun L d=>[d 0,L.p 0,L.p 1]++U 10) (fun L=>[(L.b 0,GC ⟨x,y,false⟩),(L.b 1,JC ⟨0,0,0⟩)]) hp0 ⟨
  oB,oZ rJ,
  trivial⟩ (fun L0 _ w1 hp1=>?_)
 refine wp_seq_k (fun K2 k2=>?_)
 refine sgsD [.det (pt (L0.b 0) 24),.det (.bool false)] [0,1] [0,1] (fun L d=>[d 0,L0.p 0,L0.p 1,d 3,.bool false]++U 8) (fun L=>[(L0.b 0,GC ⟨x,y,false⟩),(L0.b 1,JC ⟨0,0,0⟩)]) hp1 ⟨
  oF fG2,oL1 0 24 oneB,
  trivial⟩ (fun L1 _ w2 hp2=>?_)
 refine cfk (k2 _ _ ?_)
 refine sgsD [.det (L0.p 0),.det (PV x),.det (pt (L0.b 0) 12),.det (PV y),.det (FV 1),.det (PV ⟨1,0⟩),.det (JV ⟨x,y,⟨1,0⟩⟩),.store (.base 1) 0 (JC ⟨x,y,⟨1,0⟩⟩) (JC ⟨x,y,⟨1,0⟩⟩)] (nn 8) [0,1,0,4,0,16,63,127] (fun L d=>D d 0 2++([L0.p 1]++D d 3 10)) (fun L=>[(L0.b 0,GC ⟨x,y,false⟩),(L0.b 1,JC ⟨x,y,⟨1,0⟩⟩)]) hp2 ⟨
  oF fG0,oL 0 0 rP,oF fG1,oL 0 12 rP,oD buildF1,oD (buildPa 1),oD (buildJ012 x y ⟨1,0⟩),oT rJ,
  trivial⟩ (fun L2 _ w3 hp3=>?_)
 refine wp_ret ?_
 refine bodyPost_ret (v:=JV ⟨x,y,⟨1,0⟩⟩) ?_ rfl ?_
 ·exact rc rJ rfl (by kernel_rfl) (hp3.bound 1 rfl).2
 ·exact ⟨rfl,hp3.bel⟩
theorem g2twice {G:World→Prop} (K:FpK G) (a:Jc F2) (w:World) (hg:G w):Calls Tryz.prog 144 #[JV a] w (Ret (JV (jtwice a)) w):=by
 obtain ⟨n1,o1⟩:=nm (a.x*a.x)
 obtain ⟨n2,o2⟩:=nm (a.y*a.y)
 obtain ⟨n3,o3⟩:=nm (n1+n1)
 obtain ⟨n4,o4⟩:=nm (n3+n1)
 obtain ⟨n5,o5⟩:=nm (a.x*n2)
 obtain ⟨n6,o6⟩:=nm (n5+n5)
 obtain ⟨n7,o7⟩:=nm (n6+n6)
 obtain ⟨n8,o8⟩:=nm (n4*n4)
 obtain ⟨n9,o9⟩:=nm (n7+n7)
 obtain ⟨n10,o10⟩:=nm (n8-n9)
 obtain ⟨n11,o11⟩:=nm (n2*n2)
 obtain ⟨n12,o12⟩:=nm (n11+n11)
 obtain ⟨n13,o13⟩:=nm (n12+n12)
 obtain ⟨n14,o14⟩:=nm (n13+n13)
 obtain ⟨n15,o15⟩:=nm (n7-n10)
 obtain ⟨n16,o16⟩:=nm (n4*n15)
 obtain ⟨n17,o17⟩:=nm (n16-n14)
 obtain ⟨n18,o18⟩:=nm (a.y*a.z)
 obtain ⟨n19,o19⟩:=nm (n18+n18)
 have fin:Ending.returned (JV ⟨n10,n17,n19⟩)=Ending.returned (JV (jtwice a)):=by subst_vars;exact congrArg (fun z=>Ending.returned (JV z)) (Jc.ext' rfl rfl rfl)
 have hp0:=Heap.start w
 go_enter Tryz.func144,Tryz.ntmps144
 refine sgs [.alloc (JC a),.alloc (JC ⟨0,0,0⟩)] [0,1] [0,0] (fun L=>[JV a,L.p 0,L.p 1]++U 49) (fun L=>[(L.b 0,JC a),(L.b 1,JC ⟨0,0,0⟩)]) hp0 ⟨
  oB,oZ rJ,
  trivial⟩ (fun L0 w1 hp1=>?_)
 refine sdrD [.det (L0.p 0),.det (PV a.x),.det (PV n1),.det (pt (L0.b 0) 12),.det (PV a.y),.det (PV n2),.alloc (PC 0),.alloc (PC 0),.store (.new 6) 0 (PC n1) (PC n1),.store (.new 7) 0 (PC n2) (PC n2)] (nn 10) [0,1,3,0,8,31,0,0,255,511] (fun L d=>[d 0,L0.p 0,L0.p 1,L.p 6,L.p 7]++D d 5 47) (fun L=>[(L0.b 0,JC a),(L0.b 1,JC ⟨0,0,0⟩),(L.b 6,PC n1),(L.b 7,PC n2)]) hp1 ⟨
  oF fJ0,oL 0 0 rP,oC K.stay hg (nP o1 (g2square K a.x)),oF fJ1,oL 0 12 rP,oC K.stay hg (nP o2 (g2square K a.y)),oZ rP,oZ rP,oT rP,oT rP,
  trivial⟩ (fun L1 _ w2 hp2=>?_)
 refine sdrD [.det (PV n1),.det (PV n3),.det (PV n1),.det (PV n4),.alloc (PC 0),.store (.new 4) 0 (PC n4) (PC n4)] (nn 6) [0,1,0,7,0,31] (fun L d=>[d 0,L0.p 0,L0.p 1,d 3,L1.p 7,L.p 4]++D d 6 46) (fun L=>[(L0.b 0,JC a),(L0.b 1,JC ⟨0,0,0⟩),(L1.b 6,PC n1),(L1.b 7,PC n2),(L.b 4,PC n4)]) hp2 ⟨
  oL 2 0 rP,oC K.stay hg (nP o3 (g2double K n1)),oL 2 0 rP,oC K.stay hg (nP o4 (fp2Add K n3 n1)),oZ rP,oT rP,
  trivial⟩ (fun L2 _ w3 hp3=>?_)
 refine sgsD [.det (L0.p 0),.det (PV a.x),.det (PV n2),.det (PV n5),.det (PV n6),.det (PV n7),.alloc (PC 0),.store (.new 6) 0 (PC n7) (PC n7)] (nn 8) [0,1,0,7,15,31,0,127] (fun L d=>[d 0,L0.p 0,L0.p 1,d 3,L1.p 7,L2.p 4,L.p 6]++D d 7 45) (fun L=>[(L0.b 0,JC a),(L0.b 1,JC ⟨0,0,0⟩),(L1.b 6,PC n1),(L1.b 7,PC n2),(L2.b 4,PC n4),(L.b 6,PC n7)]) hp3 ⟨
  oF fJ0,oL 0 0 rP,oL 3 0 rP,oC K.stay hg (nP o5 (fp2Mul K a.x n2)),oC K.stay hg (nP o6 (g2double K n5)),oC K.stay hg (nP o7 (g2double K n6)),oZ rP,oT rP,
  trivial⟩ (fun L3 _ w4 hp4=>?_)
 refine sdrD [.det (PV n4),.det (PV n8),.det (PV n7),.det (PV n9),.det (PV n10),.alloc (PC 0),.store (.new 5) 0 (PC n10) (PC n10)] (nn 7) [0,1,0,7,15,0,63] (fun L d=>[d 0,L0.p 0,L0.p 1,d 3,L1.p 7,L2.p 4,L3.p 6,L.p 5]++D d 8 44) (fun L=>[(L0.b 0,JC a),(L0.b 1,JC ⟨0,0,0⟩),(L1.b 6,PC n1),(L1.b 7,PC n2),(L2.b 4,PC n4),(L3.b 6,PC n7),(L.b 5,PC n10)]) hp4 ⟨
  oL 4 0 rP,oC K.stay hg (nP o8 (g2square K n4)),oL 5 0 rP,oC K.stay hg (nP o9 (g2double K n7)),oC K.stay hg (nP o10 (fp2Sub K n8 n9)),oZ rP,oT rP,
  trivial⟩ (fun L4 _ w5 hp5=>?_)
 refine sgsD [.det (PV n2),.det (PV n11),.det (PV n12),.det (PV n13),.det (PV n14),.alloc (PC 0),.store (.new 5) 0 (PC n14) (PC n14)] (nn 7) [0,1,3,7,15,0,63] (fun L d=>[d 0,L0.p 0,L0.p 1]++(D d 3 2++([L2.p 4,L3.p 6,L4.p 5,L.p 5]++D d 9 43))) (fun L=>[(L0.b 0,JC a),(L0.b 1,JC ⟨0,0,0⟩),(L1.b 6,PC n1),(L1.b 7,PC n2),(L2.b 4,PC n4),(L3.b 6,PC n7),(L4.b 5,PC n10),(L.b 5,PC n14)]) hp5 ⟨
  oL 3 0 rP,oC K.stay hg (nP o11 (g2square K n2)),oC K.stay hg (nP o12 (g2double K n11)),oC K.stay hg (nP o13 (g2double K n12)),oC K.stay hg (nP o14 (g2double K n13)),
  oZ rP,oT rP,
  trivial⟩ (fun L5 _ w6 hp6=>?_)
 refine sdrD [.det (PV n4),.det (PV n7),.det (PV n10),.det (PV n15),.det (PV n16),.det (PV n14),.det (PV n17),.alloc (PC 0),.store (.new 7) 0 (PC n17) (PC n17)] (nn 9) [0,0,0,6,15,0,63,0,255] (fun L d=>[d 0,L0.p 0,L0.p 1]++(D d 3 4++([L4.p 5,d 8,L.p 7]++D d 10 42))) (fun L=>[(L0.b 0,JC a),(L0.b 1,JC ⟨0,0,0⟩),(L1.b 6,PC n1),(L1.b 7,PC n2),(L2.b 4,PC n4),(L3.b 6,PC n7),(L4.b 5,PC n10),(L5.b 5,PC n14),(L.b 7,PC n17)]) hp6 ⟨
  oL 4 0 rP,oL 5 0 rP,oL 6 0 rP,oC K.stay hg (nP o15 (fp2Sub K n7 n10)),oC K.stay hg (nP o16 (fp2Mul K n4 n15)),oL 7 0 rP,oC K.stay hg (nP o17 (fp2Sub K n16 n14)),
  oZ rP,oT rP,
  trivial⟩ (fun L6 _ w7 hp7=>?_)
 refine sdrD [.det (PV n10),.det (PV n17),.det (pt (L0.b 0) 12),.det (PV a.y),.det (pt (L0.b 0) 24),.det (PV a.z),.det (PV n18),.det (PV n19),.det (JV ⟨n10,n17,n19⟩),.store (.base 1) 0 (JC ⟨n10,n17,n19⟩) (JC ⟨n10,n17,n19⟩)] (nn 10) [0,0,0,4,0,16,60,124,255,511] (fun L d=>D d 0 2++([L0.p 1]++D d 3 49)) (fun L=>[(L0.b 0,JC a),(L0.b 1,JC ⟨n10,n17,n19⟩),(L1.b 6,PC n1),(L1.b 7,PC n2),(L2.b 4,PC n4),(L3.b 6,PC n7),(L4.b 5,PC n10),(L5.b 5,PC n14),(L6.b 7,PC n17)]) hp7 ⟨
  oL 6 0 rP,oL 8 0 rP,oF fJ1,oL 0 12 rP,oF fJ2,oL 0 24 rP,oC K.stay hg (nP o18 (fp2Mul K a.y a.z)),oC K.stay hg (nP o19 (g2double K n18)),oD (buildJ012 n10 n17 n19),
  oT rJ,
  trivial⟩ (fun L7 _ w8 hp8=>?_)
 refine wp_ret ?_
 refine bodyPost_ret (v:=JV ⟨n10,n17,n19⟩) ?_ rfl ?_
 ·exact rc rJ rfl (by kernel_rfl) (hp8.bound 1 rfl).2
 ·exact ⟨fin,hp8.bel⟩
theorem g2across {G:World→Prop} (K:FpK G) (a:Jc F2) (s t:F2) (w:World) (hg:G w):Calls Tryz.prog 165 #[JV a,PV s,PV t] w (Ret (JV (jacross a s t)) w):=by
 obtain ⟨n1,o1⟩:=nm (s*s)
 obtain ⟨n2,o2⟩:=nm (n1*s)
 obtain ⟨n3,o3⟩:=nm (a.x*n1)
 obtain ⟨n4,o4⟩:=nm (t*t)
 obtain ⟨n5,o5⟩:=nm (n4-n2)
 obtain ⟨n6,o6⟩:=nm (n3+n3)
 obtain ⟨n7,o7⟩:=nm (n5-n6)
 obtain ⟨n8,o8⟩:=nm (n3-n7)
 obtain ⟨n9,o9⟩:=nm (t*n8)
 obtain ⟨n10,o10⟩:=nm (a.y*n2)
 obtain ⟨n11,o11⟩:=nm (n9-n10)
 obtain ⟨n12,o12⟩:=nm (a.z*s)
 have fin:Ending.returned (JV ⟨n7,n11,n12⟩)=Ending.returned (JV (jacross a s t)):=by subst_vars;exact congrArg (fun z=>Ending.returned (JV z)) (Jc.ext' rfl rfl rfl)
 have hp0:=Heap.start w
 go_enter Tryz.func165,Tryz.ntmps165
 refine sgs [.alloc (JC a),.alloc (PC s),.alloc (PC t),.alloc (JC ⟨0,0,0⟩)] [0,1,2,3] [0,0,0,0] (fun L=>[JV a,PV s,PV t,L.p 0,L.p 1,L.p 2,L.p 3]++U 38) (fun L=>[(L.b 0,JC a),(L.b 1,PC s),(L.b 2,PC t),(L.b 3,JC ⟨0,0,0⟩)]) hp0 ⟨
  oB,oB,oB,oZ rJ,
  trivial⟩ (fun L0 w1 hp1=>?_)
 refine sgsD [.det (PV s),.det (PV n1),.alloc (PC 0),.store (.new 2) 0 (PC n1) (PC n1)] [0,1,2,3] [0,1,0,7] (fun L d=>D d 0 3++([L0.p 0,L0.p 1,L0.p 2,L0.p 3,L.p 2]++D d 8 37)) (fun L=>[(L0.b 0,JC a),(L0.b 1,PC s),(L0.b 2,PC t),(L0.b 3,JC ⟨0,0,0⟩),(L.b 2,PC n1)]) hp1 ⟨
  oL 1 0 rP,oC K.stay hg (nP o1 (g2square K s)),oZ rP,oT rP,
  trivial⟩ (fun L1 _ w2 hp2=>?_)
 refine sgsD [.det (PV n1),.det (PV s),.det (PV n2),.alloc (PC 0),.store (.new 3) 0 (PC n2) (PC n2)] (nn 5) [0,0,3,0,15] (fun L d=>D d 0 3++([L0.p 0,L0.p 1,L0.p 2,L0.p 3,L1.p 2,L.p 3]++D d 9 36)) (fun L=>[(L0.b 0,JC a),(L0.b 1,PC s),(L0.b 2,PC t),(L0.b 3,JC ⟨0,0,0⟩),(L1.b 2,PC n1),(L.b 3,PC n2)]) hp2 ⟨
  oL 4 0 rP,oL 1 0 rP,oC K.stay hg (nP o2 (fp2Mul K n1 s)),oZ rP,oT rP,
  trivial⟩ (fun L2 _ w3 hp3=>?_)
 refine sgsD [.det (L0.p 0),.det (PV a.x),.det (PV n1),.det (PV n3),.alloc (PC 0),.store (.new 4) 0 (PC n3) (PC n3)] (nn 6) [0,1,0,7,0,31] (fun L d=>D d 0 3++([L0.p 0,L0.p 1,L0.p 2,L0.p 3,d 7,L2.p 3,L.p 4]++D d 10 35)) (fun L=>[(L0.b 0,JC a),(L0.b 1,PC s),(L0.b 2,PC t),(L0.b 3,JC ⟨0,0,0⟩),(L1.b 2,PC n1),(L2.b 3,PC n2),(L.b 4,PC n3)]) hp3 ⟨
  oF fJ0,oL 0 0 rP,oL 4 0 rP,oC K.stay hg (nP o3 (fp2Mul K a.x n1)),oZ rP,oT rP,
  trivial⟩ (fun L3 _ w4 hp4=>?_)
 refine sdrD [.det (PV t),.det (PV n4),.det (PV n2),.det (PV n5),.det (PV n3),.det (PV n6),.det (PV n7),.alloc (PC 0),.store (.new 7) 0 (PC n7) (PC n7)] (nn 9) [0,1,0,7,0,31,63,0,255] (fun L d=>D d 0 3++([L0.p 0,L0.p 1,L0.p 2,L0.p 3,d 7,L2.p 3,L3.p 4,L.p 7]++D d 11 34)) (fun L=>[(L0.b 0,JC a),(L0.b 1,PC s),(L0.b 2,PC t),(L0.b 3,JC ⟨0,0,0⟩),(L1.b 2,PC n1),(L2.b 3,PC n2),(L3.b 4,PC n3),(L.b 7,PC n7)]) hp4 ⟨
  oL 2 0 rP,oC K.stay hg (nP o4 (g2square K t)),oL 5 0 rP,oC K.stay hg (nP o5 (fp2Sub K n4 n2)),oL 6 0 rP,oC K.stay hg (nP o6 (g2double K n3)),oC K.stay hg (nP o7 (fp2Sub K n5 n6)),
  oZ rP,oT rP,
  trivial⟩ (fun L4 _ w5 hp5=>?_)
 refine sdrD [.det (PV t),.det (PV n3),.det (PV n7),.det (PV n8),.det (PV n9),.det (pt (L0.b 0) 12),.det (PV a.y),.det (PV n2),.det (PV n10),.det (PV n11),.alloc (PC 0),.store (.new 10) 0 (PC n11) (PC n11)] (nn 12) [0,0,0,6,15,0,32,0,255,511,0,2047] (fun L d=>D d 0 3++([L0.p 0,L0.p 1,d 5,L0.p 3]++(D d 7 3++([L4.p 7,L.p 10]++D d 12 33)))) (fun L=>[(L0.b 0,JC a),(L0.b 1,PC s),(L0.b 2,PC t),(L0.b 3,JC ⟨0,0,0⟩),(L1.b 2,PC n1),(L2.b 3,PC n2),(L3.b 4,PC n3),(L4.b 7,PC n7),(L.b 10,PC n11)]) hp5 ⟨
  oL 2 0 rP,oL 6 0 rP,oL 7 0 rP,oC K.stay hg (nP o8 (fp2Sub K n3 n7)),oC K.stay hg (nP o9 (fp2Mul K t n8)),oF fJ1,oL 0 12 rP,oL 5 0 rP,oC K.stay hg (nP o10 (fp2Mul K a.y n2)),
  oC K.stay hg (nP o11 (fp2Sub K n9 n10)),oZ rP,oT rP,
  trivial⟩ (fun L5 _ w6 hp6=>?_)
 refine sdrD [.det (PV n7),.det (PV n11),.det (pt (L0.b 0) 24),.det (PV a.z),.det (PV s),.det (PV n12),.det (JV ⟨n7,n11,n12⟩),.store (.base 3) 0 (JC ⟨n7,n11,n12⟩) (JC ⟨n7,n11,n12⟩)] (nn 8) [0,0,0,4,0,28,63,127] (fun L d=>D d 0 6++([L0.p 3]++D d 7 38)) (fun L=>[(L0.b 0,JC a),(L0.b 1,PC s),(L0.b 2,PC t),(L0.b 3,JC ⟨n7,n11,n12⟩),(L1.b 2,PC n1),(L2.b 3,PC n2),(L3.b 4,PC n3),(L4.b 7,PC n7),(L5.b 10,PC n11)]) hp6 ⟨
  oL 7 0 rP,oL 8 0 rP,oF fJ2,oL 0 24 rP,oL 1 0 rP,oC K.stay hg (nP o12 (fp2Mul K a.z s)),oD (buildJ012 n7 n11 n12),oT rJ,
  trivial⟩ (fun L6 _ w7 hp7=>?_)
 refine wp_ret ?_
 refine bodyPost_ret (v:=JV ⟨n7,n11,n12⟩) ?_ rfl ?_
 ·exact rc rJ rfl (by kernel_rfl) (hp7.bound 3 rfl).2
 ·exact ⟨fin,hp7.bel⟩
theorem g2plus0 {G:World→Prop} (K:FpK G) (a:Jc F2) (w:World) (hg:G w):Calls Tryz.prog 156 #[JV a,GV ⟨0,0,true⟩] w (Ret (JV a) w):=by
 have hp0:=Heap.start w
 go_enter Tryz.func156,Tryz.ntmps156
 refine sgsD [.alloc (JC a),.alloc (GC ⟨0,0,true⟩),.alloc (JC ⟨0,0,0⟩)] [0,1,2] [0,0,0] (fun L d=>D d 0 2++([L.p 0,L.p 1,L.p 2]++U 43)) (fun L=>[(L.b 0,JC a),(L.b 1,GC ⟨0,0,true⟩),(L.b 2,JC ⟨0,0,0⟩)]) hp0 ⟨
  oB,oB,oZ rJ,
  trivial⟩ (fun L0 _ w1 hp1=>?_)
 refine wp_seq_k (fun K2 k2=>?_)
 refine sgsD [.det (pt (L0.b 1) 24),.det (.bool true)] [0,1] [0,1] (fun L d=>D d 0 2++([L0.p 0,d 3,L0.p 2]++(D d 5 4++([.bool true]++D d 10 38)))) (fun L=>[(L0.b 0,JC a),(L0.b 1,GC ⟨0,0,true⟩),(L0.b 2,JC ⟨0,0,0⟩)]) hp1 ⟨
  oF fG2,oL1 1 24 oneB,
  trivial⟩ (fun L1 _ w2 hp2=>?_)
 refine cT ?_
 refine sgsD [.det (JV a),.store (.base 2) 0 (JC a) (JC a)] [0,1] [0,1] (fun L d=>D d 0 4++([L0.p 2]++D d 5 43)) (fun L=>[(L0.b 0,JC a),(L0.b 1,GC ⟨0,0,true⟩),(L0.b 2,JC a)]) hp2 ⟨
  oL 0 0 rJ,oT rJ,
  trivial⟩ (fun L2 _ w3 hp3=>?_)
 refine wp_ret ?_
 refine bodyPost_ret (v:=JV a) ?_ rfl ?_
 ·exact rc rJ rfl (by kernel_rfl) (hp3.bound 2 rfl).2
 ·exact ⟨rfl,hp3.bel⟩
theorem g2plusA {G:World→Prop} (K:FpK G) (a:Jc F2) (x y:F2) (w:World) (hg:G w):Calls Tryz.prog 156 #[JV a,GV ⟨x,y,false⟩] w (Ret (JV (jplus a (.aff x y))) w):=by
 obtain ⟨n1,o1⟩:=nm (a.z*a.z:F2)
 obtain ⟨n2,o2⟩:=nm (x*n1:F2)
 obtain ⟨n3,o3⟩:=nm (n2-a.x:F2)
 obtain ⟨n4,o4⟩:=nm (n1*a.z:F2)
 obtain ⟨n5,o5⟩:=nm (y*n4:F2)
 obtain ⟨n6,o6⟩:=nm (n5-a.y:F2)
 have fin0:(decide (a.z=0))=true→Ending.returned (JV ⟨x,y,1⟩)=Ending.returned (JV (jplus a (.aff x y))):=by subst_vars;intro h1q;rw [jplus_aff,if_pos (of_decide_eq_true h1q)];try rfl
 have fin1:(decide (a.z=0))=false→(!decide (n3=0))=true→Ending.returned (JV (jacross a n3 n6))=Ending.returned (JV (jplus a (.aff x y))):=by subst_vars;intro h1q h2q;rw [jplus_aff,if_neg (of_decide_eq_false h1q),if_pos (show jrun a x≠0 from of_not_t h2q)];try rfl
 have fin2:(decide (a.z=0))=false→(!decide (n3=0))=false→(!decide (n6=0))=true→Ending.returned (JV ⟨0,0,0⟩)=Ending.returned (JV (jplus a (.aff x y))):=by subst_vars;intro h1q h2q h3q;rw [jplus_aff,if_neg (of_decide_eq_false h1q),if_neg (not_not_intro (show jrun a x=0 from of_not_f h2q)),if_pos (show jrise a y≠0 from of_not_t h3q)];try rfl
 have fin3:(decide (a.z=0))=false→(!decide (n3=0))=false→(!decide (n6=0))=false→Ending.returned (JV (jtwice a))=Ending.returned (JV (jplus a (.aff x y))):=by subst_vars;intro h1q h2q h3q;rw [jplus_aff,if_neg (of_decide_eq_false h1q),if_neg (not_not_intro (show jrun a x=0 from of_not_f h2q)),if_neg (not_not_intro (show jrise a y=0 from of_not_f h3q))];try rfl
 have hp0:=Heap.start w
 go_enter Tryz.func156,Tryz.ntmps156
 refine sgsD [.alloc (JC a),.alloc (GC ⟨x,y,false⟩),.alloc (JC ⟨0,0,0⟩)] [0,1,2] [0,0,0] (fun L d=>D d 0 2++([L.p 0,L.p 1,L.p 2]++U 43)) (fun L=>[(L.b 0,JC a),(L.b 1,GC ⟨x,y,false⟩),(L.b 2,JC ⟨0,0,0⟩)]) hp0 ⟨
  oB,oB,oZ rJ,
  trivial⟩ (fun L0 d0 w1 hp1=>?_)
 refine wp_seq_k (fun K2 k2=>?_)
 refine sgsD [.det (pt (L0.b 1) 24),.det (.bool false)] [0,1] [0,1] (fun L d=>D d 0 2++([L0.p 0,L0.p 1,L0.p 2]++(D d 5 4++([.bool false]++D d 10 38)))) (fun L=>[(L0.b 0,JC a),(L0.b 1,GC ⟨x,y,false⟩),(L0.b 2,JC ⟨0,0,0⟩)]) hp1 ⟨
  oF fG2,oL1 1 24 oneB,
  trivial⟩ (fun L1 d1 w2 hp2=>?_)
 refine cfk (k2 _ _ ?_)
 refine wp_seq_k (fun K4 k4=>?_)
 refine sgsD [.det (JV a),.det (.bool (decide (a.z=0)))] [0,1] [0,1] (fun L d=>D d 0 2++([L0.p 0,L0.p 1,L0.p 2]++(D d 5 7++([.bool (decide (a.z=0))]++D d 13 35)))) (fun L=>[(L0.b 0,JC a),(L0.b 1,GC ⟨x,y,false⟩),(L0.b 2,JC ⟨0,0,0⟩)]) hp2 ⟨
  oL 0 0 rJ,oC K.stay hg (g2isInf K a),
  trivial⟩ (fun L2 d2 w3 hp3=>?_)
 rcases Bool.eq_false_or_eq_true (decide (a.z=0)) with h1q | h1q
 ·skip
  refine cond_t h1q ?_
  refine sgsD [.det (GV ⟨x,y,false⟩),.det (JV ⟨x,y,1⟩),.store (.base 2) 0 (JC ⟨x,y,1⟩) (JC ⟨x,y,1⟩)] [0,1,2] [0,1,3] (fun L d=>D d 0 4++([L0.p 2]++D d 5 43)) (fun L=>[(L0.b 0,JC a),(L0.b 1,GC ⟨x,y,false⟩),(L0.b 2,JC ⟨x,y,1⟩)]) hp3 ⟨
   oL 1 0 rG,oH (v:=JV ⟨x,y,1⟩) (vs:=#[GV ⟨x,y,false⟩]) (fun w hb _=>g2lift1 K _ _ w (K.stay hg hb)),oT rJ,
   trivial⟩ (fun L3 d3 w4 hp4=>?_)
  refine wp_ret ?_
  refine bodyPost_ret (v:=JV ⟨x,y,1⟩) ?_ rfl ?_
  ·exact rc rJ rfl (by kernel_rfl) (hp4.bound 2 rfl).2
  ·exact ⟨fin0 h1q,hp4.bel⟩
 ·skip
  refine cond_f h1q ?_
  refine skips ?_
  refine k4 _ _ ?_
  refine sgsD [.det (pt (L0.b 0) 24),.det (PV a.z),.det (PV n1),.alloc (PC 0),.store (.new 3) 0 (PC n1) (PC n1)] (nn 5) [0,1,3,0,15] (fun L d=>D d 0 2++([L0.p 0,L0.p 1,L0.p 2,L.p 3]++D d 6 42)) (fun L=>[(L0.b 0,JC a),(L0.b 1,GC ⟨x,y,false⟩),(L0.b 2,JC ⟨0,0,0⟩),(L.b 3,PC n1)]) hp3 ⟨
   oF fJ2,oL 0 24 rP,oC K.stay hg (nP o1 (g2square K a.z)),oZ rP,oT rP,
   trivial⟩ (fun L3 d3 w4 hp4=>?_)
  refine sdrD [.det (L0.p 1),.det (PV x),.det (PV n1),.det (PV n2),.det (L0.p 0),.det (PV a.x),.det (PV n3),.alloc (PC 0),.store (.new 7) 0 (PC n3) (PC n3)] (nn 9) [0,1,0,7,0,16,63,0,255] (fun L d=>D d 0 2++([L0.p 0,L0.p 1,L0.p 2,L3.p 3,L.p 7]++D d 7 41)) (fun L=>[(L0.b 0,JC a),(L0.b 1,GC ⟨x,y,false⟩),(L0.b 2,JC ⟨0,0,0⟩),(L3.b 3,PC n1),(L.b 7,PC n3)]) hp4 ⟨
   oF fG0,oL 1 0 rP,oL 3 0 rP,oC K.stay hg (nP o2 (fp2Mul K x n1)),oF fJ0,oL 0 0 rP,oC K.stay hg (nP o3 (fp2Sub K n2 a.x)),oZ rP,oT rP,
   trivial⟩ (fun L4 d4 w5 hp5=>?_)
  refine sdrD [.det (pt (L0.b 1) 12),.det (PV y),.det (PV n1),.det (pt (L0.b 0) 24),.det (PV a.z),.det (PV n4),.det (PV n5),.det (pt (L0.b 0) 12),.det (PV a.y),.det (PV n6),.alloc (PC 0),.store (.new 10) 0 (PC n6) (PC n6)] (nn 12) [0,1,0,0,8,28,63,0,128,511,0,2047] (fun L d=>D d 0 2++([L0.p 0,d 3,L0.p 2,d 5,L4.p 7,L.p 10]++D d 8 40)) (fun L=>[(L0.b 0,JC a),(L0.b 1,GC ⟨x,y,false⟩),(L0.b 2,JC ⟨0,0,0⟩),(L3.b 3,PC n1),(L4.b 7,PC n3),(L.b 10,PC n6)]) hp5 ⟨
   oF fG1,oL 1 12 rP,oL 3 0 rP,oF fJ2,oL 0 24 rP,oC K.stay hg (nP o4 (fp2Mul K n1 a.z)),oC K.stay hg (nP o5 (fp2Mul K y n4)),oF fJ1,oL 0 12 rP,oC K.stay hg (nP o6 (fp2Sub K n5 a.y)),
   oZ rP,oT rP,
   trivial⟩ (fun L5 d5 w6 hp6=>?_)
  refine wp_seq_k (fun K9 k9=>?_)
  refine sgsD [.det (PV n3),.det (PV 0),.det (.bool (!decide (n3=0)))] [0,1,2] [0,0,3] (fun L d=>D d 0 2++([L0.p 0,d 3,L0.p 2,d 5,L4.p 7,L5.p 10]++(D d 8 29++([.bool (!decide (n3=0))]++D d 38 10)))) (fun L=>[(L0.b 0,JC a),(L0.b 1,GC ⟨x,y,false⟩),(L0.b 2,JC ⟨0,0,0⟩),(L3.b 3,PC n1),(L4.b 7,PC n3),(L5.b 10,PC n6)]) hp6 ⟨
   oL 4 0 rP,oD buildP0,oU (a:=n3) (b:=0) qP rfl,
   trivial⟩ (fun L6 d6 w7 hp7=>?_)
  rcases Bool.eq_false_or_eq_true (!decide (n3=0)) with h2q | h2q
  ·skip
   refine cond_t h2q ?_
   refine sgsD [.det (JV a),.det (PV n3),.det (PV n6),.det (JV (jacross a n3 n6)),.store (.base 2) 0 (JC (jacross a n3 n6)) (JC (jacross a n3 n6))] (nn 5) [0,0,0,7,15] (fun L d=>D d 0 4++([L0.p 2]++D d 5 43)) (fun L=>[(L0.b 0,JC a),(L0.b 1,GC ⟨x,y,false⟩),(L0.b 2,JC (jacross a n3 n6)),(L3.b 3,PC n1),(L4.b 7,PC n3),(L5.b 10,PC n6)]) hp7 ⟨
    oL 0 0 rJ,oL 4 0 rP,oL 5 0 rP,oC K.stay hg (g2across K a n3 n6),oT rJ,
    trivial⟩ (fun L7 d7 w8 hp8=>?_)
   refine wp_ret ?_
   refine bodyPost_ret (v:=JV (jacross a n3 n6)) ?_ rfl ?_
   ·exact rc rJ rfl (by kernel_rfl) (hp8.bound 2 rfl).2
   ·exact ⟨fin1 h1q h2q,hp8.bel⟩
  ·skip
   refine cond_f h2q ?_
   refine skips ?_
   refine k9 _ _ ?_
   refine wp_seq_k (fun K11 k11=>?_)
   refine sgsD [.det (PV n6),.det (PV 0),.det (.bool (!decide (n6=0)))] [0,1,2] [0,0,3] (fun L d=>D d 0 2++([L0.p 0,d 3,L0.p 2]++(D d 5 39++([.bool (!decide (n6=0))]++D d 45 3)))) (fun L=>[(L0.b 0,JC a),(L0.b 1,GC ⟨x,y,false⟩),(L0.b 2,JC ⟨0,0,0⟩),(L3.b 3,PC n1),(L4.b 7,PC n3),(L5.b 10,PC n6)]) hp7 ⟨
    oL 5 0 rP,oD buildP0,oU (a:=n6) (b:=0) qP rfl,
    trivial⟩ (fun L7 d7 w8 hp8=>?_)
   rcases Bool.eq_false_or_eq_true (!decide (n6=0)) with h3q | h3q
   ·skip
    refine cond_t h3q ?_
    refine sgsD [.det (JV ⟨0,0,0⟩),.store (.base 2) 0 (JC ⟨0,0,0⟩) (JC ⟨0,0,0⟩)] [0,1] [0,1] (fun L d=>D d 0 4++([L0.p 2]++D d 5 43)) (fun L=>[(L0.b 0,JC a),(L0.b 1,GC ⟨x,y,false⟩),(L0.b 2,JC ⟨0,0,0⟩),(L3.b 3,PC n1),(L4.b 7,PC n3),(L5.b 10,PC n6)]) hp8 ⟨
     oD buildJn,oT rJ,
     trivial⟩ (fun L8 d8 w9 hp9=>?_)
    refine wp_ret ?_
    refine bodyPost_ret (v:=JV ⟨0,0,0⟩) ?_ rfl ?_
    ·exact rc rJ rfl (by kernel_rfl) (hp9.bound 2 rfl).2
    ·exact ⟨fin2 h1q h2q h3q,hp9.bel⟩
   ·skip
    refine cond_f h3q ?_
    refine skips ?_
    refine k11 _ _ ?_
    refine sgsD [.det (JV a),.det (JV (jtwice a)),.store (.base 2) 0 (JC (jtwice a)) (JC (jtwice a))] [0,1,2] [0,1,3] (fun L d=>D d 0 4++([L0.p 2]++D d 5 43)) (fun L=>[(L0.b 0,JC a),(L0.b 1,GC ⟨x,y,false⟩),(L0.b 2,JC (jtwice a)),(L3.b 3,PC n1),(L4.b 7,PC n3),(L5.b 10,PC n6)]) hp8 ⟨
     oL 0 0 rJ,oC K.stay hg (g2twice K a),oT rJ,
     trivial⟩ (fun L8 d8 w9 hp9=>?_)
    refine wp_ret ?_
    refine bodyPost_ret (v:=JV (jtwice a)) ?_ rfl ?_
    ·exact rc rJ rfl (by kernel_rfl) (hp9.bound 2 rfl).2
    ·exact ⟨fin3 h1q h2q h3q,hp9.bel⟩
theorem g2plus {G:World→Prop} (K:FpK G) (a:Jc F2) (P:Pt F2) (w:World) (hg:G w):Calls Tryz.prog 156 #[JV a,GV (gp P)] w (Ret (JV (jplus a P)) w):=by
 cases P with
 | inf=>exact g2plus0 K a w hg
 | aff x y =>
  exact g2plusA K a x y w hg
end Go.Proofs.YthnfgmhehfombaaGreatDoor.fpn.T2
