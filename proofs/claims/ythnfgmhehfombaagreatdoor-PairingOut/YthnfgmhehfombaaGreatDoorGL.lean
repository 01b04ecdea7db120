/- Texts laid together. -/
import Derived.Test.YthnfgmhehfombaaGreatDoorGK
import Derived.Test.YthnfgmhehfombaaGreatDoorGG
import Derived.Deep.LoopGhost
set_option linter.unusedVariables false
set_option linter.unusedSimpArgs false
set_option maxRecDepth 4000
set_option maxHeartbeats 4000000
/- The reference's points of G1. -/
namespace Go.Proofs.YthnfgmhehfombaaGreatDoor.fpn
open Go.RowKit Pl EC
section
open Rn
variable {α:Type} [Add α] [Mul α] [Neg α] [Sub α] [OfNat α 0] [OfNat α 1] [CR α]
theorem ri8_0 (x1 y1 z1 x2 y2 z2 b:α):((((((x1+y1)*(x2+y2))-(x1*x2))-(y1*y2))*((y1*y2)-(b*(z1*z2))))-(((((y1+z1)*(y2+z2))-(y1*y2))-(z1*z2))*(b*((((x1+z1)*(x2+z2))-(x1*x2))-(z1*z2)))))=((((x1*y2)+(x2*y1))*((y1*y2)-(b*(z1*z2))))-(((y1*z2)+(y2*z1))*(b*((x1*z2)+(x2*z1))))):=ring [x1,y1,z1,x2,y2,z2,b] (.s (.m (.s (.s (.m (.a (.v 0) (.v 1)) (.a (.v 3) (.v 4))) (.m (.v 0) (.v 3))) (.m (.v 1) (.v 4))) (.s (.m (.v 1) (.v 4)) (.m (.v 6) (.m (.v 2) (.v 5))))) (.m (.s (.s (.m (.a (.v 1) (.v 2)) (.a (.v 4) (.v 5))) (.m (.v 1) (.v 4))) (.m (.v 2) (.v 5))) (.m (.v 6) (.s (.s (.m (.a (.v 0) (.v 2)) (.a (.v 3) (.v 5))) (.m (.v 0) (.v 3))) (.m (.v 2) (.v 5)))))) (.s (.m (.a (.m (.v 0) (.v 4)) (.m (.v 3) (.v 1))) (.s (.m (.v 1) (.v 4)) (.m (.v 6) (.m (.v 2) (.v 5))))) (.m (.a (.m (.v 1) (.v 5)) (.m (.v 4) (.v 2))) (.m (.v 6) (.a (.m (.v 0) (.v 5)) (.m (.v 3) (.v 2)))))) (by kernel_rfl)
theorem ri8_1 (x1 y1 z1 x2 y2 z2 b:α):((((y1*y2)-(b*(z1*z2)))*((y1*y2)+(b*(z1*z2))))+((b*((((x1+z1)*(x2+z2))-(x1*x2))-(z1*z2)))*(((x1*x2)+(x1*x2))+(x1*x2))))=((((y1*y2)-(b*(z1*z2)))*((y1*y2)+(b*(z1*z2))))+((b*((x1*z2)+(x2*z1)))*(((x1*x2)+(x1*x2))+(x1*x2)))):=ring [x1,y1,z1,x2,y2,z2,b] (.a (.m (.s (.m (.v 1) (.v 4)) (.m (.v 6) (.m (.v 2) (.v 5)))) (.a (.m (.v 1) (.v 4)) (.m (.v 6) (.m (.v 2) (.v 5))))) (.m (.m (.v 6) (.s (.s (.m (.a (.v 0) (.v 2)) (.a (.v 3) (.v 5))) (.m (.v 0) (.v 3))) (.m (.v 2) (.v 5)))) (.a (.a (.m (.v 0) (.v 3)) (.m (.v 0) (.v 3))) (.m (.v 0) (.v 3))))) (.a (.m (.s (.m (.v 1) (.v 4)) (.m (.v 6) (.m (.v 2) (.v 5)))) (.a (.m (.v 1) (.v 4)) (.m (.v 6) (.m (.v 2) (.v 5))))) (.m (.m (.v 6) (.a (.m (.v 0) (.v 5)) (.m (.v 3) (.v 2)))) (.a (.a (.m (.v 0) (.v 3)) (.m (.v 0) (.v 3))) (.m (.v 0) (.v 3))))) (by kernel_rfl)
theorem ri8_2 (x1 y1 z1 x2 y2 z2 b:α):((((y1*y2)+(b*(z1*z2)))*((((y1+z1)*(y2+z2))-(y1*y2))-(z1*z2)))+((((x1*x2)+(x1*x2))+(x1*x2))*((((x1+y1)*(x2+y2))-(x1*x2))-(y1*y2))))=((((y1*y2)+(b*(z1*z2)))*((y1*z2)+(y2*z1)))+((((x1*x2)+(x1*x2))+(x1*x2))*((x1*y2)+(x2*y1)))):=ring [x1,y1,z1,x2,y2,z2,b] (.a (.m (.a (.m (.v 1) (.v 4)) (.m (.v 6) (.m (.v 2) (.v 5)))) (.s (.s (.m (.a (.v 1) (.v 2)) (.a (.v 4) (.v 5))) (.m (.v 1) (.v 4))) (.m (.v 2) (.v 5)))) (.m (.a (.a (.m (.v 0) (.v 3)) (.m (.v 0) (.v 3))) (.m (.v 0) (.v 3))) (.s (.s (.m (.a (.v 0) (.v 1)) (.a (.v 3) (.v 4))) (.m (.v 0) (.v 3))) (.m (.v 1) (.v 4))))) (.a (.m (.a (.m (.v 1) (.v 4)) (.m (.v 6) (.m (.v 2) (.v 5)))) (.a (.m (.v 1) (.v 5)) (.m (.v 4) (.v 2)))) (.m (.a (.a (.m (.v 0) (.v 3)) (.m (.v 0) (.v 3))) (.m (.v 0) (.v 3))) (.a (.m (.v 0) (.v 4)) (.m (.v 3) (.v 1))))) (by kernel_rfl)
end
def sp (t:F × F × F):Pj:=⟨⟨t.1,0⟩,⟨t.2.1,0⟩,⟨t.2.2,0⟩⟩
def radd12 (t u:F × F × F):F × F × F:=(rX (4+4+4) t.1 t.2.1 t.2.2 u.1 u.2.1 u.2.2,rY (4+4+4) t.1 t.2.1 t.2.2 u.1 u.2.1 u.2.2,rZ (4+4+4) t.1 t.2.1 t.2.2 u.1 u.2.1 u.2.2)
theorem F00:(0:F)+0=0:=by kernel_rfl
theorem F00':(0:F)-0=0:=by kernel_rfl
theorem ref5AddS (R:RefK) (x y:F) (w:World):Calls Tryz.prog 84 #[PV ⟨x,0⟩,PV ⟨y,0⟩] w (Ret (PV ⟨x+y,0⟩) w):=by
 have h:=ref5Add2 R ⟨x,0⟩ ⟨y,0⟩ w
 rw [show ((⟨x,0⟩:F2)+⟨y,0⟩)=⟨x+y,0⟩ from F2.ext' rfl F00] at h
 exact h
theorem ref5SubS (R:RefK) (x y:F) (w:World):Calls Tryz.prog 83 #[PV ⟨x,0⟩,PV ⟨y,0⟩] w (Ret (PV ⟨x-y,0⟩) w):=by
 have h:=ref5Sub2 R ⟨x,0⟩ ⟨y,0⟩ w
 rw [show ((⟨x,0⟩:F2)-⟨y,0⟩)=⟨x-y,0⟩ from F2.ext' rfl F00'] at h
 exact h
theorem ref5oneS (R:RefK) (w:World):Calls Tryz.prog 40 #[] w (Ret (PV ⟨1,0⟩) w):=ref5one2 R w
theorem twelve (x:F):(((x+x)+(x+x))+((x+x)+(x+x)))+((x+x)+(x+x))=(4+4+4)*x:=by grind
theorem ref5mulS (R:RefK) (x y:F) (w:World):Calls Tryz.prog 82 #[PV ⟨x,0⟩,PV ⟨y,0⟩,.bool true] w (Ret (PV ⟨x*y,0⟩) w):=by
 obtain ⟨n1,o1⟩:=nm (x*y)
 have fin:Ending.returned (PV ⟨n1,0⟩)=Ending.returned (PV ⟨x*y,0⟩):=by subst_vars;exact rfl
 have hp0:=Heap.start w
 go_enter Tryz.func82,Tryz.ntmps82
 refine sgsD [.alloc (PC ⟨x,0⟩),.alloc (PC ⟨y,0⟩),.alloc (PC 0)] [0,1,2] [0,0,0] (fun L d=>D d 0 2++([.bool true,L.p 0,L.p 1,undef,L.p 2]++U 10)) (fun L=>[(L.b 0,PC ⟨x,0⟩),(L.b 1,PC ⟨y,0⟩),(L.b 2,PC 0)]) hp0 ⟨
  oB,oB,oZ rP,
  trivial⟩ (fun L0 _ w1 hp1=>?_)
 refine wp_seq_k (fun K2 k2=>?_)
 refine sgsD [.det (.bool true)] [0] [0] (fun L d=>D d 0 3++([L0.p 0,L0.p 1,undef,L0.p 2,.bool true]++U 9)) (fun L=>[(L0.b 0,PC ⟨x,0⟩),(L0.b 1,PC ⟨y,0⟩),(L0.b 2,PC 0)]) hp1 ⟨
  oM,
  trivial⟩ (fun L1 _ w2 hp2=>?_)
 refine cT ?_
 refine sgsD [.det (L0.p 0),.det (FV x),.det (L0.p 1),.det (FV y),.det (FV n1),.det (PV ⟨n1,0⟩),.store (.base 2) 0 (PC ⟨n1,0⟩) (PC ⟨n1,0⟩)] (nn 7) [0,1,0,4,15,31,63] (fun L d=>D d 0 6++([L0.p 2]++D d 7 10)) (fun L=>[(L0.b 0,PC ⟨x,0⟩),(L0.b 1,PC ⟨y,0⟩),(L0.b 2,PC ⟨n1,0⟩)]) hp2 ⟨
  oI aP,oL 0 0 rF,oI aP,oL 1 0 rF,oR (nFR o1 (fun w=>R.mul x y w trivial)),oD (buildPa n1),oT rP,
  trivial⟩ (fun L2 _ w3 hp3=>?_)
 refine wp_ret ?_
 refine bodyPost_ret (v:=PV ⟨n1,0⟩) ?_ rfl ?_
 ·exact rc rP rfl (by kernel_rfl) (hp3.bound 2 rfl).2
 ·exact ⟨fin,hp3.bel⟩
theorem ref5b3S (R:RefK) (x:F) (w:World):Calls Tryz.prog 85 #[PV ⟨x,0⟩,.bool true] w (Ret (PV ⟨(4+4+4)*x,0⟩) w):=by
 obtain ⟨n1,o1⟩:=nm (x+x)
 obtain ⟨n2,o2⟩:=nm (n1+n1)
 obtain ⟨n3,o3⟩:=nm (n2+n2)
 obtain ⟨n4,o4⟩:=nm (n3+n2)
 have fin:Ending.returned (PV ⟨n4,0⟩)=Ending.returned (PV ⟨(4+4+4)*x,0⟩):=by subst_vars;exact congrArg (fun z=>Ending.returned (PV z)) (F2.ext' (twelve x) rfl)
 have hp0:=Heap.start w
 go_enter Tryz.func85,Tryz.ntmps85
 refine sgs [.alloc (PC ⟨x,0⟩),.alloc (PC 0)] [0,1] [0,0] (fun L=>[PV ⟨x,0⟩,.bool true,L.p 0,undef,L.p 1]++U 17) (fun L=>[(L.b 0,PC ⟨x,0⟩),(L.b 1,PC 0)]) hp0 ⟨
  oB,oZ rP,
  trivial⟩ (fun L0 w1 hp1=>?_)
 refine sgsD [.det (PV ⟨x,0⟩),.det (PV ⟨x,0⟩),.det (PV ⟨n1,0⟩),.alloc (PC 0),.store (.new 3) 0 (PC ⟨n1,0⟩) (PC ⟨n1,0⟩)] (nn 5) [0,0,3,0,15] (fun L d=>[d 0,.bool true]++(D d 2 2++([L0.p 1,L.p 3]++D d 6 16))) (fun L=>[(L0.b 0,PC ⟨x,0⟩),(L0.b 1,PC 0),(L.b 3,PC ⟨n1,0⟩)]) hp1 ⟨
  oL 0 0 rP,oL 0 0 rP,oR (nSR o1 (ref5AddS R x x)),oZ rP,oT rP,
  trivial⟩ (fun L1 _ w2 hp2=>?_)
 refine sgsD [.det (PV ⟨n1,0⟩),.det (PV ⟨n1,0⟩),.det (PV ⟨n2,0⟩),.store (.base 2) 0 (PC ⟨n2,0⟩) (PC ⟨n2,0⟩)] [0,1,2,3] [0,0,3,7] (fun L d=>[d 0,.bool true]++(D d 2 2++([L0.p 1,L1.p 3]++D d 6 16))) (fun L=>[(L0.b 0,PC ⟨x,0⟩),(L0.b 1,PC 0),(L1.b 3,PC ⟨n2,0⟩)]) hp2 ⟨
  oL 2 0 rP,oL 2 0 rP,oR (nSR o2 (ref5AddS R n1 n1)),oT rP,
  trivial⟩ (fun L2 _ w3 hp3=>?_)
 refine sdrD [.det (PV ⟨n2,0⟩),.det (PV ⟨n2,0⟩),.det (PV ⟨n3,0⟩),.det (PV ⟨n2,0⟩),.det (PV ⟨n4,0⟩),.store (.base 2) 0 (PC ⟨n4,0⟩) (PC ⟨n4,0⟩)] (nn 6) [0,0,3,0,15,31] (fun L d=>[d 0,.bool true]++(D d 2 2++([L0.p 1,L1.p 3]++D d 6 16))) (fun L=>[(L0.b 0,PC ⟨x,0⟩),(L0.b 1,PC 0),(L1.b 3,PC ⟨n4,0⟩)]) hp3 ⟨
  oL 2 0 rP,oL 2 0 rP,oR (nSR o3 (ref5AddS R n2 n2)),oL 2 0 rP,oR (nSR o4 (ref5AddS R n3 n2)),oT rP,
  trivial⟩ (fun L3 _ w4 hp4=>?_)
 refine wp_seq_k (fun K5 k5=>?_)
 refine sgsD [.det (.bool true)] [0] [0] (fun L d=>D d 0 4++([L0.p 1,L1.p 3]++(D d 6 11++([.bool true]++D d 18 4)))) (fun L=>[(L0.b 0,PC ⟨x,0⟩),(L0.b 1,PC 0),(L1.b 3,PC ⟨n4,0⟩)]) hp4 ⟨
  oM,
  trivial⟩ (fun L4 _ w5 hp5=>?_)
 refine cT ?_
 refine sgsD [.det (PV ⟨n4,0⟩),.store (.base 1) 0 (PC ⟨n4,0⟩) (PC ⟨n4,0⟩)] [0,1] [0,1] (fun L d=>D d 0 4++([L0.p 1]++D d 5 17)) (fun L=>[(L0.b 0,PC ⟨x,0⟩),(L0.b 1,PC ⟨n4,0⟩),(L1.b 3,PC ⟨n4,0⟩)]) hp5 ⟨
  oL 2 0 rP,oT rP,
  trivial⟩ (fun L5 _ w6 hp6=>?_)
 refine wp_ret ?_
 refine bodyPost_ret (v:=PV ⟨n4,0⟩) ?_ rfl ?_
 ·exact rc rP rfl (by kernel_rfl) (hp6.bound 1 rfl).2
 ·exact ⟨fin,hp6.bel⟩
theorem ref5addS (R:RefK) (x1 y1 z1 x2 y2 z2:F) (w:World):Calls Tryz.prog 51 #[PJV ⟨⟨x1,0⟩,⟨y1,0⟩,⟨z1,0⟩⟩,PJV ⟨⟨x2,0⟩,⟨y2,0⟩,⟨z2,0⟩⟩,.bool true] w (Ret (PJV (sp (radd12 (x1,y1,z1) (x2,y2,z2)))) w):=by
 obtain ⟨n1,o1⟩:=nm (x1*x2)
 obtain ⟨n2,o2⟩:=nm (y1*y2)
 obtain ⟨n3,o3⟩:=nm (z1*z2)
 obtain ⟨n4,o4⟩:=nm (x1+y1)
 obtain ⟨n5,o5⟩:=nm (x2+y2)
 obtain ⟨n6,o6⟩:=nm (n4*n5)
 obtain ⟨n7,o7⟩:=nm (n6-n1)
 obtain ⟨n8,o8⟩:=nm (n7-n2)
 obtain ⟨n9,o9⟩:=nm (y1+z1)
 obtain ⟨n10,o10⟩:=nm (y2+z2)
 obtain ⟨n11,o11⟩:=nm (n9*n10)
 obtain ⟨n12,o12⟩:=nm (n11-n2)
 obtain ⟨n13,o13⟩:=nm (n12-n3)
 obtain ⟨n14,o14⟩:=nm (x1+z1)
 obtain ⟨n15,o15⟩:=nm (x2+z2)
 obtain ⟨n16,o16⟩:=nm (n14*n15)
 obtain ⟨n17,o17⟩:=nm (n16-n1)
 obtain ⟨n18,o18⟩:=nm (n17-n3)
 obtain ⟨n19,o19⟩:=nm (n1+n1)
 obtain ⟨n20,o20⟩:=nm (n19+n1)
 obtain ⟨n21,o21⟩:=nm ((4+4+4)*n3)
 obtain ⟨n22,o22⟩:=nm (n2+n21)
 obtain ⟨n23,o23⟩:=nm (n2-n21)
 obtain ⟨n24,o24⟩:=nm ((4+4+4)*n18)
 obtain ⟨n25,o25⟩:=nm (n8*n23)
 obtain ⟨n26,o26⟩:=nm (n13*n24)
 obtain ⟨n27,o27⟩:=nm (n25-n26)
 obtain ⟨n28,o28⟩:=nm (n23*n22)
 obtain ⟨n29,o29⟩:=nm (n24*n20)
 obtain ⟨n30,o30⟩:=nm (n28+n29)
 obtain ⟨n31,o31⟩:=nm (n22*n13)
 obtain ⟨n32,o32⟩:=nm (n20*n8)
 obtain ⟨n33,o33⟩:=nm (n31+n32)
 have fin:Ending.returned (PJV ⟨⟨n27,0⟩,⟨n30,0⟩,⟨n33,0⟩⟩)=Ending.returned (PJV (sp (radd12 (x1,y1,z1) (x2,y2,z2)))):=by subst_vars;exact congrArg (fun z=>Ending.returned (PJV z)) (Pj.ext' (F2.ext' (ri8_0 (x1) (y1) (z1) (x2) (y2) (z2) ((4+4+4))) rfl) (F2.ext' (ri8_1 (x1) (y1) (z1) (x2) (y2) (z2) ((4+4+4))) rfl) (F2.ext' (ri8_2 (x1) (y1) (z1) (x2) (y2) (z2) ((4+4+4))) rfl))
 have hp0:=Heap.start w
 go_enter Tryz.func51,Tryz.ntmps51
 refine sgsD [.alloc (PJC ⟨⟨x1,0⟩,⟨y1,0⟩,⟨z1,0⟩⟩),.alloc (PJC ⟨⟨x2,0⟩,⟨y2,0⟩,⟨z2,0⟩⟩),.alloc (PJC ⟨0,0,0⟩)] [0,1,2] [0,0,0] (fun L d=>D d 0 2++([.bool true,L.p 0,L.p 1,undef,L.p 2]++U 122)) (fun L=>[(L.b 0,PJC ⟨⟨x1,0⟩,⟨y1,0⟩,⟨z1,0⟩⟩),(L.b 1,PJC ⟨⟨x2,0⟩,⟨y2,0⟩,⟨z2,0⟩⟩),(L.b 2,PJC ⟨0,0,0⟩)]) hp0 ⟨
  oB,oB,oZ rPJ,
  trivial⟩ (fun L0 _ w1 hp1=>?_)
 refine sdrD [.det (L0.p 0),.det (PV ⟨x1,0⟩),.det (L0.p 1),.det (PV ⟨x2,0⟩),.det (.bool true),.det (PV ⟨n1,0⟩),.det (pt (L0.b 0) 12),.det (PV ⟨y1,0⟩),.det (pt (L0.b 1) 12),.det (PV ⟨y2,0⟩),.det (.bool true),.det (PV ⟨n2,0⟩),.det (pt (L0.b 0) 24),.det (PV ⟨z1,0⟩),.det (pt (L0.b 1) 24),.det (PV ⟨z2,0⟩),.det (.bool true),.det (PV ⟨n3,0⟩),.alloc (PC 0),.alloc (PC 0),.alloc (PC 0),.store (.new 18) 0 (PC ⟨n1,0⟩) (PC ⟨n1,0⟩),.store (.new 19) 0 (PC ⟨n2,0⟩) (PC ⟨n2,0⟩),.store (.new 20) 0 (PC ⟨n3,0⟩) (PC ⟨n3,0⟩)] (nn 24) [0,1,0,4,0,31,0,64,0,256,0,2047,0,4096,0,16384,0,131071,0,0,0,2097151,4194303,8388607] (fun L d=>D d 0 2++([.bool true,L0.p 0,L0.p 1,d 5,L0.p 2,L.p 18,L.p 19,L.p 20]++D d 10 119)) (fun L=>[(L0.b 0,PJC ⟨⟨x1,0⟩,⟨y1,0⟩,⟨z1,0⟩⟩),(L0.b 1,PJC ⟨⟨x2,0⟩,⟨y2,0⟩,⟨z2,0⟩⟩),(L0.b 2,PJC ⟨0,0,0⟩),(L.b 18,PC ⟨n1,0⟩),(L.b 19,PC ⟨n2,0⟩),(L.b 20,PC ⟨n3,0⟩)]) hp1 ⟨
  oF fP0,oL 0 0 rP,oF fP0,oL 1 0 rP,oM,oR (nSR o1 (ref5mulS R x1 x2)),oF fP1,oL 0 12 rP,oF fP1,oL 1 12 rP,oM,oR (nSR o2 (ref5mulS R y1 y2)),oF fP2,
  oL 0 24 rP,oF fP2,oL 1 24 rP,oM,oR (nSR o3 (ref5mulS R z1 z2)),oZ rP,oZ rP,oZ rP,oT rP,oT rP,oT rP,
  trivial⟩ (fun L1 _ w2 hp2=>?_)
 refine sdrD [.det (L0.p 0),.det (PV ⟨x1,0⟩),.det (pt (L0.b 0) 12),.det (PV ⟨y1,0⟩),.det (PV ⟨n4,0⟩),.det (L0.p 1),.det (PV ⟨x2,0⟩),.det (pt (L0.b 1) 12),.det (PV ⟨y2,0⟩),.det (PV ⟨n5,0⟩),.det (.bool true),.det (PV ⟨n6,0⟩),.det (PV ⟨n1,0⟩),.det (PV ⟨n7,0⟩),.det (PV ⟨n2,0⟩),.det (PV ⟨n8,0⟩),.alloc (PC 0),.store (.new 16) 0 (PC ⟨n8,0⟩) (PC ⟨n8,0⟩)] (nn 18) [0,1,0,4,15,0,32,0,128,511,0,2047,0,8191,0,32767,0,131071] (fun L d=>D d 0 2++([.bool true,L0.p 0,L0.p 1,d 5,L0.p 2,L1.p 18,L1.p 19,L1.p 20,L.p 16]++D d 11 118)) (fun L=>[(L0.b 0,PJC ⟨⟨x1,0⟩,⟨y1,0⟩,⟨z1,0⟩⟩),(L0.b 1,PJC ⟨⟨x2,0⟩,⟨y2,0⟩,⟨z2,0⟩⟩),(L0.b 2,PJC ⟨0,0,0⟩),(L1.b 18,PC ⟨n1,0⟩),(L1.b 19,PC ⟨n2,0⟩),(L1.b 20,PC ⟨n3,0⟩),(L.b 16,PC ⟨n8,0⟩)]) hp2 ⟨
  oF fP0,oL 0 0 rP,oF fP1,oL 0 12 rP,oR (nSR o4 (ref5AddS R x1 y1)),oF fP0,oL 1 0 rP,oF fP1,oL 1 12 rP,oR (nSR o5 (ref5AddS R x2 y2)),oM,oR (nSR o6 (ref5mulS R n4 n5)),
  oL 3 0 rP,oR (nSR o7 (ref5SubS R n6 n1)),oL 4 0 rP,oR (nSR o8 (ref5SubS R n7 n2)),oZ rP,oT rP,
  trivial⟩ (fun L2 _ w3 hp3=>?_)
 refine sdrD [.det (pt (L0.b 0) 12),.det (PV ⟨y1,0⟩),.det (pt (L0.b 0) 24),.det (PV ⟨z1,0⟩),.det (PV ⟨n9,0⟩),.det (pt (L0.b 1) 12),.det (PV ⟨y2,0⟩),.det (pt (L0.b 1) 24),.det (PV ⟨z2,0⟩),.det (PV ⟨n10,0⟩),.det (.bool true),.det (PV ⟨n11,0⟩),.det (PV ⟨n2,0⟩),.det (PV ⟨n12,0⟩),.det (PV ⟨n3,0⟩),.det (PV ⟨n13,0⟩),.alloc (PC 0),.store (.new 16) 0 (PC ⟨n13,0⟩) (PC ⟨n13,0⟩)] (nn 18) [0,1,0,4,15,0,32,0,128,511,0,2047,0,8191,0,32767,0,131071] (fun L d=>D d 0 2++([.bool true,L0.p 0,L0.p 1,d 5,L0.p 2,L1.p 18,L1.p 19,L1.p 20,L2.p 16,L.p 16]++D d 12 117)) (fun L=>[(L0.b 0,PJC ⟨⟨x1,0⟩,⟨y1,0⟩,⟨z1,0⟩⟩),(L0.b 1,PJC ⟨⟨x2,0⟩,⟨y2,0⟩,⟨z2,0⟩⟩),(L0.b 2,PJC ⟨0,0,0⟩),(L1.b 18,PC ⟨n1,0⟩),(L1.b 19,PC ⟨n2,0⟩),(L1.b 20,PC ⟨n3,0⟩),(L2.b 16,PC ⟨n8,0⟩),(L.b 16,PC ⟨n13,0⟩)]) hp3 ⟨
  oF fP1,oL 0 12 rP,oF fP2,oL 0 24 rP,oR (nSR o9 (ref5AddS R y1 z1)),oF fP1,oL 1 12 rP,oF fP2,oL 1 24 rP,oR (nSR o10 (ref5AddS R y2 z2)),oM,oR (nSR o11 (ref5mulS R n9 n10)),
  oL 4 0 rP,oR (nSR o12 (ref5SubS R n11 n2)),oL 5 0 rP,oR (nSR o13 (ref5SubS R n12 n3)),oZ rP,oT rP,
  trivial⟩ (fun L3 _ w4 hp4=>?_)
 refine sdrD [.det (L0.p 0),.det (PV ⟨x1,0⟩),.det (pt (L0.b 0) 24),.det (PV ⟨z1,0⟩),.det (PV ⟨n14,0⟩),.det (L0.p 1),.det (PV ⟨x2,0⟩),.det (pt (L0.b 1) 24),.det (PV ⟨z2,0⟩),.det (PV ⟨n15,0⟩),.det (.bool true),.det (PV ⟨n16,0⟩),.det (PV ⟨n1,0⟩),.det (PV ⟨n17,0⟩),.det (PV ⟨n3,0⟩),.det (PV ⟨n18,0⟩),.alloc (PC 0),.store (.new 16) 0 (PC ⟨n18,0⟩) (PC ⟨n18,0⟩)] (nn 18) [0,1,0,4,15,0,32,0,128,511,0,2047,0,8191,0,32767,0,131071] (fun L d=>D d 0 2++([.bool true]++(D d 3 3++([L0.p 2,L1.p 18,L1.p 19,L1.p 20,L2.p 16,L3.p 16,L.p 16]++D d 13 116)))) (fun L=>[(L0.b 0,PJC ⟨⟨x1,0⟩,⟨y1,0⟩,⟨z1,0⟩⟩),(L0.b 1,PJC ⟨⟨x2,0⟩,⟨y2,0⟩,⟨z2,0⟩⟩),(L0.b 2,PJC ⟨0,0,0⟩),(L1.b 18,PC ⟨n1,0⟩),(L1.b 19,PC ⟨n2,0⟩),(L1.b 20,PC ⟨n3,0⟩),(L2.b 16,PC ⟨n8,0⟩),(L3.b 16,PC ⟨n13,0⟩),(L.b 16,PC ⟨n18,0⟩)]) hp4 ⟨
  oF fP0,oL 0 0 rP,oF fP2,oL 0 24 rP,oR (nSR o14 (ref5AddS R x1 z1)),oF fP0,oL 1 0 rP,oF fP2,oL 1 24 rP,oR (nSR o15 (ref5AddS R x2 z2)),oM,oR (nSR o16 (ref5mulS R n14 n15)),
  oL 3 0 rP,oR (nSR o17 (ref5SubS R n16 n1)),oL 5 0 rP,oR (nSR o18 (ref5SubS R n17 n3)),oZ rP,oT rP,
  trivial⟩ (fun L4 _ w5 hp5=>?_)
 refine sdrD [.det (PV ⟨n1,0⟩),.det (PV ⟨n1,0⟩),.det (PV ⟨n19,0⟩),.det (PV ⟨n1,0⟩),.det (PV ⟨n20,0⟩),.store (.base 3) 0 (PC ⟨n20,0⟩) (PC ⟨n20,0⟩)] (nn 6) [0,0,3,0,15,31] (fun L d=>D d 0 2++([.bool true]++(D d 3 3++([L0.p 2,L1.p 18,L1.p 19,L1.p 20,L2.p 16,L3.p 16,L4.p 16]++D d 13 116)))) (fun L=>[(L0.b 0,PJC ⟨⟨x1,0⟩,⟨y1,0⟩,⟨z1,0⟩⟩),(L0.b 1,PJC ⟨⟨x2,0⟩,⟨y2,0⟩,⟨z2,0⟩⟩),(L0.b 2,PJC ⟨0,0,0⟩),(L1.b 18,PC ⟨n20,0⟩),(L1.b 19,PC ⟨n2,0⟩),(L1.b 20,PC ⟨n3,0⟩),(L2.b 16,PC ⟨n8,0⟩),(L3.b 16,PC ⟨n13,0⟩),(L4.b 16,PC ⟨n18,0⟩)]) hp5 ⟨
  oL 3 0 rP,oL 3 0 rP,oR (nSR o19 (ref5AddS R n1 n1)),oL 3 0 rP,oR (nSR o20 (ref5AddS R n19 n1)),oT rP,
  trivial⟩ (fun L5 _ w6 hp6=>?_)
 refine sgsD [.det (PV ⟨n3,0⟩),.det (.bool true),.det (PV ⟨n21,0⟩),.store (.base 5) 0 (PC ⟨n21,0⟩) (PC ⟨n21,0⟩)] [0,1,2,3] [0,0,3,7] (fun L d=>D d 0 2++([.bool true]++(D d 3 3++([L0.p 2,L1.p 18,L1.p 19,L1.p 20,L2.p 16,L3.p 16,L4.p 16]++D d 13 116)))) (fun L=>[(L0.b 0,PJC ⟨⟨x1,0⟩,⟨y1,0⟩,⟨z1,0⟩⟩),(L0.b 1,PJC ⟨⟨x2,0⟩,⟨y2,0⟩,⟨z2,0⟩⟩),(L0.b 2,PJC ⟨0,0,0⟩),(L1.b 18,PC ⟨n20,0⟩),(L1.b 19,PC ⟨n2,0⟩),(L1.b 20,PC ⟨n21,0⟩),(L2.b 16,PC ⟨n8,0⟩),(L3.b 16,PC ⟨n13,0⟩),(L4.b 16,PC ⟨n18,0⟩)]) hp6 ⟨
  oL 5 0 rP,oM,oR (nSR o21 (ref5b3S R n3)),oT rP,
  trivial⟩ (fun L6 _ w7 hp7=>?_)
 refine sgsD [.det (PV ⟨n2,0⟩),.det (PV ⟨n21,0⟩),.det (PV ⟨n22,0⟩),.alloc (PC 0),.store (.new 3) 0 (PC ⟨n22,0⟩) (PC ⟨n22,0⟩)] (nn 5) [0,0,3,0,15] (fun L d=>D d 0 2++([.bool true]++(D d 3 3++([L0.p 2,L1.p 18,L1.p 19,L1.p 20,L2.p 16,L3.p 16,L4.p 16,L.p 3]++D d 14 115)))) (fun L=>[(L0.b 0,PJC ⟨⟨x1,0⟩,⟨y1,0⟩,⟨z1,0⟩⟩),(L0.b 1,PJC ⟨⟨x2,0⟩,⟨y2,0⟩,⟨z2,0⟩⟩),(L0.b 2,PJC ⟨0,0,0⟩),(L1.b 18,PC ⟨n20,0⟩),(L1.b 19,PC ⟨n2,0⟩),(L1.b 20,PC ⟨n21,0⟩),(L2.b 16,PC ⟨n8,0⟩),(L3.b 16,PC ⟨n13,0⟩),(L4.b 16,PC ⟨n18,0⟩),(L.b 3,PC ⟨n22,0⟩)]) hp7 ⟨
  oL 4 0 rP,oL 5 0 rP,oR (nSR o22 (ref5AddS R n2 n21)),oZ rP,oT rP,
  trivial⟩ (fun L7 _ w8 hp8=>?_)
 refine sgsD [.det (PV ⟨n2,0⟩),.det (PV ⟨n21,0⟩),.det (PV ⟨n23,0⟩),.store (.base 4) 0 (PC ⟨n23,0⟩) (PC ⟨n23,0⟩)] [0,1,2,3] [0,0,3,7] (fun L d=>D d 0 2++([.bool true]++(D d 3 3++([L0.p 2,L1.p 18,L1.p 19,d 9,L2.p 16,L3.p 16,L4.p 16,L7.p 3]++D d 14 115)))) (fun L=>[(L0.b 0,PJC ⟨⟨x1,0⟩,⟨y1,0⟩,⟨z1,0⟩⟩),(L0.b 1,PJC ⟨⟨x2,0⟩,⟨y2,0⟩,⟨z2,0⟩⟩),(L0.b 2,PJC ⟨0,0,0⟩),(L1.b 18,PC ⟨n20,0⟩),(L1.b 19,PC ⟨n23,0⟩),(L1.b 20,PC ⟨n21,0⟩),(L2.b 16,PC ⟨n8,0⟩),(L3.b 16,PC ⟨n13,0⟩),(L4.b 16,PC ⟨n18,0⟩),(L7.b 3,PC ⟨n22,0⟩)]) hp8 ⟨
  oL 4 0 rP,oL 5 0 rP,oR (nSR o23 (ref5SubS R n2 n21)),oT rP,
  trivial⟩ (fun L8 _ w9 hp9=>?_)
 refine sgsD [.det (PV ⟨n18,0⟩),.det (.bool true),.det (PV ⟨n24,0⟩),.store (.base 8) 0 (PC ⟨n24,0⟩) (PC ⟨n24,0⟩)] [0,1,2,3] [0,0,3,7] (fun L d=>D d 0 2++([.bool true]++(D d 3 3++([L0.p 2,L1.p 18,L1.p 19,d 9,L2.p 16,L3.p 16,L4.p 16,L7.p 3]++D d 14 115)))) (fun L=>[(L0.b 0,PJC ⟨⟨x1,0⟩,⟨y1,0⟩,⟨z1,0⟩⟩),(L0.b 1,PJC ⟨⟨x2,0⟩,⟨y2,0⟩,⟨z2,0⟩⟩),(L0.b 2,PJC ⟨0,0,0⟩),(L1.b 18,PC ⟨n20,0⟩),(L1.b 19,PC ⟨n23,0⟩),(L1.b 20,PC ⟨n21,0⟩),(L2.b 16,PC ⟨n8,0⟩),(L3.b 16,PC ⟨n13,0⟩),(L4.b 16,PC ⟨n24,0⟩),(L7.b 3,PC ⟨n22,0⟩)]) hp9 ⟨
  oL 8 0 rP,oM,oR (nSR o24 (ref5b3S R n18)),oT rP,
  trivial⟩ (fun L9 _ w10 hp10=>?_)
 refine sdrD [.det (PV ⟨n8,0⟩),.det (PV ⟨n23,0⟩),.det (.bool true),.det (PV ⟨n25,0⟩),.det (PV ⟨n13,0⟩),.det (PV ⟨n24,0⟩),.det (.bool true),.det (PV ⟨n26,0⟩),.det (PV ⟨n27,0⟩),.alloc (PC 0),.store (.new 9) 0 (PC ⟨n27,0⟩) (PC ⟨n27,0⟩)] (nn 11) [0,0,0,7,0,0,0,127,255,0,1023] (fun L d=>D d 0 2++([.bool true]++(D d 3 3++([L0.p 2,L1.p 18,L1.p 19,d 9,L2.p 16,L3.p 16,L4.p 16,L7.p 3,L.p 9]++D d 15 114)))) (fun L=>[(L0.b 0,PJC ⟨⟨x1,0⟩,⟨y1,0⟩,⟨z1,0⟩⟩),(L0.b 1,PJC ⟨⟨x2,0⟩,⟨y2,0⟩,⟨z2,0⟩⟩),(L0.b 2,PJC ⟨0,0,0⟩),(L1.b 18,PC ⟨n20,0⟩),(L1.b 19,PC ⟨n23,0⟩),(L1.b 20,PC ⟨n21,0⟩),(L2.b 16,PC ⟨n8,0⟩),(L3.b 16,PC ⟨n13,0⟩),(L4.b 16,PC ⟨n24,0⟩),(L7.b 3,PC ⟨n22,0⟩),(L.b 9,PC ⟨n27,0⟩)]) hp10 ⟨
  oL 6 0 rP,oL 4 0 rP,oM,oR (nSR o25 (ref5mulS R n8 n23)),oL 7 0 rP,oL 8 0 rP,oM,oR (nSR o26 (ref5mulS R n13 n24)),oR (nSR o27 (ref5SubS R n25 n26)),oZ rP,
  oT rP,
  trivial⟩ (fun L10 _ w11 hp11=>?_)
 refine sdrD [.det (PV ⟨n23,0⟩),.det (PV ⟨n22,0⟩),.det (.bool true),.det (PV ⟨n28,0⟩),.det (PV ⟨n24,0⟩),.det (PV ⟨n20,0⟩),.det (.bool true),.det (PV ⟨n29,0⟩),.det (PV ⟨n30,0⟩),.store (.base 8) 0 (PC ⟨n30,0⟩) (PC ⟨n30,0⟩)] (nn 10) [0,0,0,7,0,0,0,127,255,511] (fun L d=>D d 0 2++([.bool true]++(D d 3 3++([L0.p 2,L1.p 18]++(D d 8 2++([L2.p 16,L3.p 16,L4.p 16,L7.p 3,L10.p 9]++D d 15 114)))))) (fun L=>[(L0.b 0,PJC ⟨⟨x1,0⟩,⟨y1,0⟩,⟨z1,0⟩⟩),(L0.b 1,PJC ⟨⟨x2,0⟩,⟨y2,0⟩,⟨z2,0⟩⟩),(L0.b 2,PJC ⟨0,0,0⟩),(L1.b 18,PC ⟨n20,0⟩),(L1.b 19,PC ⟨n23,0⟩),(L1.b 20,PC ⟨n21,0⟩),(L2.b 16,PC ⟨n8,0⟩),(L3.b 16,PC ⟨n13,0⟩),(L4.b 16,PC ⟨n30,0⟩),(L7.b 3,PC ⟨n22,0⟩),(L10.b 9,PC ⟨n27,0⟩)]) hp11 ⟨
  oL 4 0 rP,oL 9 0 rP,oM,oR (nSR o28 (ref5mulS R n23 n22)),oL 8 0 rP,oL 3 0 rP,oM,oR (nSR o29 (ref5mulS R n24 n20)),oR (nSR o30 (ref5AddS R n28 n29)),
  oT rP,
  trivial⟩ (fun L11 _ w12 hp12=>?_)
 refine sdrD [.det (PV ⟨n22,0⟩),.det (PV ⟨n13,0⟩),.det (.bool true),.det (PV ⟨n31,0⟩),.det (PV ⟨n20,0⟩),.det (PV ⟨n8,0⟩),.det (.bool true),.det (PV ⟨n32,0⟩),.det (PV ⟨n33,0⟩),.store (.base 9) 0 (PC ⟨n33,0⟩) (PC ⟨n33,0⟩)] (nn 10) [0,0,0,7,0,0,0,127,255,511] (fun L d=>D d 0 6++([L0.p 2]++(D d 7 5++([L4.p 16,L7.p 3,L10.p 9]++D d 15 114)))) (fun L=>[(L0.b 0,PJC ⟨⟨x1,0⟩,⟨y1,0⟩,⟨z1,0⟩⟩),(L0.b 1,PJC ⟨⟨x2,0⟩,⟨y2,0⟩,⟨z2,0⟩⟩),(L0.b 2,PJC ⟨0,0,0⟩),(L1.b 18,PC ⟨n20,0⟩),(L1.b 19,PC ⟨n23,0⟩),(L1.b 20,PC ⟨n21,0⟩),(L2.b 16,PC ⟨n8,0⟩),(L3.b 16,PC ⟨n13,0⟩),(L4.b 16,PC ⟨n30,0⟩),(L7.b 3,PC ⟨n33,0⟩),(L10.b 9,PC ⟨n27,0⟩)]) hp12 ⟨
  oL 9 0 rP,oL 7 0 rP,oM,oR (nSR o31 (ref5mulS R n22 n13)),oL 3 0 rP,oL 6 0 rP,oM,oR (nSR o32 (ref5mulS R n20 n8)),oR (nSR o33 (ref5AddS R n31 n32)),oT rP,
  trivial⟩ (fun L12 _ w13 hp13=>?_)
 refine sgsD [.det (PV ⟨n27,0⟩),.det (PV ⟨n30,0⟩),.det (PV ⟨n33,0⟩),.det (PJV ⟨⟨n27,0⟩,⟨n30,0⟩,⟨n33,0⟩⟩),.store (.base 2) 0 (PJC ⟨⟨n27,0⟩,⟨n30,0⟩,⟨n33,0⟩⟩) (PJC ⟨⟨n27,0⟩,⟨n30,0⟩,⟨n33,0⟩⟩)] (nn 5) [0,0,0,7,15] (fun L d=>D d 0 6++([L0.p 2]++D d 7 122)) (fun L=>[(L0.b 0,PJC ⟨⟨x1,0⟩,⟨y1,0⟩,⟨z1,0⟩⟩),(L0.b 1,PJC ⟨⟨x2,0⟩,⟨y2,0⟩,⟨z2,0⟩⟩),(L0.b 2,PJC ⟨⟨n27,0⟩,⟨n30,0⟩,⟨n33,0⟩⟩),(L1.b 18,PC ⟨n20,0⟩),(L1.b 19,PC ⟨n23,0⟩),(L1.b 20,PC ⟨n21,0⟩),(L2.b 16,PC ⟨n8,0⟩),(L3.b 16,PC ⟨n13,0⟩),(L4.b 16,PC ⟨n30,0⟩),(L7.b 3,PC ⟨n33,0⟩),(L10.b 9,PC ⟨n27,0⟩)]) hp13 ⟨
  oL 10 0 rP,oL 8 0 rP,oL 9 0 rP,oD (buildPJ012 ⟨n27,0⟩ ⟨n30,0⟩ ⟨n33,0⟩),oT rPJ,
  trivial⟩ (fun L13 _ w14 hp14=>?_)
 refine wp_ret ?_
 refine bodyPost_ret (v:=PJV ⟨⟨n27,0⟩,⟨n30,0⟩,⟨n33,0⟩⟩) ?_ rfl ?_
 ·exact rc rPJ rfl (by kernel_rfl) (hp14.bound 2 rfl).2
 ·exact ⟨fin,hp14.bel⟩
theorem ref5add (R:RefK) (t u:F × F × F) (w:World):Calls Tryz.prog 51 #[PJV (sp t),PJV (sp u),.bool true] w (Ret (PJV (sp (radd12 t u))) w):=ref5addS R t.1 t.2.1 t.2.2 u.1 u.2.1 u.2.2 w
theorem ref5none (R:RefK)  (w:World):Calls Tryz.prog 80 #[] w (Ret (PJV (sp (0,1,0))) w):=by
 have hp0:=Heap.start w
 go_enter Tryz.func80,Tryz.ntmps80
 refine sgs [.alloc (PJC ⟨0,0,0⟩)] [0] [0] (fun L=>[L.p 0,undef,undef]) (fun L=>[(L.b 0,PJC ⟨0,0,0⟩)]) hp0 ⟨
  oZ rPJ,
  trivial⟩ (fun L0 w1 hp1=>?_)
 refine sgsD [.det (PV ⟨1,0⟩),.det (PJV ⟨0,⟨1,0⟩,0⟩),.store (.base 0) 0 (PJC ⟨0,⟨1,0⟩,0⟩) (PJC ⟨0,⟨1,0⟩,0⟩)] [0,1,2] [0,1,3] (fun L d=>[L0.p 0]++D d 1 2) (fun L=>[(L0.b 0,PJC ⟨0,⟨1,0⟩,0⟩)]) hp1 ⟨
  oR (ref5oneS R ),oD (buildPJ1 ⟨1,0⟩),oT rPJ,
  trivial⟩ (fun L1 _ w2 hp2=>?_)
 refine wp_ret ?_
 refine bodyPost_ret (v:=PJV ⟨0,⟨1,0⟩,0⟩) ?_ rfl ?_
 ·exact rc rPJ rfl (by kernel_rfl) (hp2.bound 0 rfl).2
 ·exact ⟨rfl,hp2.bel⟩
theorem ref5of10 (R:RefK) (x y:F) (w:World):Calls Tryz.prog 49 #[GV ⟨x,y,true⟩] w (Ret (PJV (sp (0,1,0))) w):=by
 have hp0:=Heap.start w
 go_enter Tryz.func49,Tryz.ntmps49
 refine sgsD [.alloc (GC ⟨x,y,true⟩),.alloc (PJC ⟨0,0,0⟩)] [0,1] [0,0] (fun L d=>[d 0,L.p 0,L.p 1]++U 11) (fun L=>[(L.b 0,GC ⟨x,y,true⟩),(L.b 1,PJC ⟨0,0,0⟩)]) hp0 ⟨
  oB,oZ rPJ,
  trivial⟩ (fun L0 _ w1 hp1=>?_)
 refine wp_seq_k (fun K2 k2=>?_)
 refine sgsD [.det (pt (L0.b 0) 12),.det (.bool true)] [0,1] [0,1] (fun L d=>D d 0 2++([L0.p 1,d 3,.bool true]++U 9)) (fun L=>[(L0.b 0,GC ⟨x,y,true⟩),(L0.b 1,PJC ⟨0,0,0⟩)]) hp1 ⟨
  oF fG2,oL1 0 12 oneB,
  trivial⟩ (fun L1 _ w2 hp2=>?_)
 refine cT ?_
 refine sgsD [.det (PJV (sp (0,1,0))),.store (.base 1) 0 (PJC (sp (0,1,0))) (PJC (sp (0,1,0)))] [0,1] [0,1] (fun L d=>D d 0 2++([L0.p 1]++D d 3 11)) (fun L=>[(L0.b 0,GC ⟨x,y,true⟩),(L0.b 1,PJC (sp (0,1,0)))]) hp2 ⟨
  oR (ref5none R ),oT rPJ,
  trivial⟩ (fun L2 _ w3 hp3=>?_)
 refine wp_ret ?_
 refine bodyPost_ret (v:=PJV (sp (0,1,0))) ?_ rfl ?_
 ·exact rc rPJ rfl (by kernel_rfl) (hp3.bound 1 rfl).2
 ·exact ⟨rfl,hp3.bel⟩
theorem ref5of11 (R:RefK) (x y:F) (w:World):Calls Tryz.prog 49 #[GV ⟨x,y,false⟩] w (Ret (PJV (sp (x,y,1))) w):=by
 have hp0:=Heap.start w
 go_enter Tryz.func49,Tryz.ntmps49
 refine sgsD [.alloc (GC ⟨x,y,false⟩),.alloc (PJC ⟨0,0,0⟩)] [0,1] [0,0] (fun L d=>[d 0,L.p 0,L.p 1]++U 11) (fun L=>[(L.b 0,GC ⟨x,y,false⟩),(L.b 1,PJC ⟨0,0,0⟩)]) hp0 ⟨
  oB,oZ rPJ,
  trivial⟩ (fun L0 _ w1 hp1=>?_)
 refine wp_seq_k (fun K2 k2=>?_)
 refine sgsD [.det (pt (L0.b 0) 12),.det (.bool false)] [0,1] [0,1] (fun L d=>[d 0,L0.p 0,L0.p 1,d 3,.bool false]++U 9) (fun L=>[(L0.b 0,GC ⟨x,y,false⟩),(L0.b 1,PJC ⟨0,0,0⟩)]) hp1 ⟨
  oF fG2,oL1 0 12 oneB,
  trivial⟩ (fun L1 _ w2 hp2=>?_)
 refine cfk (k2 _ _ ?_)
 refine sdrD [.det (L0.p 0),.det (FV x),.det (PV ⟨x,0⟩),.det (pt (L0.b 0) 6),.det (FV y),.det (PV ⟨y,0⟩),.det (PV ⟨1,0⟩),.det (PJV ⟨⟨x,0⟩,⟨y,0⟩,⟨1,0⟩⟩),.store (.base 1) 0 (PJC ⟨⟨x,0⟩,⟨y,0⟩,⟨1,0⟩⟩) (PJC ⟨⟨x,0⟩,⟨y,0⟩,⟨1,0⟩⟩)] (nn 9) [0,1,3,0,8,24,0,127,255] (fun L d=>D d 0 2++([L0.p 1]++D d 3 11)) (fun L=>[(L0.b 0,GC ⟨x,y,false⟩),(L0.b 1,PJC ⟨⟨x,0⟩,⟨y,0⟩,⟨1,0⟩⟩)]) hp2 ⟨
  oF fG0,oL 0 0 rF,oD (buildPa x),oF fG1,oL 0 6 rF,oD (buildPa y),oR (ref5oneS R ),oD (buildPJ012 ⟨x,0⟩ ⟨y,0⟩ ⟨1,0⟩),oT rPJ,
  trivial⟩ (fun L2 _ w3 hp3=>?_)
 refine wp_ret ?_
 refine bodyPost_ret (v:=PJV ⟨⟨x,0⟩,⟨y,0⟩,⟨1,0⟩⟩) ?_ rfl ?_
 ·exact rc rPJ rfl (by kernel_rfl) (hp3.bound 1 rfl).2
 ·exact ⟨rfl,hp3.bel⟩
def pof:Pt F→F × F × F
 | .inf=>(0,1,0)
 | .aff x y=>(x,y,1)
theorem ref5of1 (R:RefK) (P:Pt F) (w:World):Calls Tryz.prog 49 #[GV (gp P)] w (Ret (PJV (sp (pof P))) w):=by
 cases P with
 | inf=>exact ref5of10 R 0 0 w
 | aff x y=>exact ref5of11 R x y w
def Rep3 (P:Pt F) (t:F × F × F):Prop:=Rep P t.1 t.2.1 t.2.2
theorem rep_of (P:Pt F):Rep3 P (pof P):=by
 cases P with
 | inf=>exact Rep.inf crv1
 | aff x y=>exact Rep.aff crv1 x y
theorem rep_add {P Q:Pt F} (hP:On (4:F) P) (hQ:On (4:F) Q) {t u:F × F × F} (h:Rep3 P t) (h':Rep3 Q u):Rep3 (add finv P Q) (radd12 t u):=Rep.sum crv1 hP hQ h h'
noncomputable def pto (t:F × F × F):Pt F:=if t.2.2=0 then .inf else .aff (t.1*finv t.2.2) (t.2.1*finv t.2.2)
theorem pto_rep {P:Pt F} {t:F × F × F} (h:Rep3 P t):pto t=P:=by
 obtain ⟨c,hc,h⟩:=h
 unfold pto
 cases P with
 | inf=>exact if_pos (h.2.2.trans (Rn.mul_zero c))
 | aff x y =>
  obtain ⟨h0,h1,h2⟩:=h
  rw [Rn.mul_one] at h2
  rw [h0,h1,h2,if_neg hc]
  have e:∀ x:F,c*x*finv c=x:=fun x=>by
   rw [Rn.CR.mul_comm c x,Rn.CR.mul_assoc,finv_mul hc,Rn.mul_one]
  rw [e,e]
theorem ref5to11 (R:RefK) (x y z:F) (w:World) (hz:z≠0):Calls Tryz.prog 47 #[PJV ⟨⟨x,0⟩,⟨y,0⟩,⟨z,0⟩⟩] w (Ret (GV ⟨x*finv z,y*finv z,false⟩) w):=by
 obtain ⟨n1,o1⟩:=nm (x*(finv z))
 obtain ⟨n2,o2⟩:=nm (y*(finv z))
 have fin:Ending.returned (GV ⟨n1,n2,false⟩)=Ending.returned (GV ⟨x*finv z,y*finv z,false⟩):=by subst_vars;exact rfl
 have hp0:=Heap.start w
 go_enter Tryz.func47,Tryz.ntmps47
 refine sgsD [.alloc (PJC ⟨⟨x,0⟩,⟨y,0⟩,⟨z,0⟩⟩),.alloc (GC ⟨0,0,false⟩)] [0,1] [0,0] (fun L d=>[d 0,L.p 0,L.p 1]++U 23) (fun L=>[(L.b 0,PJC ⟨⟨x,0⟩,⟨y,0⟩,⟨z,0⟩⟩),(L.b 1,GC ⟨0,0,false⟩)]) hp0 ⟨
  oB,oZ rG,
  trivial⟩ (fun L0 _ w1 hp1=>?_)
 refine sgsD [.det (pt (L0.b 0) 24),.det (pt (L0.b 0) 24),.det (FV z),.det (.tuple #[FV (finv z),.int .i64 0]),.det (.tuple #[FV (finv z),.int .i64 0]),.det (FV (finv z)),.det (.int .i64 0),.alloc (FC 0),.store (.new 7) 0 (FC (finv z)) (FC (finv z)),.det (.int .i64 0)] (nn 10) [0,1,3,7,15,31,31,0,191,511] (fun L d=>[d 0,L0.p 0,L0.p 1,L.p 7,.int .i64 0]++D d 5 21) (fun L=>[(L0.b 0,PJC ⟨⟨x,0⟩,⟨y,0⟩,⟨z,0⟩⟩),(L0.b 1,GC ⟨0,0,false⟩),(L.b 7,FC (finv z))]) hp1 ⟨
  oF fP2,oI aP,oL 0 24 rF,oH (v:=.tuple #[FV (finv z),.int .i64 0]) (vs:=#[FV z]) (fun w _ _=>R.inv z w trivial hz),oM,oX,oX,oZ rF,oT rF,oA,
  trivial⟩ (fun L1 _ w2 hp2=>?_)
 refine wp_seq_k (fun K3 k3=>?_)
 refine sgsD [.det (.int .i64 0),.det (.bool false)] [0,1] [0,1] (fun L d=>[d 0,L0.p 0,L0.p 1,L1.p 7]++(D d 4 9++([.bool false]++D d 14 12))) (fun L=>[(L0.b 0,PJC ⟨⟨x,0⟩,⟨y,0⟩,⟨z,0⟩⟩),(L0.b 1,GC ⟨0,0,false⟩),(L1.b 7,FC (finv z))]) hp2 ⟨
  oM,oJ .i64 .i64 0 0 (h:=fun w=>(neqI _ _ _ _ w).trans rfl),
  trivial⟩ (fun L2 _ w3 hp3=>?_)
 refine cfk (k3 _ _ ?_)
 refine sdrD [.det (L0.p 0),.det (L0.p 0),.det (FV x),.det (FV (finv z)),.det (FV n1),.det (pt (L0.b 0) 12),.det (pt (L0.b 0) 12),.det (FV y),.det (FV (finv z)),.det (FV n2),.det (GV ⟨n1,n2,false⟩),.store (.base 1) 0 (GC ⟨n1,n2,false⟩) (GC ⟨n1,n2,false⟩)] (nn 12) [0,1,3,0,15,0,32,96,0,511,1023,2047] (fun L d=>D d 0 2++([L0.p 1]++D d 3 23)) (fun L=>[(L0.b 0,PJC ⟨⟨x,0⟩,⟨y,0⟩,⟨z,0⟩⟩),(L0.b 1,GC ⟨n1,n2,false⟩),(L1.b 7,FC (finv z))]) hp3 ⟨
  oF fP0,oI aP,oL 0 0 rF,oL 2 0 rF,oR (nFR o1 (fun w=>R.mul x (finv z) w trivial)),oF fP1,oI aP,oL 0 12 rF,oL 2 0 rF,oR (nFR o2 (fun w=>R.mul y (finv z) w trivial)),
  oD (buildG01 n1 n2),oT rG,
  trivial⟩ (fun L3 _ w4 hp4=>?_)
 refine wp_ret ?_
 refine bodyPost_ret (v:=GV ⟨n1,n2,false⟩) ?_ rfl ?_
 ·exact rc rG rfl (by kernel_rfl) (hp4.bound 1 rfl).2
 ·exact ⟨fin,hp4.bel⟩
theorem ref5to10 (R:RefK) (x y:F) (w:World):Calls Tryz.prog 47 #[PJV ⟨⟨x,0⟩,⟨y,0⟩,⟨0,0⟩⟩] w (Ret (GV ⟨0,0,true⟩) w):=by
 have hp0:=Heap.start w
 go_enter Tryz.func47,Tryz.ntmps47
 refine sgsD [.alloc (PJC ⟨⟨x,0⟩,⟨y,0⟩,⟨0,0⟩⟩),.alloc (GC ⟨0,0,false⟩)] [0,1] [0,0] (fun L d=>[d 0,L.p 0,L.p 1]++U 23) (fun L=>[(L.b 0,PJC ⟨⟨x,0⟩,⟨y,0⟩,⟨0,0⟩⟩),(L.b 1,GC ⟨0,0,false⟩)]) hp0 ⟨
  oB,oZ rG,
  trivial⟩ (fun L0 _ w1 hp1=>?_)
 refine sgsD [.det (pt (L0.b 0) 24),.det (pt (L0.b 0) 24),.det (FV 0),.det (.tuple #[FV 0,.int .i64 7]),.det (.tuple #[FV 0,.int .i64 7]),.det (FV 0),.det (.int .i64 7),.alloc (FC 0),.store (.new 7) 0 (FC 0) (FC 0),.det (.int .i64 7)] (nn 10) [0,1,3,7,15,31,31,0,191,511] (fun L d=>D d 0 2++([L0.p 1,d 3,.int .i64 7]++D d 5 21)) (fun L=>[(L0.b 0,PJC ⟨⟨x,0⟩,⟨y,0⟩,⟨0,0⟩⟩),(L0.b 1,GC ⟨0,0,false⟩),(L.b 7,FC 0)]) hp1 ⟨
  oF fP2,oI aP,oL 0 24 rF,oR (fun w=>R.inv0 w trivial),oM,oX,oX,oZ rF,oT rF,oA,
  trivial⟩ (fun L1 _ w2 hp2=>?_)
 refine wp_seq_k (fun K3 k3=>?_)
 refine sgsD [.det (.int .i64 7),.det (.bool true)] [0,1] [0,1] (fun L d=>D d 0 2++([L0.p 1]++(D d 3 10++([.bool true]++D d 14 12)))) (fun L=>[(L0.b 0,PJC ⟨⟨x,0⟩,⟨y,0⟩,⟨0,0⟩⟩),(L0.b 1,GC ⟨0,0,false⟩),(L1.b 7,FC 0)]) hp2 ⟨
  oM,oJ .i64 .i64 7 0 (h:=fun w=>(neqI _ _ _ _ w).trans rfl),
  trivial⟩ (fun L2 _ w3 hp3=>?_)
 refine cT ?_
 refine sgsD [.det (GV ⟨0,0,true⟩),.store (.base 1) 0 (GC ⟨0,0,true⟩) (GC ⟨0,0,true⟩)] [0,1] [0,1] (fun L d=>D d 0 2++([L0.p 1]++D d 3 23)) (fun L=>[(L0.b 0,PJC ⟨⟨x,0⟩,⟨y,0⟩,⟨0,0⟩⟩),(L0.b 1,GC ⟨0,0,true⟩),(L1.b 7,FC 0)]) hp3 ⟨
  oD (buildGi true),oT rG,
  trivial⟩ (fun L3 _ w4 hp4=>?_)
 refine wp_ret ?_
 refine bodyPost_ret (v:=GV ⟨0,0,true⟩) ?_ rfl ?_
 ·exact rc rG rfl (by kernel_rfl) (hp4.bound 1 rfl).2
 ·exact ⟨rfl,hp4.bel⟩
theorem ref5to1 (R:RefK) (t:F × F × F) (w:World):Calls Tryz.prog 47 #[PJV (sp t)] w (Ret (GV (gp (pto t))) w):=by
 obtain ⟨x,y,z⟩:=t
 unfold pto
 by_cases hz:z=0
 ·subst hz;rw [if_pos rfl];exact ref5to10 R x y w
 ·rw [if_neg hz];exact ref5to11 R x y z w hz
theorem lad_succ (t:F × F × F) (f e:Nat):lad (4+4+4) t.1 t.2.1 t.2.2 (f+1) e=if e%2=1 then radd12 (radd12 (lad (4+4+4) t.1 t.2.1 t.2.2 f (e / 2)) (lad (4+4+4) t.1 t.2.1 t.2.2 f (e / 2))) t else radd12 (lad (4+4+4) t.1 t.2.1 t.2.2 f (e / 2)) (lad (4+4+4) t.1 t.2.1 t.2.2 f (e / 2)):=rfl
theorem half_half (E j:Nat):E / 2^j / 2=E / 2^(j+1):=by rw [Nat.pow_succ,Nat.div_div_eq_div_mul]
theorem lad_even {t y:F × F × F} {n E j:Nat} (hL:j+1≤64*n) (hy:y=lad (4+4+4) t.1 t.2.1 t.2.2 (64*n-(j+1)) (E / 2^(j+1))) (hb:E / 2^j%2=0):radd12 y y=lad (4+4+4) t.1 t.2.1 t.2.2 (64*n-j) (E / 2^j):=by
 rw [show 64*n-j=(64*n-(j+1))+1 by omega,lad_succ,half_half,← hy,if_neg (by omega)]
theorem lad_odd {t y:F × F × F} {n E j:Nat} (hL:j+1≤64*n) (hy:y=lad (4+4+4) t.1 t.2.1 t.2.2 (64*n-(j+1)) (E / 2^(j+1))) (hb:E / 2^j%2=1):radd12 (radd12 y y) t=lad (4+4+4) t.1 t.2.1 t.2.2 (64*n-j) (E / 2^j):=by
 rw [show 64*n-j=(64*n-(j+1))+1 by omega,lad_succ,half_half,← hy,if_pos hb]
def timesI (t:F × F × F) (p:Option Addr) (n c E:Nat) (w:World) (b3 b6 b7:Nat):Nat→Act→World→Prop:=fun L a' w'=>∃ (y:F × F × F) (u4 u5 u9 u10 u11 u12 u13 u14 u15 u16 u17 u18 u19 u20 u21 u22 u23 u24 u25 u26 u27 u28 u29:Value),
 a'={ tmps:=#[PJV (sp t),.slice p n c,.bool true,.pointer (some ⟨b3,0,none⟩),u4,u5,.pointer (some ⟨b6,0,none⟩),.pointer (some ⟨b7,0,none⟩),.int .i64 ((L:Int)-1),u9,u10,u11,u12,u13,u14,u15,u16,u17,u18,u19,u20,u21,u22,u23,u24,u25,u26,u27,u28,u29],defers:=[] }∧L≤64*n∧y=lad (4+4+4) t.1 t.2.1 t.2.2 (64*n-L) (E / 2^L)∧Heap w.heap.size w w' [(b3,PJC (sp t)),(b6,PJC ⟨0,0,0⟩),(b7,PJC (sp y))]
theorem ref5times (R:RefK) (t:F × F × F) (p:Option Addr) (n c:Nat) (g:Nat→Int) (E:Nat) (w:World) (hn:n≤24) (he:At w p n g) (rg:Rg g n) (hE:val g n=(E:Int)):Calls Tryz.prog 48 #[PJV (sp t),.slice p n c,.bool true] w (Ret (PJV (sp (lad (4+4+4) t.1 t.2.1 t.2.2 (64*n) E))) w):=by
 have hp0:=Heap.start w
 go_enter Tryz.func48,Tryz.ntmps48
 refine sgs [.alloc (PJC (sp t)),.alloc (PJC ⟨0,0,0⟩)] [0,1] [0,0] (fun L=>[PJV (sp t),.slice p n c,.bool true,L.p 0,undef,undef,L.p 1]++U 23) (fun L=>[(L.b 0,PJC (sp t)),(L.b 1,PJC ⟨0,0,0⟩)]) hp0 ⟨
  oB,oZ rPJ,
  trivial⟩ (fun L0 w1 hp1=>?_)
 refine sgs [.det (PJV (sp (0,1,0))),.alloc (PJC ⟨0,0,0⟩),.store (.new 1) 0 (PJC (sp (0,1,0))) (PJC (sp (0,1,0)))] [0,1,2] [0,0,3] (fun L=>[PJV (sp t),.slice p n c,.bool true,L0.p 0,undef,undef,L0.p 1,L.p 1,undef,PJV (sp (0,1,0))]++U 20) (fun L=>[(L0.b 0,PJC (sp t)),(L0.b 1,PJC ⟨0,0,0⟩),(L.b 1,PJC (sp (0,1,0)))]) hp1 ⟨
  oR (ref5none R ),oZ rPJ,oT rPJ,
  trivial⟩ (fun L1 w2 hp2=>?_)
 refine wp_seq_k (fun K3 k3=>?_)
 refine sgs [.det (.slice p n c),.det (.int .i64 n),.det (.int .i64 ((64*n:Nat):Int)),.det (.int .i64 (((64*n:Nat):Int)-1)),.det (.int .i64 (((64*n:Nat):Int)-1))] (nn 5) [0,1,3,7,15] (fun L=>[PJV (sp t),.slice p n c,.bool true,L0.p 0,undef,undef,L0.p 1,L1.p 1,.int .i64 (((64*n:Nat):Int)-1),PJV (sp (0,1,0)),.slice p n c,.int .i64 n,.int .i64 ((64*n:Nat):Int),.int .i64 (((64*n:Nat):Int)-1)]++U 16) (fun L=>[(L0.b 0,PJC (sp t)),(L0.b 1,PJC ⟨0,0,0⟩),(L1.b 1,PJC (sp (0,1,0)))]) hp2 ⟨
  oM,fun h=>⟨ob_len (p:=p) (n:=n) (c:=c) (fun _=>rfl) h rfl (fun _=>by kernel_rfl) Tryz.underlying54⟩,oJ .i64 .i64 64 n (h:=fun w=>mul64 _ n (by omega) w),
  oJ .i64 .i64 ((64*n:Nat):Int) 1 (h:=fun w=>sub3 _ (64*n) (by omega) w),oA,
  trivial⟩ (fun L2 w3 hp3=>?_)
 refine wp_block_k (fun K5 k5=>?_)
 refine wp_loop_ghost (timesI t p n c E w (L0.b 0) (L0.b 1) (L1.b 1)) (64*n) ⟨(0,1,0),undef,undef,PJV (sp (0,1,0)),.slice p n c,.int .i64 n,.int .i64 ((64*n:Nat):Int),.int .i64 (((64*n:Nat):Int)-1),undef,undef,undef,undef,undef,undef,undef,undef,undef,undef,undef,undef,undef,undef,undef,undef,rfl,Nat.le_refl _,by rw [Nat.sub_self];rfl,hp3⟩ ?_
 rintro L a' W ⟨y,u4,u5,u9,u10,u11,u12,u13,u14,u15,u16,u17,u18,u19,u20,u21,u22,u23,u24,u25,u26,u27,u28,u29,rfl,hL,hy,hJ⟩
 by_cases hL0:L=0
 rotate_left
 ·skip
  obtain ⟨j,rfl⟩:∃ j,L=j+1:=⟨L-1,by omega⟩
  rw [show (((j+1:Nat):Int)-1)=(j:Int) by omega]
  rcases (show E / 2^j%2=0∨E / 2^j%2=1 by omega) with hb0 | hb1
  ·skip
   refine wp_seq_k (fun K6 k6=>?_)
   refine sgs [.det (.int .i64 (j:Int)),.det (.bool true)] [0,1] [0,1] (fun L=>[PJV (sp t),.slice p n c,.bool true,L0.p 0,u4,u5,L0.p 1,L1.p 1,.int .i64 (j:Int),u9,u10,u11,u12,u13,.int .i64 (j:Int),.bool true,u16,u17,u18,u19,u20,u21,u22,u23,u24,u25,u26,u27,u28,u29]) (fun L=>[(L0.b 0,PJC (sp t)),(L0.b 1,PJC ⟨0,0,0⟩),(L1.b 1,PJC (sp y))]) hJ ⟨
    oM,oJ .i64 .i64 (j:Int) 0 (h:=fun w=>(geqI _ _ _ w).trans (by rw [decide_eq_true (by omega)])),
    trivial⟩ (fun L3 w4 hp4=>?_)
   refine cT ?_
   refine skips ?_
   refine k6 _ _ ?_
   refine wp_seq_k (fun K8 k8=>?_)
   refine wp_block_k (fun K9 k9=>?_)
   refine sgs [.det (PJV (sp y)),.det (PJV (sp y)),.det (.bool true),.det (PJV (sp (radd12 y y))),.store (.base 2) 0 (PJC (sp (radd12 y y))) (PJC (sp (radd12 y y)))] (nn 5) [0,0,0,7,15] (fun L=>[PJV (sp t),.slice p n c,.bool true,L0.p 0,u4,u5,L0.p 1,L1.p 1,.int .i64 (j:Int),u9,u10,u11,u12,u13,.int .i64 (j:Int),.bool true,u16,u17,PJV (sp y),PJV (sp y),.bool true,PJV (sp (radd12 y y)),u22,u23,u24,u25,u26,u27,u28,u29]) (fun L=>[(L0.b 0,PJC (sp t)),(L0.b 1,PJC ⟨0,0,0⟩),(L1.b 1,PJC (sp (radd12 y y)))]) hp4 ⟨
    oL 2 0 rPJ,oL 2 0 rPJ,oM,oR (ref5add R y y),oT rPJ,
    trivial⟩ (fun L4 w5 hp5=>?_)
   refine sgs [.det (.slice p n c),.det (.int .i64 (j:Int)),.det (.bool false)] [0,1,2] [0,0,3] (fun L=>[PJV (sp t),.slice p n c,.bool true,L0.p 0,u4,u5,L0.p 1,L1.p 1,.int .i64 (j:Int),u9,u10,u11,u12,u13,.int .i64 (j:Int),.bool true,u16,u17,PJV (sp y),PJV (sp y),.bool true,PJV (sp (radd12 y y)),.slice p n c,.int .i64 (j:Int),.bool false,u25,u26,u27,u28,u29]) (fun L=>[(L0.b 0,PJC (sp t)),(L0.b 1,PJC ⟨0,0,0⟩),(L1.b 1,PJC (sp (radd12 y y)))]) hp5 ⟨
    oM,oM,oH (v:=.bool false) (vs:=#[.slice p n c,.int .i64 (j:Int)]) (fun w hb _=>bitRN p n c g E j w (by omega) (by omega) (AtK.below he hb) rg hE (by rw [hb0];rfl)),
    trivial⟩ (fun L5 w6 hp6=>?_)
   refine cF ?_
   refine skips ?_
   refine k9 _ _ _ ?_
   refine block_normal ?_
   refine k8 _ _ ?_
   refine gs [.det (.int .i64 (j:Int)),.det (.int .i64 ((j:Int)-1)),.det (.int .i64 ((j:Int)-1))] [0,1,2] [0,1,3] (fun L=>[PJV (sp t),.slice p n c,.bool true,L0.p 0,u4,u5,L0.p 1,L1.p 1,.int .i64 ((j:Int)-1),u9,u10,u11,u12,u13,.int .i64 (j:Int),.bool true,.int .i64 (j:Int),.int .i64 ((j:Int)-1),PJV (sp y),PJV (sp y),.bool true,PJV (sp (radd12 y y)),.slice p n c,.int .i64 (j:Int),.bool false,u25,u26,u27,u28,u29]) (fun L=>[(L0.b 0,PJC (sp t)),(L0.b 1,PJC ⟨0,0,0⟩),(L1.b 1,PJC (sp (radd12 y y)))]) hp6 ⟨
    oM,oJ .i64 .i64 (j:Int) 1 (h:=fun w=>sub3 _ j (by omega) w),oA,
    trivial⟩ (fun L6 w7 hp7=>?_)
   exact ⟨j,Nat.lt_succ_self _,radd12 y y,u4,u5,u9,u10,u11,u12,u13,.int .i64 (j:Int),.bool true,.int .i64 (j:Int),.int .i64 ((j:Int)-1),PJV (sp y),PJV (sp y),.bool true,PJV (sp (radd12 y y)),.slice p n c,.int .i64 (j:Int),.bool false,u25,u26,u27,u28,u29,rfl,by omega,lad_even hL hy hb0,hp7⟩
  ·skip
   refine wp_seq_k (fun K12 k12=>?_)
   refine sgs [.det (.int .i64 (j:Int)),.det (.bool true)] [0,1] [0,1] (fun L=>[PJV (sp t),.slice p n c,.bool true,L0.p 0,u4,u5,L0.p 1,L1.p 1,.int .i64 (j:Int),u9,u10,u11,u12,u13,.int .i64 (j:Int),.bool true,u16,u17,u18,u19,u20,u21,u22,u23,u24,u25,u26,u27,u28,u29]) (fun L=>[(L0.b 0,PJC (sp t)),(L0.b 1,PJC ⟨0,0,0⟩),(L1.b 1,PJC (sp y))]) hJ ⟨
    oM,oJ .i64 .i64 (j:Int) 0 (h:=fun w=>(geqI _ _ _ w).trans (by rw [decide_eq_true (by omega)])),
    trivial⟩ (fun L7 w8 hp8=>?_)
   refine cT ?_
   refine skips ?_
   refine k12 _ _ ?_
   refine wp_seq_k (fun K14 k14=>?_)
   refine wp_block_k (fun K15 k15=>?_)
   refine sgs [.det (PJV (sp y)),.det (PJV (sp y)),.det (.bool true),.det (PJV (sp (radd12 y y))),.store (.base 2) 0 (PJC (sp (radd12 y y))) (PJC (sp (radd12 y y)))] (nn 5) [0,0,0,7,15] (fun L=>[PJV (sp t),.slice p n c,.bool true,L0.p 0,u4,u5,L0.p 1,L1.p 1,.int .i64 (j:Int),u9,u10,u11,u12,u13,.int .i64 (j:Int),.bool true,u16,u17,PJV (sp y),PJV (sp y),.bool true,PJV (sp (radd12 y y)),u22,u23,u24,u25,u26,u27,u28,u29]) (fun L=>[(L0.b 0,PJC (sp t)),(L0.b 1,PJC ⟨0,0,0⟩),(L1.b 1,PJC (sp (radd12 y y)))]) hp8 ⟨
    oL 2 0 rPJ,oL 2 0 rPJ,oM,oR (ref5add R y y),oT rPJ,
    trivial⟩ (fun L8 w9 hp9=>?_)
   refine sgs [.det (.slice p n c),.det (.int .i64 (j:Int)),.det (.bool true)] [0,1,2] [0,0,3] (fun L=>[PJV (sp t),.slice p n c,.bool true,L0.p 0,u4,u5,L0.p 1,L1.p 1,.int .i64 (j:Int),u9,u10,u11,u12,u13,.int .i64 (j:Int),.bool true,u16,u17,PJV (sp y),PJV (sp y),.bool true,PJV (sp (radd12 y y)),.slice p n c,.int .i64 (j:Int),.bool true,u25,u26,u27,u28,u29]) (fun L=>[(L0.b 0,PJC (sp t)),(L0.b 1,PJC ⟨0,0,0⟩),(L1.b 1,PJC (sp (radd12 y y)))]) hp9 ⟨
    oM,oM,oH (v:=.bool true) (vs:=#[.slice p n c,.int .i64 (j:Int)]) (fun w hb _=>bitRN p n c g E j w (by omega) (by omega) (AtK.below he hb) rg hE (by rw [hb1];rfl)),
    trivial⟩ (fun L9 w10 hp10=>?_)
   refine cT ?_
   refine gs [.det (PJV (sp (radd12 y y))),.det (PJV (sp t)),.det (.bool true),.det (PJV (sp (radd12 (radd12 y y) t))),.store (.base 2) 0 (PJC (sp (radd12 (radd12 y y) t))) (PJC (sp (radd12 (radd12 y y) t)))] (nn 5) [0,0,0,7,15] (fun L=>[PJV (sp t),.slice p n c,.bool true,L0.p 0,u4,u5,L0.p 1,L1.p 1,.int .i64 (j:Int),u9,u10,u11,u12,u13,.int .i64 (j:Int),.bool true,u16,u17,PJV (sp y),PJV (sp y),.bool true,PJV (sp (radd12 y y)),.slice p n c,.int .i64 (j:Int),.bool true,PJV (sp (radd12 y y)),PJV (sp t),.bool true,PJV (sp (radd12 (radd12 y y) t)),u29]) (fun L=>[(L0.b 0,PJC (sp t)),(L0.b 1,PJC ⟨0,0,0⟩),(L1.b 1,PJC (sp (radd12 (radd12 y y) t)))]) hp10 ⟨
    oL 2 0 rPJ,oL 0 0 rPJ,oM,oR (ref5add R (radd12 y y) t),oT rPJ,
    trivial⟩ (fun L10 w11 hp11=>?_)
   refine k15 _ _ _ ?_
   refine block_normal ?_
   refine k14 _ _ ?_
   refine gs [.det (.int .i64 (j:Int)),.det (.int .i64 ((j:Int)-1)),.det (.int .i64 ((j:Int)-1))] [0,1,2] [0,1,3] (fun L=>[PJV (sp t),.slice p n c,.bool true,L0.p 0,u4,u5,L0.p 1,L1.p 1,.int .i64 ((j:Int)-1),u9,u10,u11,u12,u13,.int .i64 (j:Int),.bool true,.int .i64 (j:Int),.int .i64 ((j:Int)-1),PJV (sp y),PJV (sp y),.bool true,PJV (sp (radd12 y y)),.slice p n c,.int .i64 (j:Int),.bool true,PJV (sp (radd12 y y)),PJV (sp t),.bool true,PJV (sp (radd12 (radd12 y y) t)),u29]) (fun L=>[(L0.b 0,PJC (sp t)),(L0.b 1,PJC ⟨0,0,0⟩),(L1.b 1,PJC (sp (radd12 (radd12 y y) t)))]) hp11 ⟨
    oM,oJ .i64 .i64 (j:Int) 1 (h:=fun w=>sub3 _ j (by omega) w),oA,
    trivial⟩ (fun L11 w12 hp12=>?_)
   exact ⟨j,Nat.lt_succ_self _,radd12 (radd12 y y) t,u4,u5,u9,u10,u11,u12,u13,.int .i64 (j:Int),.bool true,.int .i64 (j:Int),.int .i64 ((j:Int)-1),PJV (sp y),PJV (sp y),.bool true,PJV (sp (radd12 y y)),.slice p n c,.int .i64 (j:Int),.bool true,PJV (sp (radd12 y y)),PJV (sp t),.bool true,PJV (sp (radd12 (radd12 y y) t)),u29,rfl,by omega,lad_odd hL hy hb1,hp12⟩
 subst hL0
 refine wp_seq_k (fun K18 k18=>?_)
 refine sgs [.det (.int .i64 (((0:Nat):Int)-1)),.det (.bool false)] [0,1] [0,1] (fun L=>[PJV (sp t),.slice p n c,.bool true,L0.p 0,u4,u5,L0.p 1,L1.p 1,.int .i64 (((0:Nat):Int)-1),u9,u10,u11,u12,u13,.int .i64 (((0:Nat):Int)-1),.bool false,u16,u17,u18,u19,u20,u21,u22,u23,u24,u25,u26,u27,u28,u29]) (fun L=>[(L0.b 0,PJC (sp t)),(L0.b 1,PJC ⟨0,0,0⟩),(L1.b 1,PJC (sp y))]) hJ ⟨
  oM,oJ .i64 .i64 (((0:Nat):Int)-1) 0 (h:=fun w=>(geqI _ _ _ w).trans (by rw [decide_eq_false (by omega)])),
  trivial⟩ (fun L12 w13 hp13=>?_)
 refine cF ?_
 refine wp_exit ?_
 refine then_exit ?_
 refine then_exit ?_
 refine k5 _ _ _ ?_
 refine exit_in ?_
 refine k3 _ _ ?_
 refine sgs [.det (PJV (sp y)),.store (.base 1) 0 (PJC (sp y)) (PJC (sp y))] [0,1] [0,1] (fun L=>[PJV (sp t),.slice p n c,.bool true,L0.p 0,u4,u5,L0.p 1,L1.p 1,.int .i64 (((0:Nat):Int)-1),u9,u10,u11,u12,u13,.int .i64 (((0:Nat):Int)-1),.bool false,u16,u17,u18,u19,u20,u21,u22,u23,u24,u25,u26,u27,u28,PJV (sp y)]) (fun L=>[(L0.b 0,PJC (sp t)),(L0.b 1,PJC (sp y)),(L1.b 1,PJC (sp y))]) hp13 ⟨
  oL 2 0 rPJ,oT rPJ,
  trivial⟩ (fun L13 w14 hp14=>?_)
 refine wp_ret ?_
 refine bodyPost_ret (v:=PJV (sp y)) ?_ rfl ?_
 ·exact rc rPJ rfl (by kernel_rfl) (hp14.bound 1 rfl).2
 ·exact ⟨congrArg (fun z=>Ending.returned (PJV (sp z))) (by rw [hy,Nat.pow_zero,Nat.div_one,Nat.sub_zero]),hp14.bel⟩
end Go.Proofs.YthnfgmhehfombaaGreatDoor.fpn
