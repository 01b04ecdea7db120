/- Texts laid together. -/
import Derived.Test.YthnfgmhehfombaaGreatDoorGE
set_option linter.unusedVariables false
/- Curves y y = x x x + B over any field: the points are a group. No program is named here. -/
namespace Go.Proofs.YthnfgmhehfombaaGreatDoor.fpn.EC
open Rn
set_option linter.unusedSectionVars false
section
variable {α:Type} [Add α] [Mul α] [Neg α] [Sub α] [OfNat α 0] [OfNat α 1] [CR α]
theorem z0 {a b:α} (h:a=b):a-b=0:=by rw [h,CR.sub_eq,Rn.add_neg]
theorem zsub {a b c:α} (h:a+(b+c)=0):a=-b-c:=(Rn.neg_uniq ((CR.add_comm _ _).trans h)).trans (by rw [Rn.neg_add',← CR.sub_eq])
theorem lc1 {l r c0 d0 e0:α} (h0:d0=e0) (i:l=r+c0*(d0-e0)):l=r:=by
 rw [i,z0 h0,Rn.mul_zero,Rn.add_zero]
theorem lc2 {l r c0 d0 e0 c1 d1 e1:α} (h0:d0=e0) (h1:d1=e1) (i:l=r+c0*(d0-e0)+c1*(d1-e1)):l=r:=by
 rw [i,z0 h0,z0 h1,Rn.mul_zero,Rn.add_zero,Rn.mul_zero,Rn.add_zero]
theorem lc3 {l r c0 d0 e0 c1 d1 e1 c2 d2 e2:α} (h0:d0=e0) (h1:d1=e1) (h2:d2=e2) (i:l=r+c0*(d0-e0)+c1*(d1-e1)+c2*(d2-e2)):l=r:=by
 rw [i,z0 h0,z0 h1,z0 h2,Rn.mul_zero,Rn.add_zero,Rn.mul_zero,Rn.add_zero,Rn.mul_zero,Rn.add_zero]
theorem lc4 {l r c0 d0 e0 c1 d1 e1 c2 d2 e2 c3 d3 e3:α} (h0:d0=e0) (h1:d1=e1) (h2:d2=e2) (h3:d3=e3) (i:l=r+c0*(d0-e0)+c1*(d1-e1)+c2*(d2-e2)+c3*(d3-e3)):l=r:=by
 rw [i,z0 h0,z0 h1,z0 h2,z0 h3,Rn.mul_zero,Rn.add_zero,Rn.mul_zero,Rn.add_zero,Rn.mul_zero,Rn.add_zero,Rn.mul_zero,Rn.add_zero]
theorem lc5 {l r c0 d0 e0 c1 d1 e1 c2 d2 e2 c3 d3 e3 c4 d4 e4:α} (h0:d0=e0) (h1:d1=e1) (h2:d2=e2) (h3:d3=e3) (h4:d4=e4) (i:l=r+c0*(d0-e0)+c1*(d1-e1)+c2*(d2-e2)+c3*(d3-e3)+c4*(d4-e4)):l=r:=by
 rw [i,z0 h0,z0 h1,z0 h2,z0 h3,z0 h4,Rn.mul_zero,Rn.add_zero,Rn.mul_zero,Rn.add_zero,Rn.mul_zero,Rn.add_zero,Rn.mul_zero,Rn.add_zero,Rn.mul_zero,Rn.add_zero]
theorem ec0 (p q r a b l u:α):((u-l)*(u+l))=(((((r+b)-p)-a)+(1*(((p+q)+a)-(l*l))))+((-1)*(((q+r)+b)-(u*u)))):=ring [p,q,r,a,b,l,u] (.m (.s (.v 6) (.v 5)) (.a (.v 6) (.v 5))) (.a (.a (.s (.s (.a (.v 2) (.v 4)) (.v 0)) (.v 3)) (.m .o (.s (.a (.a (.v 0) (.v 1)) (.v 3)) (.m (.v 5) (.v 5))))) (.m (.n .o) (.s (.a (.a (.v 1) (.v 2)) (.v 4)) (.m (.v 6) (.v 6))))) (by kernel_rfl)
theorem ec1 (q l m u n:α):((u-l)*q)=((m-n)+((-1)*(((l*q)+m)-((u*q)+n)))):=ring [q,l,m,u,n] (.m (.s (.v 3) (.v 1)) (.v 0)) (.a (.s (.v 2) (.v 4)) (.m (.n .o) (.s (.a (.m (.v 1) (.v 0)) (.v 2)) (.a (.m (.v 3) (.v 0)) (.v 4))))) (by kernel_rfl)
theorem ec2 (p q r a b l m u n:α):((u-l)*(n+m))=((((((p*a)-(r*b))+((-1)*((((p*q)+(q*a))+(p*a))-((-(l*m))-(l*m)))))+(1*((((q*r)+(r*b))+(q*b))-((-(u*n))-(u*n)))))+(q*(((u-l)*(u+l))-(((r+b)-p)-a))))+((-(u+l))*(((u-l)*q)-(m-n)))):=ring [p,q,r,a,b,l,m,u,n] (.m (.s (.v 7) (.v 5)) (.a (.v 8) (.v 6))) (.a (.a (.a (.a (.s (.m (.v 0) (.v 3)) (.m (.v 2) (.v 4))) (.m (.n .o) (.s (.a (.a (.m (.v 0) (.v 1)) (.m (.v 1) (.v 3))) (.m (.v 0) (.v 3))) (.s (.n (.m (.v 5) (.v 6))) (.m (.v 5) (.v 6)))))) (.m .o (.s (.a (.a (.m (.v 1) (.v 2)) (.m (.v 2) (.v 4))) (.m (.v 1) (.v 4))) (.s (.n (.m (.v 7) (.v 8))) (.m (.v 7) (.v 8)))))) (.m (.v 1) (.s (.m (.s (.v 7) (.v 5)) (.a (.v 7) (.v 5))) (.s (.s (.a (.v 2) (.v 4)) (.v 0)) (.v 3))))) (.m (.n (.a (.v 7) (.v 5))) (.s (.m (.s (.v 7) (.v 5)) (.v 1)) (.s (.v 6) (.v 8))))) (by kernel_rfl)
theorem ec3 (p r a b l m u n k:α):((u-l)*((((u+k)*a)+(n-(k*r)))+((l*a)+m)))=(((0+(a*(((u-l)*(u+l))-(((r+b)-p)-a))))+((a-r)*(((u-l)*k)-(a-b))))+(1*(((u-l)*(n+m))-((p*a)-(r*b))))):=ring [p,r,a,b,l,m,u,n,k] (.m (.s (.v 6) (.v 4)) (.a (.a (.m (.a (.v 6) (.v 8)) (.v 2)) (.s (.v 7) (.m (.v 8) (.v 1)))) (.a (.m (.v 4) (.v 2)) (.v 5)))) (.a (.a (.a (.k 0) (.m (.v 2) (.s (.m (.s (.v 6) (.v 4)) (.a (.v 6) (.v 4))) (.s (.s (.a (.v 1) (.v 3)) (.v 0)) (.v 2))))) (.m (.s (.v 2) (.v 1)) (.s (.m (.s (.v 6) (.v 4)) (.v 8)) (.s (.v 2) (.v 3))))) (.m .o (.s (.m (.s (.v 6) (.v 4)) (.a (.v 7) (.v 5))) (.s (.m (.v 0) (.v 2)) (.m (.v 1) (.v 3)))))) (by kernel_rfl)
theorem ec4 (q r a b l m u n k:α):(a*((((u+k)*(u+k))-r)-a))=((((((((q*b)-(n*k))-(n*k))+((k*k)*r))+((-a)*(((q+r)+b)-(u*u))))+((a-q)*(((u-l)*k)-(a-b))))+(k*(((u-l)*q)-(m-n))))+(k*(((((u+k)*a)+(n-(k*r)))+((l*a)+m))-0))):=ring [q,r,a,b,l,m,u,n,k] (.m (.v 2) (.s (.s (.m (.a (.v 6) (.v 8)) (.a (.v 6) (.v 8))) (.v 1)) (.v 2))) (.a (.a (.a (.a (.a (.s (.s (.m (.v 0) (.v 3)) (.m (.v 7) (.v 8))) (.m (.v 7) (.v 8))) (.m (.m (.v 8) (.v 8)) (.v 1))) (.m (.n (.v 2)) (.s (.a (.a (.v 0) (.v 1)) (.v 3)) (.m (.v 6) (.v 6))))) (.m (.s (.v 2) (.v 0)) (.s (.m (.s (.v 6) (.v 4)) (.v 8)) (.s (.v 2) (.v 3))))) (.m (.v 8) (.s (.m (.s (.v 6) (.v 4)) (.v 0)) (.s (.v 5) (.v 7))))) (.m (.v 8) (.s (.a (.a (.m (.a (.v 6) (.v 8)) (.v 2)) (.s (.v 7) (.m (.v 8) (.v 1)))) (.a (.m (.v 4) (.v 2)) (.v 5))) (.k 0)))) (by kernel_rfl)
theorem ec5 (q r a b u n k:α):(((r*a)+(a*((((u+k)*(u+k))-r)-a)))+(r*((((u+k)*(u+k))-r)-a)))=(((((-((u+k)*(n-(k*r))))-((u+k)*(n-(k*r))))+(1*((a*((((u+k)*(u+k))-r)-a))-((((q*b)-(n*k))-(n*k))+((k*k)*r)))))+((-r)*(((q+r)+b)-(u*u))))+(1*((((q*r)+(r*b))+(q*b))-((-(u*n))-(u*n))))):=ring [q,r,a,b,u,n,k] (.a (.a (.m (.v 1) (.v 2)) (.m (.v 2) (.s (.s (.m (.a (.v 4) (.v 6)) (.a (.v 4) (.v 6))) (.v 1)) (.v 2)))) (.m (.v 1) (.s (.s (.m (.a (.v 4) (.v 6)) (.a (.v 4) (.v 6))) (.v 1)) (.v 2)))) (.a (.a (.a (.s (.n (.m (.a (.v 4) (.v 6)) (.s (.v 5) (.m (.v 6) (.v 1))))) (.m (.a (.v 4) (.v 6)) (.s (.v 5) (.m (.v 6) (.v 1))))) (.m .o (.s (.m (.v 2) (.s (.s (.m (.a (.v 4) (.v 6)) (.a (.v 4) (.v 6))) (.v 1)) (.v 2))) (.a (.s (.s (.m (.v 0) (.v 3)) (.m (.v 5) (.v 6))) (.m (.v 5) (.v 6))) (.m (.m (.v 6) (.v 6)) (.v 1)))))) (.m (.n (.v 1)) (.s (.a (.a (.v 0) (.v 1)) (.v 3)) (.m (.v 4) (.v 4))))) (.m .o (.s (.a (.a (.m (.v 0) (.v 1)) (.m (.v 1) (.v 3))) (.m (.v 0) (.v 3))) (.s (.n (.m (.v 4) (.v 5))) (.m (.v 4) (.v 5)))))) (by kernel_rfl)
theorem ec6 (q r a b u n k B:α):((r*a)*((((u+k)*(u+k))-r)-a))=(((((n-(k*r))*(n-(k*r)))-B)+(r*((a*((((u+k)*(u+k))-r)-a))-((((q*b)-(n*k))-(n*k))+((k*k)*r)))))+(1*(((q*r)*b)-((n*n)-B)))):=ring [q,r,a,b,u,n,k,B] (.m (.m (.v 1) (.v 2)) (.s (.s (.m (.a (.v 4) (.v 6)) (.a (.v 4) (.v 6))) (.v 1)) (.v 2))) (.a (.a (.s (.m (.s (.v 5) (.m (.v 6) (.v 1))) (.s (.v 5) (.m (.v 6) (.v 1)))) (.v 7)) (.m (.v 1) (.s (.m (.v 2) (.s (.s (.m (.a (.v 4) (.v 6)) (.a (.v 4) (.v 6))) (.v 1)) (.v 2))) (.a (.s (.s (.m (.v 0) (.v 3)) (.m (.v 5) (.v 6))) (.m (.v 5) (.v 6))) (.m (.m (.v 6) (.v 6)) (.v 1)))))) (.m .o (.s (.m (.m (.v 0) (.v 1)) (.v 3)) (.s (.m (.v 5) (.v 5)) (.v 7))))) (by kernel_rfl)
theorem ec7 (r a u k:α):((r+a)+((((u+k)*(u+k))-r)-a))=((u+k)*(u+k)):=ring [r,a,u,k] (.a (.a (.v 0) (.v 1)) (.s (.s (.m (.a (.v 2) (.v 3)) (.a (.v 2) (.v 3))) (.v 0)) (.v 1))) (.m (.a (.v 2) (.v 3)) (.a (.v 2) (.v 3))) (by kernel_rfl)
theorem ec8 (p r a b l u k:α):((((u+k)*(u+k))-r)-a)=((((((l+k)*(l+k))-p)-b)+(1*(((u-l)*(u+l))-(((r+b)-p)-a))))+((1+1)*(((u-l)*k)-(a-b)))):=ring [p,r,a,b,l,u,k] (.s (.s (.m (.a (.v 5) (.v 6)) (.a (.v 5) (.v 6))) (.v 1)) (.v 2)) (.a (.a (.s (.s (.m (.a (.v 4) (.v 6)) (.a (.v 4) (.v 6))) (.v 0)) (.v 3)) (.m .o (.s (.m (.s (.v 5) (.v 4)) (.a (.v 5) (.v 4))) (.s (.s (.a (.v 1) (.v 3)) (.v 0)) (.v 2))))) (.m (.a .o .o) (.s (.m (.s (.v 5) (.v 4)) (.v 6)) (.s (.v 2) (.v 3))))) (by kernel_rfl)
theorem ec9 (p q r a b l m u n k:α):(((u+k)*((((u+k)*(u+k))-r)-a))+(n-(k*r)))=(((((((l+k)*((((u+k)*(u+k))-r)-a))+(m-(k*p)))+((-(u-l))*(((q+r)+b)-(u*u))))+(k*(((u-l)*(u+l))-(((r+b)-p)-a))))+(1*(((u-l)*q)-(m-n))))+((k+(u-l))*(((u-l)*k)-(a-b)))):=ring [p,q,r,a,b,l,m,u,n,k] (.a (.m (.a (.v 7) (.v 9)) (.s (.s (.m (.a (.v 7) (.v 9)) (.a (.v 7) (.v 9))) (.v 2)) (.v 3))) (.s (.v 8) (.m (.v 9) (.v 2)))) (.a (.a (.a (.a (.a (.m (.a (.v 5) (.v 9)) (.s (.s (.m (.a (.v 7) (.v 9)) (.a (.v 7) (.v 9))) (.v 2)) (.v 3))) (.s (.v 6) (.m (.v 9) (.v 0)))) (.m (.n (.s (.v 7) (.v 5))) (.s (.a (.a (.v 1) (.v 2)) (.v 4)) (.m (.v 7) (.v 7))))) (.m (.v 9) (.s (.m (.s (.v 7) (.v 5)) (.a (.v 7) (.v 5))) (.s (.s (.a (.v 2) (.v 4)) (.v 0)) (.v 3))))) (.m .o (.s (.m (.s (.v 7) (.v 5)) (.v 1)) (.s (.v 6) (.v 8))))) (.m (.a (.v 9) (.s (.v 7) (.v 5))) (.s (.m (.s (.v 7) (.v 5)) (.v 9)) (.s (.v 3) (.v 4))))) (by kernel_rfl)
theorem ec10 (p q r a b l m:α):((p-r)*(p-b))=((((0+((p+q)*(((p+q)+a)-(l*l))))+((-(p+q))*(((q+r)+b)-(l*l))))+((-1)*((((p*q)+(q*a))+(p*a))-((-(l*m))-(l*m)))))+(1*((((q*r)+(r*b))+(q*b))-((-(l*m))-(l*m))))):=ring [p,q,r,a,b,l,m] (.m (.s (.v 0) (.v 2)) (.s (.v 0) (.v 4))) (.a (.a (.a (.a (.k 0) (.m (.a (.v 0) (.v 1)) (.s (.a (.a (.v 0) (.v 1)) (.v 3)) (.m (.v 5) (.v 5))))) (.m (.n (.a (.v 0) (.v 1))) (.s (.a (.a (.v 1) (.v 2)) (.v 4)) (.m (.v 5) (.v 5))))) (.m (.n .o) (.s (.a (.a (.m (.v 0) (.v 1)) (.m (.v 1) (.v 3))) (.m (.v 0) (.v 3))) (.s (.n (.m (.v 5) (.v 6))) (.m (.v 5) (.v 6)))))) (.m .o (.s (.a (.a (.m (.v 1) (.v 2)) (.m (.v 2) (.v 4))) (.m (.v 1) (.v 4))) (.s (.n (.m (.v 5) (.v 6))) (.m (.v 5) (.v 6)))))) (by kernel_rfl)
theorem ec12 (l m B x1 x2 x3:α):(((l*x3)+m)*((l*x3)+m))=((((((x3*x3)*x3)+B)+((-(x3*x3))*(((x1+x2)+x3)-(l*l))))+(x3*((((x1*x2)+(x2*x3))+(x1*x3))-((-(l*m))-(l*m)))))+((-1)*(((x1*x2)*x3)-((m*m)-B)))):=ring [l,m,B,x1,x2,x3] (.m (.a (.m (.v 0) (.v 5)) (.v 1)) (.a (.m (.v 0) (.v 5)) (.v 1))) (.a (.a (.a (.a (.m (.m (.v 5) (.v 5)) (.v 5)) (.v 2)) (.m (.n (.m (.v 5) (.v 5))) (.s (.a (.a (.v 3) (.v 4)) (.v 5)) (.m (.v 0) (.v 0))))) (.m (.v 5) (.s (.a (.a (.m (.v 3) (.v 4)) (.m (.v 4) (.v 5))) (.m (.v 3) (.v 5))) (.s (.n (.m (.v 0) (.v 1))) (.m (.v 0) (.v 1)))))) (.m (.n .o) (.s (.m (.m (.v 3) (.v 4)) (.v 5)) (.s (.m (.v 1) (.v 1)) (.v 2))))) (by kernel_rfl)
theorem ec13 (l m x1 x3:α):(((x1*x1)+(x1*x1))+(x1*x1))=(((l*(((l*x1)+m)+((l*x1)+m)))+((x1+x1)*(((x1+x1)+x3)-(l*l))))+((-1)*((((x1*x1)+(x1*x3))+(x1*x3))-((-(l*m))-(l*m))))):=ring [l,m,x1,x3] (.a (.a (.m (.v 2) (.v 2)) (.m (.v 2) (.v 2))) (.m (.v 2) (.v 2))) (.a (.a (.m (.v 0) (.a (.a (.m (.v 0) (.v 2)) (.v 1)) (.a (.m (.v 0) (.v 2)) (.v 1)))) (.m (.a (.v 2) (.v 2)) (.s (.a (.a (.v 2) (.v 2)) (.v 3)) (.m (.v 0) (.v 0))))) (.m (.n .o) (.s (.a (.a (.m (.v 2) (.v 2)) (.m (.v 2) (.v 3))) (.m (.v 2) (.v 3))) (.s (.n (.m (.v 0) (.v 1))) (.m (.v 0) (.v 1)))))) (by kernel_rfl)
theorem ec14 (l B x1 x2 y1 y2:α):((x2-x1)*((((x1*x2)+(x2*(((l*l)-x1)-x2)))+(x1*(((l*l)-x1)-x2)))+((l*(y1-(l*x1)))+(l*(y1-(l*x1))))))=(((0+((-1)*((y1*y1)-(((x1*x1)*x1)+B))))+(1*((y2*y2)-(((x2*x2)*x2)+B))))+((((l*(x2-x1))+y1)+y2)*((l*(x2-x1))-(y2-y1)))):=ring [l,B,x1,x2,y1,y2] (.m (.s (.v 3) (.v 2)) (.a (.a (.a (.m (.v 2) (.v 3)) (.m (.v 3) (.s (.s (.m (.v 0) (.v 0)) (.v 2)) (.v 3)))) (.m (.v 2) (.s (.s (.m (.v 0) (.v 0)) (.v 2)) (.v 3)))) (.a (.m (.v 0) (.s (.v 4) (.m (.v 0) (.v 2)))) (.m (.v 0) (.s (.v 4) (.m (.v 0) (.v 2))))))) (.a (.a (.a (.k 0) (.m (.n .o) (.s (.m (.v 4) (.v 4)) (.a (.m (.m (.v 2) (.v 2)) (.v 2)) (.v 1))))) (.m .o (.s (.m (.v 5) (.v 5)) (.a (.m (.m (.v 3) (.v 3)) (.v 3)) (.v 1))))) (.m (.a (.a (.m (.v 0) (.s (.v 3) (.v 2))) (.v 4)) (.v 5)) (.s (.m (.v 0) (.s (.v 3) (.v 2))) (.s (.v 5) (.v 4))))) (by kernel_rfl)
theorem ec15 (l B x1 x2 y1:α):((x1*x2)*(((l*l)-x1)-x2))=(((((y1-(l*x1))*(y1-(l*x1)))-B)+((-1)*((y1*y1)-(((x1*x1)*x1)+B))))+(x1*((((x1*x2)+(x2*(((l*l)-x1)-x2)))+(x1*(((l*l)-x1)-x2)))-((-(l*(y1-(l*x1))))-(l*(y1-(l*x1))))))):=ring [l,B,x1,x2,y1] (.m (.m (.v 2) (.v 3)) (.s (.s (.m (.v 0) (.v 0)) (.v 2)) (.v 3))) (.a (.a (.s (.m (.s (.v 4) (.m (.v 0) (.v 2))) (.s (.v 4) (.m (.v 0) (.v 2)))) (.v 1)) (.m (.n .o) (.s (.m (.v 4) (.v 4)) (.a (.m (.m (.v 2) (.v 2)) (.v 2)) (.v 1))))) (.m (.v 2) (.s (.a (.a (.m (.v 2) (.v 3)) (.m (.v 3) (.s (.s (.m (.v 0) (.v 0)) (.v 2)) (.v 3)))) (.m (.v 2) (.s (.s (.m (.v 0) (.v 0)) (.v 2)) (.v 3)))) (.s (.n (.m (.v 0) (.s (.v 4) (.m (.v 0) (.v 2))))) (.m (.v 0) (.s (.v 4) (.m (.v 0) (.v 2)))))))) (by kernel_rfl)
theorem ec16 (l x1 y1:α):(((x1*x1)+(x1*(((l*l)-x1)-x1)))+(x1*(((l*l)-x1)-x1)))=(((-(l*(y1-(l*x1))))-(l*(y1-(l*x1))))+(1*((l*(y1+y1))-(((x1*x1)+(x1*x1))+(x1*x1))))):=ring [l,x1,y1] (.a (.a (.m (.v 1) (.v 1)) (.m (.v 1) (.s (.s (.m (.v 0) (.v 0)) (.v 1)) (.v 1)))) (.m (.v 1) (.s (.s (.m (.v 0) (.v 0)) (.v 1)) (.v 1)))) (.a (.s (.n (.m (.v 0) (.s (.v 2) (.m (.v 0) (.v 1))))) (.m (.v 0) (.s (.v 2) (.m (.v 0) (.v 1))))) (.m .o (.s (.m (.v 0) (.a (.v 2) (.v 2))) (.a (.a (.m (.v 1) (.v 1)) (.m (.v 1) (.v 1))) (.m (.v 1) (.v 1)))))) (by kernel_rfl)
theorem ec17 (x1 x2 x3:α):((x2+x1)+x3)=((x1+x2)+x3):=ring [x1,x2,x3] (.a (.a (.v 1) (.v 0)) (.v 2)) (.a (.a (.v 0) (.v 1)) (.v 2)) (by kernel_rfl)
theorem ec18 (x1 x2 x3:α):(((x2*x1)+(x1*x3))+(x2*x3))=(((x1*x2)+(x2*x3))+(x1*x3)):=ring [x1,x2,x3] (.a (.a (.m (.v 1) (.v 0)) (.m (.v 0) (.v 2))) (.m (.v 1) (.v 2))) (.a (.a (.m (.v 0) (.v 1)) (.m (.v 1) (.v 2))) (.m (.v 0) (.v 2))) (by kernel_rfl)
theorem ec19 (x1 x2 x3:α):((x2*x1)*x3)=((x1*x2)*x3):=ring [x1,x2,x3] (.m (.m (.v 1) (.v 0)) (.v 2)) (.m (.m (.v 0) (.v 1)) (.v 2)) (by kernel_rfl)
theorem ec20 (x1 x2 x3:α):((x1+x3)+x2)=((x1+x2)+x3):=ring [x1,x2,x3] (.a (.a (.v 0) (.v 2)) (.v 1)) (.a (.a (.v 0) (.v 1)) (.v 2)) (by kernel_rfl)
theorem ec21 (x1 x2 x3:α):(((x1*x3)+(x3*x2))+(x1*x2))=(((x1*x2)+(x2*x3))+(x1*x3)):=ring [x1,x2,x3] (.a (.a (.m (.v 0) (.v 2)) (.m (.v 2) (.v 1))) (.m (.v 0) (.v 1))) (.a (.a (.m (.v 0) (.v 1)) (.m (.v 1) (.v 2))) (.m (.v 0) (.v 2))) (by kernel_rfl)
theorem ec22 (x1 x2 x3:α):((x1*x3)*x2)=((x1*x2)*x3):=ring [x1,x2,x3] (.m (.m (.v 0) (.v 2)) (.v 1)) (.m (.m (.v 0) (.v 1)) (.v 2)) (by kernel_rfl)
theorem ec23 (l:α):(l*l)=((-l)*(-l)):=ring [l] (.m (.v 0) (.v 0)) (.m (.n (.v 0)) (.n (.v 0))) (by kernel_rfl)
theorem ec24 (l m:α):((-(l*m))-(l*m))=((-((-l)*(-m)))-((-l)*(-m))):=ring [l,m] (.s (.n (.m (.v 0) (.v 1))) (.m (.v 0) (.v 1))) (.s (.n (.m (.n (.v 0)) (.n (.v 1)))) (.m (.n (.v 0)) (.n (.v 1)))) (by kernel_rfl)
theorem ec25 (m B:α):((m*m)-B)=(((-m)*(-m))-B):=ring [m,B] (.s (.m (.v 0) (.v 0)) (.v 1)) (.s (.m (.n (.v 0)) (.n (.v 0))) (.v 1)) (by kernel_rfl)
theorem ec26 (l m x1:α):(-((l*x1)+m))=(((-l)*x1)+(-m)):=ring [l,m,x1] (.n (.a (.m (.v 0) (.v 2)) (.v 1))) (.a (.m (.n (.v 0)) (.v 2)) (.n (.v 1))) (by kernel_rfl)
theorem ec27 (l m k x1:α):((l*x1)+m)=(((l+k)*x1)+(m-(k*x1))):=ring [l,m,k,x1] (.a (.m (.v 0) (.v 3)) (.v 1)) (.a (.m (.a (.v 0) (.v 2)) (.v 3)) (.s (.v 1) (.m (.v 2) (.v 3)))) (by kernel_rfl)
theorem ec28 (l m x1 x3:α):((l*(x1-x3))-((l*x1)+m))=(-((l*x3)+m)):=ring [l,m,x1,x3] (.s (.m (.v 0) (.s (.v 2) (.v 3))) (.a (.m (.v 0) (.v 2)) (.v 1))) (.n (.a (.m (.v 0) (.v 3)) (.v 1))) (by kernel_rfl)
theorem ec29 (l m x1 x2:α):(((l*x2)+m)-((l*x1)+m))=(l*(x2-x1)):=ring [l,m,x1,x2] (.s (.a (.m (.v 0) (.v 3)) (.v 1)) (.a (.m (.v 0) (.v 2)) (.v 1))) (.m (.v 0) (.s (.v 3) (.v 2))) (by kernel_rfl)
theorem ec30 (w x1 x2 x3:α):((w-x1)-x2)=(x3+((-1)*(((x1+x2)+x3)-w))):=ring [w,x1,x2,x3] (.s (.s (.v 0) (.v 1)) (.v 2)) (.a (.v 3) (.m (.n .o) (.s (.a (.a (.v 1) (.v 2)) (.v 3)) (.v 0)))) (by kernel_rfl)
theorem ec31 (w y1 y2:α):((y1-y2)*(y1+y2))=((0+(1*((y1*y1)-w)))+((-1)*((y2*y2)-w))):=ring [w,y1,y2] (.m (.s (.v 1) (.v 2)) (.a (.v 1) (.v 2))) (.a (.a (.k 0) (.m .o (.s (.m (.v 1) (.v 1)) (.v 0)))) (.m (.n .o) (.s (.m (.v 2) (.v 2)) (.v 0)))) (by kernel_rfl)
theorem ec32 (l x1 y1:α):y1=((l*x1)+(y1-(l*x1))):=ring [l,x1,y1] (.v 2) (.a (.m (.v 0) (.v 1)) (.s (.v 2) (.m (.v 0) (.v 1)))) (by kernel_rfl)
theorem ec33 (l x1 x2 y1 y2:α):y2=(((l*x2)+(y1-(l*x1)))+((-1)*((l*(x2-x1))-(y2-y1)))):=ring [l,x1,x2,y1,y2] (.v 4) (.a (.a (.m (.v 0) (.v 2)) (.s (.v 3) (.m (.v 0) (.v 1)))) (.m (.n .o) (.s (.m (.v 0) (.s (.v 2) (.v 1))) (.s (.v 4) (.v 3))))) (by kernel_rfl)
theorem ec34 (r a l m u n k:α):(-((l*a)+m))=((((u+k)*a)+(n-(k*r)))+((-1)*(((((u+k)*a)+(n-(k*r)))+((l*a)+m))-0))):=ring [r,a,l,m,u,n,k] (.n (.a (.m (.v 2) (.v 1)) (.v 3))) (.a (.a (.m (.a (.v 4) (.v 6)) (.v 1)) (.s (.v 5) (.m (.v 6) (.v 0)))) (.m (.n .o) (.s (.a (.a (.m (.a (.v 4) (.v 6)) (.v 1)) (.s (.v 5) (.m (.v 6) (.v 0)))) (.a (.m (.v 2) (.v 1)) (.v 3))) (.k 0)))) (by kernel_rfl)
theorem ec35 (q l m n:α):m=(n+(1*(((l*q)+m)-((l*q)+n)))):=ring [q,l,m,n] (.v 2) (.a (.v 3) (.m .o (.s (.a (.m (.v 1) (.v 0)) (.v 2)) (.a (.m (.v 1) (.v 0)) (.v 3))))) (by kernel_rfl)
theorem ec36 (y1 y2:α):y2=(y1+(1*(((-y1)+y2)-0))):=ring [y1,y2] (.v 1) (.a (.v 0) (.m .o (.s (.a (.n (.v 0)) (.v 1)) (.k 0)))) (by kernel_rfl)
theorem ec37 (y1 y2:α):y1=(y2+(1*((y1+(-y2))-0))):=ring [y1,y2] (.v 0) (.a (.v 1) (.m .o (.s (.a (.v 0) (.n (.v 1))) (.k 0)))) (by kernel_rfl)
theorem ec38 (y1 y2:α):y1=((-y2)+(1*((y1+y2)-0))):=ring [y1,y2] (.v 0) (.a (.n (.v 1)) (.m .o (.s (.a (.v 0) (.v 1)) (.k 0)))) (by kernel_rfl)
theorem ec39 (y1 y2:α):(y1+y2)=(0+((-1)*(((-y1)+(-y2))-0))):=ring [y1,y2] (.a (.v 0) (.v 1)) (.a (.k 0) (.m (.n .o) (.s (.a (.n (.v 0)) (.n (.v 1))) (.k 0)))) (by kernel_rfl)
theorem ec40 (x1 x2:α):x1=(x2+(1*((x1-x2)-0))):=ring [x1,x2] (.v 0) (.a (.v 1) (.m .o (.s (.s (.v 0) (.v 1)) (.k 0)))) (by kernel_rfl)
theorem ec41 (y1:α):((-y1)*(-y1))=(y1*y1):=ring [y1] (.m (.n (.v 0)) (.n (.v 0))) (.m (.v 0) (.v 0)) (by kernel_rfl)
theorem ec42 (a b l u k:α):((l-u)*k)=((b-a)+((-1)*(((u-l)*k)-(a-b)))):=ring [a,b,l,u,k] (.m (.s (.v 2) (.v 3)) (.v 4)) (.a (.s (.v 1) (.v 0)) (.m (.n .o) (.s (.m (.s (.v 3) (.v 2)) (.v 4)) (.s (.v 0) (.v 1))))) (by kernel_rfl)
theorem ec43 (l x1 x2:α):((x1+x2)+(((l*l)-x1)-x2))=(l*l):=ring [l,x1,x2] (.a (.a (.v 1) (.v 2)) (.s (.s (.m (.v 0) (.v 0)) (.v 1)) (.v 2))) (.m (.v 0) (.v 0)) (by kernel_rfl)
theorem cE1 {p q r a b l u:α} (g1:((p+q)+a)=(l*l)) (g2:((q+r)+b)=(u*u)):((u-l)*(u+l))=(((r+b)-p)-a):=(lc2 g1 g2 (ec0 (p) (q) (r) (a) (b) (l) (u)))
theorem cHq {q l m u n:α} (hq:((l*q)+m)=((u*q)+n)):((u-l)*q)=(m-n):=(lc1 hq (ec1 (q) (l) (m) (u) (n)))
theorem cE2 {p q r a b l m u n:α} (g3:(((p*q)+(q*a))+(p*a))=((-(l*m))-(l*m))) (g4:(((q*r)+(r*b))+(q*b))=((-(u*n))-(u*n))) (E1:((u-l)*(u+l))=(((r+b)-p)-a)) (Hq:((u-l)*q)=(m-n)):((u-l)*(n+m))=((p*a)-(r*b)):=(lc4 g3 g4 E1 Hq (ec2 (p) (q) (r) (a) (b) (l) (m) (u) (n)))
theorem cS1 {p r a b l m u n k:α} (E1:((u-l)*(u+l))=(((r+b)-p)-a)) (E2:((u-l)*(n+m))=((p*a)-(r*b))) (hk:((u-l)*k)=(a-b)):((u-l)*((((u+k)*a)+(n-(k*r)))+((l*a)+m)))=0:=(lc3 E1 hk E2 (ec3 (p) (r) (a) (b) (l) (m) (u) (n) (k)))
theorem cQ0 {q r a b l m u n k:α} (g2:((q+r)+b)=(u*u)) (hk:((u-l)*k)=(a-b)) (Hq:((u-l)*q)=(m-n)) (S1:((((u+k)*a)+(n-(k*r)))+((l*a)+m))=0):(a*((((u+k)*(u+k))-r)-a))=((((q*b)-(n*k))-(n*k))+((k*k)*r)):=(lc4 g2 hk Hq S1 (ec4 (q) (r) (a) (b) (l) (m) (u) (n) (k)))
theorem cL2 {q r a b u n k:α} (g2:((q+r)+b)=(u*u)) (g4:(((q*r)+(r*b))+(q*b))=((-(u*n))-(u*n))) (Q0:(a*((((u+k)*(u+k))-r)-a))=((((q*b)-(n*k))-(n*k))+((k*k)*r))):(((r*a)+(a*((((u+k)*(u+k))-r)-a)))+(r*((((u+k)*(u+k))-r)-a)))=((-((u+k)*(n-(k*r))))-((u+k)*(n-(k*r)))):=(lc3 Q0 g2 g4 (ec5 (q) (r) (a) (b) (u) (n) (k)))
theorem cL3 {q r a b u n k B:α} (g6:((q*r)*b)=((n*n)-B)) (Q0:(a*((((u+k)*(u+k))-r)-a))=((((q*b)-(n*k))-(n*k))+((k*k)*r))):((r*a)*((((u+k)*(u+k))-r)-a))=(((n-(k*r))*(n-(k*r)))-B):=(lc2 Q0 g6 (ec6 (q) (r) (a) (b) (u) (n) (k) (B)))
theorem cL1 {r a u k:α}:((r+a)+((((u+k)*(u+k))-r)-a))=((u+k)*(u+k)):=(ec7 (r) (a) (u) (k))
theorem cT2 {p r a b l u k:α} (E1:((u-l)*(u+l))=(((r+b)-p)-a)) (hk:((u-l)*k)=(a-b)):((((u+k)*(u+k))-r)-a)=((((l+k)*(l+k))-p)-b):=(lc2 E1 hk (ec8 (p) (r) (a) (b) (l) (u) (k)))
theorem cYT {p q r a b l m u n k:α} (g2:((q+r)+b)=(u*u)) (E1:((u-l)*(u+l))=(((r+b)-p)-a)) (Hq:((u-l)*q)=(m-n)) (hk:((u-l)*k)=(a-b)):(((u+k)*((((u+k)*(u+k))-r)-a))+(n-(k*r)))=(((l+k)*((((u+k)*(u+k))-r)-a))+(m-(k*p))):=(lc4 g2 E1 Hq hk (ec9 (p) (q) (r) (a) (b) (l) (m) (u) (n) (k)))
theorem cSame {p q r a b l m:α} (f1:((p+q)+a)=(l*l)) (f2:((q+r)+b)=(l*l)) (f3:(((p*q)+(q*a))+(p*a))=((-(l*m))-(l*m))) (f4:(((q*r)+(r*b))+(q*b))=((-(l*m))-(l*m))):((p-r)*(p-b))=0:=(lc4 f1 f2 f3 f4 (ec10 (p) (q) (r) (a) (b) (l) (m)))
theorem cOn3 {l m B x1 x2 x3:α} (f1:((x1+x2)+x3)=(l*l)) (f2:(((x1*x2)+(x2*x3))+(x1*x3))=((-(l*m))-(l*m))) (f3:((x1*x2)*x3)=((m*m)-B)):(((l*x3)+m)*((l*x3)+m))=(((x3*x3)*x3)+B):=(lc3 f1 f2 f3 (ec12 (l) (m) (B) (x1) (x2) (x3)))
theorem cTan {l m x1 x3:α} (f1:((x1+x1)+x3)=(l*l)) (f2:(((x1*x1)+(x1*x3))+(x1*x3))=((-(l*m))-(l*m))):(((x1*x1)+(x1*x1))+(x1*x1))=(l*(((l*x1)+m)+((l*x1)+m))):=(lc2 f1 f2 (ec13 (l) (m) (x1) (x3)))
theorem cCh {l B x1 x2 y1 y2:α} (c1:(y1*y1)=(((x1*x1)*x1)+B)) (c2:(y2*y2)=(((x2*x2)*x2)+B)) (cl:(l*(x2-x1))=(y2-y1)):((x2-x1)*((((x1*x2)+(x2*(((l*l)-x1)-x2)))+(x1*(((l*l)-x1)-x2)))+((l*(y1-(l*x1)))+(l*(y1-(l*x1))))))=0:=(lc3 c1 c2 cl (ec14 (l) (B) (x1) (x2) (y1) (y2)))
theorem cE3 {l B x1 x2 y1:α} (c1:(y1*y1)=(((x1*x1)*x1)+B)) (e2:(((x1*x2)+(x2*(((l*l)-x1)-x2)))+(x1*(((l*l)-x1)-x2)))=((-(l*(y1-(l*x1))))-(l*(y1-(l*x1))))):((x1*x2)*(((l*l)-x1)-x2))=(((y1-(l*x1))*(y1-(l*x1)))-B):=(lc2 c1 e2 (ec15 (l) (B) (x1) (x2) (y1)))
theorem cTe2 {l x1 y1:α} (ct:(l*(y1+y1))=(((x1*x1)+(x1*x1))+(x1*x1))):(((x1*x1)+(x1*(((l*l)-x1)-x1)))+(x1*(((l*l)-x1)-x1)))=((-(l*(y1-(l*x1))))-(l*(y1-(l*x1)))):=(lc1 ct (ec16 (l) (x1) (y1)))
theorem sw12_1 {x1 x2 x3:α} :((x2+x1)+x3)=((x1+x2)+x3):=(ec17 (x1) (x2) (x3))
theorem sw12_2 {x1 x2 x3:α} :(((x2*x1)+(x1*x3))+(x2*x3))=(((x1*x2)+(x2*x3))+(x1*x3)):=(ec18 (x1) (x2) (x3))
theorem sw12_3 {x1 x2 x3:α} :((x2*x1)*x3)=((x1*x2)*x3):=(ec19 (x1) (x2) (x3))
theorem sw23_1 {x1 x2 x3:α} :((x1+x3)+x2)=((x1+x2)+x3):=(ec20 (x1) (x2) (x3))
theorem sw23_2 {x1 x2 x3:α} :(((x1*x3)+(x3*x2))+(x1*x2))=(((x1*x2)+(x2*x3))+(x1*x3)):=(ec21 (x1) (x2) (x3))
theorem sw23_3 {x1 x2 x3:α} :((x1*x3)*x2)=((x1*x2)*x3):=(ec22 (x1) (x2) (x3))
theorem ng1 {l:α} :(l*l)=((-l)*(-l)):=(ec23 (l))
theorem ng2 {l m:α} :((-(l*m))-(l*m))=((-((-l)*(-m)))-((-l)*(-m))):=(ec24 (l) (m))
theorem ng3 {m B:α} :((m*m)-B)=(((-m)*(-m))-B):=(ec25 (m) (B))
theorem ngy {l m x1:α} :(-((l*x1)+m))=(((-l)*x1)+(-m)):=(ec26 (l) (m) (x1))
theorem yl {l m k x1:α} :((l*x1)+m)=(((l+k)*x1)+(m-(k*x1))):=(ec27 (l) (m) (k) (x1))
theorem chy {l m x1 x3:α} :((l*(x1-x3))-((l*x1)+m))=(-((l*x3)+m)):=(ec28 (l) (m) (x1) (x3))
theorem dy {l m x1 x2:α} :(((l*x2)+m)-((l*x1)+m))=(l*(x2-x1)):=(ec29 (l) (m) (x1) (x2))
theorem x3of {w x1 x2 x3:α} (f1:((x1+x2)+x3)=w):((w-x1)-x2)=x3:=(lc1 f1 (ec30 (w) (x1) (x2) (x3)))
theorem sq2 {w y1 y2:α} (f1:(y1*y1)=w) (f2:(y2*y2)=w):((y1-y2)*(y1+y2))=0:=(lc2 f1 f2 (ec31 (w) (y1) (y2)))
theorem lin1 {l x1 y1:α} :y1=((l*x1)+(y1-(l*x1))):=(ec32 (l) (x1) (y1))
theorem lin2 {l x1 x2 y1 y2:α} (cl:(l*(x2-x1))=(y2-y1)):y2=((l*x2)+(y1-(l*x1))):=(lc1 cl (ec33 (l) (x1) (x2) (y1) (y2)))
theorem S1y {r a l m u n k:α} (S1:((((u+k)*a)+(n-(k*r)))+((l*a)+m))=0):(-((l*a)+m))=(((u+k)*a)+(n-(k*r))):=(lc1 S1 (ec34 (r) (a) (l) (m) (u) (n) (k)))
theorem mn {q l m n:α} (f1:((l*q)+m)=((l*q)+n)):m=n:=(lc1 f1 (ec35 (q) (l) (m) (n)))
theorem zy {y1 y2:α} (f1:((-y1)+y2)=0):y2=y1:=(lc1 f1 (ec36 (y1) (y2)))
theorem zy2 {y1 y2:α} (f1:(y1+(-y2))=0):y1=y2:=(lc1 f1 (ec37 (y1) (y2)))
theorem zn {y1 y2:α} (f1:(y1+y2)=0):y1=(-y2):=(lc1 f1 (ec38 (y1) (y2)))
theorem dneg {y1 y2:α} (f1:((-y1)+(-y2))=0):(y1+y2)=0:=(lc1 f1 (ec39 (y1) (y2)))
theorem dz {x1 x2:α} (f1:(x1-x2)=0):x1=x2:=(lc1 f1 (ec40 (x1) (x2)))
theorem ysq {y1:α} :((-y1)*(-y1))=(y1*y1):=(ec41 (y1))
theorem kneg {a b l u k:α} (f1:((u-l)*k)=(a-b)):((l-u)*k)=(b-a):=(lc1 f1 (ec42 (a) (b) (l) (u) (k)))
theorem x3sum {l x1 x2:α} :((x1+x2)+(((l*l)-x1)-x2))=(l*l):=(ec43 (l) (x1) (x2))
inductive Pt (α:Type) where
 | inf
 | aff (x y:α)
 deriving DecidableEq
structure Crv (iv:α→α) (B:α):Prop where
 one:(1:α)≠0
 iv:∀ a:α,a≠0→a*iv a=1
 odd:∀ x y:α,y*y=x*x*x+B→y+y≠0
structure Ln (B x1 x2 x3 l m:α):Prop where
 e1:x1+x2+x3=l*l
 e2:x1*x2+x2*x3+x1*x3=-(l*m)-l*m
 e3:x1*x2*x3=m*m-B
theorem Ln.s12 {B x1 x2 x3 l m:α} (h:Ln B x1 x2 x3 l m):Ln B x2 x1 x3 l m:=⟨sw12_1.trans h.e1,sw12_2.trans h.e2,sw12_3.trans h.e3⟩
theorem Ln.s23 {B x1 x2 x3 l m:α} (h:Ln B x1 x2 x3 l m):Ln B x1 x3 x2 l m:=⟨sw23_1.trans h.e1,sw23_2.trans h.e2,sw23_3.trans h.e3⟩
theorem Ln.ng {B x1 x2 x3 l m:α} (h:Ln B x1 x2 x3 l m):Ln B x1 x2 x3 (-l) (-m):=⟨h.e1.trans ng1,h.e2.trans ng2,h.e3.trans ng3⟩
theorem Ln.on3 {B x1 x2 x3 l m:α} (h:Ln B x1 x2 x3 l m):(l*x3+m)*(l*x3+m)=x3*x3*x3+B:=cOn3 h.e1 h.e2 h.e3
variable [DecidableEq α] (iv:α→α) (B:α)
def slope (x1 y1 x2 y2:α):α:=if x1=x2 then (x1*x1+x1*x1+x1*x1)*iv (y1+y2) else (y2-y1)*iv (x2-x1)
def chord (l x1 y1 x2:α):Pt α:=.aff (l*l-x1-x2) (l*(x1-(l*l-x1-x2))-y1)
def add:Pt α→Pt α→Pt α
 | .inf,q=>q
 | .aff x y,.inf=>.aff x y
 | .aff x1 y1,.aff x2 y2=>if x1=x2∧y1+y2=0 then .inf else chord (slope iv x1 y1 x2 y2) x1 y1 x2
def neg:Pt α→Pt α
 | .inf=>.inf
 | .aff x y=>.aff x (-y)
def On:Pt α→Prop
 | .inf=>True
 | .aff x y=>y*y=x*x*x+B
theorem add_inf (p:Pt α):add iv p .inf=p:=by cases p<;>rfl
theorem inf_add (p:Pt α):add iv .inf p=p:=rfl
theorem add_v {x1 y1 x2 y2:α} (h:x1=x2∧y1+y2=0):add iv (.aff x1 y1) (.aff x2 y2)=.inf:=by
 show (if x1=x2∧y1+y2=0 then Pt.inf else _)=_
 rw [if_pos h]
theorem add_n {x1 y1 x2 y2:α} (h:¬ (x1=x2∧y1+y2=0)):add iv (.aff x1 y1) (.aff x2 y2)=chord (slope iv x1 y1 x2 y2) x1 y1 x2:=by
 show (if x1=x2∧y1+y2=0 then Pt.inf else _)=_
 rw [if_neg h]
variable {iv B}
theorem Crv.cancel (C:Crv iv B) {d x:α} (hd:d≠0) (h:d*x=0):x=0:=by
 have e:(d*iv d)*x=iv d*(d*x):=by rw [CR.mul_comm d,CR.mul_assoc]
 rw [C.iv d hd,h,Rn.mul_zero,CR.one_mul] at e
 exact e
theorem Crv.back (C:Crv iv B) {d x:α} (hd:d≠0):x*d*iv d=x:=by rw [CR.mul_assoc,C.iv d hd,Rn.mul_one]
theorem Ln.add (C:Crv iv B) {x1 x2 x3 l m:α} (h:Ln B x1 x2 x3 l m) (hne:¬ (x1=x2∧(l*x1+m)+(l*x2+m)=0)) :
  EC.add iv (.aff x1 (l*x1+m)) (.aff x2 (l*x2+m))=.aff x3 (-(l*x3+m)):=by
 rw [add_n iv hne]
 have hs:slope iv x1 (l*x1+m) x2 (l*x2+m)=l:=by
  unfold slope
  by_cases e:x1=x2
  ·rw [if_pos e]
   subst e
   have hy:(l*x1+m)+(l*x1+m)≠0:=fun h0=>hne ⟨rfl,h0⟩
   rw [cTan h.e1 h.e2,C.back hy]
  ·rw [if_neg e,dy,C.back (fun h0=>e (dz h0).symm)]
 rw [hs]
 unfold chord
 rw [x3of h.e1,chy]
theorem ln_of (C:Crv iv B) {x1 y1 x2 y2:α} (h1:y1*y1=x1*x1*x1+B) (h2:y2*y2=x2*x2*x2+B) (hne:¬ (x1=x2∧y1+y2=0)) :
  ∃ x3 l m:α,y1=l*x1+m∧y2=l*x2+m∧Ln B x1 x2 x3 l m:=by
 by_cases e:x1=x2
 ·subst e
  have hy:y1+y2≠0:=fun h0=>hne ⟨rfl,h0⟩
  have e2:y1=y2:=dz (C.cancel hy ((CR.mul_comm _ _).trans (sq2 h1 h2)))
  subst e2
  have hl:(x1*x1+x1*x1+x1*x1)*iv (y1+y1)*(y1+y1)=x1*x1+x1*x1+x1*x1:=by rw [CR.mul_assoc,CR.mul_comm (iv _),C.iv _ hy,Rn.mul_one]
  generalize (x1*x1+x1*x1+x1*x1)*iv (y1+y1)=l at hl
  exact ⟨l*l-x1-x1,l,y1-l*x1,lin1,lin1,x3sum,cTe2 hl,cE3 h1 (cTe2 hl)⟩
 ·have hd:x2-x1≠0:=fun h0=>e (dz h0).symm
  have hl:(y2-y1)*iv (x2-x1)*(x2-x1)=y2-y1:=by rw [CR.mul_assoc,CR.mul_comm (iv _),C.iv _ hd,Rn.mul_one]
  generalize (y2-y1)*iv (x2-x1)=l at hl
  have e2:=zsub (C.cancel hd (cCh h1 h2 hl))
  exact ⟨l*l-x1-x2,l,y1-l*x1,lin1,lin2 hl,x3sum,e2,cE3 h1 e2⟩
theorem on_aff {x y:α}:On B (.aff x y)↔y*y=x*x*x+B:=Iff.rfl
theorem add_on (C:Crv iv B) {P Q:Pt α} (hP:On B P) (hQ:On B Q):On B (add iv P Q):=by
 cases P with
 | inf=>exact hQ
 | aff x1 y1 =>
  cases Q with
  | inf=>exact hP
  | aff x2 y2 =>
   by_cases hv:x1=x2∧y1+y2=0
   ·rw [add_v iv hv];trivial
   ·obtain ⟨x3,l,m,rfl,rfl,h⟩:=ln_of C hP hQ hv
    rw [h.add C hv,on_aff,ysq]
    exact h.on3
theorem neg_on {P:Pt α} (hP:On B P):On B (neg P):=by
 cases P with
 | inf=>trivial
 | aff x y=>exact ysq.trans hP
theorem add_neg {P:Pt α}:add iv P (neg P)=.inf:=by
 cases P with
 | inf=>rfl
 | aff x y=>exact add_v iv ⟨rfl,Rn.add_neg y⟩
theorem add_comm (C:Crv iv B) {P Q:Pt α} (hP:On B P) (hQ:On B Q):add iv P Q=add iv Q P:=by
 cases P with
 | inf=>rw [inf_add,add_inf]
 | aff x1 y1 =>
  cases Q with
  | inf=>rfl
  | aff x2 y2 =>
   by_cases hv:x1=x2∧y1+y2=0
   ·rw [add_v iv hv,add_v iv ⟨hv.1.symm,(CR.add_comm _ _).trans hv.2⟩]
   ·obtain ⟨x3,l,m,rfl,rfl,h⟩:=ln_of C hP hQ hv
    rw [h.add C hv,h.s12.add C (fun h'=>hv ⟨h'.1.symm,(CR.add_comm _ _).trans h'.2⟩)]
theorem core (C:Crv iv B) {p q r a b l m u n k:α} (h1:Ln B p q a l m) (h2:Ln B q r b u n) (hq:l*q+m=u*q+n) (hd:u-l≠0) (hk:(u-l)*k=a-b) :
  Ln B r a ((u+k)*(u+k)-r-a) (u+k) (n-k*r)∧-(l*a+m)=(u+k)*a+(n-k*r):=by
 have E1:=cE1 h1.e1 h2.e1
 have Hq:=cHq hq
 have E2:=cE2 h1.e2 h2.e2 E1 Hq
 have S1:=C.cancel hd (cS1 E1 E2 hk)
 have Q0:=cQ0 h2.e1 hk Hq S1
 exact ⟨⟨cL1,cL2 h2.e1 h2.e2 Q0,cL3 h2.e3 Q0⟩,S1y S1⟩
theorem add_assoc (C:Crv iv B) {P Q R:Pt α} (hP:On B P) (hQ:On B Q) (hR:On B R):add iv (add iv P Q) R=add iv P (add iv Q R):=by
 cases P with
 | inf=>rfl
 | aff p yp =>
 cases Q with
 | inf=>rfl
 | aff q yq =>
 cases R with
 | inf=>rw [add_inf,add_inf]
 | aff r yr =>
 by_cases v1:p=q∧yp+yq=0
 ·rw [add_v iv v1,inf_add]
  obtain ⟨rfl,v1⟩:=v1
  by_cases v2:p=r∧yq+yr=0
  ·rw [add_v iv v2,add_inf]
   obtain ⟨rfl,v2⟩:=v2
   rw [zn v1,zn ((CR.add_comm _ _).trans v2)]
  ·obtain ⟨b,u,n,rfl,rfl,h⟩:=ln_of C hQ hR v2
   rw [h.add C v2,zn v1,ngy,ngy,h.s23.ng.add C,← ngy,Rn.neg_neg]
   rintro ⟨rfl,h0⟩
   rw [← ngy] at h0
   exact C.odd _ _ hQ (dneg h0)
 ·obtain ⟨a,l,m,rfl,rfl,h1⟩:=ln_of C hP hQ v1
  by_cases v2:q=r∧(l*q+m)+yr=0
  ·rw [add_v iv v2,add_inf,h1.add C v1]
   obtain ⟨rfl,v2⟩:=v2
   rw [zn ((CR.add_comm _ _).trans v2),ngy,ngy,h1.s12.s23.s12.ng.add C,← ngy,Rn.neg_neg]
   rintro ⟨rfl,h0⟩
   rw [← ngy] at h0
   exact C.odd _ _ hQ (dneg h0)
  ·obtain ⟨b,u,n,hq,rfl,h2⟩:=ln_of C hQ hR v2
   by_cases w1:a=r∧-(l*a+m)+(u*r+n)=0
   ·rw [h1.add C v1,add_v iv w1]
    obtain ⟨rfl,w1⟩:=w1
    have e:=zy w1
    rw [e] at v2 ⊢
    rw [h1.s12.s23.add C v2,add_v iv ⟨rfl,Rn.add_neg _⟩]
   ·by_cases w2:p=b∧(l*p+m)+-(u*b+n)=0
    ·have hv2:=v2
     rw [hq] at hv2
     have hs:=h2.add C hv2
     rw [← hq] at hs
     rw [hs,add_v iv w2]
     obtain ⟨rfl,w2⟩:=w2
     have e:=zy2 w2
     rw [hq,e] at v1 ⊢
     rw [h2.s23.s12.add C v1,add_v iv ⟨rfl,CR.neg_add _⟩]
    ·have hv2:=v2
     rw [hq] at hv2
     have hs:=h2.add C hv2
     rw [← hq] at hs
     by_cases hul:u=l
     ·subst hul
      have hm:=mn hq
      subst hm
      rcases (Classical.em (p-r=0)) with h0 | h0
      ·have:=dz h0
       subst this
       rw [add_comm C (add_on C hP hQ) hP,add_comm C hP hQ]
      ·have:=dz (C.cancel h0 (cSame h1.e1 h2.e1 h1.e2 h2.e2))
       subst this
       exact absurd ⟨rfl,Rn.add_neg _⟩ w2
     ·have hd:u-l≠0:=fun h0=>hul (dz h0)
      have hd':l-u≠0:=fun h0=>hul (dz h0).symm
      obtain ⟨k,hk⟩:∃ k,(u-l)*k=a-b:=⟨iv (u-l)*(a-b),by rw [← CR.mul_assoc,C.iv _ hd,CR.one_mul]⟩
      obtain ⟨k1,k2⟩:=core C h1 h2 hq hd hk
      obtain ⟨k3,k4⟩:=core C h2.s12 h1.s12 hq.symm hd' (kneg hk)
      have eA:u*r+n=(u+k)*r+(n-k*r):=yl
      have eP:l*p+m=(l+k)*p+(m-k*p):=yl
      have sA:=k1.s12.add C (fun h'=>w1 (by rw [k2,eA];exact h'))
      have sB:=k3.add C (fun h'=>w2 (by rw [k4,eP];exact h'))
      have E1:=cE1 h1.e1 h2.e1
      rw [h1.add C v1,hs,k2,eA,sA,k4,eP,sB,cYT h2.e1 E1 (cHq hq) hk,cT2 E1 hk]
def mul (iv:α→α):Nat→Pt α→Pt α
 | 0,_=>.inf
 | n+1,p=>add iv (mul iv n p) p
theorem mul_on (C:Crv iv B) {P:Pt α} (hP:On B P):∀ n,On B (mul iv n P)
 | 0=>trivial
 | n+1=>add_on C (mul_on C hP n) hP
theorem mul_add (C:Crv iv B) {P:Pt α} (hP:On B P) (m:Nat):∀ n,mul iv (m+n) P=add iv (mul iv m P) (mul iv n P)
 | 0=>(add_inf iv _).symm
 | n+1=>by
  show add iv (mul iv (m+n) P) P=add iv _ (add iv (mul iv n P) P)
  rw [mul_add C hP m n,add_assoc C (mul_on C hP m) (mul_on C hP n) hP]
theorem mul_mul (C:Crv iv B) {P:Pt α} (hP:On B P) (m:Nat):∀ n,mul iv (m*n) P=mul iv n (mul iv m P)
 | 0=>rfl
 | n+1=>by
  rw [Nat.mul_succ,mul_add C hP,mul_mul C hP m n]
  rfl
theorem mul_one (P:Pt α):mul iv 1 P=P:=inf_add iv P
theorem mul_inf:∀ n,mul iv n (.inf:Pt α)=.inf
 | 0=>rfl
 | n+1=>by rw [mul,mul_inf n];rfl
theorem mul_sum (C:Crv iv B) {P Q:Pt α} (hP:On B P) (hQ:On B Q):∀ n,mul iv n (add iv P Q)=add iv (mul iv n P) (mul iv n Q)
 | 0=>rfl
 | n+1=>by
  have a:=mul_on C hP n
  have b:=mul_on C hQ n
  show add iv (mul iv n (add iv P Q)) (add iv P Q)=add iv (add iv (mul iv n P) P) (add iv (mul iv n Q) Q)
  rw [mul_sum C hP hQ n,← add_assoc C (add_on C a b) hP hQ,add_assoc C a b hP,add_comm C b hP,← add_assoc C a hP b,add_assoc C (add_on C a hP) b hQ]
theorem neg_neg (P:Pt α):neg (neg P)=P:=by
 cases P with
 | inf=>rfl
 | aff x y=>exact congrArg (Pt.aff x) (Rn.neg_neg y)
theorem neg_uniq (C:Crv iv B) {P Q:Pt α} (hP:On B P) (hQ:On B Q) (h:add iv P Q=.inf):Q=neg P:=by
 have e:add iv (add iv (neg P) P) Q=add iv (neg P) (add iv P Q):=add_assoc C (neg_on hP) hP hQ
 rw [h,add_inf,add_comm C (neg_on hP) hP,add_neg,inf_add] at e
 exact e
theorem mul_two (C:Crv iv B) {P:Pt α} (hP:On B P) (n:Nat):mul iv (2*n) P=add iv (mul iv n P) (mul iv n P):=by rw [Nat.two_mul,mul_add C hP]
theorem mul_order (C:Crv iv B) {P:Pt α} (hP:On B P) {r:Nat} (hr:mul iv r P=.inf) (n:Nat):mul iv (n%r) P=mul iv n P:=by
 conv=>rhs;rw [← Nat.div_add_mod n r,mul_add C hP,mul_mul C hP,hr,mul_inf,inf_add]
end
end Go.Proofs.YthnfgmhehfombaaGreatDoor.fpn.EC
/- Points by three numbers: one sum for all. No program is named here. -/
namespace Go.Proofs.YthnfgmhehfombaaGreatDoor.fpn.EC
open Rn
set_option linter.unusedSectionVars false
section
variable {α:Type} [Add α] [Mul α] [Neg α] [Sub α] [OfNat α 0] [OfNat α 1] [CR α]
theorem ep0 (b x1 x2 y1 y2 c e z1 z2:α):(((((c*x1)*(e*y2))+((e*x2)*(c*y1)))*(((c*y1)*(e*y2))-(b*((c*z1)*(e*z2)))))-((((c*y1)*(e*z2))+((e*y2)*(c*z1)))*(b*(((c*x1)*(e*z2))+((e*x2)*(c*z1))))))=(((c*e)*(c*e))*((((x1*y2)+(x2*y1))*((y1*y2)-(b*(z1*z2))))-(((y1*z2)+(y2*z1))*(b*((x1*z2)+(x2*z1)))))):=ring [b,x1,x2,y1,y2,c,e,z1,z2] (.s (.m (.a (.m (.m (.v 5) (.v 1)) (.m (.v 6) (.v 4))) (.m (.m (.v 6) (.v 2)) (.m (.v 5) (.v 3)))) (.s (.m (.m (.v 5) (.v 3)) (.m (.v 6) (.v 4))) (.m (.v 0) (.m (.m (.v 5) (.v 7)) (.m (.v 6) (.v 8)))))) (.m (.a (.m (.m (.v 5) (.v 3)) (.m (.v 6) (.v 8))) (.m (.m (.v 6) (.v 4)) (.m (.v 5) (.v 7)))) (.m (.v 0) (.a (.m (.m (.v 5) (.v 1)) (.m (.v 6) (.v 8))) (.m (.m (.v 6) (.v 2)) (.m (.v 5) (.v 7))))))) (.m (.m (.m (.v 5) (.v 6)) (.m (.v 5) (.v 6))) (.s (.m (.a (.m (.v 1) (.v 4)) (.m (.v 2) (.v 3))) (.s (.m (.v 3) (.v 4)) (.m (.v 0) (.m (.v 7) (.v 8))))) (.m (.a (.m (.v 3) (.v 8)) (.m (.v 4) (.v 7))) (.m (.v 0) (.a (.m (.v 1) (.v 8)) (.m (.v 2) (.v 7))))))) (by kernel_rfl)
theorem ep1 (b x1 x2 y1 y2 c e z1 z2:α):(((((c*y1)*(e*y2))-(b*((c*z1)*(e*z2))))*(((c*y1)*(e*y2))+(b*((c*z1)*(e*z2)))))+((b*(((c*x1)*(e*z2))+((e*x2)*(c*z1))))*((((c*x1)*(e*x2))+((c*x1)*(e*x2)))+((c*x1)*(e*x2)))))=(((c*e)*(c*e))*((((y1*y2)-(b*(z1*z2)))*((y1*y2)+(b*(z1*z2))))+((b*((x1*z2)+(x2*z1)))*(((x1*x2)+(x1*x2))+(x1*x2))))):=ring [b,x1,x2,y1,y2,c,e,z1,z2] (.a (.m (.s (.m (.m (.v 5) (.v 3)) (.m (.v 6) (.v 4))) (.m (.v 0) (.m (.m (.v 5) (.v 7)) (.m (.v 6) (.v 8))))) (.a (.m (.m (.v 5) (.v 3)) (.m (.v 6) (.v 4))) (.m (.v 0) (.m (.m (.v 5) (.v 7)) (.m (.v 6) (.v 8)))))) (.m (.m (.v 0) (.a (.m (.m (.v 5) (.v 1)) (.m (.v 6) (.v 8))) (.m (.m (.v 6) (.v 2)) (.m (.v 5) (.v 7))))) (.a (.a (.m (.m (.v 5) (.v 1)) (.m (.v 6) (.v 2))) (.m (.m (.v 5) (.v 1)) (.m (.v 6) (.v 2)))) (.m (.m (.v 5) (.v 1)) (.m (.v 6) (.v 2)))))) (.m (.m (.m (.v 5) (.v 6)) (.m (.v 5) (.v 6))) (.a (.m (.s (.m (.v 3) (.v 4)) (.m (.v 0) (.m (.v 7) (.v 8)))) (.a (.m (.v 3) (.v 4)) (.m (.v 0) (.m (.v 7) (.v 8))))) (.m (.m (.v 0) (.a (.m (.v 1) (.v 8)) (.m (.v 2) (.v 7)))) (.a (.a (.m (.v 1) (.v 2)) (.m (.v 1) (.v 2))) (.m (.v 1) (.v 2)))))) (by kernel_rfl)
theorem ep2 (b x1 x2 y1 y2 c e z1 z2:α):(((((c*y1)*(e*y2))+(b*((c*z1)*(e*z2))))*(((c*y1)*(e*z2))+((e*y2)*(c*z1))))+(((((c*x1)*(e*x2))+((c*x1)*(e*x2)))+((c*x1)*(e*x2)))*(((c*x1)*(e*y2))+((e*x2)*(c*y1)))))=(((c*e)*(c*e))*((((y1*y2)+(b*(z1*z2)))*((y1*z2)+(y2*z1)))+((((x1*x2)+(x1*x2))+(x1*x2))*((x1*y2)+(x2*y1))))):=ring [b,x1,x2,y1,y2,c,e,z1,z2] (.a (.m (.a (.m (.m (.v 5) (.v 3)) (.m (.v 6) (.v 4))) (.m (.v 0) (.m (.m (.v 5) (.v 7)) (.m (.v 6) (.v 8))))) (.a (.m (.m (.v 5) (.v 3)) (.m (.v 6) (.v 8))) (.m (.m (.v 6) (.v 4)) (.m (.v 5) (.v 7))))) (.m (.a (.a (.m (.m (.v 5) (.v 1)) (.m (.v 6) (.v 2))) (.m (.m (.v 5) (.v 1)) (.m (.v 6) (.v 2)))) (.m (.m (.v 5) (.v 1)) (.m (.v 6) (.v 2)))) (.a (.m (.m (.v 5) (.v 1)) (.m (.v 6) (.v 4))) (.m (.m (.v 6) (.v 2)) (.m (.v 5) (.v 3)))))) (.m (.m (.m (.v 5) (.v 6)) (.m (.v 5) (.v 6))) (.a (.m (.a (.m (.v 3) (.v 4)) (.m (.v 0) (.m (.v 7) (.v 8)))) (.a (.m (.v 3) (.v 8)) (.m (.v 4) (.v 7)))) (.m (.a (.a (.m (.v 1) (.v 2)) (.m (.v 1) (.v 2))) (.m (.v 1) (.v 2))) (.a (.m (.v 1) (.v 4)) (.m (.v 2) (.v 3)))))) (by kernel_rfl)
theorem ep3 (b:α):((((0*1)+(0*1))*((1*1)-(b*(0*0))))-(((1*0)+(1*0))*(b*((0*0)+(0*0)))))=0:=ring [b] (.s (.m (.a (.m (.k 0) .o) (.m (.k 0) .o)) (.s (.m .o .o) (.m (.v 0) (.m (.k 0) (.k 0))))) (.m (.a (.m .o (.k 0)) (.m .o (.k 0))) (.m (.v 0) (.a (.m (.k 0) (.k 0)) (.m (.k 0) (.k 0)))))) (.k 0) (by kernel_rfl)
theorem ep4 (b:α):((((1*1)-(b*(0*0)))*((1*1)+(b*(0*0))))+((b*((0*0)+(0*0)))*(((0*0)+(0*0))+(0*0))))=1:=ring [b] (.a (.m (.s (.m .o .o) (.m (.v 0) (.m (.k 0) (.k 0)))) (.a (.m .o .o) (.m (.v 0) (.m (.k 0) (.k 0))))) (.m (.m (.v 0) (.a (.m (.k 0) (.k 0)) (.m (.k 0) (.k 0)))) (.a (.a (.m (.k 0) (.k 0)) (.m (.k 0) (.k 0))) (.m (.k 0) (.k 0))))) .o (by kernel_rfl)
theorem ep5 (b:α):((((1*1)+(b*(0*0)))*((1*0)+(1*0)))+((((0*0)+(0*0))+(0*0))*((0*1)+(0*1))))=0:=ring [b] (.a (.m (.a (.m .o .o) (.m (.v 0) (.m (.k 0) (.k 0)))) (.a (.m .o (.k 0)) (.m .o (.k 0)))) (.m (.a (.a (.m (.k 0) (.k 0)) (.m (.k 0) (.k 0))) (.m (.k 0) (.k 0))) (.a (.m (.k 0) .o) (.m (.k 0) .o)))) (.k 0) (by kernel_rfl)
theorem ep6 (b x2 y2:α):((((0*y2)+(x2*1))*((1*y2)-(b*(0*1))))-(((1*1)+(y2*0))*(b*((0*1)+(x2*0)))))=(y2*x2):=ring [b,x2,y2] (.s (.m (.a (.m (.k 0) (.v 2)) (.m (.v 1) .o)) (.s (.m .o (.v 2)) (.m (.v 0) (.m (.k 0) .o)))) (.m (.a (.m .o .o) (.m (.v 2) (.k 0))) (.m (.v 0) (.a (.m (.k 0) .o) (.m (.v 1) (.k 0)))))) (.m (.v 2) (.v 1)) (by kernel_rfl)
theorem ep7 (b x2 y2:α):((((1*y2)-(b*(0*1)))*((1*y2)+(b*(0*1))))+((b*((0*1)+(x2*0)))*(((0*x2)+(0*x2))+(0*x2))))=(y2*y2):=ring [b,x2,y2] (.a (.m (.s (.m .o (.v 2)) (.m (.v 0) (.m (.k 0) .o))) (.a (.m .o (.v 2)) (.m (.v 0) (.m (.k 0) .o)))) (.m (.m (.v 0) (.a (.m (.k 0) .o) (.m (.v 1) (.k 0)))) (.a (.a (.m (.k 0) (.v 1)) (.m (.k 0) (.v 1))) (.m (.k 0) (.v 1))))) (.m (.v 2) (.v 2)) (by kernel_rfl)
theorem ep8 (b x2 y2:α):((((1*y2)+(b*(0*1)))*((1*1)+(y2*0)))+((((0*x2)+(0*x2))+(0*x2))*((0*y2)+(x2*1))))=(y2*1):=ring [b,x2,y2] (.a (.m (.a (.m .o (.v 2)) (.m (.v 0) (.m (.k 0) .o))) (.a (.m .o .o) (.m (.v 2) (.k 0)))) (.m (.a (.a (.m (.k 0) (.v 1)) (.m (.k 0) (.v 1))) (.m (.k 0) (.v 1))) (.a (.m (.k 0) (.v 2)) (.m (.v 1) .o)))) (.m (.v 2) .o) (by kernel_rfl)
theorem ep9 (b x1 y1:α):((((x1*1)+(0*y1))*((y1*1)-(b*(1*0))))-(((y1*0)+(1*1))*(b*((x1*0)+(0*1)))))=(y1*x1):=ring [b,x1,y1] (.s (.m (.a (.m (.v 1) .o) (.m (.k 0) (.v 2))) (.s (.m (.v 2) .o) (.m (.v 0) (.m .o (.k 0))))) (.m (.a (.m (.v 2) (.k 0)) (.m .o .o)) (.m (.v 0) (.a (.m (.v 1) (.k 0)) (.m (.k 0) .o))))) (.m (.v 2) (.v 1)) (by kernel_rfl)
theorem ep10 (b x1 y1:α):((((y1*1)-(b*(1*0)))*((y1*1)+(b*(1*0))))+((b*((x1*0)+(0*1)))*(((x1*0)+(x1*0))+(x1*0))))=(y1*y1):=ring [b,x1,y1] (.a (.m (.s (.m (.v 2) .o) (.m (.v 0) (.m .o (.k 0)))) (.a (.m (.v 2) .o) (.m (.v 0) (.m .o (.k 0))))) (.m (.m (.v 0) (.a (.m (.v 1) (.k 0)) (.m (.k 0) .o))) (.a (.a (.m (.v 1) (.k 0)) (.m (.v 1) (.k 0))) (.m (.v 1) (.k 0))))) (.m (.v 2) (.v 2)) (by kernel_rfl)
theorem ep11 (b x1 y1:α):((((y1*1)+(b*(1*0)))*((y1*0)+(1*1)))+((((x1*0)+(x1*0))+(x1*0))*((x1*1)+(0*y1))))=(y1*1):=ring [b,x1,y1] (.a (.m (.a (.m (.v 2) .o) (.m (.v 0) (.m .o (.k 0)))) (.a (.m (.v 2) (.k 0)) (.m .o .o))) (.m (.a (.a (.m (.v 1) (.k 0)) (.m (.v 1) (.k 0))) (.m (.v 1) (.k 0))) (.a (.m (.v 1) .o) (.m (.k 0) (.v 2))))) (.m (.v 2) .o) (by kernel_rfl)
theorem ep12 (b x1 y1:α):((((x1*(-y1))+(x1*y1))*((y1*(-y1))-(b*(1*1))))-(((y1*1)+((-y1)*1))*(b*((x1*1)+(x1*1)))))=0:=ring [b,x1,y1] (.s (.m (.a (.m (.v 1) (.n (.v 2))) (.m (.v 1) (.v 2))) (.s (.m (.v 2) (.n (.v 2))) (.m (.v 0) (.m .o .o)))) (.m (.a (.m (.v 2) .o) (.m (.n (.v 2)) .o)) (.m (.v 0) (.a (.m (.v 1) .o) (.m (.v 1) .o))))) (.k 0) (by kernel_rfl)
theorem ep13 (b x1 y1:α):((((y1*(-y1))+(b*(1*1)))*((y1*1)+((-y1)*1)))+((((x1*x1)+(x1*x1))+(x1*x1))*((x1*(-y1))+(x1*y1))))=0:=ring [b,x1,y1] (.a (.m (.a (.m (.v 2) (.n (.v 2))) (.m (.v 0) (.m .o .o))) (.a (.m (.v 2) .o) (.m (.n (.v 2)) .o))) (.m (.a (.a (.m (.v 1) (.v 1)) (.m (.v 1) (.v 1))) (.m (.v 1) (.v 1))) (.a (.m (.v 1) (.n (.v 2))) (.m (.v 1) (.v 2))))) (.k 0) (by kernel_rfl)
theorem ep14 (l x1 y1:α):((((y1+y1)*(y1+y1))*(y1+y1))*((l*(((l*l)-x1)-x1))+(y1-(l*x1))))=((((((x1*x1)+(x1*x1))+(x1*x1))*(((((x1*x1)+(x1*x1))+(x1*x1))*(((x1*x1)+(x1*x1))+(x1*x1)))-(((y1+y1)*(y1+y1))*((x1+x1)+x1))))+((((y1+y1)*(y1+y1))*(y1+y1))*y1))+((((((l*(y1+y1))*(l*(y1+y1)))+((l*(y1+y1))*(((x1*x1)+(x1*x1))+(x1*x1))))+((((x1*x1)+(x1*x1))+(x1*x1))*(((x1*x1)+(x1*x1))+(x1*x1))))-(((y1+y1)*(y1+y1))*((x1+x1)+x1)))*((l*(y1+y1))-(((x1*x1)+(x1*x1))+(x1*x1))))):=ring [l,x1,y1] (.m (.m (.m (.a (.v 2) (.v 2)) (.a (.v 2) (.v 2))) (.a (.v 2) (.v 2))) (.a (.m (.v 0) (.s (.s (.m (.v 0) (.v 0)) (.v 1)) (.v 1))) (.s (.v 2) (.m (.v 0) (.v 1))))) (.a (.a (.m (.a (.a (.m (.v 1) (.v 1)) (.m (.v 1) (.v 1))) (.m (.v 1) (.v 1))) (.s (.m (.a (.a (.m (.v 1) (.v 1)) (.m (.v 1) (.v 1))) (.m (.v 1) (.v 1))) (.a (.a (.m (.v 1) (.v 1)) (.m (.v 1) (.v 1))) (.m (.v 1) (.v 1)))) (.m (.m (.a (.v 2) (.v 2)) (.a (.v 2) (.v 2))) (.a (.a (.v 1) (.v 1)) (.v 1))))) (.m (.m (.m (.a (.v 2) (.v 2)) (.a (.v 2) (.v 2))) (.a (.v 2) (.v 2))) (.v 2))) (.m (.s (.a (.a (.m (.m (.v 0) (.a (.v 2) (.v 2))) (.m (.v 0) (.a (.v 2) (.v 2)))) (.m (.m (.v 0) (.a (.v 2) (.v 2))) (.a (.a (.m (.v 1) (.v 1)) (.m (.v 1) (.v 1))) (.m (.v 1) (.v 1))))) (.m (.a (.a (.m (.v 1) (.v 1)) (.m (.v 1) (.v 1))) (.m (.v 1) (.v 1))) (.a (.a (.m (.v 1) (.v 1)) (.m (.v 1) (.v 1))) (.m (.v 1) (.v 1))))) (.m (.m (.a (.v 2) (.v 2)) (.a (.v 2) (.v 2))) (.a (.a (.v 1) (.v 1)) (.v 1)))) (.s (.m (.v 0) (.a (.v 2) (.v 2))) (.a (.a (.m (.v 1) (.v 1)) (.m (.v 1) (.v 1))) (.m (.v 1) (.v 1)))))) (by kernel_rfl)
theorem ep15 (B x1 y1:α):(((((x1*x1)+(x1*x1))+(x1*x1))*(((((x1*x1)+(x1*x1))+(x1*x1))*(((x1*x1)+(x1*x1))+(x1*x1)))-(((y1+y1)*(y1+y1))*((x1+x1)+x1))))+((((y1+y1)*(y1+y1))*(y1+y1))*y1))=((-((((y1*(-y1))-(((B+B)+B)*(1*1)))*((y1*(-y1))+(((B+B)+B)*(1*1))))+((((B+B)+B)*((x1*1)+(x1*1)))*(((x1*x1)+(x1*x1))+(x1*x1)))))+((((((((((((((((((((((((((((((((((((((((((((((0-((x1*x1)*x1))-((x1*x1)*x1))-((x1*x1)*x1))-((x1*x1)*x1))-((x1*x1)*x1))-((x1*x1)*x1))-((x1*x1)*x1))-((x1*x1)*x1))-((x1*x1)*x1))-((x1*x1)*x1))-((x1*x1)*x1))-((x1*x1)*x1))-((x1*x1)*x1))-((x1*x1)*x1))-((x1*x1)*x1))-((x1*x1)*x1))-((x1*x1)*x1))-((x1*x1)*x1))-((x1*x1)*x1))-((x1*x1)*x1))-((x1*x1)*x1))-((x1*x1)*x1))-((x1*x1)*x1))-((x1*x1)*x1))-((x1*x1)*x1))-((x1*x1)*x1))-((x1*x1)*x1))+B)+B)+B)+B)+B)+B)+B)+B)+B)+(y1*y1))+(y1*y1))+(y1*y1))+(y1*y1))+(y1*y1))+(y1*y1))+(y1*y1))+(y1*y1))+(y1*y1))*((y1*y1)-(((x1*x1)*x1)+B)))):=ring [B,x1,y1] (.a (.m (.a (.a (.m (.v 1) (.v 1)) (.m (.v 1) (.v 1))) (.m (.v 1) (.v 1))) (.s (.m (.a (.a (.m (.v 1) (.v 1)) (.m (.v 1) (.v 1))) (.m (.v 1) (.v 1))) (.a (.a (.m (.v 1) (.v 1)) (.m (.v 1) (.v 1))) (.m (.v 1) (.v 1)))) (.m (.m (.a (.v 2) (.v 2)) (.a (.v 2) (.v 2))) (.a (.a (.v 1) (.v 1)) (.v 1))))) (.m (.m (.m (.a (.v 2) (.v 2)) (.a (.v 2) (.v 2))) (.a (.v 2) (.v 2))) (.v 2))) (.a (.n (.a (.m (.s (.m (.v 2) (.n (.v 2))) (.m (.a (.a (.v 0) (.v 0)) (.v 0)) (.m .o .o))) (.a (.m (.v 2) (.n (.v 2))) (.m (.a (.a (.v 0) (.v 0)) (.v 0)) (.m .o .o)))) (.m (.m (.a (.a (.v 0) (.v 0)) (.v 0)) (.a (.m (.v 1) .o) (.m (.v 1) .o))) (.a (.a (.m (.v 1) (.v 1)) (.m (.v 1) (.v 1))) (.m (.v 1) (.v 1)))))) (.m (.a (.a (.a (.a (.a (.a (.a (.a (.a (.a (.a (.a (.a (.a (.a (.a (.a (.a (.s (.s (.s (.s (.s (.s (.s (.s (.s (.s (.s (.s (.s (.s (.s (.s (.s (.s (.s (.s (.s (.s (.s (.s (.s (.s (.s (.k 0) (.m (.m (.v 1) (.v 1)) (.v 1))) (.m (.m (.v 1) (.v 1)) (.v 1))) (.m (.m (.v 1) (.v 1)) (.v 1))) (.m (.m (.v 1) (.v 1)) (.v 1))) (.m (.m (.v 1) (.v 1)) (.v 1))) (.m (.m (.v 1) (.v 1)) (.v 1))) (.m (.m (.v 1) (.v 1)) (.v 1))) (.m (.m (.v 1) (.v 1)) (.v 1))) (.m (.m (.v 1) (.v 1)) (.v 1))) (.m (.m (.v 1) (.v 1)) (.v 1))) (.m (.m (.v 1) (.v 1)) (.v 1))) (.m (.m (.v 1) (.v 1)) (.v 1))) (.m (.m (.v 1) (.v 1)) (.v 1))) (.m (.m (.v 1) (.v 1)) (.v 1))) (.m (.m (.v 1) (.v 1)) (.v 1))) (.m (.m (.v 1) (.v 1)) (.v 1))) (.m (.m (.v 1) (.v 1)) (.v 1))) (.m (.m (.v 1) (.v 1)) (.v 1))) (.m (.m (.v 1) (.v 1)) (.v 1))) (.m (.m (.v 1) (.v 1)) (.v 1))) (.m (.m (.v 1) (.v 1)) (.v 1))) (.m (.m (.v 1) (.v 1)) (.v 1))) (.m (.m (.v 1) (.v 1)) (.v 1))) (.m (.m (.v 1) (.v 1)) (.v 1))) (.m (.m (.v 1) (.v 1)) (.v 1))) (.m (.m (.v 1) (.v 1)) (.v 1))) (.m (.m (.v 1) (.v 1)) (.v 1))) (.v 0)) (.v 0)) (.v 0)) (.v 0)) (.v 0)) (.v 0)) (.v 0)) (.v 0)) (.v 0)) (.m (.v 2) (.v 2))) (.m (.v 2) (.v 2))) (.m (.v 2) (.v 2))) (.m (.v 2) (.v 2))) (.m (.v 2) (.v 2))) (.m (.v 2) (.v 2))) (.m (.v 2) (.v 2))) (.m (.v 2) (.v 2))) (.m (.v 2) (.v 2))) (.s (.m (.v 2) (.v 2)) (.a (.m (.m (.v 1) (.v 1)) (.v 1)) (.v 0))))) (by kernel_rfl)
theorem ep16 (B x1 y1:α):((((y1*y1)+(((B+B)+B)*(1*1)))*((y1*1)+(y1*1)))+((((x1*x1)+(x1*x1))+(x1*x1))*((x1*y1)+(x1*y1))))=((((y1+y1)*(y1+y1))*(y1+y1))+(((((((0-y1)-y1)-y1)-y1)-y1)-y1)*((y1*y1)-(((x1*x1)*x1)+B)))):=ring [B,x1,y1] (.a (.m (.a (.m (.v 2) (.v 2)) (.m (.a (.a (.v 0) (.v 0)) (.v 0)) (.m .o .o))) (.a (.m (.v 2) .o) (.m (.v 2) .o))) (.m (.a (.a (.m (.v 1) (.v 1)) (.m (.v 1) (.v 1))) (.m (.v 1) (.v 1))) (.a (.m (.v 1) (.v 2)) (.m (.v 1) (.v 2))))) (.a (.m (.m (.a (.v 2) (.v 2)) (.a (.v 2) (.v 2))) (.a (.v 2) (.v 2))) (.m (.s (.s (.s (.s (.s (.s (.k 0) (.v 2)) (.v 2)) (.v 2)) (.v 2)) (.v 2)) (.v 2)) (.s (.m (.v 2) (.v 2)) (.a (.m (.m (.v 1) (.v 1)) (.v 1)) (.v 0))))) (by kernel_rfl)
theorem ep17 (B x1 x2 y1 y2:α):((((y1*y2)+(((B+B)+B)*(1*1)))*((y1*1)+(y2*1)))+((((x1*x2)+(x1*x2))+(x1*x2))*((x1*y2)+(x2*y1))))=(((((((y1+y2)*(y1+y2))*(y1+y2))-(((x1-x2)*(x1-x2))*((y1+y2)*((x1+x1)+x2))))+((((x1-x2)*(x1-x2))*(x1-x2))*y1))+((-((y1+y2)+y2))*((y1*y1)-(((x1*x1)*x1)+B))))+((-((y1+y1)+y2))*((y2*y2)-(((x2*x2)*x2)+B)))):=ring [B,x1,x2,y1,y2] (.a (.m (.a (.m (.v 3) (.v 4)) (.m (.a (.a (.v 0) (.v 0)) (.v 0)) (.m .o .o))) (.a (.m (.v 3) .o) (.m (.v 4) .o))) (.m (.a (.a (.m (.v 1) (.v 2)) (.m (.v 1) (.v 2))) (.m (.v 1) (.v 2))) (.a (.m (.v 1) (.v 4)) (.m (.v 2) (.v 3))))) (.a (.a (.a (.s (.m (.m (.a (.v 3) (.v 4)) (.a (.v 3) (.v 4))) (.a (.v 3) (.v 4))) (.m (.m (.s (.v 1) (.v 2)) (.s (.v 1) (.v 2))) (.m (.a (.v 3) (.v 4)) (.a (.a (.v 1) (.v 1)) (.v 2))))) (.m (.m (.m (.s (.v 1) (.v 2)) (.s (.v 1) (.v 2))) (.s (.v 1) (.v 2))) (.v 3))) (.m (.n (.a (.a (.v 3) (.v 4)) (.v 4))) (.s (.m (.v 3) (.v 3)) (.a (.m (.m (.v 1) (.v 1)) (.v 1)) (.v 0))))) (.m (.n (.a (.a (.v 3) (.v 3)) (.v 4))) (.s (.m (.v 4) (.v 4)) (.a (.m (.m (.v 2) (.v 2)) (.v 2)) (.v 0))))) (by kernel_rfl)
theorem ep18 (l x1 x2 y1 y2:α):((((x1-x2)*(x1-x2))*(x1-x2))*((l*(((l*l)-x1)-x2))+(y1-(l*x1))))=((((((y1+y2)*(y1+y2))*(y1+y2))-(((x1-x2)*(x1-x2))*((y1+y2)*((x1+x1)+x2))))+((((x1-x2)*(x1-x2))*(x1-x2))*y1))+(((-((((l*(x2-x1))*(l*(x2-x1)))+((l*(x2-x1))*((-y2)-y1)))+(((-y2)-y1)*((-y2)-y1))))+(((x1-x2)*(x1-x2))*((x1+x1)+x2)))*((l*(x2-x1))-((-y2)-y1)))):=ring [l,x1,x2,y1,y2] (.m (.m (.m (.s (.v 1) (.v 2)) (.s (.v 1) (.v 2))) (.s (.v 1) (.v 2))) (.a (.m (.v 0) (.s (.s (.m (.v 0) (.v 0)) (.v 1)) (.v 2))) (.s (.v 3) (.m (.v 0) (.v 1))))) (.a (.a (.s (.m (.m (.a (.v 3) (.v 4)) (.a (.v 3) (.v 4))) (.a (.v 3) (.v 4))) (.m (.m (.s (.v 1) (.v 2)) (.s (.v 1) (.v 2))) (.m (.a (.v 3) (.v 4)) (.a (.a (.v 1) (.v 1)) (.v 2))))) (.m (.m (.m (.s (.v 1) (.v 2)) (.s (.v 1) (.v 2))) (.s (.v 1) (.v 2))) (.v 3))) (.m (.a (.n (.a (.a (.m (.m (.v 0) (.s (.v 2) (.v 1))) (.m (.v 0) (.s (.v 2) (.v 1)))) (.m (.m (.v 0) (.s (.v 2) (.v 1))) (.s (.n (.v 4)) (.v 3)))) (.m (.s (.n (.v 4)) (.v 3)) (.s (.n (.v 4)) (.v 3))))) (.m (.m (.s (.v 1) (.v 2)) (.s (.v 1) (.v 2))) (.a (.a (.v 1) (.v 1)) (.v 2)))) (.s (.m (.v 0) (.s (.v 2) (.v 1))) (.s (.n (.v 4)) (.v 3))))) (by kernel_rfl)
theorem ep19 (l m x1 x2:α):((((x1*((l*x2)+m))+(x2*((l*x1)+m)))*((((l*x1)+m)*((l*x2)+m))-(((((m*m)-((x1*x2)*(((l*l)-x1)-x2)))+((m*m)-((x1*x2)*(((l*l)-x1)-x2))))+((m*m)-((x1*x2)*(((l*l)-x1)-x2))))*(1*1))))-(((((l*x1)+m)*1)+(((l*x2)+m)*1))*(((((m*m)-((x1*x2)*(((l*l)-x1)-x2)))+((m*m)-((x1*x2)*(((l*l)-x1)-x2))))+((m*m)-((x1*x2)*(((l*l)-x1)-x2))))*((x1*1)+(x2*1)))))=(((((l*l)-x1)-x2)*((((((l*x1)+m)*((l*x2)+m))+(((((m*m)-((x1*x2)*(((l*l)-x1)-x2)))+((m*m)-((x1*x2)*(((l*l)-x1)-x2))))+((m*m)-((x1*x2)*(((l*l)-x1)-x2))))*(1*1)))*((((l*x1)+m)*1)+(((l*x2)+m)*1)))+((((x1*x2)+(x1*x2))+(x1*x2))*((x1*((l*x2)+m))+(x2*((l*x1)+m))))))+((l*(((((((l*l)*x1)*x2)+(((l*l)*x1)*x2))-((l*m)*x1))-((l*m)*x2))-((((m*m)+(m*m))+(m*m))+(m*m))))*((((x1*x2)+(x2*(((l*l)-x1)-x2)))+(x1*(((l*l)-x1)-x2)))-((-(l*m))-(l*m))))):=ring [l,m,x1,x2] (.s (.m (.a (.m (.v 2) (.a (.m (.v 0) (.v 3)) (.v 1))) (.m (.v 3) (.a (.m (.v 0) (.v 2)) (.v 1)))) (.s (.m (.a (.m (.v 0) (.v 2)) (.v 1)) (.a (.m (.v 0) (.v 3)) (.v 1))) (.m (.a (.a (.s (.m (.v 1) (.v 1)) (.m (.m (.v 2) (.v 3)) (.s (.s (.m (.v 0) (.v 0)) (.v 2)) (.v 3)))) (.s (.m (.v 1) (.v 1)) (.m (.m (.v 2) (.v 3)) (.s (.s (.m (.v 0) (.v 0)) (.v 2)) (.v 3))))) (.s (.m (.v 1) (.v 1)) (.m (.m (.v 2) (.v 3)) (.s (.s (.m (.v 0) (.v 0)) (.v 2)) (.v 3))))) (.m .o .o)))) (.m (.a (.m (.a (.m (.v 0) (.v 2)) (.v 1)) .o) (.m (.a (.m (.v 0) (.v 3)) (.v 1)) .o)) (.m (.a (.a (.s (.m (.v 1) (.v 1)) (.m (.m (.v 2) (.v 3)) (.s (.s (.m (.v 0) (.v 0)) (.v 2)) (.v 3)))) (.s (.m (.v 1) (.v 1)) (.m (.m (.v 2) (.v 3)) (.s (.s (.m (.v 0) (.v 0)) (.v 2)) (.v 3))))) (.s (.m (.v 1) (.v 1)) (.m (.m (.v 2) (.v 3)) (.s (.s (.m (.v 0) (.v 0)) (.v 2)) (.v 3))))) (.a (.m (.v 2) .o) (.m (.v 3) .o))))) (.a (.m (.s (.s (.m (.v 0) (.v 0)) (.v 2)) (.v 3)) (.a (.m (.a (.m (.a (.m (.v 0) (.v 2)) (.v 1)) (.a (.m (.v 0) (.v 3)) (.v 1))) (.m (.a (.a (.s (.m (.v 1) (.v 1)) (.m (.m (.v 2) (.v 3)) (.s (.s (.m (.v 0) (.v 0)) (.v 2)) (.v 3)))) (.s (.m (.v 1) (.v 1)) (.m (.m (.v 2) (.v 3)) (.s (.s (.m (.v 0) (.v 0)) (.v 2)) (.v 3))))) (.s (.m (.v 1) (.v 1)) (.m (.m (.v 2) (.v 3)) (.s (.s (.m (.v 0) (.v 0)) (.v 2)) (.v 3))))) (.m .o .o))) (.a (.m (.a (.m (.v 0) (.v 2)) (.v 1)) .o) (.m (.a (.m (.v 0) (.v 3)) (.v 1)) .o))) (.m (.a (.a (.m (.v 2) (.v 3)) (.m (.v 2) (.v 3))) (.m (.v 2) (.v 3))) (.a (.m (.v 2) (.a (.m (.v 0) (.v 3)) (.v 1))) (.m (.v 3) (.a (.m (.v 0) (.v 2)) (.v 1))))))) (.m (.m (.v 0) (.s (.s (.s (.a (.m (.m (.m (.v 0) (.v 0)) (.v 2)) (.v 3)) (.m (.m (.m (.v 0) (.v 0)) (.v 2)) (.v 3))) (.m (.m (.v 0) (.v 1)) (.v 2))) (.m (.m (.v 0) (.v 1)) (.v 3))) (.a (.a (.a (.m (.v 1) (.v 1)) (.m (.v 1) (.v 1))) (.m (.v 1) (.v 1))) (.m (.v 1) (.v 1))))) (.s (.a (.a (.m (.v 2) (.v 3)) (.m (.v 3) (.s (.s (.m (.v 0) (.v 0)) (.v 2)) (.v 3)))) (.m (.v 2) (.s (.s (.m (.v 0) (.v 0)) (.v 2)) (.v 3)))) (.s (.n (.m (.v 0) (.v 1))) (.m (.v 0) (.v 1)))))) (by kernel_rfl)
theorem ep20 (l m x1 x2:α):((((((l*x1)+m)*((l*x2)+m))-(((((m*m)-((x1*x2)*(((l*l)-x1)-x2)))+((m*m)-((x1*x2)*(((l*l)-x1)-x2))))+((m*m)-((x1*x2)*(((l*l)-x1)-x2))))*(1*1)))*((((l*x1)+m)*((l*x2)+m))+(((((m*m)-((x1*x2)*(((l*l)-x1)-x2)))+((m*m)-((x1*x2)*(((l*l)-x1)-x2))))+((m*m)-((x1*x2)*(((l*l)-x1)-x2))))*(1*1))))+((((((m*m)-((x1*x2)*(((l*l)-x1)-x2)))+((m*m)-((x1*x2)*(((l*l)-x1)-x2))))+((m*m)-((x1*x2)*(((l*l)-x1)-x2))))*((x1*1)+(x2*1)))*(((x1*x2)+(x1*x2))+(x1*x2))))=(((-((l*(((l*l)-x1)-x2))+m))*((((((l*x1)+m)*((l*x2)+m))+(((((m*m)-((x1*x2)*(((l*l)-x1)-x2)))+((m*m)-((x1*x2)*(((l*l)-x1)-x2))))+((m*m)-((x1*x2)*(((l*l)-x1)-x2))))*(1*1)))*((((l*x1)+m)*1)+(((l*x2)+m)*1)))+((((x1*x2)+(x1*x2))+(x1*x2))*((x1*((l*x2)+m))+(x2*((l*x1)+m))))))+((l*((((((((0-(((((l*l)*l)*x1)*x2)+((((l*l)*l)*x1)*x2)))+(((l*l)*m)*x1))+(((l*l)*m)*x2))+(((((l*m)*m)+((l*m)*m))+((l*m)*m))+((l*m)*m)))+(((((l*x1)*x1)*x2)+(((l*x1)*x1)*x2))+(((l*x1)*x1)*x2)))+(((((l*x1)*x2)*x2)+(((l*x1)*x2)*x2))+(((l*x1)*x2)*x2)))+((((m*x1)*x2)+((m*x1)*x2))+((m*x1)*x2)))+((((m*x1)*x2)+((m*x1)*x2))+((m*x1)*x2))))*((((x1*x2)+(x2*(((l*l)-x1)-x2)))+(x1*(((l*l)-x1)-x2)))-((-(l*m))-(l*m))))):=ring [l,m,x1,x2] (.a (.m (.s (.m (.a (.m (.v 0) (.v 2)) (.v 1)) (.a (.m (.v 0) (.v 3)) (.v 1))) (.m (.a (.a (.s (.m (.v 1) (.v 1)) (.m (.m (.v 2) (.v 3)) (.s (.s (.m (.v 0) (.v 0)) (.v 2)) (.v 3)))) (.s (.m (.v 1) (.v 1)) (.m (.m (.v 2) (.v 3)) (.s (.s (.m (.v 0) (.v 0)) (.v 2)) (.v 3))))) (.s (.m (.v 1) (.v 1)) (.m (.m (.v 2) (.v 3)) (.s (.s (.m (.v 0) (.v 0)) (.v 2)) (.v 3))))) (.m .o .o))) (.a (.m (.a (.m (.v 0) (.v 2)) (.v 1)) (.a (.m (.v 0) (.v 3)) (.v 1))) (.m (.a (.a (.s (.m (.v 1) (.v 1)) (.m (.m (.v 2) (.v 3)) (.s (.s (.m (.v 0) (.v 0)) (.v 2)) (.v 3)))) (.s (.m (.v 1) (.v 1)) (.m (.m (.v 2) (.v 3)) (.s (.s (.m (.v 0) (.v 0)) (.v 2)) (.v 3))))) (.s (.m (.v 1) (.v 1)) (.m (.m (.v 2) (.v 3)) (.s (.s (.m (.v 0) (.v 0)) (.v 2)) (.v 3))))) (.m .o .o)))) (.m (.m (.a (.a (.s (.m (.v 1) (.v 1)) (.m (.m (.v 2) (.v 3)) (.s (.s (.m (.v 0) (.v 0)) (.v 2)) (.v 3)))) (.s (.m (.v 1) (.v 1)) (.m (.m (.v 2) (.v 3)) (.s (.s (.m (.v 0) (.v 0)) (.v 2)) (.v 3))))) (.s (.m (.v 1) (.v 1)) (.m (.m (.v 2) (.v 3)) (.s (.s (.m (.v 0) (.v 0)) (.v 2)) (.v 3))))) (.a (.m (.v 2) .o) (.m (.v 3) .o))) (.a (.a (.m (.v 2) (.v 3)) (.m (.v 2) (.v 3))) (.m (.v 2) (.v 3))))) (.a (.m (.n (.a (.m (.v 0) (.s (.s (.m (.v 0) (.v 0)) (.v 2)) (.v 3))) (.v 1))) (.a (.m (.a (.m (.a (.m (.v 0) (.v 2)) (.v 1)) (.a (.m (.v 0) (.v 3)) (.v 1))) (.m (.a (.a (.s (.m (.v 1) (.v 1)) (.m (.m (.v 2) (.v 3)) (.s (.s (.m (.v 0) (.v 0)) (.v 2)) (.v 3)))) (.s (.m (.v 1) (.v 1)) (.m (.m (.v 2) (.v 3)) (.s (.s (.m (.v 0) (.v 0)) (.v 2)) (.v 3))))) (.s (.m (.v 1) (.v 1)) (.m (.m (.v 2) (.v 3)) (.s (.s (.m (.v 0) (.v 0)) (.v 2)) (.v 3))))) (.m .o .o))) (.a (.m (.a (.m (.v 0) (.v 2)) (.v 1)) .o) (.m (.a (.m (.v 0) (.v 3)) (.v 1)) .o))) (.m (.a (.a (.m (.v 2) (.v 3)) (.m (.v 2) (.v 3))) (.m (.v 2) (.v 3))) (.a (.m (.v 2) (.a (.m (.v 0) (.v 3)) (.v 1))) (.m (.v 3) (.a (.m (.v 0) (.v 2)) (.v 1))))))) (.m (.m (.v 0) (.a (.a (.a (.a (.a (.a (.a (.s (.k 0) (.a (.m (.m (.m (.m (.v 0) (.v 0)) (.v 0)) (.v 2)) (.v 3)) (.m (.m (.m (.m (.v 0) (.v 0)) (.v 0)) (.v 2)) (.v 3)))) (.m (.m (.m (.v 0) (.v 0)) (.v 1)) (.v 2))) (.m (.m (.m (.v 0) (.v 0)) (.v 1)) (.v 3))) (.a (.a (.a (.m (.m (.v 0) (.v 1)) (.v 1)) (.m (.m (.v 0) (.v 1)) (.v 1))) (.m (.m (.v 0) (.v 1)) (.v 1))) (.m (.m (.v 0) (.v 1)) (.v 1)))) (.a (.a (.m (.m (.m (.v 0) (.v 2)) (.v 2)) (.v 3)) (.m (.m (.m (.v 0) (.v 2)) (.v 2)) (.v 3))) (.m (.m (.m (.v 0) (.v 2)) (.v 2)) (.v 3)))) (.a (.a (.m (.m (.m (.v 0) (.v 2)) (.v 3)) (.v 3)) (.m (.m (.m (.v 0) (.v 2)) (.v 3)) (.v 3))) (.m (.m (.m (.v 0) (.v 2)) (.v 3)) (.v 3)))) (.a (.a (.m (.m (.v 1) (.v 2)) (.v 3)) (.m (.m (.v 1) (.v 2)) (.v 3))) (.m (.m (.v 1) (.v 2)) (.v 3)))) (.a (.a (.m (.m (.v 1) (.v 2)) (.v 3)) (.m (.m (.v 1) (.v 2)) (.v 3))) (.m (.m (.v 1) (.v 2)) (.v 3))))) (.s (.a (.a (.m (.v 2) (.v 3)) (.m (.v 3) (.s (.s (.m (.v 0) (.v 0)) (.v 2)) (.v 3)))) (.m (.v 2) (.s (.s (.m (.v 0) (.v 0)) (.v 2)) (.v 3)))) (.s (.n (.m (.v 0) (.v 1))) (.m (.v 0) (.v 1)))))) (by kernel_rfl)
theorem ep21 (m B x1 x2 x3:α):((m*m)-((x1*x2)*x3))=(B+((-1)*(((x1*x2)*x3)-((m*m)-B)))):=ring [m,B,x1,x2,x3] (.s (.m (.v 0) (.v 0)) (.m (.m (.v 2) (.v 3)) (.v 4))) (.a (.v 1) (.m (.n .o) (.s (.m (.m (.v 2) (.v 3)) (.v 4)) (.s (.m (.v 0) (.v 0)) (.v 1))))) (by kernel_rfl)
theorem scX {b x1 x2 y1 y2 c e z1 z2:α} :(((((c*x1)*(e*y2))+((e*x2)*(c*y1)))*(((c*y1)*(e*y2))-(b*((c*z1)*(e*z2)))))-((((c*y1)*(e*z2))+((e*y2)*(c*z1)))*(b*(((c*x1)*(e*z2))+((e*x2)*(c*z1))))))=(((c*e)*(c*e))*((((x1*y2)+(x2*y1))*((y1*y2)-(b*(z1*z2))))-(((y1*z2)+(y2*z1))*(b*((x1*z2)+(x2*z1)))))):=(ep0 (b) (x1) (x2) (y1) (y2) (c) (e) (z1) (z2))
theorem scY {b x1 x2 y1 y2 c e z1 z2:α} :(((((c*y1)*(e*y2))-(b*((c*z1)*(e*z2))))*(((c*y1)*(e*y2))+(b*((c*z1)*(e*z2)))))+((b*(((c*x1)*(e*z2))+((e*x2)*(c*z1))))*((((c*x1)*(e*x2))+((c*x1)*(e*x2)))+((c*x1)*(e*x2)))))=(((c*e)*(c*e))*((((y1*y2)-(b*(z1*z2)))*((y1*y2)+(b*(z1*z2))))+((b*((x1*z2)+(x2*z1)))*(((x1*x2)+(x1*x2))+(x1*x2))))):=(ep1 (b) (x1) (x2) (y1) (y2) (c) (e) (z1) (z2))
theorem scZ {b x1 x2 y1 y2 c e z1 z2:α} :(((((c*y1)*(e*y2))+(b*((c*z1)*(e*z2))))*(((c*y1)*(e*z2))+((e*y2)*(c*z1))))+(((((c*x1)*(e*x2))+((c*x1)*(e*x2)))+((c*x1)*(e*x2)))*(((c*x1)*(e*y2))+((e*x2)*(c*y1)))))=(((c*e)*(c*e))*((((y1*y2)+(b*(z1*z2)))*((y1*z2)+(y2*z1)))+((((x1*x2)+(x1*x2))+(x1*x2))*((x1*y2)+(x2*y1))))):=(ep2 (b) (x1) (x2) (y1) (y2) (c) (e) (z1) (z2))
theorem ooX {b:α} :((((0*1)+(0*1))*((1*1)-(b*(0*0))))-(((1*0)+(1*0))*(b*((0*0)+(0*0)))))=0:=(ep3 (b))
theorem ooY {b:α} :((((1*1)-(b*(0*0)))*((1*1)+(b*(0*0))))+((b*((0*0)+(0*0)))*(((0*0)+(0*0))+(0*0))))=1:=(ep4 (b))
theorem ooZ {b:α} :((((1*1)+(b*(0*0)))*((1*0)+(1*0)))+((((0*0)+(0*0))+(0*0))*((0*1)+(0*1))))=0:=(ep5 (b))
theorem oqX {b x2 y2:α} :((((0*y2)+(x2*1))*((1*y2)-(b*(0*1))))-(((1*1)+(y2*0))*(b*((0*1)+(x2*0)))))=(y2*x2):=(ep6 (b) (x2) (y2))
theorem oqY {b x2 y2:α} :((((1*y2)-(b*(0*1)))*((1*y2)+(b*(0*1))))+((b*((0*1)+(x2*0)))*(((0*x2)+(0*x2))+(0*x2))))=(y2*y2):=(ep7 (b) (x2) (y2))
theorem oqZ {b x2 y2:α} :((((1*y2)+(b*(0*1)))*((1*1)+(y2*0)))+((((0*x2)+(0*x2))+(0*x2))*((0*y2)+(x2*1))))=(y2*1):=(ep8 (b) (x2) (y2))
theorem poX {b x1 y1:α} :((((x1*1)+(0*y1))*((y1*1)-(b*(1*0))))-(((y1*0)+(1*1))*(b*((x1*0)+(0*1)))))=(y1*x1):=(ep9 (b) (x1) (y1))
theorem poY {b x1 y1:α} :((((y1*1)-(b*(1*0)))*((y1*1)+(b*(1*0))))+((b*((x1*0)+(0*1)))*(((x1*0)+(x1*0))+(x1*0))))=(y1*y1):=(ep10 (b) (x1) (y1))
theorem poZ {b x1 y1:α} :((((y1*1)+(b*(1*0)))*((y1*0)+(1*1)))+((((x1*0)+(x1*0))+(x1*0))*((x1*1)+(0*y1))))=(y1*1):=(ep11 (b) (x1) (y1))
theorem vX {b x1 y1:α} :((((x1*(-y1))+(x1*y1))*((y1*(-y1))-(b*(1*1))))-(((y1*1)+((-y1)*1))*(b*((x1*1)+(x1*1)))))=0:=(ep12 (b) (x1) (y1))
theorem vZ {b x1 y1:α} :((((y1*(-y1))+(b*(1*1)))*((y1*1)+((-y1)*1)))+((((x1*x1)+(x1*x1))+(x1*x1))*((x1*(-y1))+(x1*y1))))=0:=(ep13 (b) (x1) (y1))
theorem vYa {l x1 y1:α} (ct:(l*(y1+y1))=(((x1*x1)+(x1*x1))+(x1*x1))):((((y1+y1)*(y1+y1))*(y1+y1))*((l*(((l*l)-x1)-x1))+(y1-(l*x1))))=(((((x1*x1)+(x1*x1))+(x1*x1))*(((((x1*x1)+(x1*x1))+(x1*x1))*(((x1*x1)+(x1*x1))+(x1*x1)))-(((y1+y1)*(y1+y1))*((x1+x1)+x1))))+((((y1+y1)*(y1+y1))*(y1+y1))*y1)):=(lc1 ct (ep14 (l) (x1) (y1)))
theorem vYb {B x1 y1:α} (c1:(y1*y1)=(((x1*x1)*x1)+B)):(((((x1*x1)+(x1*x1))+(x1*x1))*(((((x1*x1)+(x1*x1))+(x1*x1))*(((x1*x1)+(x1*x1))+(x1*x1)))-(((y1+y1)*(y1+y1))*((x1+x1)+x1))))+((((y1+y1)*(y1+y1))*(y1+y1))*y1))=(-((((y1*(-y1))-(((B+B)+B)*(1*1)))*((y1*(-y1))+(((B+B)+B)*(1*1))))+((((B+B)+B)*((x1*1)+(x1*1)))*(((x1*x1)+(x1*x1))+(x1*x1))))):=(lc1 c1 (ep15 (B) (x1) (y1)))
theorem dZ {B x1 y1:α} (c1:(y1*y1)=(((x1*x1)*x1)+B)):((((y1*y1)+(((B+B)+B)*(1*1)))*((y1*1)+(y1*1)))+((((x1*x1)+(x1*x1))+(x1*x1))*((x1*y1)+(x1*y1))))=(((y1+y1)*(y1+y1))*(y1+y1)):=(lc1 c1 (ep16 (B) (x1) (y1)))
theorem cZa {B x1 x2 y1 y2:α} (c1:(y1*y1)=(((x1*x1)*x1)+B)) (c2:(y2*y2)=(((x2*x2)*x2)+B)):((((y1*y2)+(((B+B)+B)*(1*1)))*((y1*1)+(y2*1)))+((((x1*x2)+(x1*x2))+(x1*x2))*((x1*y2)+(x2*y1))))=(((((y1+y2)*(y1+y2))*(y1+y2))-(((x1-x2)*(x1-x2))*((y1+y2)*((x1+x1)+x2))))+((((x1-x2)*(x1-x2))*(x1-x2))*y1)):=(lc2 c1 c2 (ep17 (B) (x1) (x2) (y1) (y2)))
theorem cZb {l x1 x2 y1 y2:α} (cl:(l*(x2-x1))=((-y2)-y1)):((((x1-x2)*(x1-x2))*(x1-x2))*((l*(((l*l)-x1)-x2))+(y1-(l*x1))))=(((((y1+y2)*(y1+y2))*(y1+y2))-(((x1-x2)*(x1-x2))*((y1+y2)*((x1+x1)+x2))))+((((x1-x2)*(x1-x2))*(x1-x2))*y1)):=(lc1 cl (ep18 (l) (x1) (x2) (y1) (y2)))
theorem lX {l m x1 x2:α} (e2:(((x1*x2)+(x2*(((l*l)-x1)-x2)))+(x1*(((l*l)-x1)-x2)))=((-(l*m))-(l*m))):((((x1*((l*x2)+m))+(x2*((l*x1)+m)))*((((l*x1)+m)*((l*x2)+m))-(((((m*m)-((x1*x2)*(((l*l)-x1)-x2)))+((m*m)-((x1*x2)*(((l*l)-x1)-x2))))+((m*m)-((x1*x2)*(((l*l)-x1)-x2))))*(1*1))))-(((((l*x1)+m)*1)+(((l*x2)+m)*1))*(((((m*m)-((x1*x2)*(((l*l)-x1)-x2)))+((m*m)-((x1*x2)*(((l*l)-x1)-x2))))+((m*m)-((x1*x2)*(((l*l)-x1)-x2))))*((x1*1)+(x2*1)))))=((((l*l)-x1)-x2)*((((((l*x1)+m)*((l*x2)+m))+(((((m*m)-((x1*x2)*(((l*l)-x1)-x2)))+((m*m)-((x1*x2)*(((l*l)-x1)-x2))))+((m*m)-((x1*x2)*(((l*l)-x1)-x2))))*(1*1)))*((((l*x1)+m)*1)+(((l*x2)+m)*1)))+((((x1*x2)+(x1*x2))+(x1*x2))*((x1*((l*x2)+m))+(x2*((l*x1)+m)))))):=(lc1 e2 (ep19 (l) (m) (x1) (x2)))
theorem lY {l m x1 x2:α} (e2:(((x1*x2)+(x2*(((l*l)-x1)-x2)))+(x1*(((l*l)-x1)-x2)))=((-(l*m))-(l*m))):((((((l*x1)+m)*((l*x2)+m))-(((((m*m)-((x1*x2)*(((l*l)-x1)-x2)))+((m*m)-((x1*x2)*(((l*l)-x1)-x2))))+((m*m)-((x1*x2)*(((l*l)-x1)-x2))))*(1*1)))*((((l*x1)+m)*((l*x2)+m))+(((((m*m)-((x1*x2)*(((l*l)-x1)-x2)))+((m*m)-((x1*x2)*(((l*l)-x1)-x2))))+((m*m)-((x1*x2)*(((l*l)-x1)-x2))))*(1*1))))+((((((m*m)-((x1*x2)*(((l*l)-x1)-x2)))+((m*m)-((x1*x2)*(((l*l)-x1)-x2))))+((m*m)-((x1*x2)*(((l*l)-x1)-x2))))*((x1*1)+(x2*1)))*(((x1*x2)+(x1*x2))+(x1*x2))))=((-((l*(((l*l)-x1)-x2))+m))*((((((l*x1)+m)*((l*x2)+m))+(((((m*m)-((x1*x2)*(((l*l)-x1)-x2)))+((m*m)-((x1*x2)*(((l*l)-x1)-x2))))+((m*m)-((x1*x2)*(((l*l)-x1)-x2))))*(1*1)))*((((l*x1)+m)*1)+(((l*x2)+m)*1)))+((((x1*x2)+(x1*x2))+(x1*x2))*((x1*((l*x2)+m))+(x2*((l*x1)+m)))))):=(lc1 e2 (ep20 (l) (m) (x1) (x2)))
theorem bof {m B x1 x2 x3:α} (f1:((x1*x2)*x3)=((m*m)-B)):((m*m)-((x1*x2)*x3))=B:=(lc1 f1 (ep21 (m) (B) (x1) (x2) (x3)))
variable [DecidableEq α]
def rX (b x1 y1 z1 x2 y2 z2:α):α:=((((x1*y2)+(x2*y1))*((y1*y2)-(b*(z1*z2))))-(((y1*z2)+(y2*z1))*(b*((x1*z2)+(x2*z1)))))
def rY (b x1 y1 z1 x2 y2 z2:α):α:=((((y1*y2)-(b*(z1*z2)))*((y1*y2)+(b*(z1*z2))))+((b*((x1*z2)+(x2*z1)))*(((x1*x2)+(x1*x2))+(x1*x2))))
def rZ (b x1 y1 z1 x2 y2 z2:α):α:=((((y1*y2)+(b*(z1*z2)))*((y1*z2)+(y2*z1)))+((((x1*x2)+(x1*x2))+(x1*x2))*((x1*y2)+(x2*y1))))
def Rep (P:Pt α) (X Y Z:α):Prop:=∃ c:α,c≠0∧match P with
 | .inf=>X=c*0∧Y=c*1∧Z=c*0
 | .aff x y=>X=c*x∧Y=c*y∧Z=c*1
variable {iv:α→α} {B:α}
theorem Crv.ne_mul (C:Crv iv B) {a b:α} (ha:a≠0) (hb:b≠0):a*b≠0:=fun h=>hb (C.cancel ha h)
theorem Crv.y_ne (C:Crv iv B) {x y:α} (h:y*y=x*x*x+B):y≠0:=fun e=>C.odd x y h (by rw [e];exact CR.zero_add 0)
theorem Rep.of {S:Pt α} {a a' a'' b b' b'' b3:α} {c e:α} (hc:c*e≠0) (C:Crv iv B)
  (h:Rep S (rX b3 a a' a'' b b' b'') (rY b3 a a' a'' b b' b'') (rZ b3 a a' a'' b b' b'')) :
  Rep S (rX b3 (c*a) (c*a') (c*a'') (e*b) (e*b') (e*b'')) (rY b3 (c*a) (c*a') (c*a'') (e*b) (e*b') (e*b'')) (rZ b3 (c*a) (c*a') (c*a'') (e*b) (e*b') (e*b'')):=by
 have sX:rX b3 (c*a) (c*a') (c*a'') (e*b) (e*b') (e*b'')=c*e*(c*e)*rX b3 a a' a'' b b' b'':=scX
 have sY:rY b3 (c*a) (c*a') (c*a'') (e*b) (e*b') (e*b'')=c*e*(c*e)*rY b3 a a' a'' b b' b'':=scY
 have sZ:rZ b3 (c*a) (c*a') (c*a'') (e*b) (e*b') (e*b'')=c*e*(c*e)*rZ b3 a a' a'' b b' b'':=scZ
 rw [sX,sY,sZ]
 obtain ⟨d,hd,h⟩:=h
 refine ⟨c*e*(c*e)*d,C.ne_mul (C.ne_mul hc hc) hd,?_⟩
 cases S with
 | inf=>exact ⟨by rw [h.1];exact (CR.mul_assoc _ _ _).symm,by rw [h.2.1];exact (CR.mul_assoc _ _ _).symm,by rw [h.2.2];exact (CR.mul_assoc _ _ _).symm⟩
 | aff x y=>exact ⟨by rw [h.1];exact (CR.mul_assoc _ _ _).symm,by rw [h.2.1];exact (CR.mul_assoc _ _ _).symm,by rw [h.2.2];exact (CR.mul_assoc _ _ _).symm⟩
theorem Rep.sum (C:Crv iv B) {P Q:Pt α} (hP:On B P) (hQ:On B Q) {X Y Z X' Y' Z':α} (h:Rep P X Y Z) (h':Rep Q X' Y' Z') :
  Rep (add iv P Q) (rX (B+B+B) X Y Z X' Y' Z') (rY (B+B+B) X Y Z X' Y' Z') (rZ (B+B+B) X Y Z X' Y' Z'):=by
 obtain ⟨c,hc,h⟩:=h
 obtain ⟨e,he,h'⟩:=h'
 have hce:=C.ne_mul hc he
 cases P with
 | inf =>
  obtain ⟨rfl,rfl,rfl⟩:=h
  cases Q with
  | inf =>
   obtain ⟨rfl,rfl,rfl⟩:=h'
   refine Rep.of hce C ⟨1,C.one,?_⟩
   exact ⟨ooX.trans (Rn.mul_zero _).symm,ooY.trans (Rn.mul_one _).symm,ooZ.trans (Rn.mul_zero _).symm⟩
  | aff x y =>
   obtain ⟨rfl,rfl,rfl⟩:=h'
   exact Rep.of hce C ⟨y,C.y_ne hQ,oqX,oqY,oqZ⟩
 | aff x1 y1 =>
  obtain ⟨rfl,rfl,rfl⟩:=h
  cases Q with
  | inf =>
   obtain ⟨rfl,rfl,rfl⟩:=h'
   exact Rep.of hce C ⟨y1,C.y_ne hP,poX,poY,poZ⟩
  | aff x2 y2 =>
   obtain ⟨rfl,rfl,rfl⟩:=h'
   refine Rep.of hce C ?_
   have c1:y1*y1=x1*x1*x1+B:=hP
   have c2:y2*y2=x2*x2*x2+B:=hQ
   by_cases hv:x1=x2∧y1+y2=0
   ·rw [add_v iv hv]
    obtain ⟨rfl,hv⟩:=hv
    have:=zn ((CR.add_comm _ _).trans hv)
    subst this
    have hy:=C.odd _ _ c1
    obtain ⟨l,hl⟩:∃ l,l*(y1+y1)=x1*x1+x1*x1+x1*x1:=⟨(x1*x1+x1*x1+x1*x1)*iv (y1+y1),by rw [CR.mul_assoc,CR.mul_comm (iv _),C.iv _ hy,Rn.mul_one]⟩
    have hL:Ln B x1 x1 (l*l-x1-x1) l (y1-l*x1):=⟨x3sum,cTe2 hl,cE3 c1 (cTe2 hl)⟩
    have k:=C.ne_mul (C.ne_mul (C.ne_mul hy hy) hy) (C.y_ne hL.on3)
    rw [vYa hl,vYb c1] at k
    refine ⟨rY (B+B+B) x1 y1 1 x1 (-y1) 1,fun h0=>k (by
     have h1:-rY (B+B+B) x1 y1 1 x1 (-y1) 1=0:=by rw [h0,Rn.neg_zero]
     exact h1),?_⟩
    exact ⟨vX.trans (Rn.mul_zero _).symm,(Rn.mul_one _).symm,vZ.trans (Rn.mul_zero _).symm⟩
   ·obtain ⟨x3,l,m,rfl,rfl,hL⟩:=ln_of C hP hQ hv
    rw [hL.add C hv]
    have hz:rZ (B+B+B) x1 (l*x1+m) 1 x2 (l*x2+m) 1≠0:=by
     by_cases e:x1=x2
     ·subst e
      have hy:=C.odd _ _ c1
      have hd:rZ (B+B+B) x1 (l*x1+m) 1 x1 (l*x1+m) 1=_:=dZ c1
      rw [hd]
      exact C.ne_mul (C.ne_mul hy hy) hy
     ·have hd:x2-x1≠0:=fun h0=>e (dz h0).symm
      have hd':x1-x2≠0:=fun h0=>e (dz h0)
      have c2':-(l*x2+m)*-(l*x2+m)=x2*x2*x2+B:=ysq.trans c2
      have hv':¬ (x1=x2∧(l*x1+m)+-(l*x2+m)=0):=fun h'=>e h'.1
      obtain ⟨k,hk⟩:∃ k,k*(x2-x1)=-(l*x2+m)-(l*x1+m):=⟨(-(l*x2+m)-(l*x1+m))*iv (x2-x1),by rw [CR.mul_assoc,CR.mul_comm (iv _),C.iv _ hd,Rn.mul_one]⟩
      have e2:=zsub (C.cancel hd (cCh c1 c2' hk))
      have hL':Ln B x1 x2 (k*k-x1-x2) k ((l*x1+m)-k*x1):=⟨x3sum,e2,cE3 c1 e2⟩
      have kk:=C.ne_mul (C.ne_mul (C.ne_mul hd' hd') hd') (C.y_ne hL'.on3)
      have hz:rZ (B+B+B) x1 (l*x1+m) 1 x2 (l*x2+m) 1=_:=cZa c1 c2
      rw [hz,← cZb hk]
      exact kk
    refine ⟨_,hz,?_⟩
    obtain ⟨e1,e2,e3⟩:=hL
    have hx:=x3of e1
    have hB:m*m-x1*x2*x3=B:=bof e3
    subst hx
    subst hB
    refine ⟨?_,?_,(Rn.mul_one _).symm⟩
    ·exact (lX e2).trans (CR.mul_comm _ _)
    ·exact (lY e2).trans (CR.mul_comm _ _)
end
end Go.Proofs.YthnfgmhehfombaaGreatDoor.fpn.EC
/- The two curves, their generators and their orders. No program is named here. -/
namespace Go.Proofs.YthnfgmhehfombaaGreatDoor.fpn
open Rn EC
set_option linter.unusedSectionVars false
section
variable {α:Type} [Add α] [Mul α] [Neg α] [Sub α] [OfNat α 0] [OfNat α 1] [CR α] [DecidableEq α]
def lad (b gx gy gz:α):Nat→Nat→α × α × α
 | 0,_=>(0,1,0)
 | f+1,e=>match lad b gx gy gz f (e / 2) with
  | (X,Y,Z)=>match (rX b X Y Z X Y Z,rY b X Y Z X Y Z,rZ b X Y Z X Y Z) with
   | (X2,Y2,Z2)=>if e%2=1 then (rX b X2 Y2 Z2 gx gy gz,rY b X2 Y2 Z2 gx gy gz,rZ b X2 Y2 Z2 gx gy gz) else (X2,Y2,Z2)
variable {iv:α→α} {B:α}
theorem Rep.inf (C:Crv iv B):Rep (.inf:Pt α) 0 1 0:=⟨1,C.one,(Rn.mul_zero _).symm,(Rn.mul_one _).symm,(Rn.mul_zero _).symm⟩
theorem Rep.aff (C:Crv iv B) (x y:α):Rep (.aff x y) x y 1:=⟨1,C.one,(CR.one_mul _).symm,(CR.one_mul _).symm,(CR.one_mul _).symm⟩
theorem lad_rep (C:Crv iv B) {P:Pt α} (hP:On B P) {gx gy gz:α} (h:Rep P gx gy gz):∀ (f e:Nat),e<2^f→Rep (mul iv e P) (lad (B+B+B) gx gy gz f e).1 (lad (B+B+B) gx gy gz f e).2.1 (lad (B+B+B) gx gy gz f e).2.2
 | 0,e,he=>by
  have:e=0:=by simpa using he
  subst this
  exact Rep.inf C
 | f+1,e,he=>by
  have he':e / 2<2^f:=by rw [Nat.pow_succ] at he;omega
  have ih:=lad_rep C hP h f (e / 2) he'
  have on:=mul_on C hP (e / 2)
  have d:=Rep.sum C on on ih ih
  rw [← mul_two C hP] at d
  have on2:=mul_on C hP (2*(e / 2))
  unfold lad
  by_cases hb:e%2=1
  ·simp only [hb,if_true]
   have s:=Rep.sum C on2 hP d h
   have e1:mul iv e P=add iv (mul iv (2*(e / 2)) P) P:=by
    conv=>lhs;rw [show e=2*(e / 2)+1 by omega]
    rfl
   rw [e1]
   exact s
  ·simp only [hb,if_false]
   rw [show e=2*(e / 2) by omega]
   rw [show 2*(e / 2) / 2=e / 2 by omega]
   exact d
theorem Rep.z0 (C:Crv iv B) {P:Pt α} {X Y Z:α} (h:Rep P X Y Z) (hz:Z=0):P=.inf:=by
 obtain ⟨c,hc,h⟩:=h
 cases P with
 | inf=>rfl
 | aff x y=>exact absurd ((Rn.mul_one c).symm.trans (h.2.2.symm.trans hz)) hc
end
theorem F.double {y:F} (h:y+y=0):y=0:=by
 have h2:(2:F)*finv 2=1:=finv_mul two_ne
 have e:y*(2*finv 2)=(y+y)*finv 2:=by grind
 rw [h2,h] at e
 exact (Rn.mul_one y).symm.trans (e.trans (Rn.zero_mul _))
theorem cube8 (c i a:F) (h2:(2:F)*i=1) (ha:c*c*c=a):(c*i)*(c*i)*(c*i)*8=a:=by
 have e:(c*i)*(c*i)*(c*i)*8=c*c*c*((2*i)*(2*i)*(2*i)):=by grind
 rw [e,ha,h2];grind
theorem eight_ne (x y:F) (h:x*8=y*8):x=y:=by
 have h2:(2:F)*finv 2=1:=finv_mul two_ne
 have e:∀ z:F,z*8*(finv 2*finv 2*finv 2)=z*((2*finv 2)*(2*finv 2)*(2*finv 2)):=fun z=>by grind
 have a:=e x
 rw [h,e y,h2] at a
 have o:∀ z:F,z*(1*1*1)=z:=fun z=>by grind
 rw [o,o] at a
 exact a.symm
theorem no_cube4 (c:F) (h:c*c*c=4∨c*c*c=-4):False:=by
 have h2:(2:F)*finv 2=1:=finv_mul two_ne
 have hs:(c*c)*(c*c)*(c*c)=16:=by
  have e:(c*c)*(c*c)*(c*c)=(c*c*c)*(c*c*c):=by grind
  rw [e]
  rcases h with h | h
  ·rw [h];exact (show (4:F)*4=16 by kernel_rfl)
  ·rw [h];exact (show (-4:F)*-4=16 by kernel_rfl)
 have:=cube8 (c*c) (finv 2) 16 h2 hs
 exact two_cube (c*c*finv 2) (eight_ne _ 2 (this.trans (by kernel_rfl)))
theorem no_cube32 (c:F) (h:c*c*c=32):False:=by
 have h2:(2:F)*finv 2=1:=finv_mul two_ne
 have:=cube8 c (finv 2) 32 h2 h
 exact no_cube4 (c*finv 2) (.inl (eight_ne _ 4 (this.trans (by kernel_rfl))))
theorem crv1:Crv finv (4:F) where
 one:=fun h=>absurd (congrArg Fin.val h) (by decide +kernel)
 iv:=fun a h=>finv_mul h
 odd:=fun x y h h0=>by
  have hy:=F.double h0
  rw [hy] at h
  exact no_cube4 x (.inr (Rn.neg_uniq ((CR.add_comm _ _).trans (h.symm.trans (Rn.mul_zero _)))))
def b2:F2:=⟨4,4⟩
theorem b2_norm:(-b2).norm=32:=by kernel_rfl
theorem crv2:Crv F2.inv b2 where
 one:=F2.one_ne
 iv:=fun a h=>F2.inv_mul h
 odd:=fun x y h h0=>by
  have hy:y=0:=F2.ext' (F.double (congrArg F2.c0 h0)) (F.double (congrArg F2.c1 h0))
  subst hy
  have hx:x*x*x=-b2:=Rn.neg_uniq ((CR.add_comm _ _).trans (h.symm.trans (Rn.mul_zero _)))
  have hn:x.norm*x.norm*x.norm=32:=by rw [← F2.norm_mul,← F2.norm_mul,hx,b2_norm]
  exact no_cube32 _ hn
def ordR:Nat:=0x73eda753299d7d483339d80809a1d80553bda402fffe5bfeffffffff00000001
def g1x:F:=⟨0x17f1d3a73197d7942695638c4fa9ac0fc3688c4f9774b905a14e3a3f171bac586c55e83ff97a1aeffb3af00adb22c6bb,by decide +kernel⟩
def g1y:F:=⟨0x08b3f481e3aaa0f1a09e30ed741d8ae4fcf5e095d5d00af600db18cb2c04b3edd03cc744a2888ae40caa232946c5e7e1,by decide +kernel⟩
def gen1:Pt F:=.aff g1x g1y
theorem gen1_on:On (4:F) gen1:=by
 show g1y*g1y=g1x*g1x*g1x+4
 decide +kernel
set_option maxRecDepth 100000 in
theorem gen1_order:mul finv ordR gen1=.inf:=by
 refine Rep.z0 crv1 (lad_rep crv1 gen1_on (Rep.aff crv1 g1x g1y) 255 ordR (by decide +kernel)) ?_
 kernel_rfl
def g2x:F2:=⟨⟨0x024aa2b2f08f0a91260805272dc51051c6e47ad4fa403b02b4510b647ae3d1770bac0326a805bbefd48056c8c121bdb8,by decide +kernel⟩,⟨0x13e02b6052719f607dacd3a088274f65596bd0d09920b61ab5da61bbdc7f5049334cf11213945d57e5ac7d055d042b7e,by decide +kernel⟩⟩
def g2y:F2:=⟨⟨0x0ce5d527727d6e118cc9cdc6da2e351aadfd9baa8cbdd3a76d429a695160d12c923ac9cc3baca289e193548608b82801,by decide +kernel⟩,⟨0x0606c4a02ea734cc32acd2b02bc28b99cb3e287e85a763af267492ab572e99ab3f370d275cec1da1aaa9075ff05f79be,by decide +kernel⟩⟩
def gen2:Pt F2:=.aff g2x g2y
theorem gen2_on:On b2 gen2:=by
 show g2y*g2y=g2x*g2x*g2x+b2
 decide +kernel
set_option maxRecDepth 100000 in
theorem gen2_order:mul F2.inv ordR gen2=.inf:=by
 refine Rep.z0 crv2 (lad_rep crv2 gen2_on (Rep.aff crv2 g2x g2y) 255 ordR (by decide +kernel)) ?_
 kernel_rfl
end Go.Proofs.YthnfgmhehfombaaGreatDoor.fpn
/- Points by three numbers of Jacobi's, and sums of many by their bits. No program is named here. -/
namespace Go.Proofs.YthnfgmhehfombaaGreatDoor.fpn.EC
open Rn
set_option linter.unusedSectionVars false
section
variable {α:Type} [Add α] [Mul α] [Neg α] [Sub α] [OfNat α 0] [OfNat α 1] [CR α]
theorem ej0 (l x1 y1 z:α):((((((x1*(z*z))*(x1*(z*z)))+((x1*(z*z))*(x1*(z*z))))+((x1*(z*z))*(x1*(z*z))))*((((x1*(z*z))*(x1*(z*z)))+((x1*(z*z))*(x1*(z*z))))+((x1*(z*z))*(x1*(z*z)))))-(((((x1*(z*z))*((y1*((z*z)*z))*(y1*((z*z)*z))))+((x1*(z*z))*((y1*((z*z)*z))*(y1*((z*z)*z)))))+(((x1*(z*z))*((y1*((z*z)*z))*(y1*((z*z)*z))))+((x1*(z*z))*((y1*((z*z)*z))*(y1*((z*z)*z))))))+((((x1*(z*z))*((y1*((z*z)*z))*(y1*((z*z)*z))))+((x1*(z*z))*((y1*((z*z)*z))*(y1*((z*z)*z)))))+(((x1*(z*z))*((y1*((z*z)*z))*(y1*((z*z)*z))))+((x1*(z*z))*((y1*((z*z)*z))*(y1*((z*z)*z))))))))=(((((l*l)-x1)-x1)*((((y1*((z*z)*z))*z)+((y1*((z*z)*z))*z))*(((y1*((z*z)*z))*z)+((y1*((z*z)*z))*z))))+((-((((((((z*z)*z)*z)*z)*z)*z)*z)*((((x1*x1)+(x1*x1))+(x1*x1))+(l*(y1+y1)))))*((l*(y1+y1))-(((x1*x1)+(x1*x1))+(x1*x1))))):=ring [l,x1,y1,z] (.s (.m (.a (.a (.m (.m (.v 1) (.m (.v 3) (.v 3))) (.m (.v 1) (.m (.v 3) (.v 3)))) (.m (.m (.v 1) (.m (.v 3) (.v 3))) (.m (.v 1) (.m (.v 3) (.v 3))))) (.m (.m (.v 1) (.m (.v 3) (.v 3))) (.m (.v 1) (.m (.v 3) (.v 3))))) (.a (.a (.m (.m (.v 1) (.m (.v 3) (.v 3))) (.m (.v 1) (.m (.v 3) (.v 3)))) (.m (.m (.v 1) (.m (.v 3) (.v 3))) (.m (.v 1) (.m (.v 3) (.v 3))))) (.m (.m (.v 1) (.m (.v 3) (.v 3))) (.m (.v 1) (.m (.v 3) (.v 3)))))) (.a (.a (.a (.m (.m (.v 1) (.m (.v 3) (.v 3))) (.m (.m (.v 2) (.m (.m (.v 3) (.v 3)) (.v 3))) (.m (.v 2) (.m (.m (.v 3) (.v 3)) (.v 3))))) (.m (.m (.v 1) (.m (.v 3) (.v 3))) (.m (.m (.v 2) (.m (.m (.v 3) (.v 3)) (.v 3))) (.m (.v 2) (.m (.m (.v 3) (.v 3)) (.v 3)))))) (.a (.m (.m (.v 1) (.m (.v 3) (.v 3))) (.m (.m (.v 2) (.m (.m (.v 3) (.v 3)) (.v 3))) (.m (.v 2) (.m (.m (.v 3) (.v 3)) (.v 3))))) (.m (.m (.v 1) (.m (.v 3) (.v 3))) (.m (.m (.v 2) (.m (.m (.v 3) (.v 3)) (.v 3))) (.m (.v 2) (.m (.m (.v 3) (.v 3)) (.v 3))))))) (.a (.a (.m (.m (.v 1) (.m (.v 3) (.v 3))) (.m (.m (.v 2) (.m (.m (.v 3) (.v 3)) (.v 3))) (.m (.v 2) (.m (.m (.v 3) (.v 3)) (.v 3))))) (.m (.m (.v 1) (.m (.v 3) (.v 3))) (.m (.m (.v 2) (.m (.m (.v 3) (.v 3)) (.v 3))) (.m (.v 2) (.m (.m (.v 3) (.v 3)) (.v 3)))))) (.a (.m (.m (.v 1) (.m (.v 3) (.v 3))) (.m (.m (.v 2) (.m (.m (.v 3) (.v 3)) (.v 3))) (.m (.v 2) (.m (.m (.v 3) (.v 3)) (.v 3))))) (.m (.m (.v 1) (.m (.v 3) (.v 3))) (.m (.m (.v 2) (.m (.m (.v 3) (.v 3)) (.v 3))) (.m (.v 2) (.m (.m (.v 3) (.v 3)) (.v 3))))))))) (.a (.m (.s (.s (.m (.v 0) (.v 0)) (.v 1)) (.v 1)) (.m (.a (.m (.m (.v 2) (.m (.m (.v 3) (.v 3)) (.v 3))) (.v 3)) (.m (.m (.v 2) (.m (.m (.v 3) (.v 3)) (.v 3))) (.v 3))) (.a (.m (.m (.v 2) (.m (.m (.v 3) (.v 3)) (.v 3))) (.v 3)) (.m (.m (.v 2) (.m (.m (.v 3) (.v 3)) (.v 3))) (.v 3))))) (.m (.n (.m (.m (.m (.m (.m (.m (.m (.m (.v 3) (.v 3)) (.v 3)) (.v 3)) (.v 3)) (.v 3)) (.v 3)) (.v 3)) (.a (.a (.a (.m (.v 1) (.v 1)) (.m (.v 1) (.v 1))) (.m (.v 1) (.v 1))) (.m (.v 0) (.a (.v 2) (.v 2)))))) (.s (.m (.v 0) (.a (.v 2) (.v 2))) (.a (.a (.m (.v 1) (.v 1)) (.m (.v 1) (.v 1))) (.m (.v 1) (.v 1)))))) (by kernel_rfl)
theorem ej1 (l x1 y1 z:α):((((((x1*(z*z))*(x1*(z*z)))+((x1*(z*z))*(x1*(z*z))))+((x1*(z*z))*(x1*(z*z))))*(((((x1*(z*z))*((y1*((z*z)*z))*(y1*((z*z)*z))))+((x1*(z*z))*((y1*((z*z)*z))*(y1*((z*z)*z)))))+(((x1*(z*z))*((y1*((z*z)*z))*(y1*((z*z)*z))))+((x1*(z*z))*((y1*((z*z)*z))*(y1*((z*z)*z))))))-((((((x1*(z*z))*(x1*(z*z)))+((x1*(z*z))*(x1*(z*z))))+((x1*(z*z))*(x1*(z*z))))*((((x1*(z*z))*(x1*(z*z)))+((x1*(z*z))*(x1*(z*z))))+((x1*(z*z))*(x1*(z*z)))))-(((((x1*(z*z))*((y1*((z*z)*z))*(y1*((z*z)*z))))+((x1*(z*z))*((y1*((z*z)*z))*(y1*((z*z)*z)))))+(((x1*(z*z))*((y1*((z*z)*z))*(y1*((z*z)*z))))+((x1*(z*z))*((y1*((z*z)*z))*(y1*((z*z)*z))))))+((((x1*(z*z))*((y1*((z*z)*z))*(y1*((z*z)*z))))+((x1*(z*z))*((y1*((z*z)*z))*(y1*((z*z)*z)))))+(((x1*(z*z))*((y1*((z*z)*z))*(y1*((z*z)*z))))+((x1*(z*z))*((y1*((z*z)*z))*(y1*((z*z)*z))))))))))-((((((y1*((z*z)*z))*(y1*((z*z)*z)))*((y1*((z*z)*z))*(y1*((z*z)*z))))+(((y1*((z*z)*z))*(y1*((z*z)*z)))*((y1*((z*z)*z))*(y1*((z*z)*z)))))+((((y1*((z*z)*z))*(y1*((z*z)*z)))*((y1*((z*z)*z))*(y1*((z*z)*z))))+(((y1*((z*z)*z))*(y1*((z*z)*z)))*((y1*((z*z)*z))*(y1*((z*z)*z))))))+(((((y1*((z*z)*z))*(y1*((z*z)*z)))*((y1*((z*z)*z))*(y1*((z*z)*z))))+(((y1*((z*z)*z))*(y1*((z*z)*z)))*((y1*((z*z)*z))*(y1*((z*z)*z)))))+((((y1*((z*z)*z))*(y1*((z*z)*z)))*((y1*((z*z)*z))*(y1*((z*z)*z))))+(((y1*((z*z)*z))*(y1*((z*z)*z)))*((y1*((z*z)*z))*(y1*((z*z)*z))))))))=((((l*(x1-(((l*l)-x1)-x1)))-y1)*(((((y1*((z*z)*z))*z)+((y1*((z*z)*z))*z))*(((y1*((z*z)*z))*z)+((y1*((z*z)*z))*z)))*(((y1*((z*z)*z))*z)+((y1*((z*z)*z))*z))))+((-((((((((((((z*z)*z)*z)*z)*z)*z)*z)*z)*z)*z)*z)*(((((((x1*(y1*y1))+(x1*(y1*y1)))+(x1*(y1*y1)))+(x1*(y1*y1)))+((((x1*(y1*y1))+(x1*(y1*y1)))+(x1*(y1*y1)))+(x1*(y1*y1))))+((((x1*(y1*y1))+(x1*(y1*y1)))+(x1*(y1*y1)))+(x1*(y1*y1))))-((((((x1*x1)+(x1*x1))+(x1*x1))*(((x1*x1)+(x1*x1))+(x1*x1)))+((((x1*x1)+(x1*x1))+(x1*x1))*(l*(y1+y1))))+((l*(y1+y1))*(l*(y1+y1)))))))*((l*(y1+y1))-(((x1*x1)+(x1*x1))+(x1*x1))))):=ring [l,x1,y1,z] (.s (.m (.a (.a (.m (.m (.v 1) (.m (.v 3) (.v 3))) (.m (.v 1) (.m (.v 3) (.v 3)))) (.m (.m (.v 1) (.m (.v 3) (.v 3))) (.m (.v 1) (.m (.v 3) (.v 3))))) (.m (.m (.v 1) (.m (.v 3) (.v 3))) (.m (.v 1) (.m (.v 3) (.v 3))))) (.s (.a (.a (.m (.m (.v 1) (.m (.v 3) (.v 3))) (.m (.m (.v 2) (.m (.m (.v 3) (.v 3)) (.v 3))) (.m (.v 2) (.m (.m (.v 3) (.v 3)) (.v 3))))) (.m (.m (.v 1) (.m (.v 3) (.v 3))) (.m (.m (.v 2) (.m (.m (.v 3) (.v 3)) (.v 3))) (.m (.v 2) (.m (.m (.v 3) (.v 3)) (.v 3)))))) (.a (.m (.m (.v 1) (.m (.v 3) (.v 3))) (.m (.m (.v 2) (.m (.m (.v 3) (.v 3)) (.v 3))) (.m (.v 2) (.m (.m (.v 3) (.v 3)) (.v 3))))) (.m (.m (.v 1) (.m (.v 3) (.v 3))) (.m (.m (.v 2) (.m (.m (.v 3) (.v 3)) (.v 3))) (.m (.v 2) (.m (.m (.v 3) (.v 3)) (.v 3))))))) (.s (.m (.a (.a (.m (.m (.v 1) (.m (.v 3) (.v 3))) (.m (.v 1) (.m (.v 3) (.v 3)))) (.m (.m (.v 1) (.m (.v 3) (.v 3))) (.m (.v 1) (.m (.v 3) (.v 3))))) (.m (.m (.v 1) (.m (.v 3) (.v 3))) (.m (.v 1) (.m (.v 3) (.v 3))))) (.a (.a (.m (.m (.v 1) (.m (.v 3) (.v 3))) (.m (.v 1) (.m (.v 3) (.v 3)))) (.m (.m (.v 1) (.m (.v 3) (.v 3))) (.m (.v 1) (.m (.v 3) (.v 3))))) (.m (.m (.v 1) (.m (.v 3) (.v 3))) (.m (.v 1) (.m (.v 3) (.v 3)))))) (.a (.a (.a (.m (.m (.v 1) (.m (.v 3) (.v 3))) (.m (.m (.v 2) (.m (.m (.v 3) (.v 3)) (.v 3))) (.m (.v 2) (.m (.m (.v 3) (.v 3)) (.v 3))))) (.m (.m (.v 1) (.m (.v 3) (.v 3))) (.m (.m (.v 2) (.m (.m (.v 3) (.v 3)) (.v 3))) (.m (.v 2) (.m (.m (.v 3) (.v 3)) (.v 3)))))) (.a (.m (.m (.v 1) (.m (.v 3) (.v 3))) (.m (.m (.v 2) (.m (.m (.v 3) (.v 3)) (.v 3))) (.m (.v 2) (.m (.m (.v 3) (.v 3)) (.v 3))))) (.m (.m (.v 1) (.m (.v 3) (.v 3))) (.m (.m (.v 2) (.m (.m (.v 3) (.v 3)) (.v 3))) (.m (.v 2) (.m (.m (.v 3) (.v 3)) (.v 3))))))) (.a (.a (.m (.m (.v 1) (.m (.v 3) (.v 3))) (.m (.m (.v 2) (.m (.m (.v 3) (.v 3)) (.v 3))) (.m (.v 2) (.m (.m (.v 3) (.v 3)) (.v 3))))) (.m (.m (.v 1) (.m (.v 3) (.v 3))) (.m (.m (.v 2) (.m (.m (.v 3) (.v 3)) (.v 3))) (.m (.v 2) (.m (.m (.v 3) (.v 3)) (.v 3)))))) (.a (.m (.m (.v 1) (.m (.v 3) (.v 3))) (.m (.m (.v 2) (.m (.m (.v 3) (.v 3)) (.v 3))) (.m (.v 2) (.m (.m (.v 3) (.v 3)) (.v 3))))) (.m (.m (.v 1) (.m (.v 3) (.v 3))) (.m (.m (.v 2) (.m (.m (.v 3) (.v 3)) (.v 3))) (.m (.v 2) (.m (.m (.v 3) (.v 3)) (.v 3))))))))))) (.a (.a (.a (.m (.m (.m (.v 2) (.m (.m (.v 3) (.v 3)) (.v 3))) (.m (.v 2) (.m (.m (.v 3) (.v 3)) (.v 3)))) (.m (.m (.v 2) (.m (.m (.v 3) (.v 3)) (.v 3))) (.m (.v 2) (.m (.m (.v 3) (.v 3)) (.v 3))))) (.m (.m (.m (.v 2) (.m (.m (.v 3) (.v 3)) (.v 3))) (.m (.v 2) (.m (.m (.v 3) (.v 3)) (.v 3)))) (.m (.m (.v 2) (.m (.m (.v 3) (.v 3)) (.v 3))) (.m (.v 2) (.m (.m (.v 3) (.v 3)) (.v 3)))))) (.a (.m (.m (.m (.v 2) (.m (.m (.v 3) (.v 3)) (.v 3))) (.m (.v 2) (.m (.m (.v 3) (.v 3)) (.v 3)))) (.m (.m (.v 2) (.m (.m (.v 3) (.v 3)) (.v 3))) (.m (.v 2) (.m (.m (.v 3) (.v 3)) (.v 3))))) (.m (.m (.m (.v 2) (.m (.m (.v 3) (.v 3)) (.v 3))) (.m (.v 2) (.m (.m (.v 3) (.v 3)) (.v 3)))) (.m (.m (.v 2) (.m (.m (.v 3) (.v 3)) (.v 3))) (.m (.v 2) (.m (.m (.v 3) (.v 3)) (.v 3))))))) (.a (.a (.m (.m (.m (.v 2) (.m (.m (.v 3) (.v 3)) (.v 3))) (.m (.v 2) (.m (.m (.v 3) (.v 3)) (.v 3)))) (.m (.m (.v 2) (.m (.m (.v 3) (.v 3)) (.v 3))) (.m (.v 2) (.m (.m (.v 3) (.v 3)) (.v 3))))) (.m (.m (.m (.v 2) (.m (.m (.v 3) (.v 3)) (.v 3))) (.m (.v 2) (.m (.m (.v 3) (.v 3)) (.v 3)))) (.m (.m (.v 2) (.m (.m (.v 3) (.v 3)) (.v 3))) (.m (.v 2) (.m (.m (.v 3) (.v 3)) (.v 3)))))) (.a (.m (.m (.m (.v 2) (.m (.m (.v 3) (.v 3)) (.v 3))) (.m (.v 2) (.m (.m (.v 3) (.v 3)) (.v 3)))) (.m (.m (.v 2) (.m (.m (.v 3) (.v 3)) (.v 3))) (.m (.v 2) (.m (.m (.v 3) (.v 3)) (.v 3))))) (.m (.m (.m (.v 2) (.m (.m (.v 3) (.v 3)) (.v 3))) (.m (.v 2) (.m (.m (.v 3) (.v 3)) (.v 3)))) (.m (.m (.v 2) (.m (.m (.v 3) (.v 3)) (.v 3))) (.m (.v 2) (.m (.m (.v 3) (.v 3)) (.v 3))))))))) (.a (.m (.s (.m (.v 0) (.s (.v 1) (.s (.s (.m (.v 0) (.v 0)) (.v 1)) (.v 1)))) (.v 2)) (.m (.m (.a (.m (.m (.v 2) (.m (.m (.v 3) (.v 3)) (.v 3))) (.v 3)) (.m (.m (.v 2) (.m (.m (.v 3) (.v 3)) (.v 3))) (.v 3))) (.a (.m (.m (.v 2) (.m (.m (.v 3) (.v 3)) (.v 3))) (.v 3)) (.m (.m (.v 2) (.m (.m (.v 3) (.v 3)) (.v 3))) (.v 3)))) (.a (.m (.m (.v 2) (.m (.m (.v 3) (.v 3)) (.v 3))) (.v 3)) (.m (.m (.v 2) (.m (.m (.v 3) (.v 3)) (.v 3))) (.v 3))))) (.m (.n (.m (.m (.m (.m (.m (.m (.m (.m (.m (.m (.m (.m (.v 3) (.v 3)) (.v 3)) (.v 3)) (.v 3)) (.v 3)) (.v 3)) (.v 3)) (.v 3)) (.v 3)) (.v 3)) (.v 3)) (.s (.a (.a (.a (.a (.a (.m (.v 1) (.m (.v 2) (.v 2))) (.m (.v 1) (.m (.v 2) (.v 2)))) (.m (.v 1) (.m (.v 2) (.v 2)))) (.m (.v 1) (.m (.v 2) (.v 2)))) (.a (.a (.a (.m (.v 1) (.m (.v 2) (.v 2))) (.m (.v 1) (.m (.v 2) (.v 2)))) (.m (.v 1) (.m (.v 2) (.v 2)))) (.m (.v 1) (.m (.v 2) (.v 2))))) (.a (.a (.a (.m (.v 1) (.m (.v 2) (.v 2))) (.m (.v 1) (.m (.v 2) (.v 2)))) (.m (.v 1) (.m (.v 2) (.v 2)))) (.m (.v 1) (.m (.v 2) (.v 2))))) (.a (.a (.m (.a (.a (.m (.v 1) (.v 1)) (.m (.v 1) (.v 1))) (.m (.v 1) (.v 1))) (.a (.a (.m (.v 1) (.v 1)) (.m (.v 1) (.v 1))) (.m (.v 1) (.v 1)))) (.m (.a (.a (.m (.v 1) (.v 1)) (.m (.v 1) (.v 1))) (.m (.v 1) (.v 1))) (.m (.v 0) (.a (.v 2) (.v 2))))) (.m (.m (.v 0) (.a (.v 2) (.v 2))) (.m (.v 0) (.a (.v 2) (.v 2)))))))) (.s (.m (.v 0) (.a (.v 2) (.v 2))) (.a (.a (.m (.v 1) (.v 1)) (.m (.v 1) (.v 1))) (.m (.v 1) (.v 1)))))) (by kernel_rfl)
theorem ej2 (y1 z:α):(((y1*((z*z)*z))*z)+((y1*((z*z)*z))*z))=((y1+y1)*(((z*z)*z)*z)):=ring [y1,z] (.a (.m (.m (.v 0) (.m (.m (.v 1) (.v 1)) (.v 1))) (.v 1)) (.m (.m (.v 0) (.m (.m (.v 1) (.v 1)) (.v 1))) (.v 1))) (.m (.a (.v 0) (.v 0)) (.m (.m (.m (.v 1) (.v 1)) (.v 1)) (.v 1))) (by kernel_rfl)
theorem ej3 (x1 x2 z:α):((x2*(z*z))-(x1*(z*z)))=((x2-x1)*(z*z)):=ring [x1,x2,z] (.s (.m (.v 1) (.m (.v 2) (.v 2))) (.m (.v 0) (.m (.v 2) (.v 2)))) (.m (.s (.v 1) (.v 0)) (.m (.v 2) (.v 2))) (by kernel_rfl)
theorem ej4 (y1 y2 z:α):((y2*((z*z)*z))-(y1*((z*z)*z)))=((y2-y1)*((z*z)*z)):=ring [y1,y2,z] (.s (.m (.v 1) (.m (.m (.v 2) (.v 2)) (.v 2))) (.m (.v 0) (.m (.m (.v 2) (.v 2)) (.v 2)))) (.m (.s (.v 1) (.v 0)) (.m (.m (.v 2) (.v 2)) (.v 2))) (by kernel_rfl)
theorem ej5 (l x1 x2 y1 y2 z:α):(((((y2*((z*z)*z))-(y1*((z*z)*z)))*((y2*((z*z)*z))-(y1*((z*z)*z))))-((((x2*(z*z))-(x1*(z*z)))*((x2*(z*z))-(x1*(z*z))))*((x2*(z*z))-(x1*(z*z)))))-(((x1*(z*z))*(((x2*(z*z))-(x1*(z*z)))*((x2*(z*z))-(x1*(z*z)))))+((x1*(z*z))*(((x2*(z*z))-(x1*(z*z)))*((x2*(z*z))-(x1*(z*z)))))))=(((((l*l)-x1)-x2)*((z*((x2*(z*z))-(x1*(z*z))))*(z*((x2*(z*z))-(x1*(z*z))))))+((-((((((z*z)*z)*z)*z)*z)*((y2-y1)+(l*(x2-x1)))))*((l*(x2-x1))-(y2-y1)))):=ring [l,x1,x2,y1,y2,z] (.s (.s (.m (.s (.m (.v 4) (.m (.m (.v 5) (.v 5)) (.v 5))) (.m (.v 3) (.m (.m (.v 5) (.v 5)) (.v 5)))) (.s (.m (.v 4) (.m (.m (.v 5) (.v 5)) (.v 5))) (.m (.v 3) (.m (.m (.v 5) (.v 5)) (.v 5))))) (.m (.m (.s (.m (.v 2) (.m (.v 5) (.v 5))) (.m (.v 1) (.m (.v 5) (.v 5)))) (.s (.m (.v 2) (.m (.v 5) (.v 5))) (.m (.v 1) (.m (.v 5) (.v 5))))) (.s (.m (.v 2) (.m (.v 5) (.v 5))) (.m (.v 1) (.m (.v 5) (.v 5)))))) (.a (.m (.m (.v 1) (.m (.v 5) (.v 5))) (.m (.s (.m (.v 2) (.m (.v 5) (.v 5))) (.m (.v 1) (.m (.v 5) (.v 5)))) (.s (.m (.v 2) (.m (.v 5) (.v 5))) (.m (.v 1) (.m (.v 5) (.v 5)))))) (.m (.m (.v 1) (.m (.v 5) (.v 5))) (.m (.s (.m (.v 2) (.m (.v 5) (.v 5))) (.m (.v 1) (.m (.v 5) (.v 5)))) (.s (.m (.v 2) (.m (.v 5) (.v 5))) (.m (.v 1) (.m (.v 5) (.v 5)))))))) (.a (.m (.s (.s (.m (.v 0) (.v 0)) (.v 1)) (.v 2)) (.m (.m (.v 5) (.s (.m (.v 2) (.m (.v 5) (.v 5))) (.m (.v 1) (.m (.v 5) (.v 5))))) (.m (.v 5) (.s (.m (.v 2) (.m (.v 5) (.v 5))) (.m (.v 1) (.m (.v 5) (.v 5))))))) (.m (.n (.m (.m (.m (.m (.m (.m (.v 5) (.v 5)) (.v 5)) (.v 5)) (.v 5)) (.v 5)) (.a (.s (.v 4) (.v 3)) (.m (.v 0) (.s (.v 2) (.v 1)))))) (.s (.m (.v 0) (.s (.v 2) (.v 1))) (.s (.v 4) (.v 3))))) (by kernel_rfl)
theorem ej6 (l x1 x2 y1 y2 z:α):((((y2*((z*z)*z))-(y1*((z*z)*z)))*(((x1*(z*z))*(((x2*(z*z))-(x1*(z*z)))*((x2*(z*z))-(x1*(z*z)))))-(((((y2*((z*z)*z))-(y1*((z*z)*z)))*((y2*((z*z)*z))-(y1*((z*z)*z))))-((((x2*(z*z))-(x1*(z*z)))*((x2*(z*z))-(x1*(z*z))))*((x2*(z*z))-(x1*(z*z)))))-(((x1*(z*z))*(((x2*(z*z))-(x1*(z*z)))*((x2*(z*z))-(x1*(z*z)))))+((x1*(z*z))*(((x2*(z*z))-(x1*(z*z)))*((x2*(z*z))-(x1*(z*z)))))))))-((y1*((z*z)*z))*((((x2*(z*z))-(x1*(z*z)))*((x2*(z*z))-(x1*(z*z))))*((x2*(z*z))-(x1*(z*z))))))=((((l*(x1-(((l*l)-x1)-x2)))-y1)*(((z*((x2*(z*z))-(x1*(z*z))))*(z*((x2*(z*z))-(x1*(z*z)))))*(z*((x2*(z*z))-(x1*(z*z))))))+((-(((((((((z*z)*z)*z)*z)*z)*z)*z)*z)*((((x2-x1)*(x2-x1))*((x1+x1)+x2))-((((y2-y1)*(y2-y1))+((y2-y1)*(l*(x2-x1))))+((l*(x2-x1))*(l*(x2-x1)))))))*((l*(x2-x1))-(y2-y1)))):=ring [l,x1,x2,y1,y2,z] (.s (.m (.s (.m (.v 4) (.m (.m (.v 5) (.v 5)) (.v 5))) (.m (.v 3) (.m (.m (.v 5) (.v 5)) (.v 5)))) (.s (.m (.m (.v 1) (.m (.v 5) (.v 5))) (.m (.s (.m (.v 2) (.m (.v 5) (.v 5))) (.m (.v 1) (.m (.v 5) (.v 5)))) (.s (.m (.v 2) (.m (.v 5) (.v 5))) (.m (.v 1) (.m (.v 5) (.v 5)))))) (.s (.s (.m (.s (.m (.v 4) (.m (.m (.v 5) (.v 5)) (.v 5))) (.m (.v 3) (.m (.m (.v 5) (.v 5)) (.v 5)))) (.s (.m (.v 4) (.m (.m (.v 5) (.v 5)) (.v 5))) (.m (.v 3) (.m (.m (.v 5) (.v 5)) (.v 5))))) (.m (.m (.s (.m (.v 2) (.m (.v 5) (.v 5))) (.m (.v 1) (.m (.v 5) (.v 5)))) (.s (.m (.v 2) (.m (.v 5) (.v 5))) (.m (.v 1) (.m (.v 5) (.v 5))))) (.s (.m (.v 2) (.m (.v 5) (.v 5))) (.m (.v 1) (.m (.v 5) (.v 5)))))) (.a (.m (.m (.v 1) (.m (.v 5) (.v 5))) (.m (.s (.m (.v 2) (.m (.v 5) (.v 5))) (.m (.v 1) (.m (.v 5) (.v 5)))) (.s (.m (.v 2) (.m (.v 5) (.v 5))) (.m (.v 1) (.m (.v 5) (.v 5)))))) (.m (.m (.v 1) (.m (.v 5) (.v 5))) (.m (.s (.m (.v 2) (.m (.v 5) (.v 5))) (.m (.v 1) (.m (.v 5) (.v 5)))) (.s (.m (.v 2) (.m (.v 5) (.v 5))) (.m (.v 1) (.m (.v 5) (.v 5)))))))))) (.m (.m (.v 3) (.m (.m (.v 5) (.v 5)) (.v 5))) (.m (.m (.s (.m (.v 2) (.m (.v 5) (.v 5))) (.m (.v 1) (.m (.v 5) (.v 5)))) (.s (.m (.v 2) (.m (.v 5) (.v 5))) (.m (.v 1) (.m (.v 5) (.v 5))))) (.s (.m (.v 2) (.m (.v 5) (.v 5))) (.m (.v 1) (.m (.v 5) (.v 5))))))) (.a (.m (.s (.m (.v 0) (.s (.v 1) (.s (.s (.m (.v 0) (.v 0)) (.v 1)) (.v 2)))) (.v 3)) (.m (.m (.m (.v 5) (.s (.m (.v 2) (.m (.v 5) (.v 5))) (.m (.v 1) (.m (.v 5) (.v 5))))) (.m (.v 5) (.s (.m (.v 2) (.m (.v 5) (.v 5))) (.m (.v 1) (.m (.v 5) (.v 5)))))) (.m (.v 5) (.s (.m (.v 2) (.m (.v 5) (.v 5))) (.m (.v 1) (.m (.v 5) (.v 5))))))) (.m (.n (.m (.m (.m (.m (.m (.m (.m (.m (.m (.v 5) (.v 5)) (.v 5)) (.v 5)) (.v 5)) (.v 5)) (.v 5)) (.v 5)) (.v 5)) (.s (.m (.m (.s (.v 2) (.v 1)) (.s (.v 2) (.v 1))) (.a (.a (.v 1) (.v 1)) (.v 2))) (.a (.a (.m (.s (.v 4) (.v 3)) (.s (.v 4) (.v 3))) (.m (.s (.v 4) (.v 3)) (.m (.v 0) (.s (.v 2) (.v 1))))) (.m (.m (.v 0) (.s (.v 2) (.v 1))) (.m (.v 0) (.s (.v 2) (.v 1)))))))) (.s (.m (.v 0) (.s (.v 2) (.v 1))) (.s (.v 4) (.v 3))))) (by kernel_rfl)
theorem ej7 (x1 i z:α):((x1*(z*z))*(i*i))=(x1+((x1*((z*i)+1))*((z*i)-1))):=ring [x1,i,z] (.m (.m (.v 0) (.m (.v 2) (.v 2))) (.m (.v 1) (.v 1))) (.a (.v 0) (.m (.m (.v 0) (.a (.m (.v 2) (.v 1)) .o)) (.s (.m (.v 2) (.v 1)) .o))) (by kernel_rfl)
theorem ej8 (y1 i z:α):((y1*((z*z)*z))*((i*i)*i))=(y1+((y1*(((((z*i)*z)*i)+(z*i))+1))*((z*i)-1))):=ring [y1,i,z] (.m (.m (.v 0) (.m (.m (.v 2) (.v 2)) (.v 2))) (.m (.m (.v 1) (.v 1)) (.v 1))) (.a (.v 0) (.m (.m (.v 0) (.a (.a (.m (.m (.m (.v 2) (.v 1)) (.v 2)) (.v 1)) (.m (.v 2) (.v 1))) .o)) (.s (.m (.v 2) (.v 1)) .o))) (by kernel_rfl)
theorem ej9 (x1:α):(x1*(1*1))=x1:=ring [x1] (.m (.v 0) (.m .o .o)) (.v 0) (by kernel_rfl)
theorem ej10 (y1:α):(y1*((1*1)*1))=y1:=ring [y1] (.m (.v 0) (.m (.m .o .o) .o)) (.v 0) (by kernel_rfl)
theorem ej11 (y1:α):((y1*0)+(y1*0))=0:=ring [y1] (.a (.m (.v 0) (.k 0)) (.m (.v 0) (.k 0))) (.k 0) (by kernel_rfl)
theorem ej12 (x1 x2:α):x1=(x2+((-1)*((x2-x1)-0))):=ring [x1,x2] (.v 0) (.a (.v 1) (.m (.n .o) (.s (.s (.v 1) (.v 0)) (.k 0)))) (by kernel_rfl)
theorem twX {l x1 y1 z:α} (ct:(l*(y1+y1))=(((x1*x1)+(x1*x1))+(x1*x1))):((((((x1*(z*z))*(x1*(z*z)))+((x1*(z*z))*(x1*(z*z))))+((x1*(z*z))*(x1*(z*z))))*((((x1*(z*z))*(x1*(z*z)))+((x1*(z*z))*(x1*(z*z))))+((x1*(z*z))*(x1*(z*z)))))-(((((x1*(z*z))*((y1*((z*z)*z))*(y1*((z*z)*z))))+((x1*(z*z))*((y1*((z*z)*z))*(y1*((z*z)*z)))))+(((x1*(z*z))*((y1*((z*z)*z))*(y1*((z*z)*z))))+((x1*(z*z))*((y1*((z*z)*z))*(y1*((z*z)*z))))))+((((x1*(z*z))*((y1*((z*z)*z))*(y1*((z*z)*z))))+((x1*(z*z))*((y1*((z*z)*z))*(y1*((z*z)*z)))))+(((x1*(z*z))*((y1*((z*z)*z))*(y1*((z*z)*z))))+((x1*(z*z))*((y1*((z*z)*z))*(y1*((z*z)*z))))))))=((((l*l)-x1)-x1)*((((y1*((z*z)*z))*z)+((y1*((z*z)*z))*z))*(((y1*((z*z)*z))*z)+((y1*((z*z)*z))*z)))):=(lc1 ct (ej0 (l) (x1) (y1) (z)))
theorem twY {l x1 y1 z:α} (ct:(l*(y1+y1))=(((x1*x1)+(x1*x1))+(x1*x1))):((((((x1*(z*z))*(x1*(z*z)))+((x1*(z*z))*(x1*(z*z))))+((x1*(z*z))*(x1*(z*z))))*(((((x1*(z*z))*((y1*((z*z)*z))*(y1*((z*z)*z))))+((x1*(z*z))*((y1*((z*z)*z))*(y1*((z*z)*z)))))+(((x1*(z*z))*((y1*((z*z)*z))*(y1*((z*z)*z))))+((x1*(z*z))*((y1*((z*z)*z))*(y1*((z*z)*z))))))-((((((x1*(z*z))*(x1*(z*z)))+((x1*(z*z))*(x1*(z*z))))+((x1*(z*z))*(x1*(z*z))))*((((x1*(z*z))*(x1*(z*z)))+((x1*(z*z))*(x1*(z*z))))+((x1*(z*z))*(x1*(z*z)))))-(((((x1*(z*z))*((y1*((z*z)*z))*(y1*((z*z)*z))))+((x1*(z*z))*((y1*((z*z)*z))*(y1*((z*z)*z)))))+(((x1*(z*z))*((y1*((z*z)*z))*(y1*((z*z)*z))))+((x1*(z*z))*((y1*((z*z)*z))*(y1*((z*z)*z))))))+((((x1*(z*z))*((y1*((z*z)*z))*(y1*((z*z)*z))))+((x1*(z*z))*((y1*((z*z)*z))*(y1*((z*z)*z)))))+(((x1*(z*z))*((y1*((z*z)*z))*(y1*((z*z)*z))))+((x1*(z*z))*((y1*((z*z)*z))*(y1*((z*z)*z))))))))))-((((((y1*((z*z)*z))*(y1*((z*z)*z)))*((y1*((z*z)*z))*(y1*((z*z)*z))))+(((y1*((z*z)*z))*(y1*((z*z)*z)))*((y1*((z*z)*z))*(y1*((z*z)*z)))))+((((y1*((z*z)*z))*(y1*((z*z)*z)))*((y1*((z*z)*z))*(y1*((z*z)*z))))+(((y1*((z*z)*z))*(y1*((z*z)*z)))*((y1*((z*z)*z))*(y1*((z*z)*z))))))+(((((y1*((z*z)*z))*(y1*((z*z)*z)))*((y1*((z*z)*z))*(y1*((z*z)*z))))+(((y1*((z*z)*z))*(y1*((z*z)*z)))*((y1*((z*z)*z))*(y1*((z*z)*z)))))+((((y1*((z*z)*z))*(y1*((z*z)*z)))*((y1*((z*z)*z))*(y1*((z*z)*z))))+(((y1*((z*z)*z))*(y1*((z*z)*z)))*((y1*((z*z)*z))*(y1*((z*z)*z))))))))=(((l*(x1-(((l*l)-x1)-x1)))-y1)*(((((y1*((z*z)*z))*z)+((y1*((z*z)*z))*z))*(((y1*((z*z)*z))*z)+((y1*((z*z)*z))*z)))*(((y1*((z*z)*z))*z)+((y1*((z*z)*z))*z)))):=(lc1 ct (ej1 (l) (x1) (y1) (z)))
theorem twZ {y1 z:α} :(((y1*((z*z)*z))*z)+((y1*((z*z)*z))*z))=((y1+y1)*(((z*z)*z)*z)):=(ej2 (y1) (z))
theorem runE {x1 x2 z:α} :((x2*(z*z))-(x1*(z*z)))=((x2-x1)*(z*z)):=(ej3 (x1) (x2) (z))
theorem riseE {y1 y2 z:α} :((y2*((z*z)*z))-(y1*((z*z)*z)))=((y2-y1)*((z*z)*z)):=(ej4 (y1) (y2) (z))
theorem acX {l x1 x2 y1 y2 z:α} (cl:(l*(x2-x1))=(y2-y1)):(((((y2*((z*z)*z))-(y1*((z*z)*z)))*((y2*((z*z)*z))-(y1*((z*z)*z))))-((((x2*(z*z))-(x1*(z*z)))*((x2*(z*z))-(x1*(z*z))))*((x2*(z*z))-(x1*(z*z)))))-(((x1*(z*z))*(((x2*(z*z))-(x1*(z*z)))*((x2*(z*z))-(x1*(z*z)))))+((x1*(z*z))*(((x2*(z*z))-(x1*(z*z)))*((x2*(z*z))-(x1*(z*z)))))))=((((l*l)-x1)-x2)*((z*((x2*(z*z))-(x1*(z*z))))*(z*((x2*(z*z))-(x1*(z*z)))))):=(lc1 cl (ej5 (l) (x1) (x2) (y1) (y2) (z)))
theorem acY {l x1 x2 y1 y2 z:α} (cl:(l*(x2-x1))=(y2-y1)):((((y2*((z*z)*z))-(y1*((z*z)*z)))*(((x1*(z*z))*(((x2*(z*z))-(x1*(z*z)))*((x2*(z*z))-(x1*(z*z)))))-(((((y2*((z*z)*z))-(y1*((z*z)*z)))*((y2*((z*z)*z))-(y1*((z*z)*z))))-((((x2*(z*z))-(x1*(z*z)))*((x2*(z*z))-(x1*(z*z))))*((x2*(z*z))-(x1*(z*z)))))-(((x1*(z*z))*(((x2*(z*z))-(x1*(z*z)))*((x2*(z*z))-(x1*(z*z)))))+((x1*(z*z))*(((x2*(z*z))-(x1*(z*z)))*((x2*(z*z))-(x1*(z*z)))))))))-((y1*((z*z)*z))*((((x2*(z*z))-(x1*(z*z)))*((x2*(z*z))-(x1*(z*z))))*((x2*(z*z))-(x1*(z*z))))))=(((l*(x1-(((l*l)-x1)-x2)))-y1)*(((z*((x2*(z*z))-(x1*(z*z))))*(z*((x2*(z*z))-(x1*(z*z)))))*(z*((x2*(z*z))-(x1*(z*z)))))):=(lc1 cl (ej6 (l) (x1) (x2) (y1) (y2) (z)))
theorem drX {x1 i z:α} (zi:(z*i)=1):((x1*(z*z))*(i*i))=x1:=(lc1 zi (ej7 (x1) (i) (z)))
theorem drY {y1 i z:α} (zi:(z*i)=1):((y1*((z*z)*z))*((i*i)*i))=y1:=(lc1 zi (ej8 (y1) (i) (z)))
theorem one2 {x1:α} :(x1*(1*1))=x1:=(ej9 (x1))
theorem one3 {y1:α} :(y1*((1*1)*1))=y1:=(ej10 (y1))
theorem z4 {y1:α} :((y1*0)+(y1*0))=0:=(ej11 (y1))
theorem dz2 {x1 x2:α} (f1:(x2-x1)=0):x1=x2:=(lc1 f1 (ej12 (x1) (x2)))
structure Jc (α:Type) where
 x:α
 y:α
 z:α
theorem Jc.ext' {a b:Jc α} (h0:a.x=b.x) (h1:a.y=b.y) (h2:a.z=b.z):a=b:=by cases a;cases b;simp_all
def tX (X Y Z:α):α:=(((((X*X)+(X*X))+(X*X))*(((X*X)+(X*X))+(X*X)))-((((X*(Y*Y))+(X*(Y*Y)))+((X*(Y*Y))+(X*(Y*Y))))+(((X*(Y*Y))+(X*(Y*Y)))+((X*(Y*Y))+(X*(Y*Y))))))
def tY (X Y Z:α):α:=(((((X*X)+(X*X))+(X*X))*((((X*(Y*Y))+(X*(Y*Y)))+((X*(Y*Y))+(X*(Y*Y))))-(((((X*X)+(X*X))+(X*X))*(((X*X)+(X*X))+(X*X)))-((((X*(Y*Y))+(X*(Y*Y)))+((X*(Y*Y))+(X*(Y*Y))))+(((X*(Y*Y))+(X*(Y*Y)))+((X*(Y*Y))+(X*(Y*Y))))))))-(((((Y*Y)*(Y*Y))+((Y*Y)*(Y*Y)))+(((Y*Y)*(Y*Y))+((Y*Y)*(Y*Y))))+((((Y*Y)*(Y*Y))+((Y*Y)*(Y*Y)))+(((Y*Y)*(Y*Y))+((Y*Y)*(Y*Y))))))
def tZ (X Y Z:α):α:=((Y*Z)+(Y*Z))
def aX (X Y Z s t:α):α:=(((t*t)-((s*s)*s))-((X*(s*s))+(X*(s*s))))
def aY (X Y Z s t:α):α:=((t*((X*(s*s))-(((t*t)-((s*s)*s))-((X*(s*s))+(X*(s*s))))))-(Y*((s*s)*s)))
def aZ (X Y Z s t:α):α:=(Z*s)
def jtwice (a:Jc α):Jc α:=⟨tX a.x a.y a.z,tY a.x a.y a.z,tZ a.x a.y a.z⟩
def jacross (a:Jc α) (s t:α):Jc α:=⟨aX a.x a.y a.z s t,aY a.x a.y a.z s t,aZ a.x a.y a.z s t⟩
def jrun (a:Jc α) (x:α):α:=x*(a.z*a.z)-a.x
def jrise (a:Jc α) (y:α):α:=y*(a.z*a.z*a.z)-a.y
def jplus [DecidableEq α] (a:Jc α):Pt α→Jc α
 | .inf=>a
 | .aff x y=>if a.z=0 then ⟨x,y,1⟩ else if jrun a x≠0 then jacross a (jrun a x) (jrise a y) else if jrise a y≠0 then ⟨0,0,0⟩ else jtwice a
theorem jplus_aff [DecidableEq α] (a:Jc α) (x y:α):jplus a (.aff x y)=if a.z=0 then ⟨x,y,1⟩ else if jrun a x≠0 then jacross a (jrun a x) (jrise a y) else if jrise a y≠0 then ⟨0,0,0⟩ else jtwice a:=rfl
def jdrop [DecidableEq α] (iv:α→α) (a:Jc α):Pt α:=if a.z=0 then .inf else .aff (a.x*(iv a.z*iv a.z)) (a.y*(iv a.z*iv a.z*iv a.z))
def JRep:Pt α→Jc α→Prop
 | .inf,a=>a.z=0
 | .aff x y,a=>a.z≠0∧a.x=x*(a.z*a.z)∧a.y=y*(a.z*a.z*a.z)
section
variable [DecidableEq α] {iv:α→α} {B:α}
theorem JRep.twice (C:Crv iv B) {P:Pt α} (hP:On B P) {a:Jc α} (h:JRep P a):JRep (add iv P P) (jtwice a):=by
 obtain ⟨X,Y,z⟩:=a
 cases P with
 | inf =>
  have hz:z=0:=h
  subst hz
  exact z4
 | aff x1 y1 =>
  obtain ⟨hz,hX,hY⟩:=h
  simp only at hz hX hY
  subst hX hY
  have c1:y1*y1=x1*x1*x1+B:=hP
  have hy:=C.odd _ _ c1
  have hne:¬ (x1=x1∧y1+y1=0):=fun h'=>hy h'.2
  rw [add_n iv hne]
  have ct:slope iv x1 y1 x1 y1*(y1+y1)=x1*x1+x1*x1+x1*x1:=by
   unfold slope
   rw [if_pos rfl,CR.mul_assoc,CR.mul_comm (iv _),C.iv _ hy,Rn.mul_one]
  generalize slope iv x1 y1 x1 y1=l at ct
  refine ⟨?_,twX ct,twY ct⟩
  show tZ (x1*(z*z)) (y1*(z*z*z)) z≠0
  have e:tZ (x1*(z*z)) (y1*(z*z*z)) z=(y1+y1)*(z*z*z*z):=twZ
  rw [e]
  exact C.ne_mul hy (C.ne_mul (C.ne_mul (C.ne_mul hz hz) hz) hz)
theorem JRep.plus (C:Crv iv B) {P Q:Pt α} (hP:On B P) (hQ:On B Q) {a:Jc α} (h:JRep P a):JRep (add iv P Q) (jplus a Q):=by
 cases Q with
 | inf=>rw [add_inf iv];exact h
 | aff x2 y2 =>
  cases P with
  | inf =>
   have hz:a.z=0:=h
   rw [jplus_aff,if_pos hz]
   exact ⟨C.one,one2.symm,one3.symm⟩
  | aff x1 y1 =>
   have h0:=h
   obtain ⟨X,Y,z⟩:=a
   obtain ⟨hz,hX,hY⟩:=h
   simp only at hz hX hY
   subst hX hY
   have c1:y1*y1=x1*x1*x1+B:=hP
   have c2:y2*y2=x2*x2*x2+B:=hQ
   have er:jrun ⟨x1*(z*z),y1*(z*z*z),z⟩ x2=(x2-x1)*(z*z):=runE
   have es:jrise ⟨x1*(z*z),y1*(z*z*z),z⟩ y2=(y2-y1)*(z*z*z):=riseE
   have hz2:z*z≠0:=C.ne_mul hz hz
   have hz3:z*z*z≠0:=C.ne_mul hz2 hz
   rw [jplus_aff,if_neg hz]
   by_cases hx:x1=x2
   ·subst hx
    have e0:jrun ⟨x1*(z*z),y1*(z*z*z),z⟩ x1=0:=by rw [er,z0 rfl];exact Rn.zero_mul _
    rw [if_neg (fun hn=>hn e0)]
    by_cases hy:y1=y2
    ·subst hy
     have e1:jrise ⟨x1*(z*z),y1*(z*z*z),z⟩ y1=0:=by rw [es,z0 rfl];exact Rn.zero_mul _
     rw [if_neg (fun hn=>hn e1)]
     exact JRep.twice C hP h0
    ·have hd:y1-y2≠0:=fun e=>hy (dz e)
     have hs:y1+y2=0:=C.cancel hd (sq2 c1 c2)
     have hd':y2-y1≠0:=fun e=>hy (dz2 e)
     rw [if_pos (by rw [es];exact C.ne_mul hd' hz3),add_v iv ⟨rfl,hs⟩]
     rfl
   ·have hd:x2-x1≠0:=fun e=>hx (dz2 e)
    rw [if_pos (by rw [er];exact C.ne_mul hd hz2),add_n iv (fun h'=>hx h'.1)]
    have cl:slope iv x1 y1 x2 y2*(x2-x1)=y2-y1:=by
     unfold slope
     rw [if_neg hx,CR.mul_assoc,CR.mul_comm (iv _),C.iv _ hd,Rn.mul_one]
    generalize slope iv x1 y1 x2 y2=l at cl
    refine ⟨?_,acX cl,acY cl⟩
    show z*jrun ⟨x1*(z*z),y1*(z*z*z),z⟩ x2≠0
    rw [er]
    exact C.ne_mul hz (C.ne_mul hd hz2)
theorem JRep.drop (C:Crv iv B) {P:Pt α} {a:Jc α} (h:JRep P a):jdrop iv a=P:=by
 unfold jdrop
 cases P with
 | inf=>exact if_pos h
 | aff x y =>
  obtain ⟨X,Y,z⟩:=a
  obtain ⟨hz,hX,hY⟩:=h
  simp only at hz hX hY
  subst hX hY
  rw [if_neg hz]
  have zi:=C.iv z hz
  have e1:x*(z*z)*(iv z*iv z)=x:=drX zi
  have e2:y*(z*z*z)*(iv z*iv z*iv z)=y:=drY zi
  show Pt.aff _ _=_
  rw [e1,e2]
theorem JRep.isInf {P:Pt α} {a:Jc α} (h:JRep P a):a.z=0↔P=.inf:=by
 cases P with
 | inf=>exact ⟨fun _=>rfl,fun _=>h⟩
 | aff x y=>exact ⟨fun e=>absurd e h.1,fun e=>by cases e⟩
def jbits (a:Jc α) (j:Nat):List (Pt α × Nat)→Jc α
 | []=>a
 | q :: r=>jbits (if q.2 / 2^j%2=1 then jplus a q.1 else a) j r
def jall (l:List (Pt α × Nat)):Nat→Jc α→Jc α
 | 0,a=>a
 | n+1,a=>jall l n (jbits (jtwice a) n l)
def pbits (iv:α→α) (P:Pt α) (j:Nat):List (Pt α × Nat)→Pt α
 | []=>P
 | q :: r=>pbits iv (if q.2 / 2^j%2=1 then add iv P q.1 else P) j r
def psum (iv:α→α) (j:Nat):List (Pt α × Nat)→Pt α
 | []=>.inf
 | q :: r=>add iv (mul iv (q.2 / 2^j) q.1) (psum iv j r)
def AllOn (B:α) (l:List (Pt α × Nat)):Prop:=∀ q∈l,On B q.1
theorem psum_on (C:Crv iv B) (j:Nat):∀ (l:List (Pt α × Nat)),AllOn B l→On B (psum iv j l)
 | [],_=>trivial
 | q :: r,h=>add_on C (mul_on C (h q (by simp)) _) (psum_on C j r fun x hx=>h x (by simp [hx]))
theorem jbits_rep (C:Crv iv B) (j:Nat):∀ (l:List (Pt α × Nat)),AllOn B l→∀ (P:Pt α) (a:Jc α),On B P→JRep P a→JRep (pbits iv P j l) (jbits a j l)∧On B (pbits iv P j l)
 | [],_,P,a,hP,h=>⟨h,hP⟩
 | q :: r,hl,P,a,hP,h=>by
  unfold pbits jbits
  have hq:=hl q (by simp)
  by_cases hb:q.2 / 2^j%2=1
  ·rw [if_pos hb,if_pos hb]
   exact jbits_rep C j r (fun x hx=>hl x (by simp [hx])) _ _ (add_on C hP hq) (JRep.plus C hP hq h)
  ·rw [if_neg hb,if_neg hb]
   exact jbits_rep C j r (fun x hx=>hl x (by simp [hx])) _ _ hP h
theorem half_pow (k j:Nat):k / 2^j=2*(k / 2^(j+1))+k / 2^j%2:=by
 have:k / 2^(j+1)=k / 2^j / 2:=by rw [Nat.pow_succ,Nat.div_div_eq_div_mul]
 rw [this];omega
theorem pbits_sum (C:Crv iv B) (j:Nat):∀ (l:List (Pt α × Nat)),AllOn B l→∀ A:Pt α,On B A→pbits iv (add iv A (add iv (psum iv (j+1) l) (psum iv (j+1) l))) j l=add iv A (psum iv j l)
 | [],_,A,hA=>by show add iv A (add iv .inf .inf)=add iv A .inf;rfl
 | q :: r,hl,A,hA=>by
  have hq:=hl q (by simp)
  have hr:AllOn B r:=fun x hx=>hl x (by simp [hx])
  have hm:=mul_on C hq (q.2 / 2^(j+1))
  have hs:=psum_on C (j+1) r hr
  have hs':=psum_on C j r hr
  unfold pbits psum
  generalize hM:mul iv (q.2 / 2^(j+1)) q.1=M at *
  generalize hS:psum iv (j+1) r=S at *
  have hMM:=add_on C hm hm
  have hSS:=add_on C hs hs
  have e2:add iv (add iv M S) (add iv M S)=add iv (add iv M M) (add iv S S):=by
   rw [add_assoc C hm hs (add_on C hm hs),← add_assoc C hs hm hs,add_comm C hs hm,add_assoc C hm hs hs,← add_assoc C hm hm hSS]
  rw [e2,← add_assoc C hA hMM hSS]
  have hAM:=add_on C hA hMM
  have h2:mul iv (2*(q.2 / 2^(j+1))) q.1=add iv M M:=by rw [mul_two C hq,hM]
  by_cases hb:q.2 / 2^j%2=1
  ·rw [if_pos hb]
   have e3:add iv (add iv (add iv A (add iv M M)) (add iv S S)) q.1=add iv (add iv A (mul iv (q.2 / 2^j) q.1)) (add iv S S):=by
    rw [add_assoc C hAM hSS hq,add_comm C hSS hq,← add_assoc C hAM hq hSS,add_assoc C hA hMM hq]
    have:add iv (add iv M M) q.1=mul iv (q.2 / 2^j) q.1:=by
     conv=>rhs;rw [half_pow q.2 j,hb]
     rw [← h2];rfl
    rw [this]
   have ih:=pbits_sum C j r hr (add iv A (mul iv (q.2 / 2^j) q.1)) (add_on C hA (mul_on C hq _))
   rw [hS] at ih
   rw [e3,ih,add_assoc C hA (mul_on C hq _) hs']
  ·rw [if_neg hb]
   have e3:add iv M M=mul iv (q.2 / 2^j) q.1:=by
    conv=>rhs;rw [half_pow q.2 j,show q.2 / 2^j%2=0 by omega,Nat.add_zero]
    rw [← h2]
   have ih:=pbits_sum C j r hr (add iv A (mul iv (q.2 / 2^j) q.1)) (add_on C hA (mul_on C hq _))
   rw [hS] at ih
   rw [e3,ih,add_assoc C hA (mul_on C hq _) hs']
theorem jall_rep (C:Crv iv B) (l:List (Pt α × Nat)) (hl:AllOn B l):∀ (n:Nat) (a:Jc α),JRep (psum iv n l) a→JRep (psum iv 0 l) (jall l n a)
 | 0,a,h=>h
 | n+1,a,h=>by
  unfold jall
  have hs:=psum_on C (n+1) l hl
  have h2:=JRep.twice C hs h
  have h3:=(jbits_rep C n l hl _ _ (add_on C hs hs) h2).1
  have e:pbits iv (add iv (psum iv (n+1) l) (psum iv (n+1) l)) n l=psum iv n l:=by
   have:=pbits_sum C n l hl .inf trivial
   exact this
  rw [e] at h3
  exact jall_rep C l hl n _ h3
theorem psum_top (n:Nat):∀ (l:List (Pt α × Nat)),(∀ q∈l,q.2<2^n)→psum iv n l=.inf
 | [],_=>rfl
 | q :: r,h=>by
  unfold psum
  rw [Nat.div_eq_of_lt (h q (by simp)),psum_top n r fun x hx=>h x (by simp [hx])]
  rfl
theorem jall_sum (C:Crv iv B) (l:List (Pt α × Nat)) (hl:AllOn B l) (n:Nat) (hk:∀ q∈l,q.2<2^n):JRep (psum iv 0 l) (jall l n ⟨0,0,0⟩) :=
 jall_rep C l hl n _ (by rw [psum_top n l hk];rfl)
theorem psum_one (P:Pt α) (k:Nat):psum iv 0 [(P,k)]=mul iv k P:=by
 show add iv (mul iv (k / 2^0) P) .inf=_
 rw [add_inf iv,Nat.pow_zero,Nat.div_one]
end
end
end Go.Proofs.YthnfgmhehfombaaGreatDoor.fpn.EC
