import Derived.Test.YtgooinallljbpaaGreatDoorSh00
import Derived.Test.YtgooinallljbpaaGreatDoorSh33
set_option linter.all false
set_option maxRecDepth 100000
set_option maxHeartbeats 0
namespace Go.Proofs.YtgooinallljbpaaGreatDoor
open Go.RowKit Px Tryz
theorem LS{L M Q R S T U V W X Y a0 a1 a2 a3 a4 a5 a6 a7 a8 a9 b0 b1 b2 b3 b4 b5 b6 b7 b8 b9 c0 c1 c2 c3 c4 c5 c6 c7 c8 c9 d0 d1 d2 d3 d4 d5 d6 d7 d8 d9 e0 e1 e2 e3 e4 e5 e6 e7 e8 e9 f0 f1 f2 f3 f4 f5 f6 f7 f8 f9 g0 g1 g2 g3 g4 g5 g6 g7 g8 g9 h0 h1 h2 h3 h4 h5 h6 h7 h8 h9 i0 i1 i2 i3 i4 i5 i6 i7 i8 i9 j0 j1 j2 j3 j4 j5 j6 j7 j8 j9 k0 k1 k2 k3 k4 k5 k6 k7 k8 k9 l0 l1 l2 l3 l4 l5 l6 l7 l8 l9 m0 m1 m2 m3 m4 m5 m6 m7 m8 m9 n0 n1 n2 n3 n4 n5 n6 n7 n8 n9 o0 o1 o2 o3 o4 o5 o6 o7 o8 o9 p0 p1 p2 p3 p4 p5 p6 p7 p8 p9 q0 q1 q2 q3 q4 q5 q6 q7 q8 q9 r0 r1 r2 r3 r4 r5 r6 r7 r8 r9 s0 s1 s2 s3 s4 s5 s6 s7 s8 s9 t0 t1 t2 t3 t4 t5 t6 t7 t8 t9 u0 u1 u2 u3 u4 u5 u6 u7 u8 u9 v0 v1 v2 v3 v4 v5:Value}(P:Ending->World->Prop)(b:Nat)(k:ByteArray)(n:Nat)(w:World)(w6:k.size=4)(w7:n<2147483648)(c D m f:Nat)(g j v6:Bool)(v7 v8:Option Addr)(v9 w0:Nat)(w8:D<=16)(w9:m<=1048576)(x0:f<=1048576)(r:kindOk c)(t:w.cell? ⟨b,11,none⟩=some (.slice v8 f w0))(u:w.cell? ⟨b,12,none⟩=some (.bool v6))(l:w.cell? ⟨b,4,none⟩=some (.int .i64 c))(v:w.cell? ⟨b,3,none⟩=some (.int .i64 D))(x:w.cell? ⟨b,6,none⟩=some (.bool g))(y:w.cell? ⟨b,7,none⟩=some (.bool j))(z:w.cell? ⟨b,8,none⟩=some (.slice v7 m v9))(A:(k.toList==[73,72,68,82])=false)(B:(k.toList==[80,76,84,69])=false)(C:(k.toList==[116,82,78,83])=true)(E:(k.toList==[73,68,65,84])=false)(G:(k.toList==[73,69,78,68])=false)(d:Nat)(s:Z (d=(if 0<f\/j=true\/(c=4\/c=6)\/(c=3/\g=false) then 4 else if c=3/\(n=0\/m/3<n) then 5 else if c≠3/\n≠2*tp c then 5 else 0)))(h:Z (P (.returned (.int .i64 d)) w)):Code.wp prog ((f99.body.bind (dH 16)).getD .skip) (bodyPost prog f99 P) ⟨#[.pointer (some ⟨b,0,none⟩),.string k,.int .i64 n,L,M,Q,R,S,T,U,V,W,X,Y,a0,a1,a2,a3,a4,a5,a6,a7,a8,a9,b0,b1,b2,b3,b4,b5,b6,b7,b8,b9,c0,c1,c2,c3,c4,c5,c6,c7,c8,c9,d0,d1,d2,d3,d4,d5,d6,d7,d8,d9,e0,e1,e2,e3,e4,e5,e6,e7,e8,e9,f0,f1,f2,f3,f4,f5,f6,f7,f8,f9,g0,g1,g2,g3,g4,g5,g6,g7,g8,g9,h0,h1,h2,h3,h4,h5,h6,h7,h8,h9,i0,i1,i2,i3,i4,i5,i6,i7,i8,i9,j0,j1,j2,j3,j4,j5,j6,j7,j8,j9,k0,k1,k2,k3,k4,k5,k6,k7,k8,k9,l0,l1,l2,l3,l4,l5,l6,l7,l8,l9,m0,m1,m2,m3,m4,m5,m6,m7,m8,m9,n0,n1,n2,n3,n4,n5,n6,n7,n8,n9,o0,o1,o2,o3,o4,o5,o6,o7,o8,o9,p0,p1,p2,p3,p4,p5,p6,p7,p8,p9,q0,q1,q2,q3,q4,q5,q6,q7,q8,q9,r0,r1,r2,r3,r4,r5,r6,r7,r8,r9,s0,s1,s2,s3,s4,s5,s6,s7,s8,s9,t0,t1,t2,t3,t4,t5,t6,t7,t8,t9,u0,u1,u2,u3,u4,u5,u6,u7,u8,u9,v0,v1,v2,v3,v4,v5],[]⟩ w:=by
 by_cases e:0<f\/j=true\/(c=4\/c=6)\/(c=3/\g=false)
 .have H:Z (d=4):=by have:=s.o;rw[I e] at this;exact this
  clear s;by_cases J:0<f
  .have K:(0:Int)<(f:Int):=O
   clear e J;rcases r with a|a|a|a|a<;>rw[a] at l<;>clear a
   all_goals
    conv=>arg 2;whnf
    go_wp2
    all_goals exact pR h.o (aj (by rw[H.o];rfl))
  .have K:f=0:=O
   subst K;clear J;rcases r with a|a|a|a|a<;>rw[a] at l<;>simp only[a] at e<;>clear a<;>cases g<;>cases j<;>first|(exfalso;revert e;decide)|skip
   all_goals
    clear e
    conv=>arg 2;whnf
    go_wp2
    all_goals exact pR h.o (aj (by rw[H.o];rfl))
 .have w1:j=false:=by cases j<;>simp_all
  have w2:f=0:=O;have i:Z (d=if c=3/\(n=0\/m/3<n) then 5 else if c≠3/\n≠2*tp c then 5 else 0):=by have:=s.o;rw[N e] at this;exact this
  subst w1 w2;have w3:c=0\/c=2\/c=3:=by unfold kindOk at r;omega
  clear s r;rcases w3 with a|a|a<;>rw[a] at l i
  .have o:Z (d=if n≠2 then 5 else 0):=by show d=_;have p:=i.o;rw[p];simp[tp]
   clear i e a;cases g
   all_goals
    conv=>arg 2;whnf
    go_wp2_with (go_at_call 80;refine(show Calls prog 80 #[.int .i64 0] _ (λa q=>a=.returned (.int .i64 1)/\q=_) from ef 0 _).mono ?_;rintro w4 q ⟨rfl,rfl⟩)
    all_goals(refine pR h.o (aj ?_);rw[o.o];clear l x y z v t u A B C E G h;(try simp only[XJ,Xx,ne_eq,XI,F] at *);(repeat' split)<;>first|rfl|omega)
  .have o:Z (d=if n≠6 then 5 else 0):=by show d=_;have p:=i.o;rw[p];simp[tp]
   clear i e a;cases g
   all_goals
    conv=>arg 2;whnf
    go_wp2_with (go_at_call 80;refine(show Calls prog 80 #[.int .i64 2] _ (λa q=>a=.returned (.int .i64 3)/\q=_) from ef 2 _).mono ?_;rintro w4 q ⟨rfl,rfl⟩)
    all_goals(refine pR h.o (aj ?_);rw[o.o];clear l x y z v t u A B C E G h;(try simp only[XJ,Xx,ne_eq,XI,F] at *);(repeat' split)<;>first|rfl|omega)
  .have w5:g=true:=by cases g<;>simp_all
   subst w5;have o:Z (d=if n=0\/m/3<n then 5 else 0):=by show d=_;have p:=i.o;rw[p];simp
   clear i e a
   conv=>arg 2;whnf
   go_wp2
   all_goals(refine pR h.o (aj ?_);rw[o.o];clear l x y z v t u A B C E G h;(try simp only[XJ,Xx,ne_eq,XI,F] at *);(repeat' split)<;>first|rfl|omega)
