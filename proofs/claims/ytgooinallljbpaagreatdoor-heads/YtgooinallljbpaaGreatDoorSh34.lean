import Derived.Test.YtgooinallljbpaaGreatDoorSh00
import Derived.Test.YtgooinallljbpaaGreatDoorSh33
set_option linter.all false
set_option maxRecDepth 100000
set_option maxHeartbeats 0
namespace Go.Proofs.YtgooinallljbpaaGreatDoor
open Go.RowKit Px Tryz
theorem LU{M Q R S T U V W X Y a0 a1 a2 a3 a4 a5 a6 a7 a8 a9 b0 b1 b2 b3 b4 b5 b6 b7 b8 b9 c0 c1 c2 c3 c4 c5 c6 c7 c8 c9 d0 d1 d2 d3 d4 d5 d6 d7 d8 d9 e0 e1 e2 e3 e4 e5 e6 e7 e8 e9 f0 f1 f2 f3 f4 f5 f6 f7 f8 f9 g0 g1 g2 g3 g4 g5 g6 g7 g8 g9 h0 h1 h2 h3 h4 h5 h6 h7 h8 h9 i0 i1 i2 i3 i4 i5 i6 i7 i8 i9 j0 j1 j2 j3 j4 j5 j6 j7 j8 j9 k0 k1 k2 k3 k4 k5 k6 k7 k8 k9 l0 l1 l2 l3 l4 l5 l6 l7 l8 l9 m0 m1 m2 m3 m4 m5 m6 m7 m8 m9 n0 n1 n2 n3 n4 n5 n6 n7 n8 n9 o0 o1 o2 o3 o4 o5 o6 o7 o8 o9 p0 p1 p2 p3 p4 p5 p6 p7 p8 p9 q0 q1 q2 q3 q4 q5 q6 q7 q8 q9 r0 r1 r2 r3 r4 r5 r6 r7 r8 r9 s0 s1 s2 s3 s4 s5 s6 s7 s8 s9 t0 t1 t2 t3 t4 t5 t6 t7 t8 t9 u0 u1 u2 u3 u4 u5 u6 u7 u8 u9 v0 v1 v2 v3 v4 v5 v6:Value}(P:Ending->World->Prop)(b:Nat)(k:ByteArray)(n:Nat)(w:World)(w7:k.size=4)(w8:n<2147483648)(c D H e:Nat)(i j v7:Bool)(v8 v9:Option Addr)(w0 w1:Nat)(w2:D<=16)(w9:H<=1048576)(x0:e<=1048576)(r:kindOk c)(s:w.cell? ⟨b,11,none⟩=some (.slice v9 e w1))(t:w.cell? ⟨b,12,none⟩=some (.bool v7))(l:w.cell? ⟨b,4,none⟩=some (.int .i64 c))(u:w.cell? ⟨b,3,none⟩=some (.int .i64 D))(v:w.cell? ⟨b,6,none⟩=some (.bool i))(x:w.cell? ⟨b,7,none⟩=some (.bool j))(y:w.cell? ⟨b,8,none⟩=some (.slice v8 H w0))(z:(k.toList==[73,72,68,82])=false)(A:(k.toList==[80,76,84,69])=true)(B:(k.toList==[116,82,78,83])=false)(C:(k.toList==[73,68,65,84])=false)(E:(k.toList==[73,69,78,68])=false)(d:Nat)(p:Z (d=(if 0<e\/i=true\/j=true\/¬(c=2\/c=3\/c=6) then 4 else if n=0\/n%3≠0\/768<n\/(c=3/\3*2^D<n) then 5 else 0)))(f:Z (P (.returned (.int .i64 d)) w)):Code.wp prog ((f99.body.bind (dH 16)).getD .skip) (bodyPost prog f99 P) ⟨#[.pointer (some ⟨b,0,none⟩),.string k,.int .i64 n,M,Q,R,S,T,U,V,W,X,Y,a0,a1,a2,a3,a4,a5,a6,a7,a8,a9,b0,b1,b2,b3,b4,b5,b6,b7,b8,b9,c0,c1,c2,c3,c4,c5,c6,c7,c8,c9,d0,d1,d2,d3,d4,d5,d6,d7,d8,d9,e0,e1,e2,e3,e4,e5,e6,e7,e8,e9,f0,f1,f2,f3,f4,f5,f6,f7,f8,f9,g0,g1,g2,g3,g4,g5,g6,g7,g8,g9,h0,h1,h2,h3,h4,h5,h6,h7,h8,h9,i0,i1,i2,i3,i4,i5,i6,i7,i8,i9,j0,j1,j2,j3,j4,j5,j6,j7,j8,j9,k0,k1,k2,k3,k4,k5,k6,k7,k8,k9,l0,l1,l2,l3,l4,l5,l6,l7,l8,l9,m0,m1,m2,m3,m4,m5,m6,m7,m8,m9,n0,n1,n2,n3,n4,n5,n6,n7,n8,n9,o0,o1,o2,o3,o4,o5,o6,o7,o8,o9,p0,p1,p2,p3,p4,p5,p6,p7,p8,p9,q0,q1,q2,q3,q4,q5,q6,q7,q8,q9,r0,r1,r2,r3,r4,r5,r6,r7,r8,r9,s0,s1,s2,s3,s4,s5,s6,s7,s8,s9,t0,t1,t2,t3,t4,t5,t6,t7,t8,t9,u0,u1,u2,u3,u4,u5,u6,u7,u8,u9,v0,v1,v2,v3,v4,v5,v6],[]⟩ w:=by
 have x1:=Dw D w2;by_cases g:0<e\/i=true\/j=true\/¬(c=2\/c=3\/c=6)
 .have J:Z (d=4):=by have:=p.o;rw[I g] at this;exact this
  clear p;by_cases K:0<e
  .have L:(0:Int)<(e:Int):=O
   clear g K;rcases r with a|a|a|a|a<;>rw[a] at l<;>clear a
   all_goals
    conv=>arg 2;whnf
    go_wp2
    all_goals exact pR f.o (aj (by rw[J.o];rfl))
  .have L:e=0:=O
   subst L;clear K;rcases r with a|a|a|a|a<;>rw[a] at l<;>simp only[a] at g<;>clear a<;>cases i<;>cases j<;>first|(exfalso;revert g;decide)|skip
   all_goals
    clear g
    conv=>arg 2;whnf
    go_wp2
    all_goals exact pR f.o (aj (by rw[J.o];rfl))
 .have w3:i=false:=by cases i<;>simp_all
  have w4:j=false:=by cases j<;>simp_all
  have w5:e=0:=O;have h:Z (d=if n=0\/n%3≠0\/768<n\/(c=3/\3*2^D<n) then 5 else 0):=by have:=p.o;rw[N g] at this;exact this
  subst w3 w4 w5;have w6:c=2\/c=3\/c=6:=O;clear p g r;rcases w6 with a|a|a<;>rw[a] at l h<;>clear a
  .have m:Z (d=if n=0\/n%3≠0\/768<n then 5 else 0):=by show d=_;have o:=h.o;rw[o];generalize 2^D=q;(repeat' split)<;>first|rfl|omega
   clear h
   conv=>arg 2;whnf
   go_wp2
   all_goals(refine pR f.o (aj ?_);rw[m.o];clear l v x y u s t z A B C E f;(try simp only[XJ,Xx,ne_eq,XI,F] at *);(repeat' split)<;>first|rfl|omega)
  .have m:Z (d=if n=0\/n%3≠0\/768<n\/3*2^D<n then 5 else 0):=by show d=_;have o:=h.o;rw[o];generalize 2^D=q;(repeat' split)<;>first|rfl|omega
   clear h;have G:Z (wrap64 (3*2^D)=((3*2^D:Nat):Int)):=by
    show wrap64 (3*2^D)=((3*2^D:Nat):Int)
    rw[show(3:Int)*2^D=((3*2^D:Nat):Int) from Xi];generalize 2^D=q at *;unfold wrap64;omega
   conv=>arg 2;whnf
   go_wp2
   all_goals(refine pR f.o (aj ?_);rw[m.o];clear l v x y u s t z A B C E f;(try rw[G.o] at *);(try simp only[XJ,Xx,ne_eq,XI,F,G.o] at *);clear G m;generalize 2^D=q at *;(repeat' split)<;>first|rfl|omega)
  .have m:Z (d=if n=0\/n%3≠0\/768<n then 5 else 0):=by show d=_;have o:=h.o;rw[o];generalize 2^D=q;(repeat' split)<;>first|rfl|omega
   clear h
   conv=>arg 2;whnf
   go_wp2
   all_goals(refine pR f.o (aj ?_);rw[m.o];clear l v x y u s t z A B C E f;(try simp only[XJ,Xx,ne_eq,XI,F] at *);(repeat' split)<;>first|rfl|omega)
