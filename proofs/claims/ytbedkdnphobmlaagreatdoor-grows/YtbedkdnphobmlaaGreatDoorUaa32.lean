import Derived.Test.YtbedkdnphobmlaaGreatDoorProg
import Derived.Test.YtbedkdnphobmlaaGreatDoorUaa00
import Derived.Test.YtbedkdnphobmlaaGreatDoorUaa01
import Derived.Test.YtbedkdnphobmlaaGreatDoorUaa02
import Derived.Test.YtbedkdnphobmlaaGreatDoorUaa03
import Derived.Test.YtbedkdnphobmlaaGreatDoorUaa06
import Derived.Test.YtbedkdnphobmlaaGreatDoorUaa07
import Derived.Test.YtbedkdnphobmlaaGreatDoorUaa11
import Derived.Test.YtbedkdnphobmlaaGreatDoorUaa12
import Derived.Test.YtbedkdnphobmlaaGreatDoorUaa13
import Derived.Test.YtbedkdnphobmlaaGreatDoorUaa19
import Derived.Test.YtbedkdnphobmlaaGreatDoorUaa21
import Derived.Test.YtbedkdnphobmlaaGreatDoorUaa22
import Derived.Test.YtbedkdnphobmlaaGreatDoorUaa24
import Derived.Test.YtbedkdnphobmlaaGreatDoorUaa31
set_option linter.all false
set_option maxRecDepth 100000
set_option maxHeartbeats 0
namespace Go.Proofs.YtbedkdnphobmlaaGreatDoor
open Go.RowKit Px Tryz
def cP(W H D K L:Nat)(pal clr:List Int)(PL:List (List Int)):List Int:=
 eu++chB bt (hdI W H D K L)++palB pal++dK K clr++chL PL++chB aJ []
theorem vZ(j H K D L P b6:Nat)srch pp qp xp fp kp cp pc qc xc fc kc cc(e c b4 fl x u f9:List Int)w(b1:cu j H K D e c b4)(n3:L<=1)(n4:0<x.length)(n5:x.length<=64)(k7:∀c8∈x,0<=c8/\c8<=2)(n6:0<u.length)(n7:u.length<=64)(k8:∀c8∈u,0<=c8/\c8<=65536)(n8:1<=u.getD 0 0)(n9:1<=P)(o0:P<=1048576)(h1:0<f9.length)(o1:f9.length<=2078)(k9:ep w)(o2:b6<=7)(l0:LAt w .i64 (.slice pp e.length pc) e)(l1:LAt w .i64 (.slice qp c.length qc) c)(l2:LAt w .i64 (.slice kp x.length kc) x)(l3:LAt w .i64 (.slice cp u.length cc) u)(j0:∀r,ai (.slice cp u.length cc)=some r->r<w.heap.size)(l4:∀h2:World,Kept w h2->Calls prog 68 #[.agg #[.int .i64 j,.int .i64 H,.int .i64 D,.int .i64 K,.int .i64 L],.slice xp b4.length xc,.slice fp fl.length fc] h2 λd s=>∃b5,d=.returned b5/\bg s h2.heap.size b5 f9/\Kept h2 s):Calls prog 50 #[.agg #[.int .i64 j,.int .i64 H,.int .i64 K,.int .i64 D,.slice pp e.length pc,.slice qp c.length qc,.slice xp b4.length xc],.agg #[.int .i64 L,.slice fp fl.length fc,.slice kp x.length kc,.int .i64 P,.slice cp u.length cc,.int .i64 b6,.int .i64 srch]] w λd s=>∃PL,d=.returned (.string (strOfNums (cP j H D K L e c PL)))/\PL≠[]/\isBytes PL.flatten/\(6<=PL.flatten.length/\PL.flatten.length<=1250000)/\(cP j H D K L e c PL).length<=990000000/\tS (bW (nl PL.flatten)) (nl f9)/\Kept w s:=by
 have l5:∀PL,cP j H D K L e c PL=eu++chB bt (hdI j H D K L)++palB e++dK K c++chL PL++chB aJ []:=λ_=>rfl
 generalize cP j H D K L e c=d0 at *;have f2:Z _:=l5;clear l5;have f3:Kept w (((w.alloc (Obj.cells #[.int .i64 j,.int .i64 H,.int .i64 K,.int .i64 D,.slice pp e.length pc,.slice qp c.length qc,.slice xp b4.length xc] 33)).alloc (Obj.cells #[.int .i64 L,.slice fp fl.length fc,.slice kp x.length kc,.int .i64 P,.slice cp u.length cc,.int .i64 b6,.int .i64 srch] 35)).alloc (Obj.cells #[.int .i64 j,.int .i64 H,.int .i64 D,.int .i64 K,.int .i64 L] 71)):=Xw (Xw (Xw (Xs _ _) (E _) _) Xi _) Xf _;have p3:(((w.alloc (Obj.cells #[.int .i64 j,.int .i64 H,.int .i64 K,.int .i64 D,.slice pp e.length pc,.slice qp c.length qc,.slice xp b4.length xc] 33)).alloc (Obj.cells #[.int .i64 L,.slice fp fl.length fc,.slice kp x.length kc,.int .i64 P,.slice cp u.length cc,.int .i64 b6,.int .i64 srch] 35)).alloc (Obj.cells #[.int .i64 j,.int .i64 H,.int .i64 D,.int .i64 K,.int .i64 L] 71)).heap.size=w.heap.size+3:=Xi;have f4:∀b:World,(∀(y m:Nat),w.heap.size<=y->y<w.heap.size+3->b.cell? ⟨y,m,none⟩=(((w.alloc (Obj.cells #[.int .i64 j,.int .i64 H,.int .i64 K,.int .i64 D,.slice pp e.length pc,.slice qp c.length qc,.slice xp b4.length xc] 33)).alloc (Obj.cells #[.int .i64 L,.slice fp fl.length fc,.slice kp x.length kc,.int .i64 P,.slice cp u.length cc,.int .i64 b6,.int .i64 srch] 35)).alloc (Obj.cells #[.int .i64 j,.int .i64 H,.int .i64 D,.int .i64 K,.int .i64 L] 71)).cell? ⟨y,m,none⟩)->b.cell? ⟨w.heap.size,0,none⟩=some (.int .i64 j)/\b.cell? ⟨w.heap.size,1,none⟩=some (.int .i64 H)/\b.cell? ⟨w.heap.size,2,none⟩=some (.int .i64 K)/\b.cell? ⟨w.heap.size,3,none⟩=some (.int .i64 D)/\b.cell? ⟨w.heap.size,4,none⟩=some (.slice pp e.length pc)/\b.cell? ⟨w.heap.size,5,none⟩=some (.slice qp c.length qc)/\b.cell? ⟨w.heap.size,6,none⟩=some (.slice xp b4.length xc)/\b.cell? ⟨w.heap.size+1,0,none⟩=some (.int .i64 L)/\b.cell? ⟨w.heap.size+1,1,none⟩=some (.slice fp fl.length fc)/\b.cell? ⟨w.heap.size+1,2,none⟩=some (.slice kp x.length kc)/\b.cell? ⟨w.heap.size+1,3,none⟩=some (.int .i64 P)/\b.cell? ⟨w.heap.size+1,4,none⟩=some (.slice cp u.length cc)/\b.cell? ⟨w.heap.size+1,5,none⟩=some (.int .i64 b6)/\b.cell? ⟨w.heap.size+1,6,none⟩=some (.int .i64 srch)/\b.cell? ⟨w.heap.size+1+1,0,none⟩=some (.int .i64 j)/\b.cell? ⟨w.heap.size+1+1,1,none⟩=some (.int .i64 H)/\b.cell? ⟨w.heap.size+1+1,2,none⟩=some (.int .i64 D)/\b.cell? ⟨w.heap.size+1+1,3,none⟩=some (.int .i64 K)/\b.cell? ⟨w.heap.size+1+1,4,none⟩=some (.int .i64 L):=by
  intro b j1;have e0:∀m,b.cell? ⟨w.heap.size,m,none⟩=#[Value.int .i64 j,.int .i64 H,.int .i64 K,.int .i64 D,.slice pp e.length pc,.slice qp c.length qc,.slice xp b4.length xc][m]? := λm=>by
   rw[j1 _ _ O O,YG _ _ _ Xf,YG _ _ _ Xi,Xr _ _ _ _ rfl]
  have e1:∀m,b.cell? ⟨w.heap.size+1,m,none⟩=#[Value.int .i64 L,.slice fp fl.length fc,.slice kp x.length kc,.int .i64 P,.slice cp u.length cc,.int .i64 b6,.int .i64 srch][m]? := λm=>by
   rw[j1 _ _ O O,YG _ _ _ Xi,Xr _ _ _ _ Xi]
  have g0:∀m,b.cell? ⟨w.heap.size+1+1,m,none⟩=#[Value.int .i64 j,.int .i64 H,.int .i64 D,.int .i64 K,.int .i64 L][m]? := λm=>by
   rw[j1 _ _ O O,Xr _ _ _ _ Xi]
  exact⟨e0 0,e0 1,e0 2,e0 3,e0 4,e0 5,e0 6,e1 0,e1 1,e1 2,e1 3,e1 4,e1 5,e1 6,g0 0,g0 1,g0 2,g0 3,g0 4⟩
 have h3:=l4 (((w.alloc (Obj.cells #[.int .i64 j,.int .i64 H,.int .i64 K,.int .i64 D,.slice pp e.length pc,.slice qp c.length qc,.slice xp b4.length xc] 33)).alloc (Obj.cells #[.int .i64 L,.slice fp fl.length fc,.slice kp x.length kc,.int .i64 P,.slice cp u.length cc,.int .i64 b6,.int .i64 srch] 35)).alloc (Obj.cells #[.int .i64 j,.int .i64 H,.int .i64 D,.int .i64 K,.int .i64 L] 71)) f3;have o3:Z _:=k8;clear l4 k8;replace h3:Z _:=h3;replace f4:Z _:=f4;go_enter func50,ntmps50;go_wp2_with fail;generalize (((w.alloc (Obj.cells #[.int .i64 j,.int .i64 H,.int .i64 K,.int .i64 D,.slice pp e.length pc,.slice qp c.length qc,.slice xp b4.length xc] 33)).alloc (Obj.cells #[.int .i64 L,.slice fp fl.length fc,.slice kp x.length kc,.int .i64 P,.slice cp u.length cc,.int .i64 b6,.int .i64 srch] 35)).alloc (Obj.cells #[.int .i64 j,.int .i64 H,.int .i64 D,.int .i64 K,.int .i64 L] 71))=p4 at *;refine X9 h3.o ?_;rintro d l6 ⟨b5,rfl,f5,g1⟩;obtain⟨o4,o5,rfl,o6,p5⟩:=f5.cap h1;have h4:=f3.trans g1;have h5:=zQ o4 0 o5 (.slice kp x.length kc) (.slice fp fl.length fc) (.slice cp u.length cc) f9 x (L:Int) srch P b6 l6 f5.lat f5.1 o6 (l2.kept h4) (k9.kept h4) O h1 n4 n5 k7 n9 o0 o2;replace h5:Z _:=h5;have p6:=g1.size;obtain⟨M,Q,S,T,U,V,W,X,Y,a0,a1,a2,a3,a4,a5,a6,a7,a8,a9⟩:=f4.o l6 (λy m l7 l8=>g1.cell (p:=⟨y,m,none⟩) (by show y<_;omega));replace h1:Z _:=h1;clear o1 k7 k9;replace f5:Z _:=f5;go_wp2_with fail;refine X9 h5.o ?_;rintro d p7 ⟨p8,e2,rfl,h6,l9,m0,f6,j2⟩;have j3:0<e2.length:=O;have g2:6<=e2.length/\e2.length<=1250000:=⟨l9,m0⟩;replace f6:Z _:=f6;clear m0 l9;obtain⟨f7,m1,rfl,m2,p9⟩:=h6.cap j3;have j4:=h6.1;have j5:=h6.lat;clear M Q S T U V W X Y a0 a1 a2 a3 a4 a5 a6 a7 a8 a9 h5 f5;have h7:Z (isBytes e2):=j4;have m3:=h4.trans j2;go_wp2_with fail;refine(En _).mono ?_;rintro d b2 ⟨d4,rfl,q0,j6,g3⟩;have h8:=(g1.trans j2).trans g3;have q1:=h8.size;have o7:d4<b2.heap.size:=B _ _ (j6 0 O);have f8:Kept b2 (b2.alloc (Obj.cells #[.slice (some ⟨d4,0,none⟩) 8 8] 122)):=Xw (Xs _ _) (E _) _
 have m4:rE (b2.alloc (Obj.cells #[.slice (some ⟨d4,0,none⟩) 8 8] 122)) b2.heap.size (b2.heap.size+1) d4 (S0 b2.heap.size (b2.heap.size+1)):=⟨O,Xi,λq2=>XB _ _ _ _ rfl,Or.inl rfl,λr t=>R (by simp at t;omega),by rw[Xr _ _ _ _ rfl];rfl,O,λm o8=>(f8.cell (p:=⟨d4,m,none⟩) o7).trans (j6 m o8)⟩;have g4:=DM b2.heap.size (b2.heap.size+1) d4 j H D K L _ m4 b1.w2 b1.h2 b1.lg.k6.2 b1.lg.k6.1 n3;obtain⟨k,h9⟩:∃k,k=eu++chB bt (hdI j H D K L):=⟨_,rfl⟩;have q3:k.length=33:=by rw[h9,Xv,dF];rfl
 rw[<-h9] at g4;replace f2:Z (∀PL,d0 PL=k++palB e++dK K c++chL PL++chB aJ []):=λPL=>by rw[h9];exact f2.o PL
 clear h9;replace g4:Z _:=g4;obtain⟨M,Q,S,T,U,V,W,X,Y,a0,a1,a2,a3,a4,a5,a6,a7,a8,a9⟩:=f4.o (b2.alloc (Obj.cells #[.slice (some ⟨d4,0,none⟩) 8 8] 122)) (λy m l7 l8=>((h8.trans f8).cell (p:=⟨y,m,none⟩) (by show y<_;omega)));go_wp2_with fail;refine X9 g4.o ?_;rintro d g5 ⟨rfl,b7⟩;have i0:=(m3.trans g3).trans f8;have j7:=h8.trans f8;have q4:=Xq (j5.lt j3 f7 rfl) g3.size;clear M Q S T U V W X Y a0 a1 a2 a3 a4 a5 a6 a7 a8 a9 g4 m4 j6;generalize (b2.alloc (Obj.cells #[.slice (some ⟨d4,0,none⟩) 8 8] 122))=b3 at *;generalize b2.heap.size=a at *;have q5:=j7.size;have i1:Z (∀(b:World) (h:List Int),bo a (a+1) h (S0 a (a+1)) b3 b->b.cell? ⟨w.heap.size,0,none⟩=some (.int .i64 j)/\b.cell? ⟨w.heap.size,1,none⟩=some (.int .i64 H)/\b.cell? ⟨w.heap.size,2,none⟩=some (.int .i64 K)/\b.cell? ⟨w.heap.size,3,none⟩=some (.int .i64 D)/\b.cell? ⟨w.heap.size,4,none⟩=some (.slice pp e.length pc)/\b.cell? ⟨w.heap.size,5,none⟩=some (.slice qp c.length qc)/\b.cell? ⟨w.heap.size,6,none⟩=some (.slice xp b4.length xc)/\b.cell? ⟨w.heap.size+1,0,none⟩=some (.int .i64 L)/\b.cell? ⟨w.heap.size+1,1,none⟩=some (.slice fp fl.length fc)/\b.cell? ⟨w.heap.size+1,2,none⟩=some (.slice kp x.length kc)/\b.cell? ⟨w.heap.size+1,3,none⟩=some (.int .i64 P)/\b.cell? ⟨w.heap.size+1,4,none⟩=some (.slice cp u.length cc)/\b.cell? ⟨w.heap.size+1,5,none⟩=some (.int .i64 b6)/\b.cell? ⟨w.heap.size+1,6,none⟩=some (.int .i64 srch)/\b.cell? ⟨w.heap.size+1+1,0,none⟩=some (.int .i64 j)/\b.cell? ⟨w.heap.size+1+1,1,none⟩=some (.int .i64 H)/\b.cell? ⟨w.heap.size+1+1,2,none⟩=some (.int .i64 D)/\b.cell? ⟨w.heap.size+1+1,3,none⟩=some (.int .i64 K)/\b.cell? ⟨w.heap.size+1+1,4,none⟩=some (.int .i64 L)):=λb h l=>f4.o b (λy m l7 l8=>(l.fr.cell O (by show ¬(y=a\/a+1<=y);omega)).trans (j7.cell (p:=⟨y,m,none⟩) (by show y<_;omega)))
 have m5:Z (∀(b:World) (h:List Int) (j8:Value) (i2:List Int),bo a (a+1) h (S0 a (a+1)) b3 b->LAt w .i64 j8 i2->0<i2.length->LAt b .i64 j8 i2):=λb h j8 i2 l m6 b8=>(m6.kept i0).fr l.fr (λr t=>by have:=m6.lt b8 r t;show ¬(r=a\/a+1<=r);have:=f3.size;omega)
 have i3:Z (∀(b:World) (h:List Int),bo a (a+1) h (S0 a (a+1)) b3 b->0<h.length->h.length<=10000000->Calls prog 76 #[.pointer (some ⟨a,0,none⟩),.slice (some ⟨f7,0,none⟩) e2.length m1,.slice cp u.length cc] b λd s=>d=.returned (.tuple #[])/\∃PL:List (List Int),PL≠[]/\PL.flatten=e2/\(chL PL).length<=962000000/\bo a (a+1) (h++chL PL) (S0 a (a+1)) b s):=by
  intro b h l b8 i4;exact Cl a (a+1) f7 0 m1 h (S0 a (a+1)) (.slice cp u.length cc) e2 u b l.at' b8 i4 (((j5.kept g3).kept f8).fr l.fr (λr t=>by
   have:f7=r:=by injection t
   show ¬(r=a\/a+1<=r);omega)) j4 m2 j3 g2.2 (by show ¬(f7=a\/a+1<=f7);omega) ((l3.kept i0).fr l.fr (λr t=>by have:=j0 r t;show ¬(r=a\/a+1<=r);have:=f3.size;omega)) n6 n7 (λr t=>by have:=j0 r t;show ¬(r=a\/a+1<=r);have:=f3.size;omega) o3.o n8
 have i5:Z (∀(b:World) (h:List Int),bo a (a+1) h (S0 a (a+1)) b3 b->0<h.length->h.length<=1000000000->Calls prog 77 #[.pointer (some ⟨a,0,none⟩)] b λd s=>d=.returned (.tuple #[])/\bo a (a+1) (h++chB aJ []) (S0 a (a+1)) b s):=λb h l b8 i4=>Ia a (a+1) h _ b l.at' b8 O
 have i6:Z (∀(b:World) (h:List Int),bo a (a+1) h (S0 a (a+1)) b3 b->0<h.length->h.length<=1000000000->Calls prog 78 #[.pointer (some ⟨a,0,none⟩)] b λd s=>d=.returned (.string (strOfNums h))/\Kept b s):=λb h l b8 i4=>G2 a (a+1) h _ b l.at' b8 O
 have j9:Z (e.length<=768):=by
  show _<=_
  by_cases k0:K=3
  .obtain⟨q6,q7,y,q8⟩:=b1.pal3 k0
   have o9:D=1\/D=2\/D=4\/D=8:=by have:=b1.lg;unfold ax at this;omega
   have:=eg o9
   omega
  .rw[b1.palN k0];simp
 have k1:Z (c.length<=65536):=by
  show _<=_
  rcases b1.clr with b9|⟨_,q9,_⟩|⟨r0,_,m7,_⟩
  .rw[b9];simp
  .have:=(@bI K).2;omega
  .have:=j9.o;omega
 have p0:Z (∀(b:World) (h:List Int),bo a (a+1) h (S0 a (a+1)) b3 b->0<e.length->Calls prog 73 #[.slice pp e.length pc] b λd s=>∃b5:Value,d=.returned b5/\pE b s b5 e):=λb h l b8=>oL _ e b (m5.o b h _ e l l0 b8) (by have:=j9.o;omega) b1.palB
 have m8:Z (∀(b:World) (h:List Int),bo a (a+1) h (S0 a (a+1)) b3 b->0<c.length->Calls prog 75 #[.agg #[.int .i64 j,.int .i64 H,.int .i64 K,.int .i64 D,.slice pp e.length pc,.slice qp c.length qc,.slice xp b4.length xc]] b λd s=>∃b5:Value,d=.returned b5/\pE b s b5 (if(K:Int)=3 then c else cQ c)):=by
  intro b h l b8;refine zo (j:Int) (H:Int) (K:Int) (D:Int) _ _ _ c b (m5.o b h _ c l l1 b8) k1.o ?_ ?_
  .intro c8 d5
   rcases b1.clr with b9|⟨_,_,m7⟩|⟨_,_,_,k2⟩
   .rw[b9] at d5;simp at d5
   .have i4:=m7 c8 d5
    have r1:=dS b1.lg.d;omega
   .have:=k2 c8 d5;omega
  .intro k0 c8 d5
   rcases b1.clr with b9|⟨r2,_,_⟩|⟨_,_,_,k2⟩
   .rw[b9] at d5;simp at d5
   .omega
   .exact k2 c8 d5
 have i7:Z (∀(b:World) (h:List Int),bo a (a+1) h (S0 a (a+1)) b3 b->Kept w b):=λb h l=>Fr.to_kept i0 l.fr (λm9 r3=>by show ¬(m9=a\/a+1<=m9);have:=f3.size;omega)
 clear f4 h3 l0 l1 l2 l3 j0 j5 j4 h6 h4 m3 i0 h8 j7 g1 j2 g3 f8 b1 m2;obtain⟨M,Q,S,T,U,V,W,X,Y,a0,a1,a2,a3,a4,a5,a6,a7,a8,a9⟩:=i1.o g5 k b7;replace b7:Z (bo a (a+1) k (S0 a (a+1)) b3 g5):=b7;rcases Nat.eq_zero_or_pos e.length with i8|i8
 .have p1:(e.length:Int)=0:=O
  have e3:Z (palB e=[]):=by show palB e=[];unfold palB;rw[I i8]
  rcases Nat.eq_zero_or_pos c.length with g6|g6
  .have k3:(c.length:Int)=0:=O
   have e4:Z (dK K c=[]):=by show dK K c=[];unfold dK;rw[I g6]
   have z:Z (0<(k).length/\(k).length<=300000):=by show 0<k.length/\k.length<=300000;omega
   have A:=i3.o g5 (k) b7.o z.o.1 (by have:=z.o.2;omega);replace A:Z _:=A;go_wp2_with fail;refine X9 A.o ?_;rintro d e5 ⟨rfl,PL,C,n,e6,F⟩;obtain⟨f,o⟩:∃f,f=k++chL PL:=⟨_,rfl⟩;have G:Z (0<f.length/\f.length<=975000000):=by
    show 0<f.length/\f.length<=975000000
    rw[o,Xv];have:=z.o;omega
   obtain⟨g,q⟩:∃g,g=f++chB aJ []:=⟨_,rfl⟩;have J:Z (0<g.length/\g.length<=980000000):=by
    show 0<g.length/\g.length<=980000000
    rw[q,Xv,dF];have:=G.o;simp;omega
   have c0:Z (g=d0 PL):=by show g=d0 PL;rw[q,o,f2.o,e3.o,e4.o];try(first|rfl|simp only[XN,XY])
   rw[<-o] at F;have e7:Z (∀b,bo a (a+1) f (S0 a (a+1)) b3 b->Calls prog 77 #[.pointer (some ⟨a,0,none⟩)] b λd s=>d=.returned (.tuple #[])/\bo a (a+1) g (S0 a (a+1)) b s):=λb l=>by rw[q];exact i5.o b f l G.o.1 (by have:=G.o.2;omega)
   clear M Q S T U V W X Y a0 a1 a2 a3 a4 a5 a6 a7 a8 a9;have c1:Z _:=b7.o.trans F;replace o:Z _:=o;replace q:Z _:=q;replace C:Z _:=C;replace n:Z _:=n;clear F e6;go_wp2_with fail;refine(e7.o e5 c1.o).mono ?_;rintro d c2 ⟨rfl,c3⟩;have c4:Z _:=c1.o.trans c3;clear c3;go_wp2_with fail;refine(i6.o c2 _ c4.o J.o.1 (by have:=J.o.2;omega)).mono ?_;rintro d e8 ⟨rfl,c5⟩;have e9:Z (Kept w e8):=(i7.o c2 _ c4.o).trans c5;clear c5;go_wp2;go_ret;exact⟨PL,by rw[c0.o];rfl,C.o,by rw[n.o];exact h7.o,by rw[n.o];exact g2,by rw[<-c0.o];have:=J.o.2;omega,by rw[n.o];exact f6.o,e9.o⟩
  .have k3:(0:Int)<(c.length:Int):=O
   have b0:=m8.o g5 _ b7.o O;obtain⟨i,d1⟩:∃i:List Int,i=(if(K:Int)=3 then c else cQ c):=⟨_,rfl⟩;rw[<-d1] at b0;have d2:Z (0<i.length/\i.length<=131072):=by
    show 0<i.length/\i.length<=131072
    have:=k1.o
    rw[d1];split
    .omega
    .rw[gW];omega
   have e4:Z (dK K c=chB aT i):=by show dK K c=chB aT i;unfold dK;rw[N (show ¬c.length=0 from O),<-d1]
   replace b0:Z _:=b0;clear d1;rw[i8] at b0;go_wp2_with fail;refine X9 b0.o ?_;rintro d g7 ⟨b5,rfl,⟨d6,c6,d7,d8,d3⟩⟩;obtain⟨c9,n0,n1,rfl,d9⟩:=c6.addr d2.o.1;have k4:c9<g7.heap.size:=B _ _ (d9 0 d2.o.1);have c7:=BN a (a+1) (k) (S1 a (a+1) c9) _ i g7 (WrY.apart b7.o.at' d3 (d8 c9 rfl) k4) O c6 d6 d7 (λr t b9=>b9.2 (by injection t with t;exact t.symm)) O (by have:=d2.o;omega);replace c7:Z _:=c7;replace d3:Z _:=d3;clear d9 c6 d7 d8 d6;go_wp2_with fail;refine X9 c7.o ?_;rintro d g8 ⟨rfl,g9⟩;have f0:Z _:=bo.step b7.o d3.o g9;clear g9 M Q S T U V W X Y a0 a1 a2 a3 a4 a5 a6 a7 a8 a9;obtain⟨M,Q,S,T,U,V,W,X,Y,a0,a1,a2,a3,a4,a5,a6,a7,a8,a9⟩:=i1.o g8 _ f0.o;have z:Z (0<(k++chB aT i).length/\(k++chB aT i).length<=300000):=by show 0<(k++chB aT i).length/\(k++chB aT i).length<=300000;rw[Xv,dF];have:=d2.o;omega
   have A:=i3.o g8 (k++chB aT i) f0.o z.o.1 (by have:=z.o.2;omega);replace A:Z _:=A;go_wp2_with fail;refine X9 A.o ?_;rintro d e5 ⟨rfl,PL,C,n,e6,F⟩;obtain⟨f,o⟩:∃f,f=k++chB aT i++chL PL:=⟨_,rfl⟩;have G:Z (0<f.length/\f.length<=975000000):=by
    show 0<f.length/\f.length<=975000000
    rw[o,Xv];have:=z.o;omega
   obtain⟨g,q⟩:∃g,g=f++chB aJ []:=⟨_,rfl⟩;have J:Z (0<g.length/\g.length<=980000000):=by
    show 0<g.length/\g.length<=980000000
    rw[q,Xv,dF];have:=G.o;simp;omega
   have c0:Z (g=d0 PL):=by show g=d0 PL;rw[q,o,f2.o,e3.o,e4.o];try(first|rfl|simp only[XN,XY])
   rw[<-o] at F;have e7:Z (∀b,bo a (a+1) f (S0 a (a+1)) b3 b->Calls prog 77 #[.pointer (some ⟨a,0,none⟩)] b λd s=>d=.returned (.tuple #[])/\bo a (a+1) g (S0 a (a+1)) b s):=λb l=>by rw[q];exact i5.o b f l G.o.1 (by have:=G.o.2;omega)
   clear M Q S T U V W X Y a0 a1 a2 a3 a4 a5 a6 a7 a8 a9;have c1:Z _:=f0.o.trans F;replace o:Z _:=o;replace q:Z _:=q;replace C:Z _:=C;replace n:Z _:=n;clear F e6;go_wp2_with fail;refine(e7.o e5 c1.o).mono ?_;rintro d c2 ⟨rfl,c3⟩;have c4:Z _:=c1.o.trans c3;clear c3;go_wp2_with fail;refine(i6.o c2 _ c4.o J.o.1 (by have:=J.o.2;omega)).mono ?_;rintro d e8 ⟨rfl,c5⟩;have e9:Z (Kept w e8):=(i7.o c2 _ c4.o).trans c5;clear c5;go_wp2;go_ret;exact⟨PL,by rw[c0.o];rfl,C.o,by rw[n.o];exact h7.o,by rw[n.o];exact g2,by rw[<-c0.o];have:=J.o.2;omega,by rw[n.o];exact f6.o,e9.o⟩
 .have p1:(0:Int)<(e.length:Int):=O
  have e3:Z (palB e=chB bC e):=by show palB e=chB bC e;unfold palB;rw[N]
  have b0:=p0.o g5 k b7.o i8;replace b0:Z _:=b0;have r4:=j9.o;go_wp2_with fail;refine X9 b0.o ?_;rintro d p2 ⟨b5,rfl,⟨d6,c6,d7,d8,i9⟩⟩;obtain⟨c9,n0,n1,rfl,d9⟩:=c6.addr O;have c7:=Ho a (a+1) k (S1 a (a+1) c9) _ e p2 (WrY.apart b7.o.at' i9 (d8 c9 rfl) (B _ _ (d9 0 O))) O c6 d6 d7 (λr t b9=>b9.2 (by injection t with t;exact t.symm)) O O;replace c7:Z _:=c7;replace i9:Z _:=i9;clear d9 c6 d7 d8 d6;go_wp2_with fail;refine X9 c7.o ?_;rintro d k5 ⟨rfl,n2⟩;have f1:Z _:=bo.step b7.o i9.o n2;have h0:Z (0<(k++chB bC e).length/\(k++chB bC e).length<=1000):=by show 0<(k++chB bC e).length/\(k++chB bC e).length<=1000;rw[Xv,dF];omega
  obtain⟨v,k6⟩:∃v,v=k++chB bC e:=⟨_,rfl⟩;replace e3:Z (k++palB e=v):=by show k++palB e=v;rw[e3.o,k6]
  rw[<-k6] at f1 h0;clear k6;clear n2 M Q S T U V W X Y a0 a1 a2 a3 a4 a5 a6 a7 a8 a9;obtain⟨M,Q,S,T,U,V,W,X,Y,a0,a1,a2,a3,a4,a5,a6,a7,a8,a9⟩:=i1.o k5 _ f1.o;rcases Nat.eq_zero_or_pos c.length with g6|g6
  .have k3:(c.length:Int)=0:=O
   have e4:Z (dK K c=[]):=by show dK K c=[];unfold dK;rw[I g6]
   have z:Z (0<(v).length/\(v).length<=300000):=by have:=h0.o;show 0<v.length/\v.length<=300000;omega
   have A:=i3.o k5 (v) f1.o z.o.1 (by have:=z.o.2;omega);replace A:Z _:=A;go_wp2_with fail;refine X9 A.o ?_;rintro d e5 ⟨rfl,PL,C,n,e6,F⟩;obtain⟨f,o⟩:∃f,f=v++chL PL:=⟨_,rfl⟩;have G:Z (0<f.length/\f.length<=975000000):=by
    show 0<f.length/\f.length<=975000000
    rw[o,Xv];have:=z.o;omega
   obtain⟨g,q⟩:∃g,g=f++chB aJ []:=⟨_,rfl⟩;have J:Z (0<g.length/\g.length<=980000000):=by
    show 0<g.length/\g.length<=980000000
    rw[q,Xv,dF];have:=G.o;simp;omega
   have c0:Z (g=d0 PL):=by show g=d0 PL;rw[q,o,f2.o,e3.o,e4.o];try(first|rfl|simp only[XN,XY])
   rw[<-o] at F;have e7:Z (∀b,bo a (a+1) f (S0 a (a+1)) b3 b->Calls prog 77 #[.pointer (some ⟨a,0,none⟩)] b λd s=>d=.returned (.tuple #[])/\bo a (a+1) g (S0 a (a+1)) b s):=λb l=>by rw[q];exact i5.o b f l G.o.1 (by have:=G.o.2;omega)
   clear M Q S T U V W X Y a0 a1 a2 a3 a4 a5 a6 a7 a8 a9;have c1:Z _:=f1.o.trans F;replace o:Z _:=o;replace q:Z _:=q;replace C:Z _:=C;replace n:Z _:=n;clear F e6;go_wp2_with fail;refine(e7.o e5 c1.o).mono ?_;rintro d c2 ⟨rfl,c3⟩;have c4:Z _:=c1.o.trans c3;clear c3;go_wp2_with fail;refine(i6.o c2 _ c4.o J.o.1 (by have:=J.o.2;omega)).mono ?_;rintro d e8 ⟨rfl,c5⟩;have e9:Z (Kept w e8):=(i7.o c2 _ c4.o).trans c5;clear c5;go_wp2;go_ret;exact⟨PL,by rw[c0.o];rfl,C.o,by rw[n.o];exact h7.o,by rw[n.o];exact g2,by rw[<-c0.o];have:=J.o.2;omega,by rw[n.o];exact f6.o,e9.o⟩
  .have k3:(0:Int)<(c.length:Int):=O
   have b0:=m8.o k5 _ f1.o O;obtain⟨i,d1⟩:∃i:List Int,i=(if(K:Int)=3 then c else cQ c):=⟨_,rfl⟩;rw[<-d1] at b0;have d2:Z (0<i.length/\i.length<=131072):=by
    show 0<i.length/\i.length<=131072
    have:=k1.o
    rw[d1];split
    .omega
    .rw[gW];omega
   have e4:Z (dK K c=chB aT i):=by show dK K c=chB aT i;unfold dK;rw[N (show ¬c.length=0 from O),<-d1]
   replace b0:Z _:=b0;clear d1;go_wp2_with fail;refine X9 b0.o ?_;rintro d g7 ⟨b5,rfl,⟨d6,c6,d7,d8,d3⟩⟩;obtain⟨c9,n0,n1,rfl,d9⟩:=c6.addr d2.o.1;have k4:c9<g7.heap.size:=B _ _ (d9 0 d2.o.1);have c7:=BN a (a+1) (v) (S1 a (a+1) c9) _ i g7 (WrY.apart f1.o.at' d3 (d8 c9 rfl) k4) h0.o.1 c6 d6 d7 (λr t b9=>b9.2 (by injection t with t;exact t.symm)) (by have:=h0.o.2;omega) (by have:=d2.o;omega);replace c7:Z _:=c7;replace d3:Z _:=d3;clear d9 c6 d7 d8 d6;go_wp2_with fail;refine X9 c7.o ?_;rintro d g8 ⟨rfl,g9⟩;have f0:Z _:=bo.step f1.o d3.o g9;clear g9 M Q S T U V W X Y a0 a1 a2 a3 a4 a5 a6 a7 a8 a9;obtain⟨M,Q,S,T,U,V,W,X,Y,a0,a1,a2,a3,a4,a5,a6,a7,a8,a9⟩:=i1.o g8 _ f0.o;have z:Z (0<(v++chB aT i).length/\(v++chB aT i).length<=300000):=by show 0<(v++chB aT i).length/\(v++chB aT i).length<=300000;rw[Xv,dF];have:=d2.o;have:=h0.o;omega
   have A:=i3.o g8 (v++chB aT i) f0.o z.o.1 (by have:=z.o.2;omega);replace A:Z _:=A;go_wp2_with fail;refine X9 A.o ?_;rintro d e5 ⟨rfl,PL,C,n,e6,F⟩;obtain⟨f,o⟩:∃f,f=v++chB aT i++chL PL:=⟨_,rfl⟩;have G:Z (0<f.length/\f.length<=975000000):=by
    show 0<f.length/\f.length<=975000000
    rw[o,Xv];have:=z.o;omega
   obtain⟨g,q⟩:∃g,g=f++chB aJ []:=⟨_,rfl⟩;have J:Z (0<g.length/\g.length<=980000000):=by
    show 0<g.length/\g.length<=980000000
    rw[q,Xv,dF];have:=G.o;simp;omega
   have c0:Z (g=d0 PL):=by show g=d0 PL;rw[q,o,f2.o,e3.o,e4.o];try(first|rfl|simp only[XN,XY])
   rw[<-o] at F;have e7:Z (∀b,bo a (a+1) f (S0 a (a+1)) b3 b->Calls prog 77 #[.pointer (some ⟨a,0,none⟩)] b λd s=>d=.returned (.tuple #[])/\bo a (a+1) g (S0 a (a+1)) b s):=λb l=>by rw[q];exact i5.o b f l G.o.1 (by have:=G.o.2;omega)
   clear M Q S T U V W X Y a0 a1 a2 a3 a4 a5 a6 a7 a8 a9;have c1:Z _:=f0.o.trans F;replace o:Z _:=o;replace q:Z _:=q;replace C:Z _:=C;replace n:Z _:=n;clear F e6;go_wp2_with fail;refine(e7.o e5 c1.o).mono ?_;rintro d c2 ⟨rfl,c3⟩;have c4:Z _:=c1.o.trans c3;clear c3;go_wp2_with fail;refine(i6.o c2 _ c4.o J.o.1 (by have:=J.o.2;omega)).mono ?_;rintro d e8 ⟨rfl,c5⟩;have e9:Z (Kept w e8):=(i7.o c2 _ c4.o).trans c5;clear c5;go_wp2;go_ret;exact⟨PL,by rw[c0.o];rfl,C.o,by rw[n.o];exact h7.o,by rw[n.o];exact g2,by rw[<-c0.o];have:=J.o.2;omega,by rw[n.o];exact f6.o,e9.o⟩
