import Derived.Test.YtbedkdnphobmlaaGreatDoorProg
import Derived.Test.YtbedkdnphobmlaaGreatDoorUaa00
import Derived.Test.YtbedkdnphobmlaaGreatDoorUaa01
import Derived.Test.YtbedkdnphobmlaaGreatDoorUaa02
import Derived.Test.YtbedkdnphobmlaaGreatDoorUaa09
import Derived.Test.YtbedkdnphobmlaaGreatDoorUaa13
import Derived.Test.YtbedkdnphobmlaaGreatDoorUaa14
import Derived.Test.YtbedkdnphobmlaaGreatDoorUaa18
import Derived.Test.YtbedkdnphobmlaaGreatDoorUaa19
import Derived.Test.YtbedkdnphobmlaaGreatDoorUaa27
import Derived.Test.YtbedkdnphobmlaaGreatDoorUaa33
import Derived.Test.YtbedkdnphobmlaaGreatDoorUaa34
import Derived.Test.YtbedkdnphobmlaaGreatDoorUac00
import Derived.Test.YtbedkdnphobmlaaGreatDoorUac01
import Derived.Test.YtbedkdnphobmlaaGreatDoorUac02
import Derived.Test.YtbedkdnphobmlaaGreatDoorUai00
import Derived.Test.YtbedkdnphobmlaaGreatDoorUai01
import Derived.Test.YtbedkdnphobmlaaGreatDoorUai02
set_option linter.all false
set_option maxRecDepth 100000
set_option maxHeartbeats 0
namespace Go.Proofs.YtbedkdnphobmlaaGreatDoor
open Go.RowKit Px Tryz
theorem iz a b:aj (a++b)=aj a++aj b:=by
 unfold aj;rw[ByteArray.data_append,Array.toList_append,Zf]
theorem Dx x f H K D L P V Z a data pp qp xp fp kp cp pc qc xc fc kc cc pal clr pix fl kl cl ff w(h:Dk w x f H K D L P V Z pp qp xp fp kp cp pc qc xc fc kc cc pal clr pix fl kl cl)(r9:4<x)(i5:dp f H D K L P V pal clr pix fl kl ff)(i6:w.cell? ⟨x,14,none⟩=some (.string ff))(o3 : -9223372036854775808<=a)(o4:a<9223372036854775808)(s0:data.size<9223372036854775808):Calls prog 16 #[.pointer (some ⟨x,0,none⟩),.int .i64 a,.string data] w λg S=>g=.returned (.bool true)/\Kept w S:=by
 by_cases s1:1000<data.size
 .have s2:decide ((data.size:Int)>1000)=true:=decide_eq_true O
  go_enter func16,ntmps16;go_wp2;go_ret;exact⟨rfl,Kept.refl _⟩
 have s3:decide ((data.size:Int)>1000)=false:=J;have s4:0<w.heap.size:=by have:=h.grid.lt;omega
 obtain⟨s5,s6⟩:=bM i5;obtain⟨o,q,s7,l2,l3,l4⟩:=Hn i5 h.im h.ch;have a4:=Eh l2 O;have g5:=Im K pal clr (o::q);have i7:ZH0 (∀b,b<(ckL K pal clr (o::q)).length->(0<b/\((ckL K pal clr (o::q)).getD b (0,[])).1=ar/\((ckL K pal clr (o::q)).getD (b-1) (0,[])).1=ar/\vQ ((aj ff).take (ca (ckL K pal clr (o::q)) b)++(chN bJ (aj data)++(aj ff).drop (ca (ckL K pal clr (o::q)) b))) (ca (ckL K pal clr (o::q)) b) data.size)\/((b=0\/((ckL K pal clr (o::q)).getD b (0,[])).1≠ar\/((ckL K pal clr (o::q)).getD (b-1) (0,[])).1≠ar)/\rI f H D K L pal clr pix ((aj ff).take (ca (ckL K pal clr (o::q)) b)++(chN bJ (aj data)++(aj ff).drop (ca (ckL K pal clr (o::q)) b))))):=λb t=>by
  have i8:aj ff=(sgN f H D K L++flC ((ckL K pal clr (o::q)).take b))++flC ((ckL K pal clr (o::q)).drop b):=by
   rw[a4.eq,XY,<-cV,X7]
  have z:ca (ckL K pal clr (o::q)) b=(sgN f H D K L++flC ((ckL K pal clr (o::q)).take b)).length:=by
   unfold ca;rw[Xv,a4.s33]
  have o5:(aj ff).take (ca (ckL K pal clr (o::q)) b)=sgN f H D K L++flC ((ckL K pal clr (o::q)).take b):=by rw[i8,z,List.take_left]
  have o6:(aj ff).drop (ca (ckL K pal clr (o::q)) b)=flC ((ckL K pal clr (o::q)).drop b):=by rw[i8,z,List.drop_left]
  have:=DH l3 l4 (l:=aj data) (by rw[aF];exact O) (dG data) (by rw[<-a4.eq,aF];omega) (by rw[<-a4.eq];exact dG ff) b t _ _ rfl rfl _ rfl
  rw[o5,o6];rw[<-z,aF] at this;exact this
 obtain⟨d,l5⟩:∃d,d=ckL K pal clr (o::q):=⟨_,rfl⟩;rw[<-l5] at a4 g5 i7;clear l2 l3 l4 l5;have g6:ZH0 _:=a4;have g7:ZH0 (∀y,Kept w y->y.cell? ⟨x,14,none⟩=some (.string ff)):=λy b=>(b.cell (p:=⟨x,14,none⟩) (B _ _ i6)).trans i6
 have o7:ZH0 _:=(gJ h.grid);have o8:=h.im.w1;have o9:ZH0 _:=h;have s8:d.length<=100000000:=by
  have d8:=a4.last;rcases yC (C:=d) d.length with T|T
  .omega
  .omega
 have p0:ZH0 (∀(e:World) (j:Nat),Kept w e->j<d.length->Calls prog 30 #[.pointer (some ⟨x,0,none⟩),.int .i64 (ca d j)] e λg S=>g=.returned (.int .i64 ((d.getD j (0,[])).2.length:Int))/\S=e):=λe j a5 g8=>by
  obtain⟨c1,c2,a8,c3,p1,i9,j0,j1,p2⟩:=a4.num g8
  have:=kR x (ca d j) ff e (g7.o e a5) (by have:=a4.size g8;omega) O c1 c2 a8 c3 p1 i9 j0 j1
  rw[p2] at this;exact this
 have p3:ZH0 (∀(e:World) (u:Int) (A:Nat),-9223372036854775808<=u->u<9223372036854775808->0<A->A<1000000000->Calls prog 17 #[.int .i64 u,.int .i64 A] e λg S=>(∃b:Nat,b<A/\g=.returned (.int .i64 b))/\S=e):=λe u A c8 l6 s9 t0=>dO u A e c8 l6 O O
 clear h i5 i6 a4;go_enter func16,ntmps16;go_wp2_with fail;go_loopg [7,8,9] d.length (λp4 l7 l8 p5 e=>∃j:Nat,p4=d.length-j/\j<=d.length/\p5=.int .i64 (ca d j)/\kX w e l7 l8 (rA d j) (pS d j))
 case atStart=>exact⟨0,O,O,rfl,(kX.start w)⟩
 case round=>
  obtain⟨j,g9,g8,rfl,j2⟩:=hrel;replace g9:ZH0 _:=g9;have b3:ZH0 _:=j2;have l9:=g7.o wr j2.kept;clear j2;by_cases d9:j<d.length
  .have p6:=g6.o.size d9
   obtain⟨u,c4⟩:∃u,u=ca d j:=⟨_,rfl⟩;rw[<-c4] at p6 ⊢;have t1:(u:Int)+8<=(ff.size:Int):=O;have j3:=oe d j;have j4:=me d j;replace j3:ZH0 _:=j3;replace j4:ZH0 _:=j4;replace c4:ZH0 _:=c4;go_wp2_with (at_builtin;refine Ep _ rfl _ _ rfl w.heap.size _ (rA d j) rfl (b3.o.oi.alloc _) wr.heap.size 1 (u:Int) rfl Xi (by rw[j3.o];omega) (by simp;have:=b3.o.kept.size;omega) ?_)
   intro l7 a9 m0 m1 m2;have e0:ZH0 _:=(b3.o.on (Xw (Xs _ _) (E _) _)).growI m0 m1 (λb t=>by have:=m2 b t;simpa using this);have l9:=g7.o a9 e0.o.kept;clear m0 m1 m2 b3;obtain⟨c9,j5⟩:∃c9,c9=u+4:=⟨_,rfl⟩;obtain⟨d0,d1⟩:∃d0,d0=u+8:=⟨_,rfl⟩;have p7:(u:Int)+4=(c9:Int):=O;have t2:(u:Int)+8=(d0:Int):=O;have i9:(0:Int)<=(c9:Int):=O;have j0:(c9:Int)<=(d0:Int):=O;have j1:(d0:Int)<=(ff.size:Int):=O;obtain⟨h0,h1⟩:∃h0,h0=decide ((d.getD j (0,[])).1=ar):=⟨_,rfl⟩;have p8:((ff.extract c9 d0).toList==[73,68,65,84])=h0:=by rw[h1,j5,d1,c4.o];exact g6.o.typL d9
   replace j5:ZH0 _:=j5;replace d1:ZH0 _:=d1;replace h1:ZH0 _:=h1;go_wp2_with (at_builtin;refine Er _ rfl _ _ rfl w.heap.size _ (pS d j) rfl (bZ e0.o.ob (Xw (Xs _ _) (E _) _)) a9.heap.size 1 h0 rfl Xi (by rw[j4.o];omega) (by simp;have:=e0.o.kept.size;omega) ?_)
   intro l8 b4 m3 m4 m5;have m6:ZH0 _:=(e0.o.on (Xw (Xs _ _) (E _) _)).growB m3 m4 (λb t=>by have:=m5 b t;simpa using this);clear m3 m4 m5 e0 l9 p8 p7 i9 j0 j1;have p9:ZH0 (Calls prog 30 #[.pointer (some ⟨x,0,none⟩),.int .i64 u] b4 λg S=>g=.returned (.int .i64 ((d.getD j (0,[])).2.length:Int))/\S=b4):=by
    rw[c4.o];exact p0.o b4 j m6.o.kept d9
   have m7:ZH0 (ca d (j+1)=u+12+(d.getD j (0,[])).2.length):=by rw[c4.o];exact kL d j d9
   generalize (d.getD j (0,[])).2.length=A at *;obtain⟨e1,j6⟩:∃e1,e1=u+12:=⟨_,rfl⟩;have t3:(u:Int)+12=(e1:Int):=O;obtain⟨e2,j7⟩:∃e2,e2=e1+A:=⟨_,rfl⟩;have t4:(e1:Int)+(A:Int)=(e2:Int):=O;have q0:ZH0 (ca d (j+1)=e2):=by show ca d (j+1)=e2;rw[m7.o,j7,j6]
   replace j6:ZH0 _:=j6;replace j7:ZH0 _:=j7;clear m7;go_wp2_with fail;refine p9.o.mono ?_;rintro g a6 ⟨rfl,e3⟩;subst a6;go_wp2;go_roundg (d.length-(j+1))
   case measure=>rw[g9.o];omega
   case rel=>exact⟨j+1,rfl,O,by rw[q0.o],by rw[zu,yd,<-c4.o,<-h1.o];exact m6.o⟩
  .have q1:j=d.length:=O
   subst q1;have j8:=g6.o.last;rw[j8];have t5:¬((ff.size:Int)+8<=(ff.size:Int)):=O;obtain⟨m8,t6,m9,j9⟩:=b3.o.oi.addr0 (by rw[oe];exact g5);obtain⟨h2,t7,d1,k0⟩:=b3.o.ob.addr (by rw[me];exact g5);rw[oe] at m9 j9;rw[me] at d1 k0;have e4:ZH0 (Kept w wr):=b3.o.kept;clear b3;subst m9 d1;have n0:ZH0 (∀e b,Kept wr e->b<d.length->e.cell? ⟨m8,b,none⟩=some (.int .i64 (ca d b))):=λe b a5 t=>by
    have:=j9 b t
    rw[B3 d _ b t] at this;exact(a5.cell (p:=⟨m8,b,none⟩) (B _ _ this)).trans this
   have e5:ZH0 (∀e b,Kept wr e->b<d.length->e.cell? ⟨h2,b,none⟩=some (.bool (decide ((d.getD b (0,[])).1=ar)))):=λe b a5 t=>by
    have:=k0 b t
    rw[zG d _ b t] at this;exact(a5.cell (p:=⟨h2,b,none⟩) (B _ _ this)).trans this
   clear j9 k0 g9 g8 d9;have n1:ZH0 (∀(e:World) (F:Nat),F<4294967296->Calls prog 32 #[.int .i64 F] e λg S=>Jf (beN F) g/\Kept e S):=λe F I=>H6 F e I
   generalize k1:d.length=A at *;replace k1:ZH0 _:=k1;replace j8:ZH0 _:=j8;go_wp2_with fail;refine(p3.o wr a A o3 o4 g5 O).mono ?_;rintro g a9 ⟨⟨b,t,rfl⟩,q2⟩;subst a9;go_wp2_with fail;have e6:aj ((⟨#[110,111,78,101]⟩:ByteArray)++data)=beN bJ++aj data:=by rw[iz];rfl
   have q3:((⟨#[110,111,78,101]⟩:ByteArray)++data).size<=1004:=by rw[Y5];show 4+data.size<=1004;omega
   generalize (⟨#[110,111,78,101]⟩:ByteArray)++data=d2 at *;refine((λe b0 q4=>HU b0 e q4) wr d2 O).mono ?_;rintro g a9 ⟨rfl,q2⟩;subst a9;obtain⟨h3,d3⟩:∃h3,h3=aC (aA ag (aj d2)):=⟨_,rfl⟩;have q5:h3<4294967296:=by rw[d3];exact fs _ (cX _ _ aQ (dG d2))
   rw[<-d3];replace d3:ZH0 _:=d3;replace e6:ZH0 _:=e6;go_wp2_with fail;refine(n1.o wr data.size O).mono ?_;rintro g a9 ⟨⟨h4,rfl,e7⟩,h5⟩;have q6:h4.size=4:=by rw[<-aF,e7];rfl
   replace e7:ZH0 _:=e7;replace h5:ZH0 (Kept wr a9):=h5;go_wp2_with fail;refine(n1.o a9 h3 q5).mono ?_;rintro g b4 ⟨⟨h6,rfl,e8⟩,n2⟩;have q7:h6.size=4:=by rw[<-aF,e8];rfl
   have h7:ZH0 (Kept wr b4):=h5.o.trans n2;replace e8:ZH0 _:=e8;clear h5 n2;have a8:=g7.o b4 (e4.o.trans h7.o);have q8:=n0.o b4 b h7.o t;have t8:ca d b<=ff.size:=by
    have:=g6.o.size (i:=b) (by rw[k1.o];exact t);omega
   generalize h8:ca d b=M at *;have t9:(0:Int)<=(b:Int):=O;have u0:(b:Int)<(A:Int):=O;have u1:(0:Int)<=(M:Int):=O;have u2:(M:Int)<=(ff.size:Int):=O;replace h8:ZH0 _:=h8;go_wp2_with fail;go_quiet (fail);have k2:aj (ff.extract 0 M++h4++d2++h6++ff.extract M ff.size)=(aj ff).take M++(chN bJ (aj data)++(aj ff).drop M):=by
    rw[iz,iz,iz,iz,e7.o,e6.o,e8.o,d3.o,e6.o,cM,cM,List.drop_zero,Nat.sub_zero,X6 (l:=(aj ff).drop M) (by rw[Yn,aF];omega)];unfold chN;rw[aF];simp only[XY]
   have u3:(ff.extract 0 M++h4++d2++h6++ff.extract M ff.size).size<=1000000000:=by
    rw[Y5,Y5,Y5,Y5,ByteArray.size_extract,ByteArray.size_extract];omega
   generalize ff.extract 0 M++h4++d2++h6++ff.extract M ff.size=b0 at *;have n3:=i7.o b t;rw[h8.o,<-k2] at n3;generalize e3:b4.drewN _=a6;have h9:ZH0 (Kept wr a6):=by rw[<-e3];exact h7.o.drewN _
   replace k2:ZH0 _:=k2;clear e3 h7 a8 q8 i7 e7 e8 d3 e6 q6 q7 q3;have e3:0<a6.heap.size:=by have c8:=e4.o.size;have l6:=h9.o.size;omega
   have k3:ZH0 _:=o7.o.kept (e4.o.trans h9.o);have n4:=U (jL (Kept.refl a6) e3);rcases n3 with⟨u4,n5,n6,q9⟩|⟨n7,r0⟩
   .obtain⟨r1,d8,e9,i8,u5,u6,f0,d4⟩:=q9
    have k4:ZH0 (∀y r,DI a6 y r dc0->Calls prog 22 #[.pointer (some ⟨r,0,none⟩),.string b0] y λg f1=>g=.returned (.tuple #[.int .i64 d8,.int .i64 e9])/\DI a6 f1 r ⟨r1,e9,d8,e9⟩):=λy r f2=>by
     have:=fK b0 f2 f0 O k3.o
     rw[d4] at this;exact this
    obtain⟨a7,c5⟩:∃T,T=b-1:=⟨_,rfl⟩;have r2:(b:Int)-1=(a7:Int):=O;have k5:(0:Int)<(b:Int):=O;have r3:(0:Int)<=(a7:Int):=O;have r4:(a7:Int)<(A:Int):=O;have u7:(M:Int)+7<=(e9:Int):=O;have u8:(e9:Int)<(M:Int)+(data.size:Int)+20:=O;have r5:ZH0 (∀e,Kept wr e->e.cell? ⟨h2,b,none⟩=some (.bool true)/\e.cell? ⟨h2,a7,none⟩=some (.bool true)):=λe a5=>by
     have n8:=e5.o e b a5 t;have k6:=e5.o e a7 a5 O;rw[c5] at k6 ⊢;rw[n5,decide_eq_true rfl] at n8;rw[n6,decide_eq_true rfl] at k6;exact⟨n8,k6⟩
    replace c5:ZH0 _:=c5;clear d4 f0 n5 n6;go_wp2_with fail;refine n4.o.mono ?_;rintro g k7 ⟨r,rfl,f3⟩;have f4:ZH0 _:=f3;clear f3;go_wp2_with fail;refine(k4.o k7 r f4.o).mono ?_;rintro g N ⟨rfl,d5⟩;have b5:ZH0 (Kept wr N):=h9.o.trans d5.kept;clear d5 f4;have c6:=n0.o N b b5.o t;rw[h8.o] at c6;obtain⟨Q,b1⟩:=r5.o N b5.o;have k8:=e4.o.trans b5.o;replace k8:ZH0 _:=k8;go_wp2_with fail
    all_goals(go_ret;exact⟨rfl,k8.o⟩)
   .obtain⟨b2,f0,d4,k9⟩:=r0
    have n9:=aF b0;rw[n9] at d4;have k4:ZH0 (∀y r,DI a6 y r dc0->Calls prog 22 #[.pointer (some ⟨r,0,none⟩),.string b0] y λg f1=>g=.returned (.tuple #[.int .i64 0,.int .i64 0])/\DI a6 f1 r ⟨b2,b0.size,0,0⟩):=λy r f2=>by
     have:=fK b0 f2 f0 O k3.o
     rw[d4] at this;exact this
    have i0:ZH0 (∀y r,DI a6 y r ⟨b2,b0.size,0,0⟩->Calls prog 24 #[.pointer (some ⟨r,0,none⟩)] y λd8 f1=>tU y f H K D L (f*H) (4*(f*H)) b2 d8 f1):=λy r f2=>uA f2 k9 o8 k3.o.grd
    have i1:ZH0 (∀e i2 i3 i4,Kept w e->bO e 0 i2 (f*H) (knP b2.rw ⟨f,H,D,K,L⟩)->bO e 0 i3 (4*(f*H)) (λc7=>pxP b2.rw b2.tl ⟨f,H,D,K,L⟩ (c7/4%f) (c7/4/f) (c7%4))->bO e 0 i4 (4*(f*H)) (λc7=>shP b2.rw b2.tl ⟨f,H,D,K,L⟩ (c7/4%f) (c7/4/f) (c7%4))->Calls prog 25 #[.pointer (some ⟨x,0,none⟩),.agg #[.int .i64 0,.int .i64 0,.bool true,.int .i64 f,.int .i64 H,.int .i64 K,.int .i64 D,.int .i64 L,.slice (some ⟨i2,0,none⟩) (f*H) (f*H),.slice (some ⟨i3,0,none⟩) (4*(f*H)) (4*(f*H)),.slice (some ⟨i4,0,none⟩) (4*(f*H)) (4*(f*H))]] e λg S=>g=.returned (.bool true)/\Kept e S):=λe i2 i3 i4 a5 r6 r7 r8=>jc x f H K D L P V Z 0 i2 i3 i4 0 pp qp xp fp kp cp pc qc xc fc kc cc pal clr pix fl kl cl b2 e (o9.o.kept a5) k9 r6 r7 r8
    obtain⟨G,o0⟩:∃G,G=f*H:=⟨_,rfl⟩;obtain⟨k,o1⟩:∃k,k=4*(f*H):=⟨_,rfl⟩;rw[<-o1,<-o0] at i0 i1;clear d4 f0 k9 o0 o1 n9;have d6:(b=0/\True)\/(0<b/\¬((d.getD b (0,[])).1=ar))\/(0<b/\(d.getD b (0,[])).1=ar/\¬((d.getD (b-1) (0,[])).1=ar)):=by
     by_cases o2:b=0
     .exact Or.inl ⟨o2,trivial⟩
     .by_cases c8:(d.getD b (0,[])).1=ar
      .rcases n7 with T|T|T
       .exact absurd T o2
       .exact absurd c8 T
       .exact R (R ⟨O,c8,T⟩)
      .exact R (Or.inl ⟨O,c8⟩)
    replace d6:ZH0 _:=d6;clear n7;go_wp2_with fail;refine n4.o.mono ?_;rintro g k7 ⟨r,rfl,f3⟩;have f4:ZH0 _:=f3;clear f3;go_wp2_with fail;refine(k4.o k7 r f4.o).mono ?_;rintro g N ⟨rfl,d5⟩;have b5:ZH0 (Kept wr N):=h9.o.trans d5.kept;have d7:ZH0 _:=d5;clear d5 f4;have l0:ZH0 (Kept w N):=e4.o.trans b5.o;rcases d6.o with⟨f5,_⟩|⟨f5,f6⟩|⟨f5,f6,l1⟩
    .have k5:¬((0:Int)<(b:Int)):=O
     clear d6 f5;go_upto_region 21 with fail
     go_wp2_with fail;refine(i0.o N r d7.o).mono ?_;rintro g n ⟨W,X,Y,rfl,b6,b7⟩;have a0:ZH0 _:=b6;have b8:ZH0 (Kept w n):=l0.o.trans b7;clear b6 b7 d7;obtain⟨m,s⟩:∃m:List Value,m=[.int .i64 0,.int .i64 0,.bool true,.int .i64 f,.int .i64 H,.int .i64 K,.int .i64 D,.int .i64 L,.slice (some ⟨W,0,none⟩) G G,.slice (some ⟨X,0,none⟩) k k,.slice (some ⟨Y,0,none⟩) k k]:=⟨_,rfl⟩;have a1:m.length=11:=by rw[s];rfl
     have z:∀F∈m,F.oneCell'=true:=by
      intro F I;rw[s] at I;simp only[Y4,List.not_mem_nil,or_false] at I;rcases I with rfl|rfl|rfl|rfl|rfl|rfl|rfl|rfl|rfl|rfl|rfl<;>rfl
     obtain⟨b9,c,a2⟩:=cZ n m a1 z;unfold snN at b9 c a2;have v:ZH0 (Kept n ((n.alloc (Obj.cells #[.int .i64 0,.int .i64 0,.bool false,.int .i64 0,.int .i64 0,.int .i64 0,.int .i64 0,.int .i64 0,.slice none 0 0,.slice none 0 0,.slice none 0 0] 50)).setCells n.heap.size 0 m)):=a2;have a3:(Value.agg #[.int .i64 0,.int .i64 0,.bool true,.int .i64 f,.int .i64 H,.int .i64 K,.int .i64 D,.int .i64 L,.slice (some ⟨W,0,none⟩) G G,.slice (some ⟨X,0,none⟩) k k,.slice (some ⟨Y,0,none⟩) k k])=.agg m.toArray:=by rw[s]
     rw[a3];replace a3:ZH0 _:=a3;replace s:ZH0 _:=s;replace a1:ZH0 _:=a1;replace z:ZH0 _:=z;replace c:ZH0 _:=c;clear a2;go_upto_region 22 with fail
     generalize ((n.alloc (Obj.cells #[.int .i64 0,.int .i64 0,.bool false,.int .i64 0,.int .i64 0,.int .i64 0,.int .i64 0,.int .i64 0,.slice none 0 0,.slice none 0 0,.slice none 0 0] 50)).setCells n.heap.size 0 m)=f7 at *;clear b9;replace c:=c.o;rw[s.o] at c;have c1:=c 0 _ rfl;have c2:=c 1 _ rfl;have a8:=c 2 _ rfl;have c3:=c 3 _ rfl;have f8:=c 4 _ rfl;have c6:=c 5 _ rfl;have Q:=c 6 _ rfl;have b1:=c 7 _ rfl;have f9:=c 8 _ rfl;have g0:=c 9 _ rfl;have g1:=c 10 _ rfl;clear c;have g2:ZH0 _:=i1.o f7 W X Y (b8.o.trans v.o) (a0.o.1.kept v.o) (a0.o.2.1.kept v.o) (a0.o.2.2.kept v.o);go_wp2_with fail;refine X9 g2.o ?_;rintro g g3 ⟨rfl,c0⟩;have g4:ZH0 (Kept w g3):=(b8.o.trans v.o).trans c0;clear c0 c1 c2 a8 c3 f8 c6 Q b1 f9 g0 g1;go_wp2;go_ret;exact⟨rfl,g4.o⟩
    .have k5:(0:Int)<(b:Int):=O
     have Q:=e5.o N b b5.o t;rw[J f6] at Q;clear d6 f5 f6;go_upto_region 21 with fail
     clear Q;go_wp2_with fail;refine(i0.o N r d7.o).mono ?_;rintro g n ⟨W,X,Y,rfl,b6,b7⟩;have a0:ZH0 _:=b6;have b8:ZH0 (Kept w n):=l0.o.trans b7;clear b6 b7 d7;obtain⟨m,s⟩:∃m:List Value,m=[.int .i64 0,.int .i64 0,.bool true,.int .i64 f,.int .i64 H,.int .i64 K,.int .i64 D,.int .i64 L,.slice (some ⟨W,0,none⟩) G G,.slice (some ⟨X,0,none⟩) k k,.slice (some ⟨Y,0,none⟩) k k]:=⟨_,rfl⟩;have a1:m.length=11:=by rw[s];rfl
     have z:∀F∈m,F.oneCell'=true:=by
      intro F I;rw[s] at I;simp only[Y4,List.not_mem_nil,or_false] at I;rcases I with rfl|rfl|rfl|rfl|rfl|rfl|rfl|rfl|rfl|rfl|rfl<;>rfl
     obtain⟨b9,c,a2⟩:=cZ n m a1 z;unfold snN at b9 c a2;have v:ZH0 (Kept n ((n.alloc (Obj.cells #[.int .i64 0,.int .i64 0,.bool false,.int .i64 0,.int .i64 0,.int .i64 0,.int .i64 0,.int .i64 0,.slice none 0 0,.slice none 0 0,.slice none 0 0] 50)).setCells n.heap.size 0 m)):=a2;have a3:(Value.agg #[.int .i64 0,.int .i64 0,.bool true,.int .i64 f,.int .i64 H,.int .i64 K,.int .i64 D,.int .i64 L,.slice (some ⟨W,0,none⟩) G G,.slice (some ⟨X,0,none⟩) k k,.slice (some ⟨Y,0,none⟩) k k])=.agg m.toArray:=by rw[s]
     rw[a3];replace a3:ZH0 _:=a3;replace s:ZH0 _:=s;replace a1:ZH0 _:=a1;replace z:ZH0 _:=z;replace c:ZH0 _:=c;clear a2;go_upto_region 22 with fail
     generalize ((n.alloc (Obj.cells #[.int .i64 0,.int .i64 0,.bool false,.int .i64 0,.int .i64 0,.int .i64 0,.int .i64 0,.int .i64 0,.slice none 0 0,.slice none 0 0,.slice none 0 0] 50)).setCells n.heap.size 0 m)=f7 at *;clear b9;replace c:=c.o;rw[s.o] at c;have c1:=c 0 _ rfl;have c2:=c 1 _ rfl;have a8:=c 2 _ rfl;have c3:=c 3 _ rfl;have f8:=c 4 _ rfl;have c6:=c 5 _ rfl;have Q:=c 6 _ rfl;have b1:=c 7 _ rfl;have f9:=c 8 _ rfl;have g0:=c 9 _ rfl;have g1:=c 10 _ rfl;clear c;have g2:ZH0 _:=i1.o f7 W X Y (b8.o.trans v.o) (a0.o.1.kept v.o) (a0.o.2.1.kept v.o) (a0.o.2.2.kept v.o);go_wp2_with fail;refine X9 g2.o ?_;rintro g g3 ⟨rfl,c0⟩;have g4:ZH0 (Kept w g3):=(b8.o.trans v.o).trans c0;clear c0 c1 c2 a8 c3 f8 c6 Q b1 f9 g0 g1;go_wp2;go_ret;exact⟨rfl,g4.o⟩
    .have k5:(0:Int)<(b:Int):=O
     obtain⟨a7,c5⟩:∃T,T=b-1:=⟨_,rfl⟩;have r2:(b:Int)-1=(a7:Int):=O;have r3:(0:Int)<=(a7:Int):=O;have r4:(a7:Int)<(A:Int):=O;have Q:=e5.o N b b5.o t;rw[decide_eq_true f6] at Q;have b1:=e5.o N a7 b5.o O;rw[<-c5] at l1;rw[J l1] at b1;replace c5:ZH0 _:=c5;clear d6 f5 f6 l1;go_upto_region 21 with fail
     clear Q b1;go_wp2_with fail;refine(i0.o N r d7.o).mono ?_;rintro g n ⟨W,X,Y,rfl,b6,b7⟩;have a0:ZH0 _:=b6;have b8:ZH0 (Kept w n):=l0.o.trans b7;clear b6 b7 d7;obtain⟨m,s⟩:∃m:List Value,m=[.int .i64 0,.int .i64 0,.bool true,.int .i64 f,.int .i64 H,.int .i64 K,.int .i64 D,.int .i64 L,.slice (some ⟨W,0,none⟩) G G,.slice (some ⟨X,0,none⟩) k k,.slice (some ⟨Y,0,none⟩) k k]:=⟨_,rfl⟩;have a1:m.length=11:=by rw[s];rfl
     have z:∀F∈m,F.oneCell'=true:=by
      intro F I;rw[s] at I;simp only[Y4,List.not_mem_nil,or_false] at I;rcases I with rfl|rfl|rfl|rfl|rfl|rfl|rfl|rfl|rfl|rfl|rfl<;>rfl
     obtain⟨b9,c,a2⟩:=cZ n m a1 z;unfold snN at b9 c a2;have v:ZH0 (Kept n ((n.alloc (Obj.cells #[.int .i64 0,.int .i64 0,.bool false,.int .i64 0,.int .i64 0,.int .i64 0,.int .i64 0,.int .i64 0,.slice none 0 0,.slice none 0 0,.slice none 0 0] 50)).setCells n.heap.size 0 m)):=a2;have a3:(Value.agg #[.int .i64 0,.int .i64 0,.bool true,.int .i64 f,.int .i64 H,.int .i64 K,.int .i64 D,.int .i64 L,.slice (some ⟨W,0,none⟩) G G,.slice (some ⟨X,0,none⟩) k k,.slice (some ⟨Y,0,none⟩) k k])=.agg m.toArray:=by rw[s]
     rw[a3];replace a3:ZH0 _:=a3;replace s:ZH0 _:=s;replace a1:ZH0 _:=a1;replace z:ZH0 _:=z;replace c:ZH0 _:=c;clear a2;go_upto_region 22 with fail
     generalize ((n.alloc (Obj.cells #[.int .i64 0,.int .i64 0,.bool false,.int .i64 0,.int .i64 0,.int .i64 0,.int .i64 0,.int .i64 0,.slice none 0 0,.slice none 0 0,.slice none 0 0] 50)).setCells n.heap.size 0 m)=f7 at *;clear b9;replace c:=c.o;rw[s.o] at c;have c1:=c 0 _ rfl;have c2:=c 1 _ rfl;have a8:=c 2 _ rfl;have c3:=c 3 _ rfl;have f8:=c 4 _ rfl;have c6:=c 5 _ rfl;have Q:=c 6 _ rfl;have b1:=c 7 _ rfl;have f9:=c 8 _ rfl;have g0:=c 9 _ rfl;have g1:=c 10 _ rfl;clear c;have g2:ZH0 _:=i1.o f7 W X Y (b8.o.trans v.o) (a0.o.1.kept v.o) (a0.o.2.1.kept v.o) (a0.o.2.2.kept v.o);go_wp2_with fail;refine X9 g2.o ?_;rintro g g3 ⟨rfl,c0⟩;have g4:ZH0 (Kept w g3):=(b8.o.trans v.o).trans c0;clear c0 c1 c2 a8 c3 f8 c6 Q b1 f9 g0 g1;go_wp2;go_ret;exact⟨rfl,g4.o⟩
theorem yH a b i s t u v q w(z : -9223372036854775808<=a)(A:a<9223372036854775808)(B : -9223372036854775808<=b)(C:b<9223372036854775808)(k:s.size<9223372036854775808)(l:t.size<9223372036854775808)(m:u.size<9223372036854775808)(n:v.size<9223372036854775808)(D : -9223372036854775808<=i)(E:i<9223372036854775808)(F:q.size<9223372036854775808)(o:aV w):Calls prog 8 #[.int .i64 a,.string s,.string t,.int .i64 b,.string u,.string v,.int .i64 i,.string q] w λc f=>c=.returned (.bool true)/\Kept w f:=by
 have G:ZH0 (∀d:World,Calls prog 10 #[.string s,.string t,.string u,.string v] d λc f=>c=.returned (.bool (decide (65536<s.size\/65536<t.size\/65536<u.size\/65536<v.size)))/\f=d):=λd=>fY s t u v d k l m n
 have H:=U (fL a b s t u v w z A B C k l m n o);generalize decide (65536<s.size\/65536<t.size\/65536<u.size\/65536<v.size)=b7 at *;clear o;go_enter func8,ntmps8;go_wp2_with fail;refine H.o.mono ?_;rintro c g ⟨I|⟨_,J,K,L,M,N,O,P,Q,Z,R,S,T,V,W,X,Y,a0,a1,a2,a3,a4,a5,a6,a7,a8,a9,b0,b1,rfl,b2,b8,p,r,x⟩,e⟩
 .obtain⟨rfl,rfl⟩:=I
  have h:ZH0 (Kept w g):=e;clear e;go_wp2_with fail;refine(G.o _).mono ?_;rintro c j ⟨rfl,b9⟩;subst j;go_wp2;go_ret;exact⟨rfl,h.o⟩
 .have h:ZH0 (Kept w g):=e
  have b3:ZH0 _:=p;have b4:=U r;have b5:ZH0 _:=x;clear e p r x;go_wp2_with fail;refine(Dx J K L M N O P Q Z i q R S T V W X Y a0 a1 a2 a3 a4 a5 a6 a7 a8 a9 b0 b1 g b3.o b2 b4.o b5.o D E F).mono ?_;rintro c j ⟨rfl,y⟩;have b6:ZH0 (Kept w j):=h.o.trans y;clear y;go_wp2;go_ret;exact⟨rfl,b6.o⟩
