import Derived.Test.YtbedkdnphobmlaaGreatDoorProg
import Derived.Test.YtbedkdnphobmlaaGreatDoorUaa00
import Derived.Test.YtbedkdnphobmlaaGreatDoorUaa01
import Derived.Test.YtbedkdnphobmlaaGreatDoorUaa02
import Derived.Test.YtbedkdnphobmlaaGreatDoorUaa03
import Derived.Test.YtbedkdnphobmlaaGreatDoorUaa04
import Derived.Test.YtbedkdnphobmlaaGreatDoorUaa05
import Derived.Test.YtbedkdnphobmlaaGreatDoorUaa07
import Derived.Test.YtbedkdnphobmlaaGreatDoorUaa08
import Derived.Test.YtbedkdnphobmlaaGreatDoorUaa09
import Derived.Test.YtbedkdnphobmlaaGreatDoorUaa10
import Derived.Test.YtbedkdnphobmlaaGreatDoorUaa11
import Derived.Test.YtbedkdnphobmlaaGreatDoorUaa12
import Derived.Test.YtbedkdnphobmlaaGreatDoorUaa15
import Derived.Test.YtbedkdnphobmlaaGreatDoorUaa16
import Derived.Test.YtbedkdnphobmlaaGreatDoorUaa17
import Derived.Test.YtbedkdnphobmlaaGreatDoorUaa18
import Derived.Test.YtbedkdnphobmlaaGreatDoorUaa19
import Derived.Test.YtbedkdnphobmlaaGreatDoorUaa21
import Derived.Test.YtbedkdnphobmlaaGreatDoorUaa23
import Derived.Test.YtbedkdnphobmlaaGreatDoorUaa25
import Derived.Test.YtbedkdnphobmlaaGreatDoorUaa26
set_option linter.all false
set_option maxRecDepth 100000
set_option maxHeartbeats 0
namespace Px
def gr(M:Nat)(ls:List (Nat×Nat))(s:Nat):Nat:=
 if ls.length=1 then(if s∈ls.map (λx=>x.1) then 1 else 0) else fP ls (cts (ls.map (λx=>x.2)) (2*ls.length-2) (M-1)) s
theorem ID{a b d}(h:a*2^(d+1)<=b)c(e:c<=2*a):c*2^d<=b:=by
 rw[Ya] at h
 have:c*2^d<=2*a*2^d:=XS _ e
 rw[Y3,Zk 2 (a*2^d),Y3] at this;omega
theorem KQ{a b d}(h:a*2^d<=b):a<=b:=Xz (Nat.le_mul_of_pos_right _ (Nat.two_pow_pos _)) h
end Px
namespace Go.Proofs.YtbedkdnphobmlaaGreatDoor
open Go.RowKit Px Tryz
def Byt(W:World)(g n:Nat)(f:Nat->Nat):Prop:=∀s,s<n->W.cell? ⟨g,s,none⟩=some (.int .u8 (f s))
theorem Byt.kept{w W g n f}(h:Byt w g n f)(k:Kept w W):Byt W g n f:=λa b=>(k.cell (p:=⟨g,a,none⟩) (B _ _ (h a b))).trans (h a b)
theorem Byt.set{W g n f h}(b:Byt W g n f){i}(d:i<n){z}(e:z=(h i:Int))(j:∀a,a≠i->h a=f a):Byt (W.setCell ⟨g,i,none⟩ (.int .u8 z)) g n h:=λa k=>by
 by_cases c:i=a
 .subst c;rw[af (b i d),e]
 .rw[aa _ _ _ _ _ c,b a k,j a (λl=>c l.symm)]
def Lc(w:World)(f:Nat->Int)(n M:Nat)(r:Ending)(w':World):Prop:=∃g ls,r=.returned (.slice (some ⟨g,0,none⟩) n n)/\w.heap.size<=g/\Srt f n ls/\ls.length<=n/\Byt w' g n (gr M ls)
theorem oS ov l(M B:Nat)w(b8:LAt w .i64 ov l)(b9:0<l.length)(h9:l.length<=1024)(l7:1<=M)(e2:M<=15)(i0:B<=35184372088832)(e3:∀d∈l,d<=(B:Int)):Calls prog 162 #[ov,.int .i64 M] w λD H=>Lc w (λs=>l.getD s 0) l.length M D H/\Kept w H:=by
 obtain⟨c0,c1,rfl⟩:=b8.form;have e4:ZH0 (∀e,Kept w e->LAt e .i64 (.slice c0 l.length c1) l):=λe a=>b8.kept a
 have e5:ZH0 (∀s,l.getD s 0<=(B:Int)):=λs=>by
  by_cases j:s<l.length
  .exact e3 _ (az j)
  .rw[G,XX O];simp
 obtain⟨q,a8⟩:∃q:Nat->Int,q=λs=>l.getD s 0:=⟨_,rfl⟩
 have e6:ZH0 (∀s,q s<=(B:Int)):=λs=>by rw[a8];exact e5.o s
 have e7:ZH0 (∀e,LAt e .i64 (.slice c0 l.length c1) l->Calls prog 175 #[.slice c0 l.length c1] e λD H=>Jg e q l.length D H/\Kept e H):=λe i1=>by rw[a8];exact zV _ l e i1 h9
 rw[<-a8];clear b8 e3 a8 e5;obtain⟨e8,P,e9,f0,f1⟩:=info_parts' ib;go_enter func162,ntmps162;go_wp2_with (refine wpList_make_full _ rfl _ _ 56 rfl w.heap.size 5 e8 (.int .u8 0) 1 underlying56 P e9 f0 .i64 .i64 (l.length:Int) (l.length:Int) l.length rfl rfl rfl rfl (by rw[f1];omega) Xn (E _) ?_)
 intro Q c2 S;have c3:ZH0 (Kept w Q):=⟨S.os,S.tape,S.output,S.size,λa T=>S.block a T Xi⟩;have f2:ZH0 (∀a,Q.frozen? ⟨w.heap.size,a,none⟩=false):=by
  rcases c2.2 with⟨t,b9⟩|⟨W,l8,l9,t,m0,f3,D⟩
  .cases t
  .injection t with t _ _
   injection t with t
   injection t with t _ _
   rw[<-t] at f3;exact λa=>Joins.unfrozen_of_block f3 a
 have c4:ZH0 (Byt Q w.heap.size l.length (λ_=>0)):=by
  intro u X
  have:=c2.cells rfl u _ (Hv l.length u X)
  rw[Addr.add_mid,XD] at this;exact this
 have f4:w.heap.size<Q.heap.size:=World.block_lt_of_cell? _ _ (c4.o 0 b9);clear c2 S P e9 f0 f1;go_wp2_with fail;refine(e7.o Q (e4.o Q c3.o)).mono ?_;rintro D y ⟨⟨i2,b,rfl,Y,a9,c5⟩,a0⟩;have a1:ZH0 (∀e,Fr1 w.heap.size y e->LfX e i2 b):=λe q=>Y.at.frS q (λW m o=>by have:=(Y.lt W m).1;omega)
 obtain⟨f5,f6,rfl⟩:=Y.slice;obtain⟨g,b0⟩:∃g,g=b.length:=⟨_,rfl⟩;rw[<-b0] at Y c5 a1 ⊢;have c6:ZH0 _:=a9;have v:ZH0 _:=b0;have f7:ZH0 (∀c,c<g->∃d,b[c]? = some d/\d.1<l.length):=λc P=>by
  have b1:c<b.length:=by rw[<-b0];exact P
  refine⟨b[c],Xt b1,?_⟩;exact((a9.mem b[c].1 b[c].2).1 (YU b1)).1
 have i3:ZH0 (∀d∈b,d.2<=B):=λd n=>by
  have m1:=(a9.mem d.1 d.2).1 n;have b2:=e6.o d.1;omega
 have c7:ZH0 (Kept w y):=c3.o.trans a0;have b3:ZH0 (Byt y w.heap.size l.length (λ_=>0)):=c4.o.kept a0;have c8:ZH0 (∀a,y.frozen? ⟨w.heap.size,a,none⟩=false):=λa=>(a0.frozen (p:=⟨w.heap.size,a,none⟩) f4).trans (f2.o a)
 have i4:=Xq f4 a0.size;clear Y a0 c3 f2 c4 e4 a9 b0 e6 e7;by_cases f8:g=1
 .subst f8
  obtain⟨d,n,J⟩:=f7.o 0 O;obtain⟨W,rfl,b4,c9⟩:=(a1.o y (Fr1.refl _ _)).two n;rw[Nat.zero_mul] at b4;obtain⟨s,j⟩:∃s,s=d.1:=⟨_,rfl⟩;rw[<-j] at b4 J;have U:=b3.o s J;have i5:=c8.o s;have i6:(0:Int)<=(s:Int):=O;have i7:(s:Int)<(l.length:Int):=O;have f9:ZH0 (gr M b s=1/\∀f,f≠s->gr M b f=0):=by
   have m:b=[d]:=by
    have b2:=v.o
    match b,b2,n with
    | [g0],_,n=>simp at n;rw[n]
   unfold gr;rw[m];refine⟨by simp[j],λf a2 => ?_⟩;simp;rw[<-j];exact a2
  clear n c9 j;go_wp2;go_ret;refine⟨⟨w.heap.size,b,rfl,E _,c6.o,by rw[<-v.o];exact c5,b3.o.set J (by rw[f9.o.1];rfl) (λf a2=>f9.o.2 f a2)⟩,c7.o.setCell Xi _⟩
 .have i8:¬(g:Int)=1:=O
  have m2:((g:Int)==1)=false:=by rw[F];exact i8
  have a3:=z7 (.slice f5 g f6) b M B y (a1.o y (Fr1.refl _ _)) (by rw[<-v.o];omega) e2 i0 i3.o;obtain⟨k,d0⟩:∃k,k=b.map (λd=>d.2):=⟨_,rfl⟩;rw[<-d0] at a3;have g1:ZH0 _:=d0;replace a3:ZH0 _:=a3;clear d0;go_wp2_with fail;refine X9 a3.o ?_;rintro D r ⟨⟨m3,rfl,d1⟩,a4⟩;obtain⟨i9,j0,rfl⟩:=d1.form;have j1:ZH0 (∀e,Fr1 w.heap.size r e->zw e y.heap.size (.slice i9 M j0) M k):=λe q=>d1.frS q (λW m=>O)
  have j2:ZH0 (∀e,Fr1 w.heap.size r e->LfX e (.slice f5 g f6) b):=λe q=>a1.o e ((Fr.of_kept a4).trans q)
  have j3:ZH0 (Kept w r):=c7.o.trans a4;have g2:ZH0 (Byt r w.heap.size l.length (λ_=>0)):=b3.o.kept a4;have g3:ZH0 (∀a,r.frozen? ⟨w.heap.size,a,none⟩=false):=λa=>(a4.frozen (p:=⟨w.heap.size,a,none⟩) i4).trans (c8.o a)
  obtain⟨V,d2⟩:∃V,V=tu k (2*g-2) M:=⟨_,rfl⟩;have g4:ZH0 _:=d2;have m4:V.length=M:=by rw[d2,BA]
  clear d1 a4 a1 b3 c8 c7 a3 d2;go_wp2;go_loopw [8,9,10,11] (λj4 d3 _ _ e=>∃(f:Int) (x:Nat) (h:List Nat),x<=M/\j4=.int .i64 f/\d3=.int .i64 ((x:Int)-1)/\f.natAbs*2^x<=67108864/\h++tu k f.toNat x=V/\Byt e w.heap.size l.length (fP b h)/\(∀a,e.frozen? ⟨w.heap.size,a,none⟩=false)/\Fr1 w.heap.size r e) (λ_ d3 _ _ _=>(intOf d3+1).toNat)
  case atStart=>
   refine⟨_,M,[],E _,rfl,rfl,?_,?_,g2.o,g3.o,Fr1.refl _ _⟩
   .have b2:2^M<=32768:=Xz (XH O e2) Xh
    have j5:(2*(g:Int)-2).natAbs<=2048:=O;exact Xz (XF j5 b2) Xh
   .rw[g4.o,Ze]
    congr 1
    omega
  case round=>
   obtain⟨f,x,h,m5,rfl,rfl,d4,g5,a5,a6,z⟩:=hrel;have A:ZH0 (Byt wr w.heap.size l.length (fP b h)):=a5;have K:ZH0 _:=a6;have C:ZH0 (Fr1 w.heap.size r wr):=z;have g6:ZH0 _:=g5;have j6:ZH0 _:=d4;have m6:=KQ d4;clear a5 a6 z g2 g3 g5 d4;by_cases m7:0<x
   .obtain⟨i,rfl⟩:∃i,x=i+1:=⟨x-1,O⟩
    have j7:((i+1:Nat):Int)-1=(i:Int):=O;rw[j7];have m8:(0:Int)<=(i:Int):=O;have m9:(i:Int)<(M:Int):=O;obtain⟨W,n0,g7,m,n1,U,d5,j8⟩:=(j1.o wr C.o).cells i O
    injection m with j9 _ k0
    subst j9;subst k0;have g8:(Px.rwN k i).length<=1048576:=by
     have:=z6 k i
     have n2:k.length=g:=by rw[g1.o,v.o];simp
     omega
    have b5:ZH0 (Calls prog 177 #[g7,.int .i64 f] wr λm H=>m=.returned (.int .i64 (cT f.toNat (Px.rwN k i):Int))/\Kept wr H):=uY g7 _ f wr d5 g8;obtain⟨n3,n4,rfl⟩:=d5.form;obtain⟨a,T⟩:∃a,a=cT f.toNat (Px.rwN k i):=⟨_,rfl⟩;rw[<-T] at b5;have n5:a<=f.toNat:=by rw[T];exact BS _ _
    have d6:ZH0 (h++[a]++tu k (2*(f-(a:Int))).toNat i=V):=by
     show h++[a]++tu k (2*(f-(a:Int))).toNat i=V
     have k1:(2*(f-(a:Int))).toNat=2*(f.toNat-a):=O;rw[<-g6.o,y9,<-T,XY,k1];rfl
    have g9:ZH0 ((2*(f-(a:Int))).natAbs*2^i<=67108864):=ID j6.o _ O;obtain⟨h0,h1⟩:∃h0,h0=(Px.rwN k i).length:=⟨_,rfl⟩;rw[<-h1] at b5 U;clear d5 j8 T g8 h1;go_wp2_with fail;refine b5.o.mono ?_;rintro D d7 ⟨rfl,b6⟩;have k2:w.heap.size<wr.heap.size:=World.block_lt_of_cell? _ _ (A.o 0 b9);have h2:ZH0 (Byt d7 w.heap.size l.length (fP b h)):=A.o.kept b6;have h3:ZH0 (∀a,d7.frozen? ⟨w.heap.size,a,none⟩=false):=λa=>(b6.frozen (p:=⟨w.heap.size,a,none⟩) k2).trans (K.o a)
    have h4:ZH0 (Fr1 w.heap.size r d7):=Fr.kept C.o b6;have k3:h.length<=14:=by
     have:=congrArg List.length d6.o
     simp at this;omega
    clear b5 b6 A K C U;go_wp2_with fail;go_loopw [11] (λd8 e=>∃c:Nat,c<=g/\c<=a/\d8=.int .i64 c/\Byt e w.heap.size l.length (λs=>fP b h s+(if s∈(b.take c).map (λd=>d.1) then 1 else 0))/\(∀a,e.frozen? ⟨w.heap.size,a,none⟩=false)/\Fr1 w.heap.size r e) (λd8 _=>g-(intOf d8).toNat)
    case atStart=>exact⟨0,O,O,rfl,h2.o,h3.o,h4.o⟩
    case round=>
     clear h2 h3 h4;obtain⟨c,P,n6,rfl,a5,a6,z⟩:=hrel;have A:ZH0 (Byt wr w.heap.size l.length (λs=>fP b h s+(if s∈(b.take c).map (λd=>d.1) then 1 else 0))):=a5;have K:ZH0 _:=a6;have C:ZH0 (Fr1 w.heap.size r wr):=z;clear a5 a6;have a7:ZH0 (c=g\/c=a->Byt wr w.heap.size l.length (fP b (h++[a]))):=λo s j=>by
      rw[A.o s j,yI];have m:b.take c=b.take a:=by
       rcases o with o|o
       .have n7:=v.o
        rw[X6 O,X6 O]
       .rw[o]
      rw[m]
     by_cases n8:c<a
     .have k4:(c:Int)<(a:Int):=O
      by_cases h5:c<g
      .have k5:(c:Int)<(g:Int):=O
       obtain⟨d,n,J⟩:=f7.o c h5;obtain⟨n9,rfl,b4,c9⟩:=(j2.o wr z).two n;obtain⟨s,j⟩:∃s,s=d.1:=⟨_,rfl⟩;have h6:s ∉ (b.take c).map (λd=>d.1):=λo=>by
        obtain⟨g0,k6,k7⟩:=YP.1 o;obtain⟨u,X,k8⟩:=List.getElem_of_mem k6;have k9:u<c:=by have:=X;simp at this;omega
        have b1:c<b.length:=by rw[<-v.o];exact h5
        have l0:b[u]' O=g0:=by rw[<-k8,List.getElem_take]
        have h7:=List.pairwise_iff_getElem.1 c6.o.nod u c O b1 k9;have l1:b[c]=d:=(Yb.1 n).2;rw[l0,l1,k7,j] at h7;exact h7 rfl
       have d9:b.take (c+1)=b.take c++[d]:=by
        rw[List.take_add_one,n];rfl
       rw[<-j] at b4 J;have U:wr.cell? ⟨w.heap.size,s,none⟩=some (.int .u8 ((fP b h s+(if s∈(b.take c).map (λd=>d.1) then 1 else 0):Nat):Int)):=A.o s J;rw[N h6,X5] at U;have i5:=K.o s;have i6:(0:Int)<=(s:Int):=O;have i7:(s:Int)<(l.length:Int):=O;have e8:(0:Int)<=(c:Int):=O;obtain⟨Z,b7⟩:∃Z,Z=fP b h s:=⟨_,rfl⟩;have o0:Z<=14:=by rw[b7];exact Xz (wZ _ _ _) k3
       rw[<-b7] at U;have l2:ZH0 (∀e0:Int,e0=((Z+1:Nat):Int)->Byt (wr.setCell ⟨w.heap.size,s,none⟩ (.int .u8 e0)) w.heap.size l.length (λs=>fP b h s+(if s∈(b.take (c+1)).map (λd=>d.1) then 1 else 0))):=λe0 l3=>by
        refine A.o.set J ?_ (λf a2 => ?_)
        .rw[l3,I (by rw[d9,Zf];exact List.mem_append_right _ (by simp[j])),b7]
        .have:(f∈(b.take (c+1)).map (λd=>d.1))↔(f∈(b.take c).map (λd=>d.1)):=by
          rw[d9,Zf,XW]
          constructor
          .rintro(o|o)
           .exact o
           .simp at o;exact absurd (by rw[o,j]) a2
          .exact L
         simp only[this]
       clear c9 n j h6 d9 b7 a7 z;go_wp2;exact⟨⟨c+1,O,O,Xj,l2.o _ O,λa=>by rw[Xy];exact K.o a,C.o.set _ _⟩,Xb⟩
      .have k5:¬(c:Int)<(g:Int):=O
       have e1:ZH0 _:=a7.o (L O);clear a7 z;go_wp2;exact⟨⟨_,i,h++[a],O,rfl,rfl,g9.o,d6.o,e1.o,K.o,C.o⟩,by simp[intOf]⟩
     .have k4:¬(c:Int)<(a:Int):=O
      have e1:ZH0 _:=a7.o (R O);clear a7 z;go_wp2;exact⟨⟨_,i,h++[a],O,rfl,rfl,g9.o,d6.o,e1.o,K.o,C.o⟩,by simp[intOf]⟩
   .have l4:x=0:=O
    subst l4;have l5:ZH0 (Byt wr w.heap.size l.length (gr M b)):=λs j=>by
     have h8:=g6.o;have l6:h=cts k (2*g-2) (M-1):=by
      have m:tu k f.toNat 0=[]:=rfl;rw[m,XN] at h8;rw[h8,g4.o];obtain⟨u,X⟩:∃u,M=u+1:=⟨M-1,O⟩;rw[X];rfl
     rw[A.o s j];unfold gr;rw[N (by rw[<-v.o];exact f8),<-g1.o,<-v.o,<-l6]
    go_wp2;go_ret;exact⟨⟨w.heap.size,b,rfl,E _,c6.o,by rw[<-v.o];exact c5,l5.o⟩,Fr.to_kept j3.o C.o (λc P m=>O)⟩
end Go.Proofs.YtbedkdnphobmlaaGreatDoor
namespace Px
theorem EI{f}:∀(n i:Nat),i<n->(∀b,b<n->1<=f b)->f i+n<=sm f n+1
 | 0,i,c,_=>O
 | n+1,i,c,h1=>by
  have d:∀a,a<=n->a<=sm f a:=λa=>by
   induction a with
   | zero=>intro _;exact X3 _
   | succ a e=>intro h;have:=e O;have:=h1 a O;show a+1<=sm f a+f a;omega
  show f i+(n+1)<=sm f n+f n+1
  by_cases g:i=n
  .subst g;have:=d i (E _);omega
  .have:=EI n i O (λb j=>h1 b O)
   have:=h1 n O
   omega
def fO:List (Nat×Nat)->Nat->Nat
 | [],_=>0
 | x::r,s=>(if s=x.1 then x.2 else 0)+fO r s
def CC:List (Nat×Nat)->Nat
 | []=>0
 | x::r=>x.2+CC r
theorem zZ f g:∀n,sm (λs=>f s+g s) n=sm f n+sm g n
 | 0=>rfl
 | n+1=>by show sm (λs=>f s+g s) n+(f n+g n)=_;rw[zZ f g n];show _=sm f n+f n+(sm g n+g n);omega
theorem wz:∀n,sm (λ_=>0) n=0
 | 0=>rfl
 | n+1=>by show sm (λ_=>0) n+0=0;rw[wz n]
theorem zY a v:∀n,sm (λs=>if s=a then v else 0) n=if a<n then v else 0
 | 0=>by simp[sm]
 | n+1=>by
  show sm (λs=>if s=a then v else 0) n+(if n=a then v else 0)=_
  rw[zY a v n];by_cases h:n=a
  .subst h;rw[N,I rfl,I];omega
  .rw[N h]
   by_cases b:a<n
   .rw[I b,I];rfl
   .rw[N b,N]
theorem wA n:∀r:List (Nat×Nat),(∀x∈r,x.1<n)->sm (fO r) n=CC r
 | [],_=>wz n
 | x::r,h=>by
  show sm (λs=>(if s=x.1 then x.2 else 0)+fO r s) n=_
  rw[zZ,zY,I (h x List.mem_cons_self),wA n r (λa b=>h a (List.mem_cons_of_mem _ b))];rfl
def wP(M:Nat)(cs:List Nat):List (Nat×Nat)->Nat->List (Nat×Nat)
 | [],_=>[]
 | x::r,i=>(x.1,2^(M-lnO cs i))::wP M cs r (i+1)
theorem pL M cs:∀(r:List (Nat×Nat)) (i:Nat) (a:Nat×Nat),a∈wP M cs r i->a.1∈r.map (λx=>x.1)
 | [],i,a,b=>by simp[wP] at b
 | x::r,i,a,b=>by
  rcases Y4.1 (show a∈(x.1,2^(M-lnO cs i))::wP M cs r (i+1) from b) with e|e
  .rw[e];simp
  .exact List.mem_cons_of_mem _ (pL M cs r (i+1) a e)
theorem rY f:∀n,sm f (n+1)=f 0+sm (λi=>f (i+1)) n
 | 0=>by simp[sm]
 | n+1=>by
  show sm f (n+1)+f (n+1)=_
  rw[rY f n];show f 0+sm (λi=>f (i+1)) n+f (n+1)=f 0+(sm (λi=>f (i+1)) n+f (n+1))
  omega
theorem zC M cs:∀(r:List (Nat×Nat)) (i:Nat),CC (wP M cs r i)=sm (λk=>2^(M-lnO cs (i+k))) r.length
 | [],i=>rfl
 | x::r,i=>by
  show 2^(M-lnO cs i)+CC (wP M cs r (i+1))=sm _ (r.length+1)
  rw[zC M cs r (i+1),rY];show _=2^(M-lnO cs (i+0))+sm (λk=>2^(M-lnO cs (i+(k+1)))) r.length
  rw[X5]
  congr 1
  exact jz _ (λk _=>by rw[show i+1+k=i+(k+1) from O])
theorem kz s:∀a:List (Nat×Nat),s ∉ a.map (λx=>x.1)->fO a s=0
 | [],_=>rfl
 | x::a,b=>by
  have c:s≠x.1:=λd=>b (by rw[d];simp)
  show(if s=x.1 then x.2 else 0)+fO a s=0
  rw[N c,(kz s a (λe=>b (List.mem_cons_of_mem _ e)))]
theorem zB M cs:∀(r:List (Nat×Nat)) (i k:Nat) (x:Nat×Nat),r.Pairwise (λa b=>a.1≠b.1)->r[k]? = some x->fO (wP M cs r i) x.1=2^(M-lnO cs (i+k))
 | [],i,k,x,_,c=>by simp at c
 | y::r,i,0,x,d,c=>by
  simp at c;subst c;have g:y.1 ∉ (wP M cs r (i+1)).map (λx=>x.1):=λh=>by
   obtain⟨j,l,e⟩:=YP.1 h;obtain⟨m,n,o⟩:=YP.1 (pL M cs r (i+1) j l);exact(List.pairwise_cons.1 d).1 m n (by rw[o,e])
  show(if y.1=y.1 then 2^(M-lnO cs i) else 0)+fO (wP M cs r (i+1)) y.1=_
  rw[I rfl,kz _ _ g];simp
 | y::r,i,k+1,x,d,c=>by
  have f:r[k]? = some x:=by simpa using c
  have p:x.1≠y.1:=λe=>(List.pairwise_cons.1 d).1 x (X8 f) e.symm
  show(if x.1=y.1 then 2^(M-lnO cs i) else 0)+fO (wP M cs r (i+1)) x.1=_
  rw[N p,zB M cs r (i+1) k x (List.pairwise_cons.1 d).2 f,show i+1+k=i+(k+1) from O];omega
theorem yJ{f n M ls}(i:Srt f n ls)(x:2<=ls.length)(F:1<=M)(y:ls.length<=2^M):sm (λs=>if gr M ls s=0 then 0 else 2^(M-gr M ls s)) n=2^M/\(∀s,gr M ls s<=M)/\∀s,s<n->(gr M ls s=0↔f s<1):=by
 obtain⟨c,rfl⟩:∃c,M=c+1:=⟨M-1,O⟩;obtain⟨d,l⟩:∃d,d=cts (ls.map (λa=>a.2)) (2*ls.length-2) c:=⟨_,rfl⟩;have p:∀s,gr (c+1) ls s=fP ls d s:=λs=>by
  unfold gr;rw[N,l];rfl
 have z:Asc (ls.map (λa=>a.2)):=by
  rw[xU,List.pairwise_map];exact i.asc
 have q:=I1 (ls.map (λa=>a.2)) z c (by simpa using x) (by simpa using y);rw[List.length_map,<-l] at q;have u:∀b,b<ls.length->1<=lnO d b:=λb g=>by
  apply Nat.le_of_not_lt;intro h;have A:lnO d b=0:=O
  have:=EI (f:=λb=>2^(c+1-lnO d b)) ls.length b g (λB _=>Nat.one_le_two_pow)
  rw[q] at this;simp only[A,Nat.sub_zero] at this;omega
 have C:∀s,fP ls d s<=c+1:=λs=>by
  have:=wZ ls d s
  rw[l,jX] at this;rw[l];exact this
 have v:∀s,s∈ls.map (λa=>a.1)->∃b a,ls[b]? = some a/\a.1=s/\b<ls.length:=λs h=>by
  obtain⟨a,e,k⟩:=YP.1 h;obtain⟨b,g,r⟩:=List.getElem_of_mem e;exact⟨b,a,by rw[Xt g,r],k,g⟩
 refine⟨?_,λs=>by rw[p];exact C s,λs D => ?_⟩
 .have k:∀s,s<n->(if gr (c+1) ls s=0 then 0 else 2^(c+1-gr (c+1) ls s))=fO (wP (c+1) d ls 0) s:=λs _=>by
   rw[p];by_cases j:s∈ls.map (λa=>a.1)
   .obtain⟨b,a,e,rfl,g⟩:=v s j
    rw[xa i.nod e d,N (by have:=u b g;omega),zB (c+1) d ls 0 b a i.nod e,XD]
   .rw[oR j,I rfl,kz]
    intro h;obtain⟨m,t,k⟩:=YP.1 h;exact j (by rw[<-k];exact pL _ _ _ _ m t)
  rw[jz n k,wA n _ (λa e => ?_),zC]
  .rw[<-q]
   exact jz _ (λB _=>by rw[XD])
  .have w:=pL _ _ _ _ a e
   obtain⟨m,t,r⟩:=YP.1 w;rw[<-r];exact((i.mem m.1 m.2).1 t).1
 .rw[p]
  by_cases j:s∈ls.map (λa=>a.1)
  .obtain⟨b,a,e,rfl,g⟩:=v s j
   rw[xa i.nod e d];have w:=u b g;have G:=(i.mem a.1 a.2).1 (X8 e)
   constructor
   .intro h;omega
   .intro h;omega
  .rw[oR j]
   constructor
   .intro _
    apply Int.lt_of_not_ge;intro h;obtain⟨o,E⟩:∃o:Nat,f s=(o:Int):=⟨(f s).toNat,O⟩;exact j (YP.2 ⟨(s,o),(i.mem s o).2 ⟨D,h,E⟩,rfl⟩)
   .intro _;rfl
end Px
namespace Go.Proofs.YtbedkdnphobmlaaGreatDoor
open Go.RowKit Px Tryz
theorem sH:∀(k:Nat) (r:Rw),(cj k r).smp=r.smp
 | 0,_=>rfl
 | k+1,r=>by
  unfold cj;split
  .split
   .rfl
   .exact sH k _
  .rfl
theorem hS(r:Rw):r.next.smp=r.smp:=sH 8 _
theorem yo h k j:(Rw.start h k).smp j<65536:=by
 show(rw0 h k).next.smp j<65536
 rw[hS];show 0<65536
 omega
theorem zM{r}(c:eH r)(h:∀a,r.smp a<65536)x a:(r.take x).1.smp a<65536:=by
 unfold Rw.take;split
 .exact h a
 .split
  .unfold Rw.takeF
   split
   .exact h a
   .exact h a
  .split
   .exact h a
   .have f:lA (({r with taken:=r.taken+1}:Rw).lay (r.taken-1) x):=(c.in'.taken' (by have:=c.tk;omega)).lay _ _
    have d:∀a,(({r with taken:=r.taken+1}:Rw).lay (r.taken-1) x).smp a<65536:=h;generalize ({r with taken:=r.taken+1}:Rw).lay (r.taken-1) x=b at *;unfold Rw.endRow;split
    .exact d a
    .have e:∀a,b.laid.smp a<65536:=λa=>nd b f.ok d b.columns a
     show(if b.lines<=b.line+1 then b.laid.next else b.laid).smp a<65536
     split
     .rw[hS];exact e a
     .exact e a
theorem iN{s r x}(b:eH r)(h:∀a,r.smp a<65536)a:(aB s r x).2.1.smp a<65536:=by
 have:=zM b h x a
 unfold aB;split
 .split
  .exact this
  .exact this
 .exact this
theorem nO:∀(k D:Nat) (s:St) (r:Rw),eW k D s r->(∀a,r.smp a<65536)->∀a,(bT k D s r).2.1.smp a<65536
 | 0,_,_,_,_,b,a=>b a
 | k+1,D,s,r,c,b,a=>by
  unfold bT;split
  .rename_i d
   exact nO k D _ _ (c.2 d) (iN c.1.good b) a
  .exact iN c.1.good b a
theorem pj{s r D}(k:1<=D->D<=s.count->D<=s.window->eW s.length D s r)(h:∀a,r.smp a<65536)a:(cz s r D).2.1.smp a<65536:=by
 unfold cz;split
 .exact h a
 .rename_i b
  exact nO _ _ _ _ (k O O O) h a
theorem yZ{s r σ}(k:∀b,1<=b->b<=s.count->b<=s.window->eW s.length b s r)(h:∀a,r.smp a<65536)a:(cJ s r σ).2.1.smp a<65536:=by
 unfold cJ;split
 .exact h a
 .split
  .exact h a
  .split
   .exact pj (k _) h a
   .exact h a
theorem Ar{s r v}(k:eY s r v)(h:∀a,r.smp a<65536)a:(aL s r v).2.1.smp a<65536:=by
 unfold aL;split
 .exact h a
 split
 .exact h a
 split
 .exact h a
 split
 .rename_i b
  have:=iN (s:=s) (x:=v) (k.good b) h a
  unfold cm;split
  .exact this
  .exact this
 split
 .exact h a
 split
 .exact h a
 split
 .exact h a
 split
 .exact h a
 split
 .rename_i c
  exact pj (k.v8 c).copy h a
 .exact h a
theorem zP{s r t}(k:Cb s r t)(h:∀a,r.smp a<65536)a:(gY s r t).2.1.smp a<65536:=by
 unfold gY dB;split
 .exact h a
 split
 .exact h a
 split
 .exact h a
 split
 .exact h a
 .exact iN k.good h a
theorem B1{s r t}(k:pF s r t)(h:∀a,r.smp a<65536)a:(ba s r t).2.1.smp a<65536:=by
 unfold ba;split
 .rename_i b
  exact zP (k.sym b) h a
 split
 .exact h a
 split
 .rename_i c
  exact yZ (k.ds c).copy h a
 split
 .exact h a
 .rename_i b e c d
  exact Ar (k.num (by have:=k.part;omega) d) h a
theorem od x:∀(n i:Nat) (s:St) (r:Rw),eL n i s r x->(∀a,r.smp a<65536)->∀a,(bN n i s r x).2.1.smp a<65536
 | 0,_,_,_,_,b,a=>b a
 | n+1,i,s,r,k,b,a=>by
  unfold bN;split
  .exact b a
  .rename_i d
   rcases k with e|⟨f,g⟩
   .exact absurd e d
   .have c:=B1 f b
    split
    .rename_i h
     exact od x n (i+1) _ _ (g h) c a
    .exact c a
def SmI(s:Rd):Prop:=(∀j,s.rw.smp j<65536)/\(s.hd.W=0\/1<=s.hd.H)
theorem SmI.begin{s}(h:SmI s):SmI s.begin:=by
 unfold Rd.begin;split
 .exact h
 .exact⟨λa=>yo _ _ a,h.2⟩
theorem SmI.note{s}(h:SmI s):SmI s.note:=by
 have a:SmI s.note1:=by
  unfold Rd.note1;split
  .exact h
  .split
   .exact h
   .split
    .exact h.begin
    .exact h
 show SmI s.note1.note2
 unfold Rd.note2;split
 .exact a
 .exact a
theorem yU d(h:(bL d).1=0):(bL d).2.W=0\/1<=(bL d).2.H:=by
 rw[iM] at h ⊢;split
 .exact L rfl
 .rename_i a
  split
  .exact L rfl
  .split
   .exact L rfl
   .right
    show 1<=hN d
    have:hN d≠0:=λb=>a (R (L b))
    omega
theorem SmI.accept{s}(h:SmI s):SmI s.accept.1:=by
 unfold Rd.accept;split
 .unfold Rd.acceptHead
  split
  .exact h
  .rename_i a
   exact⟨h.1,yU s.raw O⟩
 .split
  .exact h
  .exact h
theorem SmI.keep{s x}(h:SmI s)(k:rH s x):SmI (s.keep x).1:=by
 unfold Rd.keep;split
 .exact h
 .split
  .exact h
  .split
   .exact h
   .split
    .rename_i c
     have d:∀a,(takeB s.st s.rw x).2.1.smp a<65536:=λa=>by
      unfold takeB;split
      .exact h.1 a
      .rename_i e
       exact od x 8 0 _ s.rw (k.bits c e) h.1 a
     have b:SmI (s.streamed x):=⟨d,h.2⟩;unfold Rd.takeStream;split
     .exact b
     .split
      .exact b
      .exact b
    .exact h
theorem SmI.take{s x}(h:SmI s)(k:cB s x):SmI (s.take x).1:=by
 unfold Rd.take;split
 .unfold Rd.takeSign
  split
  .exact h
  .split
   .exact h
   .exact h
 .split
  .unfold Rd.takeLength
   split
   .exact h
   .split
    .exact h
    .exact h
  .split
   .unfold Rd.takeType
    have a:SmI (s.typed x):=h;split
    .exact h
    .split
     .exact a
     .split
      .exact a.note
      .exact a.note
   .split
    .rename_i d
     have b:=SmI.keep (s:=s.summed x) (x:=x) h (k.keep d);unfold Rd.takeData;split
     .exact b
     .show SmI ((s.summed x).keep x).1.dataEnd
      unfold Rd.dataEnd;split
      .exact b
      .exact b
    .split
     .unfold Rd.takeSum
      have c:=SmI.accept (s:=s.num x) h;split
      .exact h
      .split
       .exact h
       .split
        .exact c
        .split
         .exact c
         .exact c
     .exact h
theorem Rn.smI:∀{l:List Nat} {s b:Rd},Rn s l b->SmI s->SmI b
 | [],s,b,a,k=>by cases a;exact k
 | x::l,s,b,a,k=>Rn.smI a.2.2 (k.take a.1)
theorem yp:SmI rd0:=⟨λ_=>by show 0<65536;omega,L rfl⟩
theorem Rn.at:∀{l:List Nat} {s b:Rd},Rn s l b->∀(k x:Nat),l[k]? = some x->∃a,Rn s (l.take k) a/\cB a x/\(a.take x).2=0/\Rn (a.take x).1 (l.drop (k+1)) b
 | [],s,b,c,k,x,d=>by simp at d
 | y::l,s,b,c,0,x,d=>by
  simp at d;subst d;exact⟨s,rfl,c.1,c.2.1,c.2.2⟩
 | y::l,s,b,c,k+1,x,d=>by
  obtain⟨a,e,f⟩:=Rn.at c.2.2 k x (by simpa using d);exact⟨a,⟨c.1,c.2.1,e⟩,f⟩
theorem EK{s:Rd}{x}(h:(s.take x).2=0):s.part≠5:=by
 intro a;unfold Rd.take at h;rw[N,N,N,N,N] at h;exact absurd (show(22:Nat)=0 from h) Xh
theorem kK{l b}(h:Rn rd0 l b)k(d:k<l.length):∃a,Rn rd0 (l.take k) a/\a.part≠5/\cB a l[k]/\SmI a:=by
 obtain⟨a,c,e,f,_⟩:=h.at k l[k] (Xt d);exact⟨a,c,EK f,e,c.smI yp⟩
def snN:Array Value:=#[.int .i64 0,.int .i64 0,.bool false,.int .i64 0,.int .i64 0,.int .i64 0,.int .i64 0,.int .i64 0,.slice none 0 0,.slice none 0 0,.slice none 0 0]
theorem cZ(W:World)(cs:List Value)(hl:cs.length=11)(ho:∀v∈cs,v.oneCell'=true):(storeCells ⟨W.heap.size,0,none⟩ cs).run prog (W.alloc (Obj.cells snN 50))=.ok () ((W.alloc (Obj.cells snN 50)).setCells W.heap.size 0 cs)/\((W.alloc (Obj.cells snN 50)).setCells W.heap.size 0 cs).rangeAt W.heap.size 0 cs/\Kept W ((W.alloc (Obj.cells snN 50)).setCells W.heap.size 0 cs):=by
 have B:Blk (W.alloc (Obj.cells snN 50)) W.heap.size 11 (λi=>snN.getD i undef):=Blk.new W snN _ 11 rfl;have T:(W.alloc (Obj.cells snN 50)).there W.heap.size 0 cs.length:=by rw[hl];exact B.there (by omega)
 exact⟨aM T ho,World.rangeAt_setCells_same _ _ _ _ T,Kept.setCells (Nat.le_refl _) _ _ ((Below.refl _ _).alloc (Nat.le_refl _) _)⟩
