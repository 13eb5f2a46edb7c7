import Derived.Test.YtbedkdnphobmlaaGreatDoorProg
import Derived.Test.YtbedkdnphobmlaaGreatDoorUaa00
import Derived.Test.YtbedkdnphobmlaaGreatDoorUaa01
import Derived.Test.YtbedkdnphobmlaaGreatDoorUaa02
import Derived.Test.YtbedkdnphobmlaaGreatDoorUaa04
import Derived.Test.YtbedkdnphobmlaaGreatDoorUaa09
import Derived.Test.YtbedkdnphobmlaaGreatDoorUaa15
import Derived.Test.YtbedkdnphobmlaaGreatDoorUaa16
set_option linter.all false
set_option maxRecDepth 100000
set_option maxHeartbeats 0
namespace Go.Proofs.YtbedkdnphobmlaaGreatDoor
open Go.RowKit Px Tryz
def Rd.summed(s:Rd)(x:Nat):Rd:={s with sum:=bh s.sum x}
def Rd.dataEnd(s:Rd):Rd:=if s.taken+1=s.length then({s with taken:=s.taken+1}:Rd).enter 4 else {s with taken:=s.taken+1}
def Rd.takeData(s:Rd)(x:Nat):Rd×Nat:=if((s.summed x).keep x).2≠0 then(s.summed x).keep x else(((s.summed x).keep x).1.dataEnd,0)
theorem uv b o n x c s w(k:Blk w b n c)(z:RdV c o s)(S:o+5954<=n)(T:x<256)(b2:s.sum<4294967296)(U:rH (s.summed x) x)(A:((s.summed x).keep x).1.taken<2147483648)(V:bw w)(W:NT b):Calls prog 54 #[.pointer (some ⟨b,o,none⟩),.int .u8 x] w λh B=>h=.returned (.int .i64 ((s.takeData x).2:Int))/\aR b o n c (s.takeData x).1 w B:=by
 have b3:=k.at (i:=o+5) O z.sum;have b4:=k.fz;have b5:Z (∀f,Fr1 b w f->bw f):=λf b6=>V.fr b6 W
 have C:Z (∀f,Calls prog 81 #[.int .u32 s.sum,.int .u8 x] f λh B=>h=.returned (.int .u32 (bh s.sum x:Nat))/\B=f):=λf=>jq _ _ f b2 T
 obtain⟨e,D⟩:∃e,e=bh s.sum x:=⟨_,rfl⟩;have X:Z (Blk (w.setCell ⟨b,o+5,none⟩ (.int .u32 e)) b n (upd c (o+5) (.int .u32 e))):=k.set O _;have Y:Z (RdV (upd c (o+5) (.int .u32 e)) o (s.summed x)):=by
  have:=z.set_sum e
  rw[D] at this ⊢;exact this
 have a0:Z (FrC b o (o+5954) c (upd c (o+5) (.int .u32 e))):=FrC.upd _ O O;have E:Z (Fr1 b w (w.setCell ⟨b,o+5,none⟩ (.int .u32 e))):=Fr1.set (Fr.refl _ _) _ _;rw[<-D] at C;have l:Z (s.takeData x=if((s.summed x).keep x).2≠0 then(s.summed x).keep x else(((s.summed x).keep x).1.dataEnd,0)):=rfl;have a1:Z _:=U;clear k z V D U;go_enter func54,ntmps54;go_wp2_with fail;refine(C.o _).mono ?_;rintro h G ⟨rfl,c3⟩;subst G;go_wp2_with fail;generalize w.setCell ⟨b,o+5,none⟩ (.int .u32 e)=G at *;generalize upd c (o+5) (.int .u32 e)=b7 at *;clear b3 b4 C;refine(HT b o n x b7 (s.summed x) G X.o Y.o S T a1.o (b5.o _ E.o) W).mono ?_;rintro h H ⟨rfl,m,p,q,a2,a3⟩;obtain⟨g,J⟩:∃g,g=((s.summed x).keep x).2:=⟨_,rfl⟩;obtain⟨d,K⟩:∃d,d=((s.summed x).keep x).1:=⟨_,rfl⟩;have a4:(s.summed x).keep x=(d,g):=by rw[J,K]
 rw[a4] at l;rw[<-K] at q A;rw[<-J];clear J K a4;have L:Z _:=p;have M:Z _:=q;have P:Z _:=a0.o.trans a2;have Q:Z _:=E.o.trans a3;have r:=p.at (i:=o+1) O q.taken;have b8:=p.fz (o+1);clear p q a2 a3 X Y a0 E a1;by_cases t:g=0
 .have b9:((g:Int)!=0)=false:=by rw[Xx];omega
  obtain⟨a,a5⟩:∃a,a=d.taken+1:=⟨_,rfl⟩;have c4:(d.taken:Int)+1=(a:Int):=O;have u:Z (s.takeData x=(if a=d.length then({d with taken:=a}:Rd).enter 4 else {d with taken:=a},0)):=by
   show s.takeData x=_
   rw[l.o,N (λc0=>c0 t),a5];rfl
  have a6:a<=2147483648:=O;replace t:Z _:=t;clear a5 l A;have v:Z (Blk (H.setCell ⟨b,o+1,none⟩ (.int .u32 a)) b n (upd m (o+1) (.int .u32 a))):=L.o.set O _;have y:Z _:=M.o.set_taken a;have a7:Z (FrC b o (o+5954) c (upd m (o+1) (.int .u32 a))):=P.o.trans (FrC.upd _ O O);have a8:Z (Fr1 b w (H.setCell ⟨b,o+1,none⟩ (.int .u32 a))):=Fr1.set Q.o _ _;have c5:(a:Int)%4294967296=(a:Int):=O;replace a6:Z _:=a6;go_upto_region 6 with fail
  generalize H.setCell ⟨b,o+1,none⟩ (.int .u32 a)=a9 at *;generalize upd m (o+1) (.int .u32 a)=b0 at *;clear r b8 L M P Q;have r:=v.o.at (i:=o+1) O y.o.taken;have b1:=v.o.at (i:=o+3) O y.o.length;replace r:a9.cell? ⟨b,o+1,none⟩=some (.int .u32 a):=r;replace b1:a9.cell? ⟨b,o+3,none⟩=some (.int .u32 d.length):=b1;by_cases j:a=d.length
  .have c1:((a:Int)==(d.length:Int))=true:=by rw[XI];omega
   have R:Z (s.takeData x=(({d with taken:=a}:Rd).enter 4,0)):=by show s.takeData x=_;rw[u.o,I j]
   replace j:Z _:=j;go_quiet (fail);go_wp2_with fail;refine(fE b o n 4 b0 {d with taken:=a} _ (v.o.kept ((Kept.refl _).drewN _)) y.o S).mono ?_;rintro h c6 ⟨rfl,c2⟩;go_wp2_with fail;go_ret;rw[R.o];exact⟨rfl,aR.next a7.o (a8.o.kept ((Kept.refl _).drewN _)) c2⟩
  .have c1:((a:Int)==(d.length:Int))=false:=by rw[F];omega
   have R:Z (s.takeData x=({d with taken:=a},0)):=by show s.takeData x=_;rw[u.o,N j]
   replace j:Z _:=j;go_quiet (fail);go_wp2_with fail;go_ret;rw[R.o];exact⟨rfl,b0,v.o.kept ((Kept.refl _).drewN _),y.o,a7.o,a8.o.kept ((Kept.refl _).drewN _)⟩
 .have b9:((g:Int)!=0)=true:=by rw[XJ];omega
  have u:Z (s.takeData x=(d,g)):=by show s.takeData x=_;rw[l.o,I t]
  clear A;go_wp2_with fail;go_ret;rw[u.o];exact⟨rfl,m,L.o,M.o,P.o,Q.o⟩
def Rd.takeSum(s:Rd)(x:Nat):Rd×Nat:=
 if s.taken+1≠4 then(s.num x,0)
 else if s.number*256+x≠aC s.sum then(s.num x,6)
 else if(s.num x).accept.2≠0 then(s.num x).accept
 else if(s.num x).accept.1.ctype=aJ then((s.num x).accept.1.enter 5,0) else((s.num x).accept.1.enter 1,0)
theorem sv(b d n x:Nat)c s w(a4:Blk w b n c)(a5:RdV c d s)(z:d+5954<=n)(b9:s.taken<1000)(c0:s.number<16777216)(c1:x<256)(c2:s.sum<4294967296)(a6:∀c3,s.raw c3<256)(c4:s.hd.D<=16)(c5:s.hd.K<=6)(a7:∀c6,s.tl.clear c6<256):Calls prog 55 #[.pointer (some ⟨b,d,none⟩),.int .u8 x] w λf u=>f=.returned (.int .i64 ((s.takeSum x).2:Int))/\aR b d n c (s.takeSum x).1 w u:=by
 have o:=U (uI b d n x c s w a4 a5 z b9 c0 c1);have j:Z (s.takeSum x=if s.taken+1≠4 then(s.num x,0) else if s.number*256+x≠aC s.sum then(s.num x,6) else if(s.num x).accept.2≠0 then(s.num x).accept else if(s.num x).accept.1.ctype=aJ then((s.num x).accept.1.enter 5,0) else((s.num x).accept.1.enter 1,0)):=rfl;obtain⟨k,F⟩:∃k,k=s.number*256+x:=⟨_,rfl⟩;have a8:Z ((s.num x).number=k):=F.symm;have a9:Z ((s.num x).sum=s.sum):=rfl;have G:Z (∀(g:World) (h:Nat->Value),Blk g b n h->RdV h d (s.num x)->Calls prog 86 #[.pointer (some ⟨b,d,none⟩)] g λf u=>f=.returned (.int .i64 ((s.num x).accept.2:Int))/\aR b d n h (s.num x).accept.1 g u):=λg h H c7=>B8 b d n h (s.num x) g H c7 z a6 c4 c5 a7
 rw[<-F] at j;have L:Z (∀g,Calls prog 85 #[.int .u32 s.sum] g λf u=>f=.returned (.int .u32 (aC s.sum:Nat))/\u=g):=λg=>nN _ g c2
 obtain⟨a,b0⟩:∃a,a=s.num x:=⟨_,rfl⟩;rw[<-b0] at o j a8 G a9;obtain⟨p,b1⟩:∃p,p=aC s.sum:=⟨_,rfl⟩;rw[<-b1] at L j;clear a4 a5 F b0 a6 a7 b1;by_cases q:s.taken+1=4
 .rw[K q] at o
  have r:Z (s.takeSum x=if k≠p then(a,6) else if a.accept.2≠0 then a.accept else if a.accept.1.ctype=aJ then(a.accept.1.enter 5,0) else(a.accept.1.enter 1,0)):=by show s.takeSum x=_;rw[j.o,N (λv=>v q)]
  clear j q;go_enter func55,ntmps55;go_wp2_with fail;refine o.o.mono ?_;rintro f c8 ⟨rfl,h,A,B,b2,b3⟩;have c9:=A.at (i:=d+2) O B.number;have d0:=A.at (i:=d+5) O B.sum;rw[a8.o] at c9;rw[a9.o] at d0;have M:Z _:=A;have P:Z _:=B;have Q:Z _:=b2;have R:Z _:=b3;clear A B b2 b3 o;by_cases y:k=p
  .have d1:((k:Int)!=(p:Int))=false:=by rw[Xx];omega
   have t:Z (s.takeSum x=if a.accept.2≠0 then a.accept else if a.accept.1.ctype=aJ then(a.accept.1.enter 5,0) else(a.accept.1.enter 1,0)):=by show s.takeSum x=_;rw[r.o,N (λv=>v y)]
   replace y:Z _:=y;clear r;go_wp2_with fail;go_quiet ((go_at_call 85;exact Xu (L.o _)))
   go_wp2_with fail;refine(G.o _ h (M.o.kept ((Kept.refl _).drewN _)) P.o).mono ?_;rintro f b4 ⟨rfl,S,T,V,b5,b6⟩;have W:Z _:=T;have C:Z _:=V;have X:Z _:=Q.o.trans b5;have Y:Z _:=(R.o.kept ((Kept.refl _).drewN _)).trans b6;have d2:=T.at (i:=d+4) O V.ctype;clear T V b5 b6 G M P Q R;obtain⟨l,a0⟩:∃l,l=a.accept.2:=⟨_,rfl⟩;obtain⟨e,a1⟩:∃e,e=a.accept.1:=⟨_,rfl⟩;have b7:a.accept=(e,l):=by rw[a0,a1]
   rw[b7] at t;rw[<-a1] at C d2;rw[<-a0];clear a0 a1 b7;by_cases D:l=0
   .have d3:((l:Int)!=0)=false:=by rw[Xx];omega
    have E:Z (s.takeSum x=if e.ctype=aJ then(e.enter 5,0) else(e.enter 1,0)):=by show s.takeSum x=_;rw[t.o,N (λv=>v D)]
    replace D:Z _:=D;clear t;by_cases m:e.ctype=aJ
    .have a2:Z (s.takeSum x=(e.enter 5,0)):=by show s.takeSum x=_;rw[E.o,I m]
     have b8:((e.ctype:Int)==1229278788)=true:=by rw[XI,m];rfl
     replace m:Z _:=m;go_wp2_with fail;refine(fE b d n 5 S e b4 W.o C.o z).mono ?_;rintro f d4 ⟨rfl,a3⟩;go_wp2_with fail;go_ret;rw[a2.o];exact⟨rfl,aR.next X.o Y.o a3⟩
    .have a2:Z (s.takeSum x=(e.enter 1,0)):=by show s.takeSum x=_;rw[E.o,N m]
     have b8:=cty e aJ m;clear m;unfold aJ at b8;go_wp2_with fail;refine(fE b d n 1 S e b4 W.o C.o z).mono ?_;rintro f d4 ⟨rfl,a3⟩;go_wp2_with fail;go_ret;rw[a2.o];exact⟨rfl,aR.next X.o Y.o a3⟩
   .have d3:((l:Int)!=0)=true:=by rw[XJ];omega
    have E:Z (s.takeSum x=(e,l)):=by show s.takeSum x=_;rw[t.o,I D]
    go_wp2_with fail;go_ret;rw[E.o];exact⟨rfl,S,W.o,C.o,X.o,Y.o⟩
  .have d1:((k:Int)!=(p:Int))=true:=by rw[XJ];omega
   have t:Z (s.takeSum x=(a,6)):=by show s.takeSum x=_;rw[r.o,I y]
   clear y r;go_wp2_with fail;go_quiet ((go_at_call 85;exact Xu (L.o _)))
   go_wp2_with fail;go_ret;rw[t.o];exact⟨rfl,h,M.o.kept ((Kept.refl _).drewN _),P.o,Q.o,R.o.kept ((Kept.refl _).drewN _)⟩
 .rw[J q] at o
  have r:Z (s.takeSum x=(a,0)):=by show s.takeSum x=_;rw[j.o,I q]
  clear j q;go_enter func55,ntmps55;go_wp2_with fail;refine o.o.mono ?_;rintro f c8 ⟨rfl,H⟩;go_wp2_with fail;go_ret;rw[r.o];exact⟨rfl,H⟩
def Rd.take(s:Rd)(x:Nat):Rd×Nat:=
 if s.part=0 then s.takeSign x
 else if s.part=1 then s.takeLength x
 else if s.part=2 then s.takeType x
 else if s.part=3 then s.takeData x
 else if s.part=4 then s.takeSum x
 else(s,22)
structure cB (s:Rd) (x:Nat):Prop where
 part:s.part<=5
 taken:s.part≠3->s.taken<1000
 number:s.part=1\/s.part=2\/s.part=4->s.number<16777216
 sum:s.sum<4294967296
 typ:s.part=2->Cc (s.typed x)
 hd:lB s
 keep:s.part=3->rH (s.summed x) x
 tk:s.part=3->((s.summed x).keep x).1.taken<2147483648
 raw:∀i,s.raw i<256
 clear:∀j,s.tl.clear j<256
theorem Ac b o n x c s w(e:Blk w b n c)(f:RdV c o s)(q:o+5954<=n)(r:x<256)(a:cB s x)(k:bw w)(u:NT b):Calls prog 39 #[.pointer (some ⟨b,o,none⟩),.int .u8 x] w λl v=>l=.returned (.int .i64 ((s.take x).2:Int))/\aR b o n c (s.take x).1 w v:=by
 have m:=e.at (i:=o) O f.part;have y:Z _:=e;have z:Z _:=f;have p:=a.part;have A:s.part=0\/s.part=1\/s.part=2\/s.part=3\/s.part=4\/s.part=5:=O;rcases A with d|d|d|d|d|d
 .have g:Z (s.take x=s.takeSign x):=by show s.take x=_;unfold Rd.take;rw[I d]
  have h:=U (ue b o n x c s w e f q (a.taken O) r);rw[d] at m;clear d p a e f k;go_enter func39,ntmps39;go_wp2_with fail;refine h.o.mono ?_;rintro l t ⟨rfl,j⟩;go_wp2_with fail;go_ret;rw[g.o];exact⟨rfl,j⟩
 .have g:Z (s.take x=s.takeLength x):=by show s.take x=_;unfold Rd.take;rw[N,I d]
  have h:=U (pZ b o n x c s w e f q (a.taken O) (a.number O) r);rw[d] at m;clear d p a e f k;go_enter func39,ntmps39;go_wp2_with fail;refine h.o.mono ?_;rintro l t ⟨rfl,j⟩;go_wp2_with fail;go_ret;rw[g.o];exact⟨rfl,j⟩
 .have g:Z (s.take x=s.takeType x):=by show s.take x=_;unfold Rd.take;rw[N,N,I d]
  have h:=U (ub b o n x c s w e f q (a.taken O) (a.number O) r a.sum (a.typ d) a.hd k.grd u.grd);rw[d] at m;clear d p a e f k;go_enter func39,ntmps39;go_wp2_with fail;refine h.o.mono ?_;rintro l t ⟨rfl,j⟩;go_wp2_with fail;go_ret;rw[g.o];exact⟨rfl,j⟩
 .have g:Z (s.take x=s.takeData x):=by show s.take x=_;unfold Rd.take;rw[N,N,N,I d]
  have h:=U (uv b o n x c s w e f q r a.sum (a.keep d) (a.tk d) k u);rw[d] at m;clear d p a e f k;go_enter func39,ntmps39;go_wp2_with fail;refine h.o.mono ?_;rintro l t ⟨rfl,j⟩;go_wp2_with fail;go_ret;rw[g.o];exact⟨rfl,j⟩
 .have g:Z (s.take x=s.takeSum x):=by show s.take x=_;unfold Rd.take;rw[N,N,N,N,I d]
  have h:=U (sv b o n x c s w e f q (a.taken O) (a.number O) r a.sum a.raw a.hd.D a.hd.K a.clear);rw[d] at m;clear d p a e f k;go_enter func39,ntmps39;go_wp2_with fail;refine h.o.mono ?_;rintro l t ⟨rfl,j⟩;go_wp2_with fail;go_ret;rw[g.o];exact⟨rfl,j⟩
 .have g:Z (s.take x=(s,22)):=by show s.take x=_;unfold Rd.take;rw[N,N,N,N,N]
  rw[d] at m;clear d p a e f k;go_enter func39,ntmps39;go_wp2_with fail;go_ret;rw[g.o];exact⟨rfl,aR.refl y.o z.o⟩
