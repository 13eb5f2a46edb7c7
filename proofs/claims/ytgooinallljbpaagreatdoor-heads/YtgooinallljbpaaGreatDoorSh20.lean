import Derived.Test.YtgooinallljbpaaGreatDoorSh00
import Derived.Test.YtgooinallljbpaaGreatDoorSh19
set_option linter.all false
set_option maxRecDepth 100000
set_option maxHeartbeats 0
namespace Go.Proofs.YtgooinallljbpaaGreatDoor
open Go.RowKit Px Tryz
def Rd.summed(s:Rd)(x:Nat):Rd:={s with sum:=cj s.sum x}
def Rd.dataEnd(s:Rd):Rd:=if s.taken+1=s.length then({s with taken:=s.taken+1}:Rd).enter 4 else {s with taken:=s.taken+1}
def Rd.takeData(s:Rd)(x:Nat):Rd×Nat:=if((s.summed x).keep x).2≠0 then(s.summed x).keep x else(((s.summed x).keep x).1.dataEnd,0)
theorem BD b o n x c s w(k:Blk w b n c)(z:RdV c o s)(S:o+5954<=n)(T:x<256)(b2:s.sum<4294967296)(U:y9 (s.summed x) x)(A:((s.summed x).keep x).1.taken<2147483648)(V:bC w)(W:NT b):Calls prog 38 #[.pointer (some ⟨b,o,none⟩),.int .u8 x] w λh B=>h=.returned (.int .i64 ((s.takeData x).2:Int))/\aM b o n c (s.takeData x).1 w B:=by
 have b3:=k.at (i:=o+5) O z.sum;have b4:=k.fz;have b5:Z (∀f,Fr1 b w f->bC f):=λf b6=>V.fr b6 W
 have C:Z (∀f,Calls prog 50 #[.int .u32 s.sum,.int .u8 x] f λh B=>h=.returned (.int .u32 (cj s.sum x:Nat))/\B=f):=λf=>uM _ _ f b2 T
 obtain⟨e,D⟩:∃e,e=cj s.sum x:=⟨_,rfl⟩;have X:Z (Blk (w.setCell ⟨b,o+5,none⟩ (.int .u32 e)) b n (upd c (o+5) (.int .u32 e))):=k.set O _;have Y:Z (RdV (upd c (o+5) (.int .u32 e)) o (s.summed x)):=by
  have:=z.set_sum e
  rw[D] at this ⊢;exact this
 have a0:Z (FrC b o (o+5954) c (upd c (o+5) (.int .u32 e))):=FrC.upd _ O O;have E:Z (Fr1 b w (w.setCell ⟨b,o+5,none⟩ (.int .u32 e))):=Fr1.set (Fr.refl _ _) _ _;rw[<-D] at C;have l:Z (s.takeData x=if((s.summed x).keep x).2≠0 then(s.summed x).keep x else(((s.summed x).keep x).1.dataEnd,0)):=rfl;have a1:Z _:=U;clear k z V D U;go_enter func38,ntmps38;go_wp2_with fail;refine(C.o _).mono ?_;rintro h G ⟨rfl,c3⟩;subst G;go_wp2_with fail;generalize w.setCell ⟨b,o+5,none⟩ (.int .u32 e)=G at *;generalize upd c (o+5) (.int .u32 e)=b7 at *;clear b3 b4 C;refine(M3 b o n x b7 (s.summed x) G X.o Y.o S T a1.o (b5.o _ E.o) W).mono ?_;rintro h H ⟨rfl,m,p,q,a2,a3⟩;obtain⟨g,J⟩:∃g,g=((s.summed x).keep x).2:=⟨_,rfl⟩;obtain⟨d,K⟩:∃d,d=((s.summed x).keep x).1:=⟨_,rfl⟩;have a4:(s.summed x).keep x=(d,g):=by rw[J,K]
 rw[a4] at l;rw[<-K] at q A;rw[<-J];clear J K a4;have L:Z _:=p;have M:Z _:=q;have P:Z _:=a0.o.trans a2;have Q:Z _:=E.o.trans a3;have r:=p.at (i:=o+1) O q.taken;have b8:=p.fz (o+1);clear p q a2 a3 X Y a0 E a1;by_cases t:g=0
 .have b9:((g:Int)!=0)=false:=by rw[Xx];omega
  obtain⟨a,a5⟩:∃a,a=d.taken+1:=⟨_,rfl⟩;have c4:(d.taken:Int)+1=(a:Int):=O;have u:Z (s.takeData x=(if a=d.length then({d with taken:=a}:Rd).enter 4 else {d with taken:=a},0)):=by
   show s.takeData x=_
   rw[l.o,N (λc0=>c0 t),a5];rfl
  have a6:a<=2147483648:=O;replace t:Z _:=t;clear a5 l A;have v:Z (Blk (H.setCell ⟨b,o+1,none⟩ (.int .u32 a)) b n (upd m (o+1) (.int .u32 a))):=L.o.set O _;have y:Z _:=M.o.set_taken a;have a7:Z (FrC b o (o+5954) c (upd m (o+1) (.int .u32 a))):=P.o.trans (FrC.upd _ O O);have a8:Z (Fr1 b w (H.setCell ⟨b,o+1,none⟩ (.int .u32 a))):=Fr1.set Q.o _ _;have c5:(a:Int)%4294967296=(a:Int):=O;replace a6:Z _:=a6;go_upto_region 6 with fail
  generalize H.setCell ⟨b,o+1,none⟩ (.int .u32 a)=a9 at *;generalize upd m (o+1) (.int .u32 a)=b0 at *;clear r b8 L M P Q;have r:=v.o.at (i:=o+1) O y.o.taken;have b1:=v.o.at (i:=o+3) O y.o.length;replace r:a9.cell? ⟨b,o+1,none⟩=some (.int .u32 a):=r;replace b1:a9.cell? ⟨b,o+3,none⟩=some (.int .u32 d.length):=b1;by_cases j:a=d.length
  .have c1:((a:Int)==(d.length:Int))=true:=by rw[XI];omega
   have R:Z (s.takeData x=(({d with taken:=a}:Rd).enter 4,0)):=by show s.takeData x=_;rw[u.o,I j]
   replace j:Z _:=j;go_quiet (fail);go_wp2_with fail;refine(iz b o n 4 b0 {d with taken:=a} _ (v.o.kept ((Kept.refl _).drewN _)) y.o S).mono ?_;rintro h c6 ⟨rfl,c2⟩;go_wp2_with fail;go_ret;rw[R.o];exact⟨rfl,aM.next a7.o (a8.o.kept ((Kept.refl _).drewN _)) c2⟩
  .have c1:((a:Int)==(d.length:Int))=false:=by rw[F];omega
   have R:Z (s.takeData x=({d with taken:=a},0)):=by show s.takeData x=_;rw[u.o,N j]
   replace j:Z _:=j;go_quiet (fail);go_wp2_with fail;go_ret;rw[R.o];exact⟨rfl,b0,v.o.kept ((Kept.refl _).drewN _),y.o,a7.o,a8.o.kept ((Kept.refl _).drewN _)⟩
 .have b9:((g:Int)!=0)=true:=by rw[XJ];omega
  have u:Z (s.takeData x=(d,g)):=by show s.takeData x=_;rw[l.o,I t]
  clear A;go_wp2_with fail;go_ret;rw[u.o];exact⟨rfl,m,L.o,M.o,P.o,Q.o⟩
def Rd.takeSum(s:Rd)(x:Nat):Rd×Nat:=
 if s.taken+1≠4 then(s.num x,0)
 else if s.number*256+x≠bz s.sum then(s.num x,6)
 else if(s.num x).accept.2≠0 then(s.num x).accept
 else if(s.num x).accept.1.ctype=cE then((s.num x).accept.1.enter 5,0) else((s.num x).accept.1.enter 1,0)
theorem zQ(b d n x:Nat)c s w(a4:Blk w b n c)(a5:RdV c d s)(z:d+5954<=n)(b9:s.taken<1000)(c0:s.number<16777216)(c1:x<256)(c2:s.sum<4294967296)(a6:∀c3,s.raw c3<256)(c4:s.hd.D<=16)(c5:s.hd.K<=6)(a7:∀c6,s.tl.clear c6<256):Calls prog 39 #[.pointer (some ⟨b,d,none⟩),.int .u8 x] w λf u=>f=.returned (.int .i64 ((s.takeSum x).2:Int))/\aM b d n c (s.takeSum x).1 w u:=by
 have o:=U (BT b d n x c s w a4 a5 z b9 c0 c1);have j:Z (s.takeSum x=if s.taken+1≠4 then(s.num x,0) else if s.number*256+x≠bz s.sum then(s.num x,6) else if(s.num x).accept.2≠0 then(s.num x).accept else if(s.num x).accept.1.ctype=cE then((s.num x).accept.1.enter 5,0) else((s.num x).accept.1.enter 1,0)):=rfl;obtain⟨k,F⟩:∃k,k=s.number*256+x:=⟨_,rfl⟩;have a8:Z ((s.num x).number=k):=F.symm;have a9:Z ((s.num x).sum=s.sum):=rfl;have G:Z (∀(g:World) (h:Nat->Value),Blk g b n h->RdV h d (s.num x)->Calls prog 55 #[.pointer (some ⟨b,d,none⟩)] g λf u=>f=.returned (.int .i64 ((s.num x).accept.2:Int))/\aM b d n h (s.num x).accept.1 g u):=λg h H c7=>JS b d n h (s.num x) g H c7 z a6 c4 c5 a7
 rw[<-F] at j;have L:Z (∀g,Calls prog 54 #[.int .u32 s.sum] g λf u=>f=.returned (.int .u32 (bz s.sum:Nat))/\u=g):=λg=>Cx _ g c2
 obtain⟨a,b0⟩:∃a,a=s.num x:=⟨_,rfl⟩;rw[<-b0] at o j a8 G a9;obtain⟨p,b1⟩:∃p,p=bz s.sum:=⟨_,rfl⟩;rw[<-b1] at L j;clear a4 a5 F b0 a6 a7 b1;by_cases q:s.taken+1=4
 .rw[K q] at o
  have r:Z (s.takeSum x=if k≠p then(a,6) else if a.accept.2≠0 then a.accept else if a.accept.1.ctype=cE then(a.accept.1.enter 5,0) else(a.accept.1.enter 1,0)):=by show s.takeSum x=_;rw[j.o,N (λv=>v q)]
  clear j q;go_enter func39,ntmps39;go_wp2_with fail;refine o.o.mono ?_;rintro f c8 ⟨rfl,h,A,B,b2,b3⟩;have c9:=A.at (i:=d+2) O B.number;have d0:=A.at (i:=d+5) O B.sum;rw[a8.o] at c9;rw[a9.o] at d0;have M:Z _:=A;have P:Z _:=B;have Q:Z _:=b2;have R:Z _:=b3;clear A B b2 b3 o;by_cases y:k=p
  .have d1:((k:Int)!=(p:Int))=false:=by rw[Xx];omega
   have t:Z (s.takeSum x=if a.accept.2≠0 then a.accept else if a.accept.1.ctype=cE then(a.accept.1.enter 5,0) else(a.accept.1.enter 1,0)):=by show s.takeSum x=_;rw[r.o,N (λv=>v y)]
   replace y:Z _:=y;clear r;go_wp2_with fail;go_quiet ((go_at_call 54;exact Xu (L.o _)))
   go_wp2_with fail;refine(G.o _ h (M.o.kept ((Kept.refl _).drewN _)) P.o).mono ?_;rintro f b4 ⟨rfl,S,T,V,b5,b6⟩;have W:Z _:=T;have C:Z _:=V;have X:Z _:=Q.o.trans b5;have Y:Z _:=(R.o.kept ((Kept.refl _).drewN _)).trans b6;have d2:=T.at (i:=d+4) O V.ctype;clear T V b5 b6 G M P Q R;obtain⟨l,a0⟩:∃l,l=a.accept.2:=⟨_,rfl⟩;obtain⟨e,a1⟩:∃e,e=a.accept.1:=⟨_,rfl⟩;have b7:a.accept=(e,l):=by rw[a0,a1]
   rw[b7] at t;rw[<-a1] at C d2;rw[<-a0];clear a0 a1 b7;by_cases D:l=0
   .have d3:((l:Int)!=0)=false:=by rw[Xx];omega
    have E:Z (s.takeSum x=if e.ctype=cE then(e.enter 5,0) else(e.enter 1,0)):=by show s.takeSum x=_;rw[t.o,N (λv=>v D)]
    replace D:Z _:=D;clear t;by_cases m:e.ctype=cE
    .have a2:Z (s.takeSum x=(e.enter 5,0)):=by show s.takeSum x=_;rw[E.o,I m]
     have b8:((e.ctype:Int)==1229278788)=true:=by rw[XI,m];rfl
     replace m:Z _:=m;go_wp2_with fail;refine(iz b d n 5 S e b4 W.o C.o z).mono ?_;rintro f d4 ⟨rfl,a3⟩;go_wp2_with fail;go_ret;rw[a2.o];exact⟨rfl,aM.next X.o Y.o a3⟩
    .have a2:Z (s.takeSum x=(e.enter 1,0)):=by show s.takeSum x=_;rw[E.o,N m]
     have b8:=cty e cE m;clear m;unfold cE at b8;go_wp2_with fail;refine(iz b d n 1 S e b4 W.o C.o z).mono ?_;rintro f d4 ⟨rfl,a3⟩;go_wp2_with fail;go_ret;rw[a2.o];exact⟨rfl,aM.next X.o Y.o a3⟩
   .have d3:((l:Int)!=0)=true:=by rw[XJ];omega
    have E:Z (s.takeSum x=(e,l)):=by show s.takeSum x=_;rw[t.o,I D]
    go_wp2_with fail;go_ret;rw[E.o];exact⟨rfl,S,W.o,C.o,X.o,Y.o⟩
  .have d1:((k:Int)!=(p:Int))=true:=by rw[XJ];omega
   have t:Z (s.takeSum x=(a,6)):=by show s.takeSum x=_;rw[r.o,I y]
   clear y r;go_wp2_with fail;go_quiet ((go_at_call 54;exact Xu (L.o _)))
   go_wp2_with fail;go_ret;rw[t.o];exact⟨rfl,h,M.o.kept ((Kept.refl _).drewN _),P.o,Q.o,R.o.kept ((Kept.refl _).drewN _)⟩
 .rw[J q] at o
  have r:Z (s.takeSum x=(a,0)):=by show s.takeSum x=_;rw[j.o,I q]
  clear j q;go_enter func39,ntmps39;go_wp2_with fail;refine o.o.mono ?_;rintro f c8 ⟨rfl,H⟩;go_wp2_with fail;go_ret;rw[r.o];exact⟨rfl,H⟩
def Rd.take(s:Rd)(x:Nat):Rd×Nat:=
 if s.part=0 then s.takeSign x
 else if s.part=1 then s.takeLength x
 else if s.part=2 then s.takeType x
 else if s.part=3 then s.takeData x
 else if s.part=4 then s.takeSum x
 else(s,22)
structure y6 (s:Rd) (x:Nat):Prop where
 part:s.part<=5
 taken:s.part≠3->s.taken<1000
 number:s.part=1\/s.part=2\/s.part=4->s.number<16777216
 sum:s.sum<4294967296
 typ:s.part=2->JW (s.typed x)
 hd:Gs s
 keep:s.part=3->y9 (s.summed x) x
 tk:s.part=3->((s.summed x).keep x).1.taken<2147483648
 raw:∀i,s.raw i<256
 clear:∀j,s.tl.clear j<256
theorem Hn b o n x c s w(e:Blk w b n c)(f:RdV c o s)(q:o+5954<=n)(r:x<256)(a:y6 s x)(k:bC w)(u:NT b):Calls prog 23 #[.pointer (some ⟨b,o,none⟩),.int .u8 x] w λl v=>l=.returned (.int .i64 ((s.take x).2:Int))/\aM b o n c (s.take x).1 w v:=by
 have m:=e.at (i:=o) O f.part;have y:Z _:=e;have z:Z _:=f;have p:=a.part;have A:s.part=0\/s.part=1\/s.part=2\/s.part=3\/s.part=4\/s.part=5:=O;rcases A with d|d|d|d|d|d
 .have g:Z (s.take x=s.takeSign x):=by show s.take x=_;unfold Rd.take;rw[I d]
  have h:=U (Bo b o n x c s w e f q (a.taken O) r);rw[d] at m;clear d p a e f k;go_enter func23,ntmps23;go_wp2_with fail;refine h.o.mono ?_;rintro l t ⟨rfl,j⟩;go_wp2_with fail;go_ret;rw[g.o];exact⟨rfl,j⟩
 .have g:Z (s.take x=s.takeLength x):=by show s.take x=_;unfold Rd.take;rw[N,I d]
  have h:=U (xU b o n x c s w e f q (a.taken O) (a.number O) r);rw[d] at m;clear d p a e f k;go_enter func23,ntmps23;go_wp2_with fail;refine h.o.mono ?_;rintro l t ⟨rfl,j⟩;go_wp2_with fail;go_ret;rw[g.o];exact⟨rfl,j⟩
 .have g:Z (s.take x=s.takeType x):=by show s.take x=_;unfold Rd.take;rw[N,N,I d]
  have h:=U (Bm b o n x c s w e f q (a.taken O) (a.number O) r a.sum (a.typ d) a.hd k.grd u.grd);rw[d] at m;clear d p a e f k;go_enter func23,ntmps23;go_wp2_with fail;refine h.o.mono ?_;rintro l t ⟨rfl,j⟩;go_wp2_with fail;go_ret;rw[g.o];exact⟨rfl,j⟩
 .have g:Z (s.take x=s.takeData x):=by show s.take x=_;unfold Rd.take;rw[N,N,N,I d]
  have h:=U (BD b o n x c s w e f q r a.sum (a.keep d) (a.tk d) k u);rw[d] at m;clear d p a e f k;go_enter func23,ntmps23;go_wp2_with fail;refine h.o.mono ?_;rintro l t ⟨rfl,j⟩;go_wp2_with fail;go_ret;rw[g.o];exact⟨rfl,j⟩
 .have g:Z (s.take x=s.takeSum x):=by show s.take x=_;unfold Rd.take;rw[N,N,N,N,I d]
  have h:=U (zQ b o n x c s w e f q (a.taken O) (a.number O) r a.sum a.raw a.hd.D a.hd.K a.clear);rw[d] at m;clear d p a e f k;go_enter func23,ntmps23;go_wp2_with fail;refine h.o.mono ?_;rintro l t ⟨rfl,j⟩;go_wp2_with fail;go_ret;rw[g.o];exact⟨rfl,j⟩
 .have g:Z (s.take x=(s,22)):=by show s.take x=_;unfold Rd.take;rw[N,N,N,N,N]
  rw[d] at m;clear d p a e f k;go_enter func23,ntmps23;go_wp2_with fail;go_ret;rw[g.o];exact⟨rfl,aM.refl y.o z.o⟩
def ag(s:ByteArray):List Nat:=s.data.toList.map UInt8.toNat
theorem az s:(ag s).length=s.size:=by unfold ag;simp
theorem lG s k(h:k<s.size):(ag s)[k]'(by rw[az];exact h)=s[k].toNat:=by
 unfold ag;simp;rfl
theorem da s:∀b∈ag s,b<256:=by
 intro b a;unfold ag at a;rw[YP] at a;obtain⟨c,_,rfl⟩:=a;exact c.toNat_lt
theorem take_snoc' s k(h:k<s.size):(ag s).take (k+1)=(ag s).take k++[s[k].toNat]:=by
 rw[XM (by rw[az];exact h),lG s k h]
def Dc.one(d:Dc)(x:Nat):Dc:=if d.err≠0 then d else if(d.file.take x).2≠0 then {d with file:=(d.file.take x).1,err:=(d.file.take x).2,at1:=d.count} else {d with file:=(d.file.take x).1,count:=d.count+1}
def Dc.feed(d:Dc)(l:List Nat):Dc:=l.foldl Dc.one d
theorem Fi(d:Dc)l x:d.feed (l++[x])=(d.feed l).one x:=by unfold Dc.feed;rw[Yk];rfl
theorem rU(d:Dc)l m:d.feed (l++m)=(d.feed l).feed m:=by unfold Dc.feed;rw[Yk]
theorem lB{d:Dc}(h:d.err≠0):∀a,d.feed a=d
 | []=>rfl
 | x::a=>by
  show Dc.feed (d.one x) a=d
  rw[show d.one x=d from by unfold Dc.one;rw[I h]];exact lB h a
def nU(b n:Nat)(d':Dc)(w w':World):Prop:=∃e,Blk w' b n e/\DcV e 0 d'/\Fr1 b w w'
theorem aM.dc{b n c D S w w1 w'}(h:DcV c 0 D)(a:Fr1 b w w1)(k:aM b 0 n c S w1 w'):nU b n {D with file:=S} w w':=by
 obtain⟨d,e,f,g,i⟩:=k;exact⟨d,e,h.set_file S f (λj l=>g.o j O),a.trans i⟩
def vd(d:Dc)(l:List Nat):Prop:=∀k x,l[k]? = some x->(d.feed (l.take k)).err=0->y6 (d.feed (l.take k)).file x/\(d.feed (l.take k)).count<=4294967296
theorem I3(b n e:Nat)c D w(a:Blk w b n c)(d:DcV c 0 D)(l:5957<=n):Calls prog 24 #[.pointer (some ⟨b,0,none⟩),.int .i64 e] w λf g=>f=.returned (.tuple #[])/\nU b n {D with err:=e,at1:=D.count} w g:=by
 have m:=a.at (i:=5954) O d.count;have o:=a.at (i:=5955) O d.err;have p:=a.at (i:=5956) O d.at1;have q:=a.fz;have h:Z _:=a;have j:Z _:=d;clear a d;go_enter func24,ntmps24;go_wp2;go_end0
 exact⟨rfl,_,(h.o.set (k:=5955) O _).set (k:=5956) O _,(j.o.set_err e).set_at1 D.count,Fr1.set (Fr1.set (Fr.refl _ _) _ _) _ _⟩
theorem Nb b n t c d w(J:Blk w b n c)(K:DcV c 0 d)(b7:5957<=n)(L:vd d (ag t))(d4:t.size<=2147483648)(M:bC w)(P:NT b):Calls prog 14 #[.pointer (some ⟨b,0,none⟩),.string t] w λo y=>o=.returned (.tuple #[.int .i64 ((d.feed (ag t)).err:Int),.int .i64 ((d.feed (ag t)).at1:Int)])/\nU b n (d.feed (ag t)) w y:=by
 have b8:Z (∀f,Fr1 b w f->bC f):=λf b9=>M.fr b9 P
 have c0:=U L;have Q:Z (nU b n (d.feed ((ag t).take 0)) w w):=⟨c,J,K,Fr.refl _ _⟩;clear J K L M;go_enter func14,ntmps14;go_wp2_with fail;go_loopg [6,7] t.size (λc1 c2 d5 f=>∃a:Nat,c1=t.size-a/\a<=t.size/\c2=.int .i64 a/\nU b n (d.feed ((ag t).take a)) w f)
 case atStart=>exact⟨0,O,O,rfl,Q.o⟩
 case round=>
  obtain⟨a,z,d6,rfl,o,R,S,T⟩:=hrel;replace z:Z _:=z;clear Q;have h:Z _:=R;have g:Z _:=S;have p:Z _:=T;clear R S T;by_cases V:a<t.size
  .have A:Z (d.feed ((ag t).take (a+1))=(d.feed ((ag t).take a)).one t[a].toNat):=by
    show d.feed ((ag t).take (a+1))=_
    rw[take_snoc' t a V,Fi]
   have c3:(a:Int)<(t.size:Int):=O;have q:=c0.o a t[a].toNat (by rw[<-lG t a V];exact Xt _);have W:Z (d.feed (ag t)=(d.feed ((ag t).take a)).feed ((ag t).drop a)):=by show d.feed (ag t)=_;rw[<-rU,X7]
   have c4:Z (d.feed (ag t)=(d.feed ((ag t).take (a+1))).feed ((ag t).drop (a+1))):=by show d.feed (ag t)=_;rw[<-rU,X7]
   obtain⟨e,X⟩:∃e,e=d.feed ((ag t).take a):=⟨_,rfl⟩;rw[<-X] at g A q W;clear X;have Y:=h.o.at (i:=5955) O g.o.err;replace q:Z _:=q;by_cases l:e.err=0
   .have c5:((e.err:Int)==0)=true:=by rw[XI];omega
    obtain⟨a0,d7⟩:=q.o l;have B:Z (∀f,Kept wr f->Calls prog 23 #[.pointer (some ⟨b,0,none⟩),.int .u8 (t[a].toNat:Int)] f λC y=>C=.returned (.int .i64 ((e.file.take t[a].toNat).2:Int))/\aM b 0 n o (e.file.take t[a].toNat).1 f y):=λf a1=>Hn b 0 n _ o e.file f (h.o.kept a1) g.o.file O (t[a].toNat_lt) a0 (b8.o _ (p.o.kept a1)) P
    have D:Z (e.one t[a].toNat=if(e.file.take t[a].toNat).2≠0 then {e with file:=(e.file.take t[a].toNat).1,err:=(e.file.take t[a].toNat).2,at1:=e.count} else {e with file:=(e.file.take t[a].toNat).1,count:=e.count+1}):=by show e.one t[a].toNat=_;unfold Dc.one;rw[N (λE=>E l)]
    replace l:Z _:=l;clear a0 q;obtain⟨j,a2⟩:∃j,j=(e.file.take t[a].toNat).2:=⟨_,rfl⟩;obtain⟨r,a3⟩:∃r,r=(e.file.take t[a].toNat).1:=⟨_,rfl⟩;rw[<-a2,<-a3] at B D;clear a2 a3;go_wp2_with fail;go_region_held3 (λf=>True) (trivial) ((go_at_call 23;refine(B.o _ ((Kept.refl _).drewN 1)).mono ?_;rintro C a4 ⟨rfl,a5⟩))
    obtain⟨c6,u,G,a6⟩:=aM.dc g.o (Fr1.drewN (Fr.refl _ _) 1) a5;have a7:Z _:=u;have a8:Z _:=G;have a9:Z _:=p.o.trans a6;have b0:=u.at (i:=5954) O G.count;have d8:=u.fz 5954;replace b0:a4.cell? ⟨b,5954,none⟩=some (.int .i64 e.count):=b0;clear u G a6 a5 B h g p Y;by_cases m:j=0
    .have c7:((j:Int)!=0)=false:=by rw[Xx];omega
     obtain⟨s,b1⟩:∃s,s=e.count+1:=⟨_,rfl⟩;have d9:(e.count:Int)+1=(s:Int):=O;have c8:Z (e.one t[a].toNat={e with file:=r,count:=s}):=by show e.one t[a].toNat=_;rw[D.o,N (λE=>E m),b1]
     replace m:Z _:=m;clear b1;go_wp2_with fail;go_roundg (t.size-(a+1))
     case measure=>rw[z.o];omega
     case rel=>
      refine⟨a+1,rfl,O,Xj,?_⟩;rw[A.o,c8.o];exact⟨_,a7.o.set (k:=5954) O _,a8.o.set_count s,Fr1.set a9.o _ _⟩
    .have c7:((j:Int)!=0)=true:=by rw[XJ];omega
     have H:Z (d.feed (ag t)={e with file:=r,err:=j,at1:=e.count}):=by
      show d.feed (ag t)=_
      rw[c4.o,A.o,D.o,I m,lB m]
     replace m:Z _:=m;go_wp2_with fail;refine(I3 b n j c6 {e with file:=r} a4 a7.o a8.o b7).mono ?_;rintro C b2 ⟨rfl,c9,v,x,b3⟩;have b4:=v.at (i:=5955) O x.err;have b5:=v.at (i:=5956) O x.at1;replace b4:b2.cell? ⟨b,5955,none⟩=some (.int .i64 j):=b4;replace b5:b2.cell? ⟨b,5956,none⟩=some (.int .i64 e.count):=b5;have d0:Z _:=v;have d1:Z _:=x;have d2:Z _:=a9.o.trans b3;clear v x b3;go_wp2_with fail;go_quiet (fail);go_wp2_with fail;go_ret2;rw[H.o];exact⟨rfl,c9,d0.o.kept ((Kept.refl _).drewN _),d1.o,d2.o.kept ((Kept.refl _).drewN _)⟩
   .have c5:((e.err:Int)==0)=false:=by rw[F];omega
    have H:Z (d.feed (ag t)=e):=by show d.feed (ag t)=e;rw[W.o,lB l]
    have d3:=h.o.at (i:=5956) O g.o.at1;replace l:Z _:=l;go_wp2_with fail;go_quiet (fail);go_wp2_with fail;go_ret2;rw[H.o];exact⟨rfl,o,h.o.kept ((Kept.refl _).drewN _),g.o,p.o.kept ((Kept.refl _).drewN _)⟩
  .have c3:¬(a:Int)<(t.size:Int):=O
   have b6:(ag t).take a=ag t:=X6 (by rw[az];omega);rw[b6] at g;have Y:=h.o.at (i:=5955) O g.o.err;have d3:=h.o.at (i:=5956) O g.o.at1;clear b6;go_wp2_with fail;go_quiet (fail);go_wp2_with fail;go_ret2;exact⟨rfl,o,h.o.kept ((Kept.refl _).drewN _),g.o,p.o.kept ((Kept.refl _).drewN _)⟩
def hd0:Hd:=⟨0,0,0,0,0⟩
def rwN:Rw:=⟨hd0,0,0,0,0,0,0,0,0,λ_=>0,λ_=>0,λ_=>false,λ_=>0⟩
def tl0:Tl:=⟨λ_=>0,λ_=>0,0,0⟩
def rd0:Rd:=⟨0,0,0,0,0,0,hd0,λ_=>0,tl0,st0 0,rwN,false,false,false,false⟩
def dc0:Dc:=⟨rd0,0,0,0⟩
def dcA:List Value:=[.int .i64 0,.int .u32 0,.int .u32 0,.int .u32 0,.int .u32 0,.int .u32 0,.int .i64 0,.int .i64 0,.int .i64 0,.int .i64 0,.int .i64 0]
def dcB:List Value:=List.replicate 1037 (.int .u8 0)
def dcC:List Value:=[.int .i64 0,.int .i64 0]
def dcD:List Value:=stH++(stT++[.int .i64 0,.int .u32 0])
def dcE:List Value:=List.replicate 12 (.int .i64 0)++iy
def dcF:List Value:=[.bool false,.bool false,.bool false,.bool false,.int .i64 0,.int .i64 0,.int .i64 0]
theorem ze:zeroCells74.toList=dcA++(dcB++(dcC++(dcD++(dcE++dcF)))):=Xk
theorem tH:dcD.length=3351:=by
 unfold dcD;rw[Xv,Xv,lQ,show stH.length=10 from rfl];simp only[Yj,List.length_nil]
theorem yJ:dcE.length=1549:=by unfold dcE;rw[Xv,tU,XE]
theorem qf:dcB.length=1037:=XE ..
theorem G0:zeroCells74.size=5957:=by
 rw[<-Array.length_toList,ze,Xv,Xv,Xv,Xv,Xv,qf,tH,yJ,show dcA.length=11 from rfl,show dcC.length=2 from rfl,show dcF.length=7 from rfl]
theorem N8:RwV (λj=>dcE.getD j undef) 0 rwN:=by
 have f:(List.replicate 12 (Value.int .i64 0)).length=12:=XE ..;have b:∀a,a<12->dcE.getD a undef=.int .i64 0:=λa c=>cR _ _ _ _ c
 have d:∀a j e,a=12+j->iy.getD j undef=e->dcE.getD a undef=e:=λa j e c g=>by rw[c];exact(ay _ _ 12 j f).trans g
 exact⟨⟨b 0 O,b 1 O,b 2 O,b 3 O,b 4 O⟩,b 5 O,b 6 O,b 7 O,b 8 O,b 9 O,b 10 O,b 11 O,d 12 0 _ rfl (gG 0 O),λa c=>d _ (1+a) _ O (gG _ O),λa c=>d _ (129+a) _ O (gG _ O),λa c=>d _ (257+a) _ O (wC _ c),λa c=>d _ (257+(256+a)) _ O (tT _ c)⟩
theorem Oq:DcV (λi=>zeroCells74.getD i undef) 0 dc0:=by
 obtain⟨b,e⟩:∃b,b=zeroCells74.toList:=⟨_,rfl⟩;have o:∀i,zeroCells74.getD i undef=b.getD i undef:=λi=>by
  rw[e,Ys,G,Array.getElem?_toList]
 rw[ze] at e;rw[(funext o)];have h:dcA.length=11:=rfl;have f:dcC.length=2:=rfl;have c:∀i d,i<11->dcA.getD i undef=d->b.getD i undef=d:=λi d l j=>by rw[e];exact(dR _ _ i (by rw[h];exact l)).trans j
 have m:∀i,11<=i->i<1048->b.getD i undef=.int .u8 0:=λi p f=>by
  rw[e,show i=11+(i-11) from O];exact(ay _ _ 11 _ h).trans (cR _ _ _ _ O)
 have q:∀a d,a<2->dcC.getD a undef=d->b.getD (1048+a) undef=d:=λa d k j=>by
  rw[e,show 1048+a=11+(1037+a) from O];exact(ay _ _ 11 _ h).trans ((ay _ _ 1037 _ qf).trans ((dR _ _ a (by rw[f];exact k)).trans j))
 have r:∀a,a<3351->b.getD (1050+a) undef=dcD.getD a undef:=λa k=>by
  rw[e,show 1050+a=11+(1037+(2+a)) from O];exact(ay _ _ 11 _ h).trans ((ay _ _ 1037 _ qf).trans ((ay _ _ 2 _ f).trans (dR _ _ a (by rw[tH];exact k))))
 have s:∀a,a<1549->b.getD (4401+a) undef=dcE.getD a undef:=λa k=>by
  rw[e,show 4401+a=11+(1037+(2+(3351+a))) from O];exact(ay _ _ 11 _ h).trans ((ay _ _ 1037 _ qf).trans ((ay _ _ 2 _ f).trans ((ay _ _ 3351 _ tH).trans (dR _ _ a (by rw[yJ];exact k)))))
 have g:∀a d,dcF.getD a undef=d->b.getD (5950+a) undef=d:=λa d j=>by
  rw[e,show 5950+a=11+(1037+(2+(3351+(1549+a)))) from O];exact(ay _ _ 11 _ h).trans ((ay _ _ 1037 _ qf).trans ((ay _ _ 2 _ f).trans ((ay _ _ 3351 _ tH).trans ((ay _ _ 1549 _ yJ).trans j))))
 clear e o;have t:StV (λi=>b.getD i undef) 1050 (st0 0):=by
  have n:=(GW 0).shift (λi=>b.getD i undef) 1050;exact n.congr (λi p f=>by
   obtain⟨a,rfl⟩:∃a,i=1050+a:=⟨i-1050,O⟩;show b.getD (1050+a) undef=_
   rw[dq O,r a O]
   rfl)
 have u:RwV (λi=>b.getD i undef) 4401 rwN:=by
  have n:=N8.shift (λi=>b.getD i undef) 4401;exact n.congr (λi p f=>by
   obtain⟨a,rfl⟩:∃a,i=4401+a:=⟨i-4401,O⟩;show b.getD (4401+a) undef=_
   rw[dq O,s a O])
 refine⟨⟨c 0 _ O rfl,c 1 _ O rfl,c 2 _ O rfl,c 3 _ O rfl,c 4 _ O rfl,c 5 _ O rfl,⟨c 6 _ O rfl,c 7 _ O rfl,c 8 _ O rfl,c 9 _ O rfl,c 10 _ O rfl⟩,λi l=>m _ O O,⟨λi l=>m _ O O,λi l=>m _ O O,q 0 _ O rfl,q 1 _ O rfl⟩,?_,?_,g 0 _ rfl,g 1 _ rfl,g 2 _ rfl,g 3 _ rfl⟩,g 4 _ rfl,g 5 _ rfl,g 6 _ rfl⟩
 .exact t
 .exact u
theorem Og w:Calls prog 8 #[] w λd b=>d=.returned (.pointer (some ⟨w.heap.size,0,none⟩))/\∃c,Blk b w.heap.size 5957 c/\DcV c 0 dc0/\Kept w b:=by
 have a:=Blk.new w zeroCells74 74 5957 G0;replace a:Z _:=a;go_enter func8,ntmps8;go_wp2;go_ret;exact⟨rfl,_,a.o,Oq,Xw (Xs _ _) (E _) _⟩
theorem IV:Gs rd0:=⟨Xh,Xh,Xh,Xh,Xh⟩
theorem take1{s:Rd}(h:s.part=1)x:s.take x=s.takeLength x:=by unfold Rd.take;rw[N,I h]
theorem take2{s:Rd}(h:s.part=2)x:s.take x=s.takeType x:=by unfold Rd.take;rw[N,N,I h]
theorem take3{s:Rd}(h:s.part=3)x:s.take x=s.takeData x:=by unfold Rd.take;rw[N,N,N,I h]
theorem zt{s:Rd}(h:s.part=4)x:s.take x=s.takeSum x:=by unfold Rd.take;rw[N,N,N,N,I h]
def lnS(s:Rd)(n:Nat):Rd:={s with part:=2,taken:=0,number:=0,length:=n,sum:=ax}
def tyS(s:Rd)(T S:Nat):Rd:={s with sum:=S,number:=T,taken:=4,ctype:=T}
theorem II{s:Rd}{x}(h:s.ctype=aQ):s.keep x=({s with raw:=upd s.raw s.taken x},0):=by unfold Rd.keep;rw[I h]
theorem IJ{s:Rd}{x:Nat}(h:s.ctype=bE):s.keep x=({s with tl:={s.tl with pal:=upd s.tl.pal s.taken x}},0):=by unfold Rd.keep;rw[N (by rw[h];decide),I h]
theorem IK{s:Rd}{x:Nat}(h:s.ctype=bB):s.keep x=({s with tl:={s.tl with clear:=upd s.tl.clear s.taken x}},0):=by unfold Rd.keep;rw[N (by rw[h];decide),N (by rw[h];decide),I h]
theorem EU{s:Rd}{x}(h:s.ctype=aG):s.keep x=s.takeStream x:=by unfold Rd.keep;rw[N (by rw[h];decide),N (by rw[h];decide),N (by rw[h];decide),I h]
