import Derived.Test.YtbedkdnphobmlaaGreatDoorProg
import Derived.Deep.RegionHeld3
import Derived.Test.YtbedkdnphobmlaaGreatDoorUaa00
import Derived.Test.YtbedkdnphobmlaaGreatDoorUaa01
import Derived.Test.YtbedkdnphobmlaaGreatDoorUaa02
import Derived.Test.YtbedkdnphobmlaaGreatDoorUaa03
import Derived.Test.YtbedkdnphobmlaaGreatDoorUaa04
import Derived.Test.YtbedkdnphobmlaaGreatDoorUaa07
import Derived.Test.YtbedkdnphobmlaaGreatDoorUaa09
import Derived.Test.YtbedkdnphobmlaaGreatDoorUaa10
set_option linter.all false
set_option maxRecDepth 100000
set_option maxHeartbeats 0
namespace Go.Proofs.YtbedkdnphobmlaaGreatDoor
open Go.RowKit Px Tryz
def St.setRep(s:St)(σ:Int):St:={s with tb:={s.tb with rep:=σ}}
def St.codeLen(s:St)(σ:Int):St×Nat:=
 if σ = -1 then(s.setRep σ,0) else if σ = -2 then(s.setRep σ,13)
 else if σ=16 then(if s.tb.told=0 then(s.setRep σ,12) else((s.setRep σ).enter 6 2,0))
 else if σ=17 then((s.setRep σ).enter 6 3,0) else if σ=18 then((s.setRep σ).enter 6 7,0)
 else(s.setRep σ).lay σ.toNat 1
def St.repeat(s:St)(v:Nat):St×Nat:=
 if s.tb.rep=17 then s.lay 0 (v+3) else if s.tb.rep=18 then s.lay 0 (v+11)
 else if s.tb.told<1 then(s,12) else s.lay (s.tb.ls (s.tb.told-1)) (v+3)
theorem ak.enterTo{b a n p k:Nat}{c s w W}(h:ak b a n c s w W)(f:a+3351<=n):Calls prog 165 #[.pointer (some ⟨b,a,none⟩),.int .i64 p,.int .u64 k] W λd e=>d=.returned (.tuple #[])/\ak b a n c (s.enter p k) w e:=by
 obtain⟨g,i,j,l,m⟩:=h;refine(bn b a n p k g s W i j f).mono ?_;rintro d e ⟨rfl,o,q,r,t,u⟩;exact⟨rfl,o,q,r,l.trans t,m.trans u⟩
theorem ak.layTo{b a n x k:Nat}{c s w W}(h:ak b a n c s w W)(f:a+3351<=n)(g:x<256)(i:k<=1000)(j:iE s.tb):Calls prog 202 #[.pointer (some ⟨b,a,none⟩),.int .u8 x,.int .i64 k] W λd e=>d=.returned (.int .i64 ((s.lay x k).2:Int))/\ak b a n c (s.lay x k).1 w e:=by
 obtain⟨l,m,o,p,q⟩:=h;refine(yN b a n x k l s W m o f g i j).mono ?_;rintro d e ⟨rfl,r,t,u,v,y⟩;exact⟨rfl,r,t,u,p.trans v,q.trans y⟩
theorem zj b o n σ c s w(C:Blk w b n c)(D:StV c o s)(k:o+3351<=n)(P : -2<=σ)(Q:σ<=18)(e:iE s.tb):Calls prog 187 #[.pointer (some ⟨b,o,none⟩),.int .i64 σ] w λa d=>a=.returned (.int .i64 ((s.codeLen σ).2:Int))/\ak b o n c (s.codeLen σ).1 w d:=by
 have z:=ak.refl C D;obtain⟨-,-,-,-,R,-,-,S⟩:=z.tbc k;have f:ak b o n c (s.setRep σ) w (w.setCell ⟨b,o+623+645,none⟩ (.int .i64 σ)):=z.rep k σ;obtain⟨-,-,-,H,-,-,-,-⟩:=f.tbc k;have E:(s.setRep σ).tb.told=s.tb.told:=rfl;have J:Z (iE (s.setRep σ).tb):=⟨e.l1,e.l2,e.d1,e.d2,e.td,e.ls⟩;rw[E] at H;have r:Z (s.codeLen σ=if σ = -1 then(s.setRep σ,0) else if σ = -2 then(s.setRep σ,13) else if σ=16 then(if s.tb.told=0 then(s.setRep σ,12) else((s.setRep σ).enter 6 2,0)) else if σ=17 then((s.setRep σ).enter 6 3,0) else if σ=18 then((s.setRep σ).enter 6 7,0) else(s.setRep σ).lay σ.toNat 1):=rfl;replace f:Z (ak b o n c (s.setRep σ) w (w.setCell ⟨b,o+623+645,none⟩ (.int .i64 σ))):=f;generalize s.setRep σ=l at *;generalize s.codeLen σ=K at *;have T:s.tb.told<=316:=by have:=e.td;have:=e.l2;have:=e.d2;omega
 generalize s.tb.told=G at *;clear C D z e E;by_cases g:σ = -1
 .have t:Z _:=r.o.trans (I g)
  subst g;go_enter func187,ntmps187;go_wp2;go_ret;rw[t.o];exact⟨rfl,f.o⟩
 have U:(σ == -1)=false:=by rw[F];exact g
 by_cases j:σ = -2
 .have t:Z _:=r.o.trans ((N g).trans (I j))
  subst j;go_enter func187,ntmps187;go_wp2;go_ret;rw[t.o];exact⟨rfl,f.o⟩
 have V:(σ == -2)=false:=by rw[F];exact j
 by_cases m:σ=16
 .have t:Z _:=r.o.trans ((N g).trans ((N j).trans (I m)))
  subst m;by_cases x:G=0
  .have h:Z _:=t.o.trans (I x)
   subst x;go_enter func187,ntmps187;go_wp2;go_ret;rw[h.o];exact⟨rfl,f.o⟩
  .have h:Z _:=t.o.trans (N x)
   have W:((G:Int)==0)=false:=Xa;have p:Z (Calls prog 165 #[.pointer (some ⟨b,o,none⟩),.int .i64 ((6:Nat):Int),.int .u64 ((2:Nat):Int)] _ λa d=>a=.returned (.tuple #[])/\ak b o n c (l.enter 6 2) w d):=f.o.enterTo k;clear x;go_enter func187,ntmps187;go_wp2_with fail;refine(uJ _).mono ?_;rintro a wr ⟨rfl,A⟩;subst wr;go_wp2_with fail;refine p.o.mono ?_;rintro a B ⟨rfl,q⟩;go_wp2;go_ret;rw[h.o];exact⟨rfl,q⟩
 have X:(σ==16)=false:=by rw[F];exact m
 by_cases u:σ=17
 .have h:Z _:=r.o.trans ((N g).trans ((N j).trans ((N m).trans (I u))))
  subst u;have p:Z (Calls prog 165 #[.pointer (some ⟨b,o,none⟩),.int .i64 ((6:Nat):Int),.int .u64 ((3:Nat):Int)] _ λa d=>a=.returned (.tuple #[])/\ak b o n c (l.enter 6 3) w d):=f.o.enterTo k;go_enter func187,ntmps187;go_wp2_with fail;refine(Aa _).mono ?_;rintro a wr ⟨rfl,A⟩;subst wr;go_wp2_with fail;refine p.o.mono ?_;rintro a B ⟨rfl,q⟩;go_wp2;go_ret;rw[h.o];exact⟨rfl,q⟩
 have Y:(σ==17)=false:=by rw[F];exact u
 by_cases v:σ=18
 .have h:Z _:=r.o.trans ((N g).trans ((N j).trans ((N m).trans ((N u).trans (I v)))))
  subst v;have p:Z (Calls prog 165 #[.pointer (some ⟨b,o,none⟩),.int .i64 ((6:Nat):Int),.int .u64 ((7:Nat):Int)] _ λa d=>a=.returned (.tuple #[])/\ak b o n c (l.enter 6 7) w d):=f.o.enterTo k;go_enter func187,ntmps187;go_wp2_with fail;refine(z9 _).mono ?_;rintro a wr ⟨rfl,A⟩;subst wr;go_wp2_with fail;refine p.o.mono ?_;rintro a B ⟨rfl,q⟩;go_wp2;go_ret;rw[h.o];exact⟨rfl,q⟩
 have a0:(σ==18)=false:=by rw[F];exact v
 obtain⟨i,L⟩:∃i:Nat,σ=(i:Int):=⟨σ.toNat,O⟩;subst L;have h:Z (K=l.lay i 1):=r.o.trans ((N g).trans ((N j).trans ((N m).trans ((N u).trans (N v)))));have p:Z (Calls prog 202 #[.pointer (some ⟨b,o,none⟩),.int .u8 i,.int .i64 ((1:Nat):Int)] _ λa d=>a=.returned (.int .i64 ((l.lay i 1).2:Int))/\ak b o n c (l.lay i 1).1 w d):=f.o.layTo k O O J.o;generalize l.lay i 1=a1 at *;have M:Z (∀y,Calls prog 195 #[.int .i64 i] y λa d=>a=.returned (.tuple #[.int .i64 1,.int .i64 0])/\d=y):=λy=>IQ i y O O O
 clear g j m u v;go_enter func187,ntmps187;go_wp2_with fail;refine(M.o _).mono ?_;rintro a wr ⟨rfl,A⟩;subst wr;go_wp2_with fail;refine p.o.mono ?_;rintro a B ⟨rfl,q⟩;go_wp2;go_ret;rw[h.o];exact⟨rfl,q⟩
theorem Ab(b d n v:Nat)c s w(M:Blk w b n c)(P:StV c d s)(x:d+3351<=n)(a1:v<256)(k:s.tb.rep=16\/s.tb.rep=17\/s.tb.rep=18)(l:iE s.tb):Calls prog 213 #[.pointer (some ⟨b,d,none⟩),.int .u32 v] w λa i=>a=.returned (.int .i64 ((s.repeat v).2:Int))/\ak b d n c (s.repeat v).1 w i:=by
 have B:=ak.refl M P;obtain⟨-,-,-,a2,C,-,m,a3⟩:=B.tbc x;have o:Z (s.repeat v=if s.tb.rep=17 then s.lay 0 (v+3) else if s.tb.rep=18 then s.lay 0 (v+11) else if s.tb.told<1 then(s,12) else s.lay (s.tb.ls (s.tb.told-1)) (v+3)):=rfl;generalize s.repeat v=a4 at *;have y:Z (ak b d n c s w w):=B;have z:Z _:=l;have a5:s.tb.told<=316:=by have:=l.td;have:=l.l2;have:=l.d2;omega
 obtain⟨e,D⟩:∃E,E=v+3:=⟨_,rfl⟩;obtain⟨p,F⟩:∃E,E=v+11:=⟨_,rfl⟩;have a6:(3:Int)+(v:Int)=(e:Int):=O;have a7:(11:Int)+(v:Int)=(p:Int):=O;rw[<-D,<-F] at o;have Q:e<=1000:=O;replace D:Z _:=D;replace F:Z _:=F;clear M P B l;by_cases f:s.tb.rep=17
 .have g:Z _:=o.o.trans (I f)
  rw[f] at C;have q:Z (Calls prog 202 #[.pointer (some ⟨b,d,none⟩),.int .u8 ((0:Nat):Int),.int .i64 e] w λa i=>a=.returned (.int .i64 ((s.lay 0 e).2:Int))/\ak b d n c (s.lay 0 e).1 w i):=y.o.layTo x O Q z.o;generalize s.lay 0 e=R at *;clear f k m;go_enter func213,ntmps213;go_wp2_with fail;refine(Aa _).mono ?_;rintro a wr ⟨rfl,G⟩;subst wr;go_wp2_with fail;refine q.o.mono ?_;rintro a S ⟨rfl,r⟩;go_wp2;go_ret;rw[g.o];exact⟨rfl,r⟩
 by_cases h:s.tb.rep=18
 .have g:Z _:=o.o.trans ((N f).trans (I h))
  rw[h] at C;have q:Z (Calls prog 202 #[.pointer (some ⟨b,d,none⟩),.int .u8 ((0:Nat):Int),.int .i64 p] w λa i=>a=.returned (.int .i64 ((s.lay 0 p).2:Int))/\ak b d n c (s.lay 0 p).1 w i):=y.o.layTo x O O z.o;generalize s.lay 0 p=R at *;clear f h k m;go_enter func213,ntmps213;go_wp2_with fail;refine(z9 _).mono ?_;rintro a wr ⟨rfl,G⟩;subst wr;go_wp2_with fail;refine q.o.mono ?_;rintro a S ⟨rfl,r⟩;go_wp2;go_ret;rw[g.o];exact⟨rfl,r⟩
 have H:s.tb.rep=16:=by rcases k with t|t|t;exact t;exact absurd t f;exact absurd t h
 rw[H] at C;by_cases A:s.tb.told<1
 .have g:Z _:=o.o.trans ((N f).trans ((N h).trans (I A)))
  have V:(s.tb.told:Int)<1:=O;generalize s.tb.told=W at *;clear f h H k m A;go_enter func213,ntmps213;go_wp2_with fail;refine(uJ _).mono ?_;rintro a wr ⟨rfl,G⟩;subst wr;go_wp2;go_ret;rw[g.o];exact⟨rfl,y.o⟩
 .have g:Z _:=o.o.trans ((N f).trans ((N h).trans (N A)))
  have V:¬(s.tb.told:Int)<1:=O;have T:=m (s.tb.told-1) O;have U:=z.o.ls (s.tb.told-1);obtain⟨j,J⟩:∃j,j=s.tb.ls (s.tb.told-1):=⟨_,rfl⟩;rw[<-J] at T U g;obtain⟨u,K⟩:∃u,u=s.tb.told-1:=⟨_,rfl⟩;rw[<-K] at T;have a8:(s.tb.told:Int)-1=(u:Int):=O;have a9:(0:Int)<=(u:Int):=O;have b0:(u:Int)<316:=O;replace J:Z _:=J;replace K:Z _:=K;have q:Z (∀L,Kept w L->Calls prog 202 #[.pointer (some ⟨b,d,none⟩),.int .u8 j,.int .i64 e] L λa i=>a=.returned (.int .i64 ((s.lay j e).2:Int))/\ak b d n c (s.lay j e).1 w i):=λL X=>(y.o.kept X).layTo x U Q z.o
  generalize s.lay j e=R at *;generalize s.tb.told=W at *;clear f h H k m A;go_enter func213,ntmps213;go_wp2_with fail;refine(uJ _).mono ?_;rintro a wr ⟨rfl,G⟩;subst wr;go_wp2_with fail;go_quiet (fail);have Y:Z (Kept w (w.drewN nq)):=(Kept.refl w).drewN nq;generalize w.drewN nq=a0 at *;go_wp2_with fail;refine(q.o a0 Y.o).mono ?_;rintro a S ⟨rfl,r⟩;go_wp2;go_ret;rw[g.o];exact⟨rfl,r⟩
def St.lastIs(s:St)(v:Nat):St:={s with last:=decide (v%2=1)}
def St.block(s:St)(v:Nat):St:=if v/2=0 then s.block0 v else if v/2=1 then s.block1 v else if v/2=2 then(s.lastIs v).enter 4 14 else s.lastIs v
def dL(v:Nat):Nat:=if v/2=3 then 11 else 0
theorem oy(b a n v:Nat)c s w(d:Blk w b n c)(f:StV c a s)(y:a+3351<=n)(l:v/2=2\/v/2=3):Calls prog 208 #[.pointer (some ⟨b,a,none⟩),.int .u32 v] w λm z=>m=.returned (.int .i64 (dL v))/\ak b a n c (if v/2=2 then(s.lastIs v).enter 4 14 else s.lastIs v) w z:=by
 have J:=d.at (i:=a+9) O f.last;have K:=d.fz;have A:=iG v O;obtain⟨g,e⟩:∃g,g=v%2:=⟨_,rfl⟩;rw[<-e] at A;have o:Z (((g:Int)==1)=decide (v%2=1)):=by show((g:Int)==1)=decide (v%2=1);rw[X4,XI,XL];omega
 have p:Z (Blk (w.setCell ⟨b,a+9,none⟩ (.bool (decide (v%2=1)))) b n (upd c (a+9) (.bool (decide (v%2=1))))):=d.set O _;have q:Z (StV (upd c (a+9) (.bool (decide (v%2=1)))) a (s.lastIs v)):=f.set_last _;have r:Z (Fr1 b w (w.setCell ⟨b,a+9,none⟩ (.bool (decide (v%2=1))))):=Fr1.set (Fr.refl _ _) _ _;have t:Z (FrC b a (a+3351) c (upd c (a+9) (.bool (decide (v%2=1))))):=FrC.upd _ O O;generalize s.lastIs v=B at *;generalize decide (v%2=1)=j at *;generalize upd c (a+9) (.bool j)=u at *;by_cases h:v/2=2
 .have C:(v:Int)/2=2:=O
  have k:Z (dL v=0):=by show dL v=0;unfold dL;rw[N]
  rw[I h];replace e:Z _:=e;clear d f l h;go_enter func208,ntmps208;go_wp2_with fail;rw[o.o];generalize w.setCell ⟨b,a+9,none⟩ (.bool j)=x at *;refine(bn b a n 4 14 u B x p.o q.o y).mono ?_;rintro m L ⟨rfl,D,E,F,G,H⟩;go_wp2_with fail;go_ret;rw[k.o];exact⟨rfl,D,E,F,t.o.trans G,r.o.trans H⟩
 .have C:(v:Int)/2=3:=O
  have k:Z (dL v=11):=by show dL v=11;unfold dL;rw[I]
  rw[N h];replace e:Z _:=e;clear d f l h;go_enter func208,ntmps208;go_wp2_with fail;rw[o.o];generalize w.setCell ⟨b,a+9,none⟩ (.bool j)=x at *;go_ret;rw[k.o];exact⟨rfl,u,p.o,q.o,t.o,r.o⟩
theorem rW(b a n v:Nat)c s w(d:Blk w b n c)(e:StV c a s)(f:a+3351<=n)(k:v<8):Calls prog 208 #[.pointer (some ⟨b,a,none⟩),.int .u32 v] w λi j=>i=.returned (.int .i64 (dL v))/\ak b a n c (s.block v) w j:=by
 unfold St.block;by_cases g:v/2=0
 .rw[I g,show dL v=0 from N]
  exact qe b a n v c s w d e f O
 rw[N g];by_cases h:v/2=1
 .rw[I h,show dL v=0 from N]
  exact qd b a n v c s w d e f O
 rw[N h];exact oy b a n v c s w d e f O
def dB(s:St)(r:Rw)(σ:Int):St×Rw×Nat:=if σ = -1 then(s,r,0) else if σ<0\/286<=σ then(s,r,13) else if σ=256 then(s.endBlock,r,0) else if 257<=σ then(s.copy (σ.toNat-257),r,0) else aB (s.enter 12 0) r σ.toNat
theorem pV b o n σ c s r w(d:Blk w b n c)(e:StV c o s)(f:RwV c (o+3351) r)(P:o+4900<=n)(k:eH r)(l:aS w)(J:b≠0)(m:dN w)(Q:s.sum<4294967296)(a9 : -2<=σ)(b0:σ<=1000):Calls prog 188 #[.pointer (some ⟨b,o,none⟩),.int .i64 σ,.pointer (some ⟨b,o+3351,none⟩)] w λi A=>i=.returned (.int .i64 ((dB s r σ).2.2:Int))/\aw b o n c (dB s r σ).1 (dB s r σ).2.1 w A:=by
 by_cases p:σ = -1
 .subst p
  have x:=U (aw.refl d e f);have h:Z (dB s r (-1)=(s,r,0)):=by show dB s r (-1)=_;unfold dB;rw[I rfl]
  clear d e f k l m;go_enter func188,ntmps188;go_wp2;go_ret;rw[h.o];exact⟨rfl,x.o⟩
 .have b1:(σ == -1)=false:=by rw[F];exact p
  by_cases j:σ<0\/286<=σ
  .have x:=U (aw.refl d e f)
   have h:Z (dB s r σ=(s,r,13)):=by show dB s r σ=_;unfold dB;rw[N p,I j]
   clear d e f k l m;by_cases b2:σ<0
   .clear j
    go_enter func188,ntmps188;go_wp2;go_ret;rw[h.o];exact⟨rfl,x.o⟩
   .have b3:(286:Int)<=σ:=O
    clear j;go_enter func188,ntmps188;go_wp2;go_ret;rw[h.o];exact⟨rfl,x.o⟩
  have b4:¬σ<0:=O;have b5:¬(286:Int)<=σ:=O;by_cases y:σ=256
  .subst y
   have R:=U (jo b o n c s w d e O);have v:Z _:=f;have h:Z (dB s r 256=(s.endBlock,r,0)):=by show dB s r 256=_;unfold dB;rw[N Xh,N Xh,I rfl]
   clear d e f k l m;go_enter func188,ntmps188;go_wp2_with fail;refine R.o.mono ?_;rintro i B ⟨rfl,q⟩;go_wp2_with fail;go_ret;rw[h.o];exact⟨rfl,aw.of_st v.o q⟩
  .have b6:(σ==256)=false:=by rw[F];exact y
   by_cases z:(257:Int)<=σ
   .obtain⟨t,K⟩:∃t:Nat,σ=((257+t:Nat):Int):=⟨σ.toNat-257,O⟩
    have S:Z _:=tM b o n t σ c s w d e O m K O;have v:Z _:=f;have h:Z (dB s r σ=(s.copy t,r,0)):=by show dB s r σ=_;unfold dB;rw[N p,N j,N y,I z,show σ.toNat-257=t from O]
    generalize s.copy t=b7 at *;clear d e f k l m j K;go_enter func188,ntmps188;go_wp2_with fail;refine X9 S.o ?_;rintro i B ⟨rfl,q⟩;go_wp2_with fail;go_ret;rw[h.o];exact⟨rfl,aw.of_st v.o q⟩
   have b8:=z;obtain⟨a,T⟩:∃a:Nat,σ=(a:Int):=⟨σ.toNat,O⟩;subst T;have V:a<256:=O;have W:=U (bn b o n 12 0 c s w d e O);have v:Z _:=f;have C:Z (∀(u:World) (g:Nat->Value),Blk u b n g->StV g o (s.enter 12 0)->RwV g (o+3351) r->Fr1 b w u->Calls prog 205 #[.pointer (some ⟨b,o,none⟩),.int .u8 a,.pointer (some ⟨b,o+3351,none⟩)] u λi A=>i=.returned (.int .i64 ((aB (s.enter 12 0) r a).2.2:Int))/\aw b o n g (aB (s.enter 12 0) r a).1 (aB (s.enter 12 0) r a).2.1 u A):=λu g X Y a0 a1=>vo b o n a g (s.enter 12 0) r u X Y a0 P k (l.fr a1 (λa2=>J a2.symm)) J V Q
   obtain⟨L,D⟩:∃a3,a3=aB (s.enter 12 0) r a:=⟨_,rfl⟩;rw[<-D] at C;have a4:Z (dB s r (a:Int)=L):=by
    show dB s r (a:Int)=L
    unfold dB;rw[N p,N j,N y,N z,YQ,D]
   clear d e f k l m D j z;go_enter func188,ntmps188;go_wp2_with fail;refine W.o.mono ?_;rintro i B ⟨rfl,g,q,M,E,G⟩;have a5:Z (FrC b o (o+4900) c g):=E.mono O O;have H:=C.o B g q M (v.o.congr (λa6 p b9=>E.o a6 O)) G;replace H:Z _:=H;have a7:Z _:=G;clear q M E G C;go_wp2_with fail;refine X9 H.o ?_;rintro i c0 ⟨rfl,a8⟩;go_wp2_with fail;go_ret;rw[a4.o];exact⟨rfl,aw.next a5.o a7.o a8⟩
structure pE (w w':World) (ov:Value) (L:List Int):Prop where
 ok:isBytes L
 lat:LAt w' .u8 ov L
 nn:∀n c,ov=.slice none n c->c=0
 new:∀g,ai ov=some g->w.heap.size<=g
 kept:Kept w w'
theorem oL v l w(k:LAt w .i64 v l)(a1:l.length<=65536)(u:isBytes l):Calls prog 73 #[v] w λx P=>∃y:Value,x=.returned y/\pE w P y l:=by
 obtain⟨a2,a3,rfl⟩:=k.form;have Q:Z _:=k;have z:=U u;clear k u;obtain⟨R,i,S,T,V⟩:=info_parts' ib;go_enter func73,ntmps73;go_wp2_with (refine wpList_make_full _ rfl _ _ 56 rfl w.heap.size 5 R (.int .u8 0) 1 underlying56 i S T .i64 .i64 (l.length:Int) (l.length:Int) l.length rfl rfl rfl rfl (by rw[V];omega) Xn (E _) ?_)
 intro m n g;have A:Z (Kept w m):=⟨g.os,g.tape,g.output,g.size,λa B=>g.block a B Xi⟩;have C:Z (∀a,m.frozen? ⟨w.heap.size,a,none⟩=false):=by
  rcases n.2 with⟨c,a4⟩|⟨o,a5,a6,c,D,F,x⟩
  .cases c
  .injection c with c _ _
   injection c with c
   injection c with c _ _
   rw[<-c] at F;exact λa=>Joins.unfrozen_of_block F a
 have G:Z (∀b,b<l.length->m.cell? ⟨w.heap.size,b,none⟩=some (.int .u8 (if b<0 then l.getD b 0 else 0))):=by
  intro b p
  have:=n.cells rfl b _ (IZ l.length b p)
  rw[Addr.add_mid,XD] at this;rw[N];exact this
 clear n g;go_wp2;go_loopw [4] (λv q=>∃a:Nat,a<=l.length/\v=.int .i64 a/\(∀b,b<l.length->q.cell? ⟨w.heap.size,b,none⟩=some (.int .u8 (if b<a then l.getD b 0 else 0)))/\(∀a,q.frozen? ⟨w.heap.size,a,none⟩=false)/\Kept w q) (λv _=>l.length-(intOf v).toNat)
 case atStart=>exact⟨0,O,rfl,G.o,C.o,A.o⟩
 case round=>
  obtain⟨a,B,rfl,e,h,f⟩:=hrel;clear G C A;by_cases r:a<l.length
  .obtain⟨o,a7,rfl,W⟩:=(Q.o.kept f).cellAt a r
   have s:=e a r;rw[N] at s;have t:=z.o _ (az r);have H:=t.1;have J:=t.2;clear t;obtain⟨K,j⟩:∃K,K=l.getD a 0:=⟨_,rfl⟩;rw[<-j] at W H J;replace j:Z _:=j;have a8:=h a;have a9:(a:Int)<(l.length:Int):=O;have b0:(0:Int)<=(a:Int):=O;replace e:Z (∀b,b<l.length->wr.cell? ⟨w.heap.size,b,none⟩=some (.int .u8 (if b<a then l.getD b 0 else 0))):=e;replace h:Z (∀a,wr.frozen? ⟨w.heap.size,a,none⟩=false):=h;replace f:Z (Kept w wr):=f;go_wp2;refine⟨⟨a+1,O,Xj,λb p => ?_,λb=>by rw[Xy];exact h.o b,f.o.setCell (E _) _⟩,Xb⟩;by_cases L:b=a
   .subst L
    rw[I,<-j.o]
    first|exact af s _|(rw[af s _,Int.emod_eq_of_lt H J])
   .rw[aa _ _ _ _ _ (λd=>L d.symm)]
    rw[e.o b p];by_cases M:b<a
    .rw[I M,I]
    .rw[N M,N]
  .have X:a=l.length:=O
   subst X;replace e:Z (∀b,b<l.length->wr.cell? ⟨w.heap.size,b,none⟩=some (.int .u8 (if b<l.length then l.getD b 0 else 0))):=e;replace h:Z (∀a,wr.frozen? ⟨w.heap.size,a,none⟩=false):=h;replace f:Z (Kept w wr):=f;go_wp2;go_ret;refine⟨.slice (some ⟨w.heap.size,0,none⟩) l.length l.length,rfl,z.o,⟨⟨_,_,rfl⟩,?_⟩,?_,?_,f.o⟩
   .intro b1 Y d a0 i
    injection d with d _ _
    refine⟨w.heap.size,0,d.symm,?_⟩;rw[XD,e.o a0 i,I i]
   .intro b2 Y d;injection d with d _ _;cases d
   .intro o D
    have:w.heap.size=o:=by injection D
    omega
def cQ(l:List Int):List Int:=l.flatMap (λx=>[x/256,x%256])
theorem gW l:(cQ l).length=2*l.length:=by
 unfold cQ
 induction l with
 | nil=>rfl
 | cons b l a=>rw[List.flatMap_cons,Xv,a];simp;omega
theorem ye l x:cQ (l++[x])=cQ l++[x/256,x%256]:=by
 unfold cQ;rw[List.flatMap_append];simp
theorem Db v l w(m:LAt w .i64 v l)(a5:l.length<=65536)(y:∀z∈l,0<=z/\z<65536):Calls prog 107 #[v] w λA Q=>∃C:Value,A=.returned C/\pE w Q C (cQ l):=by
 obtain⟨a6,a7,rfl⟩:=m.form;have D:Z _:=m;have R:Z _:=y;clear m y;go_enter func107,ntmps107;go_wp2;go_loopw [3,4] (λS v j=>∃a:Nat,a<=l.length/\v=.int .i64 a/\bg j w.heap.size S (cQ (l.take a))/\Kept w j) (λ_ v _=>l.length-(intOf v).toNat)
 case atStart=>exact⟨0,O,rfl,bg.nil _ _,Kept.refl _⟩
 case round=>
  obtain⟨a,a8,rfl,e,d⟩:=hrel;have n:Z ((cQ (l.take a)).length=2*a):=by
   show(cQ (l.take a)).length=2*a
   rw[gW,Yd];omega
  obtain⟨o,p,rfl⟩:=e.slice' n.o;have a9:=d.size;by_cases i:a<l.length
  .obtain⟨g,T,rfl,q⟩:=(D.o.kept d).cellAt a i
   have b0:g<w.heap.size:=by
    obtain⟨F,b1,b,V⟩:=D.o.cellAt a i
    injection b with b
    injection b with b _
    subst b;exact B _ _ V
   have r:=R.o _ (az i);have b2:=r.1;have b3:=r.2;clear r;have H:Z (cQ (l.take (a+1))=cQ (l.take a)++[l.getD a 0/256,l.getD a 0%256]):=by
    show cQ (l.take (a+1))=_
    rw[<-ye,XM i];simp[G,Xt i]
   generalize l.getD a 0=c at *;obtain⟨k,I⟩:∃k,k=cQ (l.take a):=⟨_,rfl⟩;rw[<-I] at H n e;clear I;have W:Z (IntKind.u8.wrap (c/256)=c/256):=by show IntKind.u8.wrap (c/256)=_;rw[IntKind.wrap_u8];omega
   have b4:(a:Int)<(l.length:Int):=O;have b5:(0:Int)<=(a:Int):=O;replace d:Z (Kept w wr):=d;have f:=U e;clear e;have X:Z (isBytes [IntKind.u8.wrap (c/256),IntKind.u8.wrap c]):=by
    intro b6 J;simp at J;rcases J with rfl|rfl
    .have:=bounds_u8 (wf_wrap .u8 (c/256));omega
    .have:=bounds_u8 (wf_wrap .u8 c);omega
   have Y:Z (∀h,h<2->((wr.alloc (Obj.cells #[Value.int IntKind.u8 (IntKind.u8.wrap (c/256)),Value.int IntKind.u8 (IntKind.u8.wrap c)] 5)).drewN 1).cell? ⟨wr.heap.size,h,none⟩=some (.int .u8 ([IntKind.u8.wrap (c/256),IntKind.u8.wrap c].getD h 0))):=by
    intro h b7;show(wr.alloc _).cell? _=_
    rw[Xr _ _ _ _ rfl]
    have:h=0\/h=1:=O
    rcases this with rfl|rfl<;>rfl
   go_wp2_with fail;go_region_held3 (λj=>j.cell? ⟨g,T+a,none⟩=some (.int .i64 c)) (first|exact q|exact a0|go_keep) ((refine II (by rfl) _ _ (by rfl) w.heap.size (.slice o (2*a) p) k (by rfl) (by exact(f.o.alloc _).drewN 1) wr.heap.size 2 2 [IntKind.u8.wrap (c/256),IntKind.u8.wrap c] (by rfl) rfl O X.o (by exact Y.o) (by rw[n.o];omega) Xf ?_;intro F K L M N;have s:=(((Fr.refl _ wr).alloc _).drewN 1).trans N;have a0:=(s.cell (B _ _ q) (λb=>by have:=f.o.ge g b;omega)).trans q))
   have a1:Z (bg L w.heap.size (.slice (some ⟨F,0,none⟩) (k.length+2) K) (cQ (l.take (a+1)))):=by
    show bg _ _ _ _
    rw[H.o];have P:=M;rw[W.o,(IntKind.wrap_u8 c)] at P;exact P
   have a2:Z (Kept w L):=Fr.to_kept d.o s (λa3 b8 b=>by have:=f.o.ge a3 b;omega);clear M N s;go_wp2;exact⟨⟨a+1,O,Xj,a1.o,a2.o⟩,Xb⟩
  .have a4:a=l.length:=O
   subst a4;have f:Z (bg wr w.heap.size (.slice o (2*l.length) p) (cQ l)):=by
    show bg _ _ _ _
    rw[X6 (E _)] at e;exact e
   replace d:Z (Kept w wr):=d;clear e;go_wp2;go_ret;have t:=f.o.2;refine⟨.slice o (2*l.length) p,rfl,f.o.1,f.o.lat,?_,?_,d.o⟩
   .intro b9 c0 b
    rcases t.2 with⟨u,c1⟩|⟨g,K,c2,u,x,A⟩
    .rw[u] at b;injection b with _ _ b;omega
    .rw[u] at b;injection b with b _ _;cases b
   .intro g x
    rw[fA _ t] at x;exact(t.lt g x).1
theorem zo W H K D pv cv xv l w(g:LAt w .i64 cv l)(k:l.length<=65536)(m:∀n∈l,0<=n/\n<65536)(o:K=3->isBytes l):Calls prog 75 #[.agg #[.int .i64 W,.int .i64 H,.int .i64 K,.int .i64 D,pv,cv,xv]] w λd h=>∃b:Value,d=.returned b/\pE w h b (if K=3 then l else cQ l):=by
 have c:Kept w (w.alloc (Obj.cells #[Value.int .i64 W,.int .i64 H,.int .i64 K,.int .i64 D,pv,cv,xv] 33)):=Xw (Xs _ _) (E _) _;have e:Z (K=3->Calls prog 73 #[cv] (w.alloc (Obj.cells #[Value.int .i64 W,.int .i64 H,.int .i64 K,.int .i64 D,pv,cv,xv] 33)) λd h=>∃b:Value,d=.returned b/\pE (w.alloc (Obj.cells #[Value.int .i64 W,.int .i64 H,.int .i64 K,.int .i64 D,pv,cv,xv] 33)) h b l):=λp=>oL cv l _ (g.kept c) k (o p)
 have q:=U (Db cv l _ (g.kept c) k m);replace c:Z _:=c;clear g m o;by_cases f:K=3
 .subst f
  rw[I rfl];replace e:=e.o rfl;replace e:Z _:=e;go_enter func75,ntmps75;go_wp2_with fail;refine X9 e.o ?_;rintro d r ⟨b,rfl,a⟩;go_wp2;go_ret;exact⟨b,rfl,a.ok,a.lat,a.nn,λi j=>Xz c.o.size (a.new i j),Kept.trans c.o a.kept⟩
 .rw[N f]
  have s:(K==3)=false:=by rw[F];exact f
  clear f;go_enter func75,ntmps75;go_wp2_with fail;refine q.o.mono ?_;rintro d r ⟨b,rfl,a⟩;go_wp2;go_ret;exact⟨b,rfl,a.ok,a.lat,a.nn,λi j=>Xz c.o.size (a.new i j),Kept.trans c.o a.kept⟩
theorem bg.cap{w:World}{N:Nat}{v:Value}{l:List Int}(h:bg w N v l)(h0:0<l.length):∃g c,v=.slice (some ⟨g,0,none⟩) l.length c/\l.length<=c/\N<=g:=h.own8.cap h0
def palB(pal:List Int):List Int:=if pal.length=0 then[] else chB bC pal
def dK(K:Nat)(clr:List Int):List Int:=if clr.length=0 then[] else chB aT (if(K:Int)=3 then clr else cQ clr)
theorem WrY.apart{W W':World}{x N d:Nat}{n:List Int}(h:WrY W x N n (S0 x N))(k:Kept W W')(h1:W.heap.size<=d)(h2:d<W'.heap.size):WrY W' x N n (S1 x N d):=by
 obtain⟨a1,a2,a3,sx,nw,ov,a4,a5,a6⟩:=h.kept k;obtain⟨b1,b2,b3,_,_,ov',b4,b5,b6⟩:=h;have hx:x<W.heap.size:=by omega
 refine⟨a1,a2,a3,⟨Or.inl rfl,by omega⟩,λg hg=>⟨Or.inr (by omega),by omega⟩,ov,a4,a5,λg hg=>⟨a6 g hg,?_⟩⟩;have e:ov=ov':=by
  have:=(k.cell (p:=⟨x,0,none⟩) hx).symm.trans a4
  rw[b4] at this
  injection this with this
  exact this.symm
 subst e
 have:=(b5.2.lt g hg).2
 omega
theorem bo.step{x N d:Nat}{m m':List Int}{a b c e:World}(h:bo x N m (S0 x N) a b)(k:Kept b c)(p:bo x N m' (S1 x N d) c e):bo x N m' (S0 x N) a e:=by
 have hz:=p.at'.size
 have:=p.widen (S:=S0 x N) (λg q=>q.1) (λg hg=>Or.inr (by omega))
 exact⟨this.at',(h.fr.kept k).trans this.fr⟩
def kJ(r m n s:Nat):Nat:=r+n%2^s*2^m
theorem wF{r m n s:Nat}(hr:r<2^m):kJ r m n s<2^(m+s):=by
 unfold kJ;have h1:n%2^s<2^s:=Nat.mod_lt _ (Nat.two_pow_pos s);have h2:(n%2^s+1)*2^m<=2^s*2^m:=Nat.mul_le_mul_right _ h1;rw[Nat.add_mul,Nat.one_mul] at h2;rw[Nat.pow_add,Nat.mul_comm (2^m)];omega
theorem EJ{k:Nat}(h:k<=23):2^k<=8388608:=Nat.le_trans (Nat.pow_le_pow_right (by omega) h) (by decide)
end Go.Proofs.YtbedkdnphobmlaaGreatDoor
namespace Go.Proofs.YtbedkdnphobmlaaGreatDoor
open Go.RowKit Tryz
theorem Dd{S:Nat->Prop}{W W' N e size v n xs}(h:W.ownsRow N e size v n xs)(k:Fr S W W')(f:∀a,v.ownBlock=some a->¬S a):W'.ownsRow N e size v n xs:=by
 rcases h.2 with⟨b,g⟩|⟨a,i,j,b,l,c⟩
 .exact⟨h.1,L ⟨b,g⟩⟩
 .have d:v.ownBlock=some a:=by rw[b];rfl
  refine⟨h.1,R ⟨a,i,j,b,l,?_,c.2⟩⟩;rw[k.block a (h.lt a d).2 (f a d)];exact c.1
structure WrB (x:Nat) (w:World) (v:Value) (w':World) (v':Value):Prop where
 fr:Fr (λg=>g=x\/v.ownBlock=some g) w w'
 own:∀k,v'.ownBlock=some k->v.ownBlock=some k\/w.heap.size<=k
 far:∀j,3<=j->w'.cell? ⟨x,j,none⟩=w.cell? ⟨x,j,none⟩
theorem WrB.refl x w v:WrB x w v w v:=⟨Fr.refl _ _,λb a=>L a,λ_ _=>rfl⟩
theorem WrB.trans{x a b c u v t}(h:WrB x a u b v)(k:WrB x b v c t):WrB x a u c t:=by
 refine⟨h.fr.trans' k.fr (λj m e => ?_),λf l => ?_,λg i=>(k.far g i).trans (h.far g i)⟩
 .rcases e with e|e
  .exact L e
  .rcases h.own j e with d|d
   .exact R d
   .omega
 .rcases k.own f l with d|d
  .exact h.own f d
  .exact R (Xz h.fr.size d)
theorem WrB.kept{x a b c u v}(h:WrB x a u b v)(k:Kept b c)(e:x<b.heap.size):WrB x a u c v:=
 ⟨h.fr.kept k,h.own,λd f=>(k.cell (p:=⟨x,d,none⟩) e).trans (h.far d f)⟩
abbrev FrQ(x:Nat)(ob:Option Nat):World->World->Prop:=Fr (λg=>g=x\/ob=some g)
def OvQ(x:Nat)(ob:Option Nat)(w:World)(v:Value):Prop:=v.ownBlock≠some x/\∀k,v.ownBlock=some k->ob=some k\/w.heap.size<=k
theorem OvQ.own{x:Nat}{ob:Option Nat}{w:World}{v:Value}(h:OvQ x ob w v)(i:Nat)(hi:i<w.heap.size)(e:v.ownBlock=some i):i=x\/ob=some i:=by
 rcases h.2 i e with q|q
 .exact Or.inr q
 .omega
theorem OvQ.next{x:Nat}{ob:Option Nat}{w wr:World}{v:Value}(h:OvQ x ob w v){g n c:Nat}(hat:v.ownBlock=some g\/g=wr.heap.size+1)(hx:x<wr.heap.size)(hw:w.heap.size<=wr.heap.size):OvQ x ob w (.slice (some ⟨g,0,none⟩) n c):=by
 have e:(Value.slice (some ⟨g,0,none⟩) n c).ownBlock=some g:=rfl;refine⟨λq => ?_,λk hk => ?_⟩
 .rw[e] at q
  rcases hat with r|r
  .exact h.1 (by rw[r];exact q)
  .have:=Option.some.inj q;omega
 .rw[e] at hk
  have:=Option.some.inj hk
  subst this;rcases hat with r|r
  .exact h.2 _ r
  .exact Or.inr (by omega)
theorem WrB.pre{x:Nat}{w w1 w2:World}{v v2:Value}(k:Kept w w1)(hx:x<w.heap.size)(h:WrB x w1 v w2 v2):WrB x w v w2 v2:=
 ⟨(Fr.of_kept k).trans h.fr,λg hg=>by rcases h.own g hg with q|q;exact Or.inl q;exact Or.inr (Nat.le_trans k.size q),λj hj=>(h.far j hj).trans (k.cell (p:=⟨x,j,none⟩) hx)⟩
def Off(x:Nat)(v:Value)(g:Nat):Prop:=g≠x/\v.ownBlock≠some g
structure K1 (x:Nat) (v:Value):Prop where
 len:Off x v 1
 lbt:Off x v 4
 dis:Off x v 2
 ord:Off x v 3
theorem Off.next{x g:Nat}{w w1:World}{v v1:Value}(h:Off x v g)(k:WrB x w v w1 v1)(hg:g<w.heap.size):Off x v1 g:=by
 refine⟨h.1,λe => ?_⟩;rcases k.own g e with q|q
 .exact h.2 q
 .omega
theorem Off.no{x g:Nat}{v:Value}(h:Off x v g):¬(g=x\/v.ownBlock=some g):=λe=>by
 rcases e with e|e
 .exact h.1 e
 .exact h.2 e
theorem WrB.cellK{x g j:Nat}{w w1:World}{v v1:Value}(k:WrB x w v w1 v1)(ho:Off x v g)(hg:g<w.heap.size):w1.cell? ⟨g,j,none⟩=w.cell? ⟨g,j,none⟩:=k.fr.cell hg ho.no
theorem HY:(prog.info? 205).map (λi=>(i.zero,i.size,i.bytes))=some (some (.agg #[.int .u8 0,.int .i64 0,.int .i64 0]),3,24):=by kernel_rfl
