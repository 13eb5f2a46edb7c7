import Derived.Test.YtbedkdnphobmlaaGreatDoorProg
import Derived.Test.YtbedkdnphobmlaaGreatDoorUaa00
import Derived.Test.YtbedkdnphobmlaaGreatDoorUaa01
import Derived.Test.YtbedkdnphobmlaaGreatDoorUaa03
import Derived.Test.YtbedkdnphobmlaaGreatDoorUaa04
import Derived.Test.YtbedkdnphobmlaaGreatDoorUaa05
import Derived.Test.YtbedkdnphobmlaaGreatDoorUaa07
import Derived.Test.YtbedkdnphobmlaaGreatDoorUaa08
import Derived.Test.YtbedkdnphobmlaaGreatDoorUaa09
import Derived.Test.YtbedkdnphobmlaaGreatDoorUaa10
import Derived.Test.YtbedkdnphobmlaaGreatDoorUaa11
set_option linter.all false
set_option maxRecDepth 100000
set_option maxHeartbeats 0
namespace Go.Proofs.YtbedkdnphobmlaaGreatDoor
open Go.RowKit Px Tryz
def aL(s:St)(r:Rw)(v:Nat):St×Rw×Nat:=
 if s.part=0 then((s.takeHead v).1,r,(s.takeHead v).2)
 else if s.part=1 then(s.block v,r,dL v)
 else if s.part=2 then((s.takeSize v).1,r,(s.takeSize v).2)
 else if s.part=3 then cm s r v
 else if s.part=4 then((s.counts v).1,r,(s.counts v).2)
 else if s.part=5 then((s.shortLen v).1,r,(s.shortLen v).2)
 else if s.part=6 then((s.repeat v).1,r,(s.repeat v).2)
 else if s.part=7 then(s.lengthRest v,r,0)
 else if s.part=8 then dC s r v
 else((s.takeSum v).1,r,(s.takeSum v).2)
structure K2 (s:St) (v:Nat):Prop where
 vl:v<256
 told:s.tb.told<19
 shorts:s.tb.shorts<=19
 sl:∀i,i<19->s.tb.sl i<256
structure Lb (s:St) (v:Nat):Prop where
 vl:v<256
 rep:s.tb.rep=16\/s.tb.rep=17\/s.tb.rep=18
 tb:iE s.tb
structure Ld (s:St) (r:Rw) (v:Nat):Prop where
 vl:v<=50000
 base:s.base<=50000
 cnt:s.count<=2078
 win:s.window<=100000
 len:s.length<=100000
 copy:1<=s.base+v->s.base+v<=s.count->s.base+v<=s.window->eW s.length (s.base+v) s r
structure eY (s:St) (r:Rw) (v:Nat):Prop where
 part:s.part<=9
 v0:s.part=0->v<65536
 v1:s.part=1->v<8
 v3:s.part=3->v<256
 v4:s.part=4->v<16384
 v5:s.part=5->K2 s v
 v6:s.part=6->Lb s v
 v7:s.part=7->s.length<=100000
 v8:s.part=8->Ld s r v
 v:v<4294967296
 l1:s.part=3->1<=s.left
 l2:s.part=3->s.left<=65535
 good:s.part=3->eH r
 sum:s.sum<4294967296
theorem ur b o n v c s r w(a:Blk w b n c)(d:StV c o s)(e:RwV c (o+3351) r)(z:o+4900<=n)(f:eY s r v)(h:s.part=0)(j:bw w)(A:NT b):Calls prog 190 #[.pointer (some ⟨b,o,none⟩),.int .u32 v,.pointer (some ⟨b,o+3351,none⟩)] w λg k=>g=.returned (.int .i64 ((aL s r v).2.2:Int))/\aw b o n c (aL s r v).1 (aL s r v).2.1 w k:=by
 have l:=a.at (i:=o) O d.part;have m:Z _:=a;have p:Z _:=d;have q:Z _:=e;have t:Z _:=f;clear a d e j f;have u:Z (aL s r v=((s.takeHead v).1,r,(s.takeHead v).2)):=by show aL s r v=_;unfold aL;rw[I h]
 have x:=U (uu b o n v c s w m.o p.o O (t.o.v0 h));rw[h] at l;clear h;go_enter func190,ntmps190;go_wp2_with fail;refine x.o.mono ?_;rintro g B ⟨rfl,y⟩;go_wp2_with fail;go_ret;rw[u.o];exact⟨rfl,aw.of_st q.o y⟩
theorem uq b o n v c s r w(a:Blk w b n c)(d:StV c o s)(e:RwV c (o+3351) r)(z:o+4900<=n)(f:eY s r v)(h:s.part=1)(j:bw w)(A:NT b):Calls prog 190 #[.pointer (some ⟨b,o,none⟩),.int .u32 v,.pointer (some ⟨b,o+3351,none⟩)] w λg k=>g=.returned (.int .i64 ((aL s r v).2.2:Int))/\aw b o n c (aL s r v).1 (aL s r v).2.1 w k:=by
 have l:=a.at (i:=o) O d.part;have m:Z _:=a;have p:Z _:=d;have q:Z _:=e;have t:Z _:=f;clear a d e j f;have u:Z (aL s r v=(s.block v,r,dL v)):=by show aL s r v=_;unfold aL;rw[N,I h]
 have x:=U (rW b o n v c s w m.o p.o O (t.o.v1 h));generalize dL v=B at *;generalize s.block v=C at *;rw[h] at l;clear h;go_enter func190,ntmps190;go_wp2_with fail;refine x.o.mono ?_;rintro g D ⟨rfl,y⟩;go_wp2_with fail;go_ret;rw[u.o];exact⟨rfl,aw.of_st q.o y⟩
theorem uo b o n v c s r w(a:Blk w b n c)(d:StV c o s)(e:RwV c (o+3351) r)(y:o+4900<=n)(f:eY s r v)(h:s.part=2)(j:bw w)(z:NT b):Calls prog 190 #[.pointer (some ⟨b,o,none⟩),.int .u32 v,.pointer (some ⟨b,o+3351,none⟩)] w λg k=>g=.returned (.int .i64 ((aL s r v).2.2:Int))/\aw b o n c (aL s r v).1 (aL s r v).2.1 w k:=by
 have l:=a.at (i:=o) O d.part;have m:Z _:=a;have p:Z _:=d;have q:Z _:=e;have t:Z _:=f;clear a d e j f;have u:Z (aL s r v=((s.takeSize v).1,r,(s.takeSize v).2)):=by show aL s r v=_;unfold aL;rw[N,N,I h]
 rw[h] at l;clear h;go_enter func190,ntmps190;go_wp2_with fail;refine(ud b o n v c s w m.o p.o O t.o.v).mono ?_;rintro g A ⟨rfl,x⟩;go_wp2_with fail;go_ret;rw[u.o];exact⟨rfl,aw.of_st q.o x⟩
theorem um b o n v c s r w(d:Blk w b n c)(e:StV c o s)(f:RwV c (o+3351) r)(l:o+4900<=n)(g:eY s r v)(h:s.part=3)(j:bw w)(m:NT b):Calls prog 190 #[.pointer (some ⟨b,o,none⟩),.int .u32 v,.pointer (some ⟨b,o+3351,none⟩)] w λk p=>k=.returned (.int .i64 ((aL s r v).2.2:Int))/\aw b o n c (aL s r v).1 (aL s r v).2.1 w p:=by
 have q:=d.at (i:=o) O e.part;have t:Z _:=d;have u:Z _:=e;have x:Z _:=f;have a:Z _:=g;have y:Z _:=j;clear d e f j g;have z:Z (aL s r v=cm s r v):=by show aL s r v=_;unfold aL;rw[N,N,N,I h]
 have A:=U (pX b o n v c s r w t.o u.o x.o l (a.o.good h) y.o.grd m.grd (a.o.v3 h) a.o.sum (a.o.l1 h) (a.o.l2 h));have C:=a.o.v3 h;rw[h] at q;clear h;go_enter func190,ntmps190;go_wp2_with fail;refine A.o.mono ?_;rintro k D ⟨rfl,B⟩;go_wp2_with fail;go_ret;rw[z.o];exact⟨rfl,B⟩
theorem uf b o n v c s r w(a:Blk w b n c)(d:StV c o s)(e:RwV c (o+3351) r)(L:o+4900<=n)(f:eY s r v)(h:s.part=9)(g:bw w)(M:NT b):Calls prog 190 #[.pointer (some ⟨b,o,none⟩),.int .u32 v,.pointer (some ⟨b,o+3351,none⟩)] w λj q=>j=.returned (.int .i64 ((aL s r v).2.2:Int))/\aw b o n c (aL s r v).1 (aL s r v).2.1 w q:=by
 have P:=a.at (i:=o) O d.part;have t:Z _:=a;have u:Z _:=d;have x:Z _:=e;have y:Z _:=f;have Q:Z _:=g;clear a d e g f;have k:Z (aL s r v=((s.takeSum v).1,r,(s.takeSum v).2)):=by show aL s r v=_;unfold aL;rw[N,N,N,N,N,N,N,N,N]
 have l:=U (yg b o n v c s w t.o u.o O y.o.v);obtain⟨m,p⟩:∃m,m=s.takeSum v:=⟨_,rfl⟩;rw[<-p] at k l;clear p;have z:((s.part:Int)==0)=false:=Xa;have A:((s.part:Int)==1)=false:=Xa;have B:((s.part:Int)==2)=false:=Xa;have C:((s.part:Int)==3)=false:=Xa;have D:((s.part:Int)==4)=false:=Xa;have E:((s.part:Int)==5)=false:=Xa;have G:((s.part:Int)==6)=false:=Xa;have H:((s.part:Int)==7)=false:=Xa;have I:((s.part:Int)==8)=false:=Xa;clear h;go_enter func190,ntmps190;go_upto_block 0 with fail
 go_cut [] from 7 (λJ=>J=w)
 case first=>
  go_wp2_with fail;go_meet
  case rel=>rfl
 case rest=>
  subst hcut;clear z A B C D E G H I;go_wp2_with fail;refine l.o.mono ?_;rintro j R ⟨rfl,K⟩;go_wp2_with fail;go_ret;rw[k.o];exact⟨rfl,aw.of_st x.o K⟩
theorem uk b o n v c s r w(a:Blk w b n c)(d:StV c o s)(e:RwV c (o+3351) r)(y:o+4900<=n)(f:eY s r v)(h:s.part=4)(p:bw w)(z:NT b):Calls prog 190 #[.pointer (some ⟨b,o,none⟩),.int .u32 v,.pointer (some ⟨b,o+3351,none⟩)] w λg q=>g=.returned (.int .i64 ((aL s r v).2.2:Int))/\aw b o n c (aL s r v).1 (aL s r v).2.1 w q:=by
 have t:=a.at (i:=o) O d.part;have u:Z _:=e;have j:Z (aL s r v=((s.counts v).1,r,(s.counts v).2)):=by show aL s r v=_;unfold aL;rw[N,N,N,N,I h]
 have k:=U (qb b o n v c s w a d O (f.v4 h));obtain⟨l,m⟩:∃l,l=s.counts v:=⟨_,rfl⟩;rw[<-m] at j k;clear m;rw[h] at t;clear h a d e p f;go_enter func190,ntmps190;go_wp2_with fail;refine k.o.mono ?_;rintro g A ⟨rfl,x⟩;go_wp2_with fail;go_ret;rw[j.o];exact⟨rfl,aw.of_st u.o x⟩
theorem uj b o n v c s r w(d:Blk w b n c)(e:StV c o s)(f:RwV c (o+3351) r)(z:o+4900<=n)(a:eY s r v)(h:s.part=5)(g:bw w)(q:NT b):Calls prog 190 #[.pointer (some ⟨b,o,none⟩),.int .u32 v,.pointer (some ⟨b,o+3351,none⟩)] w λj t=>j=.returned (.int .i64 ((aL s r v).2.2:Int))/\aw b o n c (aL s r v).1 (aL s r v).2.1 w t:=by
 have u:=d.at (i:=o) O e.part;have x:Z _:=f;have k:Z (aL s r v=((s.shortLen v).1,r,(s.shortLen v).2)):=by show aL s r v=_;unfold aL;rw[N,N,N,N,N,I h]
 have l:=U (uE b o n v c s w d e O g.tabs q.ord (a.v5 h).vl (a.v5 h).told (a.v5 h).shorts (a.v5 h).sl);obtain⟨m,p⟩:∃m,m=s.shortLen v:=⟨_,rfl⟩;rw[<-p] at k l;clear p;rw[h] at u;clear h d e f g a;go_enter func190,ntmps190;go_wp2_with fail;refine l.o.mono ?_;rintro j A ⟨rfl,y⟩;go_wp2_with fail;go_ret;rw[k.o];exact⟨rfl,aw.of_st x.o y⟩
theorem ui b o n v c s r w(d:Blk w b n c)(e:StV c o s)(f:RwV c (o+3351) r)(y:o+4900<=n)(a:eY s r v)(h:s.part=6)(p:bw w)(z:NT b):Calls prog 190 #[.pointer (some ⟨b,o,none⟩),.int .u32 v,.pointer (some ⟨b,o+3351,none⟩)] w λg q=>g=.returned (.int .i64 ((aL s r v).2.2:Int))/\aw b o n c (aL s r v).1 (aL s r v).2.1 w q:=by
 have t:=d.at (i:=o) O e.part;have u:Z _:=f;have j:Z (aL s r v=((s.repeat v).1,r,(s.repeat v).2)):=by show aL s r v=_;unfold aL;rw[N,N,N,N,N,N,I h]
 have k:=U (Ab b o n v c s w d e O (a.v6 h).vl (a.v6 h).rep (a.v6 h).tb);obtain⟨l,m⟩:∃l,l=s.repeat v:=⟨_,rfl⟩;rw[<-m] at j k;clear m;rw[h] at t;clear h d e f p a;go_enter func190,ntmps190;go_wp2_with fail;refine k.o.mono ?_;rintro g A ⟨rfl,x⟩;go_wp2_with fail;go_ret;rw[j.o];exact⟨rfl,aw.of_st u.o x⟩
theorem uh b o n v c s r w(a:Blk w b n c)(d:StV c o s)(f:RwV c (o+3351) r)(u:o+4900<=n)(e:eY s r v)(h:s.part=7)(j:bw w)(x:NT b):Calls prog 190 #[.pointer (some ⟨b,o,none⟩),.int .u32 v,.pointer (some ⟨b,o+3351,none⟩)] w λg k=>g=.returned (.int .i64 ((aL s r v).2.2:Int))/\aw b o n c (aL s r v).1 (aL s r v).2.1 w k:=by
 have l:=a.at (i:=o) O d.part;have m:Z _:=f;have p:Z (aL s r v=(s.lengthRest v,r,0)):=by show aL s r v=_;unfold aL;rw[N,N,N,N,N,N,N,I h]
 have q:=U (qH b o n v c s w a d O (e.v7 h) e.v);generalize s.lengthRest v=y at *;rw[h] at l;clear h a d f j e;go_enter func190,ntmps190;go_wp2_with fail;refine q.o.mono ?_;rintro g z ⟨rfl,t⟩;go_wp2_with fail;go_ret;rw[p.o];exact⟨rfl,aw.of_st m.o t⟩
theorem ug b o n v c s r w(d:Blk w b n c)(e:StV c o s)(f:RwV c (o+3351) r)(q:o+4900<=n)(a:eY s r v)(h:s.part=8)(g:bw w)(t:NT b):Calls prog 190 #[.pointer (some ⟨b,o,none⟩),.int .u32 v,.pointer (some ⟨b,o+3351,none⟩)] w λj u=>j=.returned (.int .i64 ((aL s r v).2.2:Int))/\aw b o n c (aL s r v).1 (aL s r v).2.1 w u:=by
 have x:=d.at (i:=o) O e.part;have k:Z (aL s r v=dC s r v):=by show aL s r v=_;unfold aL;rw[N,N,N,N,N,N,N,N,I h]
 have l:=U (vB b o n v c s r w d e f q g.grd t.grd (a.v8 h).vl (a.v8 h).base (a.v8 h).cnt (a.v8 h).win (a.v8 h).len (a.v8 h).copy);obtain⟨m,p⟩:∃m,m=dC s r v:=⟨_,rfl⟩;rw[<-p] at k l;clear p;rw[h] at x;clear h d e f g a;go_enter func190,ntmps190;go_wp2_with fail;refine l.o.mono ?_;rintro j z ⟨rfl,y⟩;go_wp2_with fail;go_ret;rw[k.o];exact⟨rfl,y⟩
theorem pY b o n v c s r w(e:Blk w b n c)(f:StV c o s)(g:RwV c (o+3351) r)(h:o+4900<=n)(d:eY s r v)(i:bw w)(j:NT b):Calls prog 190 #[.pointer (some ⟨b,o,none⟩),.int .u32 v,.pointer (some ⟨b,o+3351,none⟩)] w λk l=>k=.returned (.int .i64 ((aL s r v).2.2:Int))/\aw b o n c (aL s r v).1 (aL s r v).2.1 w l:=by
 have p:=d.part;have m:s.part=0\/s.part=1\/s.part=2\/s.part=3\/s.part=4\/s.part=5\/s.part=6\/s.part=7\/s.part=8\/s.part=9:=O;rcases m with a|a|a|a|a|a|a|a|a|a
 .exact ur b o n v c s r w e f g h d a i j
 .exact uq b o n v c s r w e f g h d a i j
 .exact uo b o n v c s r w e f g h d a i j
 .exact um b o n v c s r w e f g h d a i j
 .exact uk b o n v c s r w e f g h d a i j
 .exact uj b o n v c s r w e f g h d a i j
 .exact ui b o n v c s r w e f g h d a i j
 .exact uh b o n v c s r w e f g h d a i j
 .exact ug b o n v c s r w e f g h d a i j
 .exact uf b o n v c s r w e f g h d a i j
theorem tZ(m a t:Nat)(c:m<2^a)(h:a<32)(d:t<=1):bits .or .u32 (m:Int) (((t*2^a:Nat)):Int)=((m+t*2^a:Nat):Int):=by
 have j:2^a*2<=2^32:=by rw[<-Ya];exact XH O O
 have k:t*2^a<=1*2^a:=XS _ d;show IntKind.u32.wrap ((BitVec.ofInt 32 (m:Int) ||| BitVec.ofInt 32 ((t*2^a:Nat):Int)).toNat:Int)=_
 have e:(BitVec.ofInt 32 (m:Int)).toNat=m:=by rw[XT,X0];exact X1 O
 have f:(BitVec.ofInt 32 ((t*2^a:Nat):Int)).toNat=t*2^a:=by rw[XT,X0];exact X1 O
 have g:m ||| t*2^a=m+t*2^a:=by
  have:=YW (b:=m) (i:=a) c t
  rw[Nat.shiftLeft_eq] at this;rw[Nat.or_comm];omega
 rw[BitVec.toNat_or,e,f,g,Yq];omega
def St.oneBit(s:St)(t:Nat):St:={s with number:=s.number+t*2^s.got,got:=s.got+1}
def gY(s:St)(r:Rw)(t:Nat):St×Rw×Nat:=dB {s with path:=(s.lit.step s.path t).1} r (s.lit.step s.path t).2
def clP(s:St)(t:Nat):St×Nat:=({s with path:=(s.tb.short.step s.path t).1}:St).codeLen (s.tb.short.step s.path t).2
def dsP(s:St)(r:Rw)(t:Nat):St×Rw×Nat:=cJ {s with path:=(s.dist.step s.path t).1} r (s.dist.step s.path t).2
structure Cb (s:St) (r:Rw) (t:Nat):Prop where
 lit:gB s.lit
 path:Cd s.path
 bit:t<=1
 sym1 : -2<=(s.lit.step s.path t).2
 sym2:(s.lit.step s.path t).2<=1000
 good:eH r
 sum:s.sum<4294967296
structure Jm (s:St) (t:Nat):Prop where
 short:gB s.tb.short
 path:Cd s.path
 bit:t<=1
 sym1 : -2<=(s.tb.short.step s.path t).2
 sym2:(s.tb.short.step s.path t).2<=18
 tb:iE s.tb
structure Jk (s:St) (r:Rw) (t:Nat):Prop where
 dist:gB s.dist
 path:Cd s.path
 bit:t<=1
 sym1 : -2<=(s.dist.step s.path t).2
 sym2:(s.dist.step s.path t).2<=1000
 cnt:s.count<=2078
 win:s.window<=100000
 len:s.length<=100000
 copy:∀D,1<=D->D<=s.count->D<=s.window->eW s.length D {s with path:=(s.dist.step s.path t).1} r
def ba(s:St)(r:Rw)(t:Nat):St×Rw×Nat:=if s.part=12 then gY s r t else if s.part=11 then((clP s t).1,r,(clP s t).2) else if s.part=13 then dsP s r t else if s.got+1<s.wanted then(s.oneBit t,r,0) else aL (s.oneBit t) r (s.number+t*2^s.got)
structure pF (s:St) (r:Rw) (t:Nat):Prop where
 part:s.part<=9\/s.part=11\/s.part=12\/s.part=13
 sym:s.part=12->Cb s r t
 cl:s.part=11->Jm s t
 ds:s.part=13->Jk s r t
 got:s.part<=9->s.got<32
 wanted:s.part<=9->s.wanted<=32
 number:s.part<=9->s.number<2^s.got
 bit:t<=1
 num:s.part<=9->¬s.got+1<s.wanted->eY (s.oneBit t) r (s.number+t*2^s.got)
theorem G4 s r t:gY s r t=dB {s with path:=(s.lit.step s.path t).1} r (s.lit.step s.path t).2:=rfl
theorem ux b o n t c s r w(e:Blk w b n c)(f:StV c o s)(z:RwV c (o+3351) r)(R:o+4900<=n)(g:pF s r t)(p:s.part<=9)(A:bw w)(B:NT b):Calls prog 167 #[.pointer (some ⟨b,o,none⟩),.int .u32 t,.pointer (some ⟨b,o+3351,none⟩)] w λh S=>h=.returned (.int .i64 ((ba s r t).2.2:Int))/\aw b o n c (ba s r t).1 (ba s r t).2.1 w S:=by
 have T:=e.at (i:=o) O f.part;have U:=e.at (i:=o+1) O f.number;have j:=e.at (i:=o+2) O f.got;have V:=e.fz;have C:Z _:=e;have D:Z _:=f;have E:Z _:=z;have W:Z (∀q,Fr1 b w q->bw q):=λq X=>A.fr X B
 have a3:((s.part:Int)==11)=false:=Xa;have a4:((s.part:Int)==12)=false:=Xa;have a5:((s.part:Int)==13)=false:=Xa;have Y:=g.got p;have G:=g.bit;have u:=g.number p;obtain⟨a,v⟩:∃a,a=s.got+1:=⟨_,rfl⟩;have a6:(s.got:Int)+1=(a:Int):=O;obtain⟨d,k⟩:∃d,d=s.number+t*2^s.got:=⟨_,rfl⟩;have a7:bits .or .u32 (s.number:Int) ((t:Int)*2^s.got%4294967296)=(d:Int):=by
  have a0:2^s.got<=2^31:=XH O O;have a8:=XF G a0;have h:(t:Int)*2^s.got=((t*2^s.got:Nat):Int):=Xi;rw[k,<-tZ _ _ _ u Y G,h,Int.emod_eq_of_lt O O]
 have H:Z (ba s r t=if a<s.wanted then({s with number:=d,got:=a},r,0) else aL {s with number:=d,got:=a} r d):=by
  show ba s r t=_
  unfold ba St.oneBit;rw[N,N,N,v,k]
 have a1:Z (¬a<s.wanted->eY {s with number:=d,got:=a} r d):=by
  show ¬a<s.wanted->eY {s with number:=d,got:=a} r d
  rw[v,k];exact g.num p
 clear e f z A g v k;have l:Z (StV (upd (upd c (o+1) (.int .u32 d)) (o+2) (.int .u64 a)) o {s with number:=d,got:=a}):=(D.o.set_number d).set_got a;have J:Z (RwV (upd (upd c (o+1) (.int .u32 d)) (o+2) (.int .u64 a)) (o+3351) r):=E.o.congr (λa9 b0 K=>by rw[upd_ne _ _ _ O,upd_ne _ _ _ O]);have L:Z (FrC b o (o+4900) c (upd (upd c (o+1) (.int .u32 d)) (o+2) (.int .u64 a))):=(FrC.upd _ O O).trans (FrC.upd _ O O);replace u:Z _:=u;go_enter func167,ntmps167;go_wp2_with fail;go_quiet (fail);have m:Z (Blk (((w.drewN nq).setCell ⟨b,o+1,none⟩ (.int .u32 d)).setCell ⟨b,o+2,none⟩ (.int .u64 a)) b n (upd (upd c (o+1) (.int .u32 d)) (o+2) (.int .u64 a))):=((C.o.kept ((Kept.refl _).drewN nq)).set O _).set O _;have x:Z (Fr1 b w (((w.drewN nq).setCell ⟨b,o+1,none⟩ (.int .u32 d)).setCell ⟨b,o+2,none⟩ (.int .u64 a))):=Fr1.set (Fr1.set (Fr1.drewN (Fr.refl _ _) nq) _ _) _ _;go_upto_region 14 with fail
 generalize ((w.drewN nq).setCell ⟨b,o+1,none⟩ (.int .u32 d)).setCell ⟨b,o+2,none⟩ (.int .u64 a)=M at *;generalize upd (upd c (o+1) (.int .u32 d)) (o+2) (.int .u64 a)=P at *;clear T U j V C D E;have j:=m.o.at (i:=o+2) O l.o.got;have Q:=m.o.at (i:=o+3) O l.o.wanted;replace j:M.cell? ⟨b,o+2,none⟩=some (.int .u64 a):=j;replace Q:M.cell? ⟨b,o+3,none⟩=some (.int .u64 s.wanted):=Q;by_cases y:a<s.wanted
 .have a2:(a:Int)<(s.wanted:Int):=O
  go_quiet (fail);go_wp2_with fail;go_ret;rw[H.o,I y];exact⟨rfl,P,m.o.kept ((Kept.refl _).drewN _),l.o,J.o,L.o,x.o.kept ((Kept.refl _).drewN _)⟩
 .have a2:¬(a:Int)<(s.wanted:Int):=O
  go_quiet (fail);go_wp2_with fail;refine(pY b o n d P {s with number:=d,got:=a} r _ (m.o.kept ((Kept.refl _).drewN _)) l.o J.o R (a1.o y) (W.o _ (x.o.kept ((Kept.refl _).drewN _))) B).mono ?_;rintro h b1 ⟨rfl,K⟩;go_wp2_with fail;go_ret;rw[H.o,N y];exact⟨rfl,aw.next L.o (x.o.kept ((Kept.refl _).drewN _)) K⟩
theorem uw b o n t c s r w(j:Blk w b n c)(h:StV c o s)(v:RwV c (o+3351) r)(E:o+4900<=n)(F:s.part=12)(e:Cb s r t)(k:bw w)(l:NT b):Calls prog 167 #[.pointer (some ⟨b,o,none⟩),.int .u32 t,.pointer (some ⟨b,o+3351,none⟩)] w λf g=>f=.returned (.int .i64 ((gY s r t).2.2:Int))/\aw b o n c (gY s r t).1 (gY s r t).2.1 w g:=by
 have G:=j.at (i:=o) O h.part;rw[F] at G;have H:=e.bit;have x:Z (∀a,Kept w a->Calls prog 186 #[.pointer (some ⟨b,o+11,none⟩),.pointer (some ⟨b,o+4,none⟩),.int .i64 t] a λf g=>f=.returned (.int .i64 (s.lit.step s.path t).2)/\∃d,Blk g b n d/\PtV d (o+4) (s.lit.step s.path t).1/\FrC b (o+4) (o+4+3) c d/\Fr1 b a g):=λa I=>ri b (o+11) (o+4) n t c s.lit s.path a (j.kept I) h.lit h.path O O e.lit e.path H
 have y:Z (∀(a:World) (d:Nat->Value),Blk a b n d->PtV d (o+4) (s.lit.step s.path t).1->FrC b (o+4) (o+4+3) c d->Fr1 b w a->Calls prog 188 #[.pointer (some ⟨b,o,none⟩),.int .i64 (s.lit.step s.path t).2,.pointer (some ⟨b,o+3351,none⟩)] a λf g=>f=.returned (.int .i64 ((gY s r t).2.2:Int))/\aw b o n d (gY s r t).1 (gY s r t).2.1 a g):=λa d J K z A=>by
  rw[G4];exact pV b o n _ d {s with path:=(s.lit.step s.path t).1} r a J (h.set_path _ K (λm L=>z.o m (λM=>L ⟨M.1,O⟩))) (v.congr (λm T U=>z.o m O)) E e.good (k.fr A l).grd l.grd (k.fr A l).tabs e.sum e.sym1 e.sym2
 generalize gY s r t=V at *;generalize (s.lit.step s.path t).2=W at *;generalize (s.lit.step s.path t).1=X at *;clear j h v k e;have Y:IntKind.i64.wrap (t:Int)=(t:Int):=Xd;go_enter func167,ntmps167;go_wp2_with fail;go_region_held3 (λa=>True) (trivial) ((go_at_call 186;refine(x.o _ ((Kept.refl _).drewN 1)).mono ?_;rintro a0 N ⟨rfl,P⟩))
 obtain⟨d,B,C,p,D⟩:=P;have q:=Fr.trans (Fr1.drewN (Fr.refl _ _) 1) D;clear D;have u:=y.o N d B C p q;replace u:Z _:=u;have Q:Z (FrC b o (o+4900) c d):=p.mono O O;have R:Z _:=q;clear B C p q x y;go_wp2_with fail;refine X9 u.o ?_;rintro f a1 ⟨rfl,S⟩;go_wp2_with fail;go_ret;exact⟨rfl,aw.next Q.o R.o S⟩
theorem uy b o n t c s r w(j:Blk w b n c)(h:StV c o s)(q:RwV c (o+3351) r)(R:o+4900<=n)(C:s.part=11)(e:Jm s t)(D:bw w)(S:NT b):Calls prog 167 #[.pointer (some ⟨b,o,none⟩),.int .u32 t,.pointer (some ⟨b,o+3351,none⟩)] w λf g=>f=.returned (.int .i64 ((clP s t).2:Int))/\aw b o n c (clP s t).1 r w g:=by
 have E:=j.at (i:=o) O h.part;rw[C] at E;have F:=e.bit;have u:Z (∀a,Kept w a->Calls prog 186 #[.pointer (some ⟨b,o+623+3,none⟩),.pointer (some ⟨b,o+4,none⟩),.int .i64 t] a λf g=>f=.returned (.int .i64 (s.tb.short.step s.path t).2)/\∃d,Blk g b n d/\PtV d (o+4) (s.tb.short.step s.path t).1/\FrC b (o+4) (o+4+3) c d/\Fr1 b a g):=λa G=>ri b (o+623+3) (o+4) n t c s.tb.short s.path a (j.kept G) h.tb.short h.path O O e.short e.path F
 have v:Z (∀(a:World) (d:Nat->Value),Blk a b n d->PtV d (o+4) (s.tb.short.step s.path t).1->FrC b (o+4) (o+4+3) c d->Fr1 b w a->Calls prog 187 #[.pointer (some ⟨b,o,none⟩),.int .i64 (s.tb.short.step s.path t).2] a λf g=>f=.returned (.int .i64 ((clP s t).2:Int))/\aw b o n d (clP s t).1 r a g):=λa d H I x T=>by
  refine(zj b o n _ d {s with path:=(s.tb.short.step s.path t).1} a H (h.set_path _ I (λk J=>x.o k (λK=>J ⟨K.1,O⟩))) O e.sym1 e.sym2 e.tb).mono ?_;rintro f g ⟨rfl,y⟩;exact⟨rfl,aw.of_st (q.congr (λk y U=>x.o k O)) y⟩
 generalize clP s t=V at *;generalize (s.tb.short.step s.path t).2=W at *;generalize (s.tb.short.step s.path t).1=X at *;clear j h q D e;have Y:IntKind.i64.wrap (t:Int)=(t:Int):=Xd;go_enter func167,ntmps167;go_wp2_with fail;go_region_held3 (λa=>True) (trivial) ((go_at_call 186;refine(u.o _ ((Kept.refl _).drewN 1)).mono ?_;rintro a0 L ⟨rfl,M⟩))
 obtain⟨d,z,A,l,B⟩:=M;have m:=Fr.trans (Fr1.drewN (Fr.refl _ _) 1) B;clear B;have p:=v.o L d z A l m;replace p:Z _:=p;have N:Z (FrC b o (o+4900) c d):=l.mono O O;have P:Z _:=m;clear z A l m u v;go_wp2_with fail;refine X9 p.o ?_;rintro f a1 ⟨rfl,Q⟩;go_wp2_with fail;go_ret;exact⟨rfl,aw.next N.o P.o Q⟩
theorem uz b o n t c s r w(j:Blk w b n c)(h:StV c o s)(v:RwV c (o+3351) r)(E:o+4900<=n)(F:s.part=13)(e:Jk s r t)(k:bw w)(l:NT b):Calls prog 167 #[.pointer (some ⟨b,o,none⟩),.int .u32 t,.pointer (some ⟨b,o+3351,none⟩)] w λf g=>f=.returned (.int .i64 ((dsP s r t).2.2:Int))/\aw b o n c (dsP s r t).1 (dsP s r t).2.1 w g:=by
 have G:=j.at (i:=o) O h.part;rw[F] at G;have H:=e.bit;have x:Z (∀a,Kept w a->Calls prog 186 #[.pointer (some ⟨b,o+317,none⟩),.pointer (some ⟨b,o+4,none⟩),.int .i64 t] a λf g=>f=.returned (.int .i64 (s.dist.step s.path t).2)/\∃d,Blk g b n d/\PtV d (o+4) (s.dist.step s.path t).1/\FrC b (o+4) (o+4+3) c d/\Fr1 b a g):=λa I=>ri b (o+317) (o+4) n t c s.dist s.path a (j.kept I) h.dist h.path O O e.dist e.path H
 have y:Z (∀(a:World) (d:Nat->Value),Blk a b n d->PtV d (o+4) (s.dist.step s.path t).1->FrC b (o+4) (o+4+3) c d->Fr1 b w a->Calls prog 189 #[.pointer (some ⟨b,o,none⟩),.int .i64 (s.dist.step s.path t).2,.pointer (some ⟨b,o+3351,none⟩)] a λf g=>f=.returned (.int .i64 ((dsP s r t).2.2:Int))/\aw b o n d (dsP s r t).1 (dsP s r t).2.1 a g):=λa d J K z A=>by
  exact vA b o n _ d {s with path:=(s.dist.step s.path t).1} r a J (h.set_path _ K (λm L=>z.o m (λM=>L ⟨M.1,O⟩))) (v.congr (λm T U=>z.o m O)) E (k.fr A l).grd l.grd (k.fr A l).tabs e.sym1 e.sym2 e.cnt e.win e.len e.copy
 generalize dsP s r t=V at *;generalize (s.dist.step s.path t).2=W at *;generalize (s.dist.step s.path t).1=X at *;clear j h v k e;have Y:IntKind.i64.wrap (t:Int)=(t:Int):=Xd;go_enter func167,ntmps167;go_wp2_with fail;go_region_held3 (λa=>True) (trivial) ((go_at_call 186;refine(x.o _ ((Kept.refl _).drewN 1)).mono ?_;rintro a0 N ⟨rfl,P⟩))
 obtain⟨d,B,C,p,D⟩:=P;have q:=Fr.trans (Fr1.drewN (Fr.refl _ _) 1) D;clear D;have u:=y.o N d B C p q;replace u:Z _:=u;have Q:Z (FrC b o (o+4900) c d):=p.mono O O;have R:Z _:=q;clear B C p q x y;go_wp2_with fail;refine X9 u.o ?_;rintro f a1 ⟨rfl,S⟩;go_wp2_with fail;go_ret;exact⟨rfl,aw.next Q.o R.o S⟩
theorem yj b o n t c s r w(f:Blk w b n c)(g:StV c o s)(h:RwV c (o+3351) r)(i:o+4900<=n)(d:pF s r t)(j:bw w)(k:NT b):Calls prog 167 #[.pointer (some ⟨b,o,none⟩),.int .u32 t,.pointer (some ⟨b,o+3351,none⟩)] w λa p=>a=.returned (.int .i64 ((ba s r t).2.2:Int))/\aw b o n c (ba s r t).1 (ba s r t).2.1 w p:=by
 by_cases e:s.part=12
 .have a:ba s r t=gY s r t:=by unfold ba;rw[I e]
  rw[a];exact uw b o n t c s r w f g h i e (d.sym e) j k
 by_cases l:s.part=11
 .have a:ba s r t=((clP s t).1,r,(clP s t).2):=by unfold ba;rw[N e,I l]
  rw[a];exact uy b o n t c s r w f g h i l (d.cl l) j k
 by_cases m:s.part=13
 .have a:ba s r t=dsP s r t:=by unfold ba;rw[N e,N l,I m]
  rw[a];exact uz b o n t c s r w f g h i m (d.ds m) j k
 .exact ux b o n t c s r w f g h i d (by have:=d.part;omega) j k
def bN:Nat->Nat->St->Rw->Nat->St×Rw×Nat
 | 0,_,s,r,_=>(s,r,0)
 | k+1,i,s,r,x=>if s.skip then(s,r,0) else if(ba s r (x/2^i%2)).2.2=0 then bN k (i+1) (ba s r (x/2^i%2)).1 (ba s r (x/2^i%2)).2.1 x else ba s r (x/2^i%2)
def eL:Nat->Nat->St->Rw->Nat->Prop
 | 0,_,_,_,_=>True
 | k+1,i,s,r,x=>s.skip=true\/(pF s r (x/2^i%2)/\((ba s r (x/2^i%2)).2.2=0->eL k (i+1) (ba s r (x/2^i%2)).1 (ba s r (x/2^i%2)).2.1 x))
def takeB(s:St)(r:Rw)(x:Nat):St×Rw×Nat:=if s.part=10 then(s,r,20) else bN 8 0 {s with skip:=false} r x
structure BtR (b o n:Nat) (c:Nat->Value) (w:World) (x i:Nat) (T:St×Rw×Nat) (d:Nat->Value) (s:St) (r:Rw) (W:World):Prop where
 B:Blk W b n d
 S:StV d o s
 R:RwV d (o+3351) r
 C:FrC b o (o+4900) c d
 F:Fr1 b w W
 i8:i<=8
 eq:bN (8-i) i s r x=T
 ok:eL (8-i) i s r x
theorem Cn(x i:Nat)(b:x<256):bits .and .u32 ((x:Int)/2^i) 1=((x/2^i%2:Nat):Int):=by
 have a:(x:Int)/2^i=((x/2^i:Nat):Int):=Xi;rw[a];exact iG _ (Zh (Yz _ _) O)
theorem zF(x i:Nat)(b:x<256):bits .and .u32 ((x:Int)/2^i%4294967296) 1=((x/2^i%2:Nat):Int):=by
 have c:(x:Int)/2^i=((x/2^i:Nat):Int):=Xi;have d:x/2^i<=x:=Yz _ _;obtain⟨a,e⟩:∃a,a=x/2^i:=⟨_,rfl⟩;rw[<-Cn x i b,c];rw[<-e] at d ⊢;rw[Int.emod_eq_of_lt O O]
theorem CI b o n x c s r w(l:Blk w b n c)(t:StV c o s)(E:RwV c (o+3351) r)(b3:o+4900<=n)(P:s.part≠10->eL 8 0 {s with skip:=false} r x)(Q:bw w)(Y:NT b)(b4:x<256):Calls prog 149 #[.pointer (some ⟨b,o,none⟩),.int .u8 x,.pointer (some ⟨b,o+3351,none⟩)] w λm y=>m=.returned (.int .i64 ((takeB s r x).2.2:Int))/\aw b o n c (takeB s r x).1 (takeB s r x).2.1 w y:=by
 by_cases u:s.part=10
 .have F:=U (aw.refl l t E)
  have G:Z (Calls prog 111 #[.pointer (some ⟨b,o,none⟩)] w λm y=>m=.returned (.bool true)/\y=w):=by
   have:=jE b o n c s w l t O
   rw[K u] at this;exact this
  have j:Z (takeB s r x=(s,r,20)):=I u;clear l t E P Q u;go_enter func149,ntmps149;go_wp2_with fail;refine G.o.mono ?_;rintro m R ⟨rfl,b5⟩;subst R;go_wp2_with fail;go_ret;rw[j.o];exact⟨rfl,F.o⟩
 have a0:=P u;clear P;have H:=l.at (i:=o+7) O t.skip;have b6:=l.fz (o+7);have G:Z (Calls prog 111 #[.pointer (some ⟨b,o,none⟩)] w λm y=>m=.returned (.bool false)/\y=w):=by
  have:=jE b o n c s w l t O
  rw[J u] at this;exact this
 have b7:Z (∀z,Fr1 b w z->bw z):=λz b8=>Q.fr b8 Y
 obtain⟨h,S⟩:∃h,h=takeB s r x:=⟨_,rfl⟩;rw[<-S];have F:Z (BtR b o n c w x 0 h (upd c (o+7) (.bool false)) {s with skip:=false} r (w.setCell ⟨b,o+7,none⟩ (.bool false))) :=
  ⟨l.set O _,t.set_skip false,E.congr (λa c4 c5=>upd_ne _ _ _ O),FrC.upd _ O O,Fr1.set (Fr.refl _ _) _ _,O,by rw[S];exact(N u).symm,a0⟩
 clear S l t E a0 Q u;go_enter func149,ntmps149;go_wp2_with fail;refine G.o.mono ?_;rintro m R ⟨rfl,b5⟩;subst R;go_wp2_with fail;go_loopg [7,8] 8 (λb9 c0 c6 z=>∃a A,∃d:St,∃f:Rw,b9=8-a/\c0=.int .u64 a/\BtR b o n c w x a h A d f z)
 case atStart=>exact⟨0,_,_,_,rfl,rfl,F.o⟩
 case round=>
  obtain⟨a,A,d,f,T,rfl,B⟩:=hrel;clear F G H b6;have e:Z _:=B;replace T:Z _:=T;have c7:=B.i8;have H:=B.B.at (i:=o+7) O B.S.skip;clear B;by_cases c8:a<8
  .have c1:(a:Int)<8:=O
   obtain⟨p,q⟩:∃p,8-a=p+1:=⟨7-a,O⟩;cases k:d.skip with
   | true=>
    rw[k] at H;have j:Z (h=(d,f,0)):=by
     show h=_
     rw[<-e.o.eq,q];show bN (p+1) a d f x=_
     rw[bN,k];exact I rfl
    replace k:Z _:=k;replace q:Z _:=q;go_wp2_with fail;go_ret;rw[j.o];exact⟨rfl,A,e.o.B,e.o.S,e.o.R,e.o.C,e.o.F⟩
   | false=>
    rw[k] at H;obtain⟨g,L⟩:∃g,g=x/2^a%2:=⟨_,rfl⟩;have c9:bits .and .u32 ((x:Int)/2^a%4294967296) 1=(g:Int):=by rw[L];exact zF x a b4
    have j:Z (h=if(ba d f g).2.2=0 then bN p (a+1) (ba d f g).1 (ba d f g).2.1 x else ba d f g):=by
     show h=_
     rw[<-e.o.eq,q];show bN (p+1) a d f x=_
     rw[bN,k,L];exact N Xh
    have V:Z (pF d f g/\((ba d f g).2.2=0->eL p (a+1) (ba d f g).1 (ba d f g).2.1 x)):=by
     have v:=e.o.ok;rw[q] at v;rw[L];rcases v with v|v
     .rw[k] at v;exact absurd v Xi
     .exact v
    clear L;have W:=U (yj b o n g A d f wr e.o.B e.o.S e.o.R b3 V.o.1 (b7.o _ e.o.F) Y);obtain⟨C,M⟩:∃C,C=(ba d f g).2.2:=⟨_,rfl⟩;have c2:Z _:=M;rw[<-M] at W j;rw[<-M] at V;replace k:Z _:=k;replace q:Z _:=q;clear M;go_wp2_with fail;refine W.o.mono ?_;rintro m d0 ⟨rfl,a1,a2,a3,a4,a5,a6⟩;have a7:Z _:=a2;have a8:Z _:=a3;have a9:Z _:=a4;have b0:Z _:=e.o.C.trans a5;have b1:Z _:=e.o.F.trans a6;clear a2 a3 a4 a5 a6 W;by_cases D:C=0
    .have c3:((C:Int)!=0)=false:=by rw[Xx];omega
     have X:Z (h=bN p (a+1) (ba d f g).1 (ba d f g).2.1 x):=by show h=_;rw[j.o,I D]
     replace D:Z _:=D;go_wp2_with fail;go_roundg (8-(a+1))
     case measure=>rw[T.o];omega
     case rel=>
      have b2:8-(a+1)=p:=by have:=q.o;omega
      exact⟨a+1,a1,_,_,rfl,Xj,a7.o,a8.o,a9.o,b0.o,b1.o,O,by rw[b2];exact X.o.symm,by rw[b2];exact(V.o.2 D)⟩
    .have c3:((C:Int)!=0)=true:=by rw[XJ];omega
     have X:Z (h=ba d f g):=by show h=_;rw[j.o,N D]
     go_wp2_with fail;go_ret;rw[X.o];exact⟨an (by rw[c2.o]),a1,a7.o,a8.o,a9.o,b0.o,b1.o⟩
  .have c1:¬(a:Int)<8:=O
   have j:Z (h=(d,f,0)):=by
    show h=_
    rw[<-e.o.eq,show 8-a=0 from O];rfl
   go_wp2_with fail;go_ret;rw[j.o];exact⟨rfl,A,e.o.B,e.o.S,e.o.R,e.o.C,e.o.F⟩
def cs0:CS:=⟨λ_=>0,λ_=>0,0,0⟩
def tb0:Tb:=⟨0,0,0,cs0,λ_=>0,λ_=>0,0,0⟩
def st0(sum:Nat):St:=⟨0,0,0,0,⟨0,0,0⟩,false,0,false,0,cs0,cs0,tb0,0,0,λ_=>0,0,sum⟩
def St.start:St:=(st0 1).enter 0 16
def stH:List Value:=[.int .i64 0,.int .u32 0,.int .u64 0,.int .u64 0,.int .i64 0,.int .i64 0,.int .i64 0,.bool false,.int .i64 0,.bool false]
def stT:List Value:=List.replicate 922 (.int .i64 0)++(List.replicate 335 (.int .u8 0)++(List.replicate 4 (.int .i64 0)++List.replicate 2078 (.int .u8 0)))
theorem iI:stT.length=3339:=by unfold stT;rw[Xv,Xv,Xv,XE,XE,XE,XE]
theorem rM:zeroCells89.toList=stH++(stT++[.int .i64 0,.int .u32 0]):=Xk
theorem se:zeroCells89.size=3351:=by
 rw[<-Array.length_toList,rM,Xv,Xv,iI,show stH.length=10 from rfl];simp only[Yj,List.length_nil]
theorem A8:(prog.info? 89).map (·.size)=some 3351:=Xk
theorem IM j(a:j<922):stT.getD j undef=.int .i64 0:=df _ _ _ _ a
theorem IL j(a:j<335):stT.getD (922+j) undef=.int .u8 0:=(ay _ _ 922 j (XE ..)).trans (df _ _ _ _ a)
theorem IK j(a:j<4):stT.getD (922+(335+j)) undef=.int .i64 0:=(ay _ _ 922 _ (XE ..)).trans ((ay _ _ 335 j (XE ..)).trans (df _ _ _ _ a))
theorem IJ j(a:j<2078):stT.getD (922+(335+(4+j))) undef=.int .u8 0:=(ay _ _ 922 _ (XE ..)).trans ((ay _ _ 335 _ (XE ..)).trans ((ay _ _ 4 j (XE ..)).trans (by
 have:=df 2078 j (.int .u8 0) [] a
 rw[XN] at this;exact this)))
theorem zU(k:Nat):StV (λj=>(stH++(stT++[Value.int .i64 0,.int .u32 k])).getD j undef) 0 (st0 k):=by
 have m:stH.length=10:=rfl;obtain⟨f,g⟩:∃f,f=stH++(stT++[Value.int .i64 0,.int .u32 k]):=⟨_,rfl⟩;rw[<-g];have d:∀a c,a<10->stH.getD a undef=c->f.getD a undef=c:=λa c e h=>by rw[g];exact(dX _ _ a (by rw[m];exact e)).trans h
 have i:∀j c,j<3339->stT.getD j undef=c->f.getD (10+j) undef=c:=λj c r h=>by
  rw[g];exact(ay _ _ 10 j m).trans ((dX _ _ j (by rw[iI];exact r)).trans h)
 have p:∀j c,[Value.int .i64 0,.int .u32 k].getD j undef=c->f.getD (3349+j) undef=c:=λj c h=>by
  rw[g,show 3349+j=10+(3339+j) from O];exact(ay _ _ 10 _ m).trans ((ay _ _ 3339 j iI).trans h)
 have b:∀a,10<=a->a<932->f.getD a undef=.int .i64 0:=λa n o=>by
  have:=i (a-10) _ O (IM (a-10) O)
  rw[show 10+(a-10)=a from O] at this;exact this
 have q:∀a,932<=a->a<1267->f.getD a undef=.int .u8 0:=λa n o=>by
  have:=i (922+(a-932)) _ O (IL (a-932) O)
  rw[show 10+(922+(a-932))=a from O] at this;exact this
 have l:∀a,1267<=a->a<1271->f.getD a undef=.int .i64 0:=λa n o=>by
  have:=i (922+(335+(a-1267))) _ O (IK (a-1267) O)
  rw[show 10+(922+(335+(a-1267)))=a from O] at this;exact this
 have s:∀a,1271<=a->a<3349->f.getD a undef=.int .u8 0:=λa n o=>by
  have:=i (922+(335+(4+(a-1271)))) _ O (IJ (a-1271) O)
  rw[show 10+(922+(335+(4+(a-1271))))=a from O] at this;exact this
 clear g i;refine⟨d 0 _ O rfl,d 1 _ O rfl,d 2 _ O rfl,d 3 _ O rfl,⟨d 4 _ O rfl,d 5 _ O rfl,d 6 _ O rfl⟩,d 7 _ O rfl,d 8 _ O rfl,d 9 _ O rfl,b _ O O,?_,?_,?_,l _ O O,l _ O O,λa e=>s _ O O,p 0 _ rfl,p 1 _ rfl⟩
 .exact⟨λa e=>b _ O O,λa e=>b _ O O,b _ O O,b _ O O⟩
 .exact⟨λa e=>b _ O O,λa e=>b _ O O,b _ O O,b _ O O⟩
 .exact⟨b _ O O,b _ O O,b _ O O,⟨λa e=>b _ O O,λa e=>b _ O O,b _ O O,b _ O O⟩,λa e=>q _ O O,λa e=>q _ O O,l _ O O,l _ O O⟩
theorem yv P T(a z v:Value)(n:Nat)(b:P.length+T.length+1=n):(P++(T++[a,z])).set n v=P++(T++[a,v]):=by
 rw[List.set_append_right _ _ O,List.set_append_right _ _ O,show n-P.length-T.length=1 from O];rfl
theorem Hx:∃a:List Value,zeroCells89.toList.set 3350 (.int .u32 1)=a/\a.length=3351/\StV (λj=>a.getD j undef) 0 (st0 1):=by
 have b:stH.length=10:=rfl;rw[rM,yv stH stT _ _ _ 3350 (by rw[iI,b])];refine⟨_,rfl,?_,zU 1⟩;rw[Xv,Xv,iI,b];simp only[Yj,List.length_nil]
theorem CSV.one{c o s}(h:CSV c o s)i(b:i<306):(c (o+i)).oneCell'=true:=by
 by_cases a:i<16
 .rw[h.count i a];rfl
 .by_cases d:i<304
  .have:=h.sym (i-16) O
   rw[show o+16+(i-16)=o+i from O] at this;rw[this];rfl
  .have:i=304\/i=305:=O
   rcases this with rfl|rfl
   .rw[h.total];rfl
   .rw[h.longest];rfl
theorem TbV.one{c o s}(h:TbV c o s)i(a:i<646):(c (o+i)).oneCell'=true:=by
 by_cases b:i<3
 .have:i=0\/i=1\/i=2:=O
  rcases this with rfl|rfl|rfl
  .rw[show c (o+0)=_ from h.literals];rfl
  .rw[h.distances];rfl
  .rw[h.shorts];rfl
 .by_cases d:i<309
  .have:=h.short.one (i-3) O
   rw[show o+3+(i-3)=o+i from O] at this;exact this
  .by_cases e:i<328
   .have:=h.sl (i-309) O
    rw[show o+309+(i-309)=o+i from O] at this;rw[this];rfl
   .by_cases f:i<644
    .have:=h.ls (i-328) O
     rw[show o+328+(i-328)=o+i from O] at this;rw[this];rfl
    .have:i=644\/i=645:=O
     rcases this with rfl|rfl
     .rw[h.told];rfl
     .rw[h.rep];rfl
theorem StV.one{c o s}(h:StV c o s)i(a:i<3351):(c (o+i)).oneCell'=true:=by
 by_cases b:i<11
 .have:i=0\/i=1\/i=2\/i=3\/i=4\/i=5\/i=6\/i=7\/i=8\/i=9\/i=10:=O
  rcases this with rfl|rfl|rfl|rfl|rfl|rfl|rfl|rfl|rfl|rfl|rfl
  .rw[show c (o+0)=_ from h.part];rfl
  .rw[h.number];rfl
  .rw[h.got];rfl
  .rw[h.wanted];rfl
  .rw[h.path.bits];rfl
  .rw[show c (o+5)=_ from h.path.offset];rfl
  .rw[show c (o+6)=_ from h.path.ahead];rfl
  .rw[h.skip];rfl
  .rw[h.window];rfl
  .rw[h.last];rfl
  .rw[h.left];rfl
 .by_cases d:i<317
  .have:=h.lit.one (i-11) O
   rw[show o+11+(i-11)=o+i from O] at this;exact this
  .by_cases e:i<623
   .have:=h.dist.one (i-317) O
    rw[show o+317+(i-317)=o+i from O] at this;exact this
   .by_cases f:i<1269
    .have:=h.tb.one (i-623) O
     rw[show o+623+(i-623)=o+i from O] at this;exact this
    .by_cases g:i<1271
     .have:i=1269\/i=1270:=O
      rcases this with rfl|rfl
      .rw[h.length];rfl
      .rw[h.base];rfl
     .by_cases j:i<3349
      .have:=h.hist (i-1271) O
       rw[show o+1271+(i-1271)=o+i from O] at this;rw[this];rfl
      .have:i=3349\/i=3350:=O
       rcases this with rfl|rfl
       .rw[h.count];rfl
       .rw[h.sum];rfl
theorem z5 w:Calls prog 146 #[] w λe F=>∃b:List Value,e=.returned (.agg b.toArray)/\b.length=3351/\StV (λi=>b.getD i undef) 0 St.start/\(∀j∈b,j.oneCell'=true)/\Kept w F:=by
 obtain⟨g,Y,s,H⟩:=Hx;have P:∀j∈g,j.oneCell'=true:=by
  intro j z;obtain⟨a,A,e⟩:=List.getElem_of_mem z
  have:=H.one a O
  rw[XD,G,Xt A] at this;rw[<-e];exact this
 obtain⟨l,p⟩:∃l,l=w.alloc (Obj.cells zeroCells89 89):=⟨_,rfl⟩;have Q:l.heap.size=w.heap.size+1:=by rw[p];simp
 have R:Kept w l:=by rw[p];exact Xw (Xs _ _) (E _) _
 have I:=Blk.new w zeroCells89 89 3351 se;rw[<-p] at I;obtain⟨h,t⟩:∃h,h=l.alloc (Obj.cells zeroCells89 89):=⟨_,rfl⟩;have J:Kept l h:=by rw[t];exact Xw (Xs _ _) (E _) _
 have B:=Blk.new l zeroCells89 89 3351 se;rw[<-t,Q] at B;have T:(storeCells ⟨w.heap.size+1,0,none⟩ g).run prog h=.ok () (h.setCells (w.heap.size+1) 0 g):=aM (by rw[s];exact B.there O) P;have U:=B.sets (k:=0) (m:=3351) O (λa=>g.getD a undef) s (λa A=>by
  show g[a]? = some (g.getD a undef)
  rw[G,Xt O];rfl)
 have V:=H.congr (d:=updL (λi=>zeroCells89.getD i undef) 0 3351 (λa=>g.getD a undef)) (λi _ n=>by
  have:=dA (c:=λi=>zeroCells89.getD i undef) (k:=0) (f:=λa=>g.getD a undef) (show i<3351 from O)
  rw[XD] at this;exact this)
 have K:Fr1 (w.heap.size+1) h (h.setCells (w.heap.size+1) 0 g):=Fr1.sets _ _ (Fr.refl _ _);have u:=Fr.to_kept (S:=λa=>a=w.heap.size+1) (R.trans J) K (λi n e=>O);have x:=(I.kept J).fr K O;have L:Z (∀C,C=h.setCells (w.heap.size+1) 0 g->Calls prog 165 #[.pointer (some ⟨w.heap.size+1,0,none⟩),.int .i64 0,.int .u64 16] C λe F=>e=.returned (.tuple #[])/\ak (w.heap.size+1) 0 3351 (updL (λi=>zeroCells89.getD i undef) 0 3351 (λa=>g.getD a undef)) St.start C F):=λC e=>by
  rw[e];exact bn _ 0 3351 0 16 _ (st0 1) _ U V O
 rw[t,p] at T;replace x:Z _:=x;replace u:Z _:=u;rw[t,p] at L x u;clear H P p t R J I B U V K Q;replace s:Z _:=s;go_enter func146,ntmps146;go_wp2_with fail;refine(L.o _ rfl).mono ?_;rintro e o ⟨rfl,q,W,M,a0,N⟩;have a1:Z (Kept w o):=Fr.to_kept (S:=λa=>a=w.heap.size+1) u.o N (λi n e=>O);obtain⟨b,r⟩:∃b,b=(List.range 3351).map q:=⟨_,rfl⟩;have y:b.length=3351:=by rw[r];exact bA q 3351
 have a2:Z _:=M.congr (λi _ n=>by show b.getD i undef=q i;rw[r];exact mO q 3351 i O);have D:∀j∈b,j.oneCell'=true:=by
  intro j z;rw[r,YP] at z;obtain⟨a,A,rfl⟩:=z
  have:=M.one a (Yi.1 A)
  rw[XD] at this;exact this
 have a3:Z (o.rangeAt (w.heap.size+1) 0 b):=by
  show o.rangeAt (w.heap.size+1) 0 b
  have:=W.range (k:=0) (m:=3351) O
  rw[r];rw[show(λa=>q (0+a))=q from funext (λa=>by rw[XD])] at this;exact this
 have n:Z ((prog.info? 89).map (·.size)=some b.length):=by show _=_;rw[y];exact A8
 have X:Z (o.there w.heap.size 0 b.length):=by show o.there _ 0 b.length;rw[y];exact(x.o.fr N O).there O
 have a5:(storeCells ⟨w.heap.size,0,none⟩ b).run prog o=.ok () (o.setCells w.heap.size 0 b):=aM X.o D;have a4:Z _:=
  Yw _ _ _ _ b _ (XO _ _ _ _ X.o) underlying89 rfl n.o
 replace r:Z _:=r;replace y:Z _:=y;replace D:Z _:=D;clear T L W M a0 N x u Y s;go_wp2_with fail;refine wp_load_mid 89 _ rfl (w.heap.size+1) 0 rfl b _ a3.o underlying89 rfl n.o ?_;go_wp2;refine XA (v := .agg b.toArray) ?_ rfl ⟨b,rfl,y.o,a2.o,D.o,(Fr.to_kept (S:=λa=>a=w.heap.size) a1.o (Fr1.sets _ _ (Fr.refl _ _)) (λi n e=>O))⟩;exact ah rfl _ _ _ _ _ rfl a4.o
