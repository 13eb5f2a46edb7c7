import Derived.Test.YtbedkdnphobmlaaGreatDoorProg
import Derived.Test.YtbedkdnphobmlaaGreatDoorUaa00
import Derived.Test.YtbedkdnphobmlaaGreatDoorUaa01
import Derived.Test.YtbedkdnphobmlaaGreatDoorUaa04
import Derived.Test.YtbedkdnphobmlaaGreatDoorUaa05
import Derived.Test.YtbedkdnphobmlaaGreatDoorUaa07
import Derived.Test.YtbedkdnphobmlaaGreatDoorUaa08
import Derived.Test.YtbedkdnphobmlaaGreatDoorUaa09
set_option linter.all false
set_option maxRecDepth 100000
set_option maxHeartbeats 0
namespace Go.Proofs.YtbedkdnphobmlaaGreatDoor
open Go.RowKit Px Tryz
def St.copy(s:St)(j:Nat):St:=if gT.getD j 0=0 then({s with length:=fa.getD j 0}:St).enter 13 0 else({s with length:=fa.getD j 0}:St).enter 7 (gT.getD j 0)
def St.lengthRest(s:St)(v:Nat):St:=({s with length:=s.length+v}:St).enter 13 0
def cJ(s:St)(r:Rw)(σ:Int):St×Rw×Nat:=
 if σ = -1 then(s,r,0) else if σ<0\/30<=σ then(s,r,13)
 else if σ.toNat/2-1=0 then cz s r (fQ.getD σ.toNat 0) else(({s with base:=fQ.getD σ.toNat 0}:St).enter 8 (σ.toNat/2-1),r,0)
def dC(s:St)(r:Rw)(v:Nat):St×Rw×Nat:=cz s r (s.base+v)
theorem tM b o n j σ c s w(y:Blk w b n c)(z:StV c o s)(A:o+3351<=n)(B:dN w)(C:σ=((257+j:Nat):Int))(D:j<29):Calls prog 204 #[.pointer (some ⟨b,o,none⟩),.int .i64 σ] w λg K=>g=.returned (.int .i64 0)/\ak b o n c (s.copy j) w K:=by
 have E:=U (zn j σ w B C D);have G:=xg j D;have H:Z (s.copy j=if gT.getD j 0=0 then({s with length:=fa.getD j 0}:St).enter 13 0 else({s with length:=fa.getD j 0}:St).enter 7 (gT.getD j 0)):=rfl;generalize fa.getD j 0=e at *;generalize gT.getD j 0=h at *;generalize s.copy j=l at *;have J:Z (∀p,Kept w p->Blk p b n c):=λp L=>y.kept L
 have m:Z _:=z;have S:=G.2.2;clear y z B C G;by_cases f:h=0
 .have M:((h:Int)==0)=true:=by rw[XI];omega
  have q:Z (l=({s with length:=e}:St).enter 13 0):=by show l=_;rw[H.o,I f]
  replace f:Z _:=f;go_enter func204,ntmps204;go_wp2_with fail;refine E.o.mono ?_;rintro g k ⟨rfl,d⟩;have a:=J.o k d;have P:=a.at (i:=o+1269) O m.o.length;have Q:=a.fz (o+1269);replace a:Z _:=a;replace d:Z (Kept w k):=d;go_wp2_with fail;refine(bn b o n 13 0 _ {s with length:=e} _ (a.o.set O _) (m.o.set_length e) A).mono ?_;rintro g R ⟨rfl,r,t,u,v,x⟩;go_wp2_with fail;go_ret;rw[q.o];exact⟨rfl,r,t,u,(FrC.upd _ O O).trans v,(Fr.of_kept d.o).trans ((Fr1.set (Fr.refl _ _) _ _).trans x)⟩
 .have M:((h:Int)==0)=false:=by rw[F];omega
  have q:Z (l=({s with length:=e}:St).enter 7 h):=by show l=_;rw[H.o,N f]
  replace f:Z _:=f;go_enter func204,ntmps204;go_wp2_with fail;refine E.o.mono ?_;rintro g k ⟨rfl,d⟩;have a:=J.o k d;have P:=a.at (i:=o+1269) O m.o.length;have Q:=a.fz (o+1269);replace a:Z _:=a;replace d:Z (Kept w k):=d;go_wp2_with fail;refine(bn b o n 7 h _ {s with length:=e} _ (a.o.set O _) (m.o.set_length e) A).mono ?_;rintro g R ⟨rfl,r,t,u,v,x⟩;go_wp2_with fail;go_ret;rw[q.o];exact⟨rfl,r,t,u,(FrC.upd _ O O).trans v,(Fr.of_kept d.o).trans ((Fr1.set (Fr.refl _ _) _ _).trans x)⟩
theorem qH(b a n v:Nat)c s w(e:Blk w b n c)(f:StV c a s)(j:a+3351<=n)(x:s.length<=100000)(y:v<4294967296):Calls prog 214 #[.pointer (some ⟨b,a,none⟩),.int .u32 v] w λh k=>h=.returned (.int .i64 0)/\ak b a n c (s.lengthRest v) w k:=by
 have z:=e.at (i:=a+1269) O f.length;have A:=e.fz (a+1269);have l:Z _:=e;have m:Z _:=f;obtain⟨d,g⟩:∃d,d=s.length+v:=⟨_,rfl⟩;have B:(s.length:Int)+(v:Int)=(d:Int):=O;have o:Z (s.lengthRest v=({s with length:=d}:St).enter 13 0):=by show s.lengthRest v=_;rw[g];rfl
 generalize s.lengthRest v=C at *;replace g:Z _:=g;clear e f;go_enter func214,ntmps214;go_wp2_with fail;refine(bn b a n 13 0 _ {s with length:=d} _ (l.o.set O _) (m.o.set_length d) j).mono ?_;rintro h D ⟨rfl,p,q,r,t,u⟩;go_wp2_with fail;go_ret;rw[o.o];exact⟨rfl,p,q,r,(FrC.upd _ O O).trans t,(Fr1.set (Fr.refl _ _) _ _).trans u⟩
theorem vB b o n v c s r w(d:Blk w b n c)(e:StV c o s)(h:RwV c (o+3351) r)(m:o+4900<=n)(j:aS w)(p:b≠0)(A:v<=50000)(B:s.base<=50000)(q:s.count<=2078)(t:s.window<=100000)(u:s.length<=100000)(f:1<=s.base+v->s.base+v<=s.count->s.base+v<=s.window->eW s.length (s.base+v) s r):Calls prog 215 #[.pointer (some ⟨b,o,none⟩),.int .u32 v,.pointer (some ⟨b,o+3351,none⟩)] w λk x=>k=.returned (.int .i64 ((dC s r v).2.2:Int))/\aw b o n c (dC s r v).1 (dC s r v).2.1 w x:=by
 have C:=d.at (i:=o+1270) O e.base;have l:Z (dC s r v=cz s r (s.base+v)):=rfl;obtain⟨a,g⟩:∃a,a=s.base+v:=⟨_,rfl⟩;have D:(s.base:Int)+(v:Int)=(a:Int):=O;rw[<-g] at f l;have y:Z _:=nz b o n a c s r w d e h m j p O q t u f;replace g:Z _:=g;generalize dC s r v=E at *;generalize cz s r a=F at *;clear d e h j f;go_enter func215,ntmps215;go_wp2_with fail;refine X9 y.o ?_;rintro k G ⟨rfl,z⟩;go_wp2_with fail;go_ret;rw[l.o];exact⟨rfl,z⟩
theorem vA b o n σ c s r w(d:Blk w b n c)(e:StV c o s)(h:RwV c (o+3351) r)(H:o+4900<=n)(m:aS w)(J:b≠0)(p:dN w)(Y : -2<=σ)(a0:σ<=1000)(K:s.count<=2078)(L:s.window<=100000)(M:s.length<=100000)(q:∀v,1<=v->v<=s.count->v<=s.window->eW s.length v s r):Calls prog 189 #[.pointer (some ⟨b,o,none⟩),.int .i64 σ,.pointer (some ⟨b,o+3351,none⟩)] w λt P=>t=.returned (.int .i64 ((cJ s r σ).2.2:Int))/\aw b o n c (cJ s r σ).1 (cJ s r σ).2.1 w P:=by
 have A:=U (aw.refl d e h);by_cases f:σ = -1
 .subst f
  have j:Z (cJ s r (-1)=(s,r,0)):=I rfl;clear d e h m q p;go_enter func189,ntmps189;go_wp2;go_ret;rw[j.o];exact⟨rfl,A.o⟩
 have a1:(σ == -1)=false:=by rw[F];exact f
 by_cases g:σ<0\/30<=σ
 .have j:Z (cJ s r σ=(s,r,13)):=by show cJ s r σ=_;unfold cJ;rw[N f,I g]
  clear d e h m q p;by_cases C:σ<0
  .clear g
   go_enter func189,ntmps189;go_wp2;go_ret;rw[j.o];exact⟨rfl,A.o⟩
  .have D:(30:Int)<=σ:=O
   clear g;go_enter func189,ntmps189;go_wp2;go_ret;rw[j.o];exact⟨rfl,A.o⟩
 obtain⟨a,x⟩:∃a:Nat,σ=(a:Int):=⟨σ.toNat,O⟩;subst x;have x:a<30:=O;have a2:¬(a:Int)<0:=O;have a3:¬(30:Int)<=(a:Int):=O;have E:=U (tF a w p x);have G:=xA a x;have j:Z (cJ s r (a:Int)=if a/2-1=0 then cz s r (fQ.getD a 0) else(({s with base:=fQ.getD a 0}:St).enter 8 (a/2-1),r,0)):=by
  show cJ s r (a:Int)=_
  unfold cJ;rw[N f,N g,YQ]
 generalize fQ.getD a 0=k at *;have a4:a/2-1<=13:=O;generalize a/2-1=u at *;generalize cJ s r (a:Int)=y at *;by_cases l:u=0
 .have Q:((u:Int)==0)=true:=by rw[XI];omega
  have B:Z (y=cz s r k):=by show y=_;rw[j.o,I l]
  have R:Z _:=nz b o n k c s r w d e h H m J O K L M (q k);generalize cz s r k=a5 at *;replace l:Z _:=l;clear d e h m q p g G;go_enter func189,ntmps189;go_wp2_with fail;refine E.o.mono ?_;rintro t z ⟨rfl,S⟩;subst z;go_wp2_with fail;refine X9 R.o ?_;rintro t z ⟨rfl,f⟩;go_wp2_with fail;go_ret;rw[B.o];exact⟨rfl,f⟩
 .have Q:((u:Int)==0)=false:=by rw[F];omega
  have B:Z (y=(({s with base:=k}:St).enter 8 u,r,0)):=by show y=_;rw[j.o,N l]
  have a6:=d.at (i:=o+1270) O e.base;have a7:=d.fz (o+1270);have T:Z _:=d;have V:Z _:=e;have W:Z _:=h;replace l:Z _:=l;clear d e h m q p g G;go_enter func189,ntmps189;go_wp2_with fail;refine E.o.mono ?_;rintro t z ⟨rfl,S⟩;subst z;go_wp2_with fail;refine(bn b o n 8 u _ {s with base:=k} _ (T.o.set O _) (V.o.set_base k) O).mono ?_;rintro t a8 ⟨rfl,X,f,g,C,D⟩;go_wp2_with fail;go_ret;rw[B.o];exact⟨rfl,aw.of_st W.o ⟨X,f,g,(FrC.upd _ O O).trans C,(Fr1.set (Fr.refl _ _) _ _).trans D⟩⟩
theorem Cg:zeroCells86.toList=[.int .i64 0,.int .i64 0,.int .i64 0]++(List.replicate 306 (.int .i64 0)++(List.replicate 335 (.int .u8 0)++List.replicate 2 (.int .i64 0))):=Xk
def tbL(a b c:Nat):List Value:=[.int .i64 (a:Int),.int .i64 (b:Int),.int .i64 (c:Int)]++(List.replicate 306 (.int .i64 0)++(List.replicate 335 (.int .u8 0)++List.replicate 2 (.int .i64 0)))
theorem Cv a b c:(tbL a b c).length=646:=by
 unfold tbL;simp only[Xv,XE,Yj,List.length_nil]
theorem Ct(a b c:Nat):((zeroCells86.toList.set 0 (.int .i64 a)).set 1 (.int .i64 b)).set 2 (.int .i64 c)=tbL a b c:=by
 rw[Cg];rfl
def tbN(a b c:Nat):Tb:=⟨a,b,c,oC,λ_=>0,λ_=>0,0,0⟩
theorem IE a b c:TbV (λj=>(tbL a b c).getD j undef) 0 (tbN a b c):=by
 have l:∀d,d<306->(tbL a b c).getD (3+d) undef=.int .i64 0:=λd e=>(ay _ _ 3 d rfl).trans (df _ _ _ _ e)
 have m:∀d,d<335->(tbL a b c).getD (3+(306+d)) undef=.int .u8 0:=λd e=>(ay _ _ 3 _ rfl).trans ((ay _ _ 306 d (XE ..)).trans (df _ _ _ _ e))
 have n:∀d,d<2->(tbL a b c).getD (3+(306+(335+d))) undef=.int .i64 0:=λd e=>(ay _ _ 3 _ rfl).trans ((ay _ _ 306 _ (XE ..)).trans ((ay _ _ 335 d (XE ..)).trans (by
  have:=df 2 d (.int .i64 0) [] e
  rw[XN] at this;exact this)))
 have f:∀d,3<=d->d<309->(tbL a b c).getD d undef=.int .i64 0:=λd g h=>by
  have:=l (d-3) O;rwa [show 3+(d-3)=d from O] at this
 have i:∀d,309<=d->d<644->(tbL a b c).getD d undef=.int .u8 0:=λd g h=>by
  have:=m (d-309) O;rwa [show 3+(306+(d-309))=d from O] at this
 have k:∀d,644<=d->d<646->(tbL a b c).getD d undef=.int .i64 0:=λd g h=>by
  have:=n (d-644) O;rwa [show 3+(306+(335+(d-644)))=d from O] at this
 exact⟨rfl,rfl,rfl,⟨λd e=>f _ O O,λd e=>f _ O O,f _ O O,f _ O O⟩,λd e=>i _ O O,λd e=>i _ O O,k _ O O,k _ O O⟩
theorem Cu a b c:∀e∈tbL a b c,e.oneCell'=true:=by
 intro e d;unfold tbL at d;simp only[XW,Y4,List.not_mem_nil,or_false,Yt] at d;rcases d with(rfl|rfl|rfl)|⟨_,rfl⟩|⟨_,rfl⟩|⟨_,rfl⟩<;>rfl
theorem oH(v:Nat)(a:v<4294967296):bits .and .u32 (v:Int) 31=((v%32:Nat):Int):=by
 have:=ku v 31 a O
 rw[show(31:Int)=((31:Nat):Int) from rfl,this]
 congr 1
 exact Zm v 5
theorem StV.put_tb{c d o s t}(h:StV c o s)(e:∀i,o<=i->i<o+3351->(i<o+623\/o+1269<=i)->d i=c i)(f:TbV d (o+623) t):StV d o {s with tb:=t} :=
 ⟨(e _ O O O).trans h.part,(e _ O O O).trans h.number,(e _ O O O).trans h.got,(e _ O O O).trans h.wanted,h.path.congr (λi a b=>e i O O O),(e _ O O O).trans h.skip,(e _ O O O).trans h.window,(e _ O O O).trans h.last,(e _ O O O).trans h.left,h.lit.congr (λi a b=>e i O O O),h.dist.congr (λi a b=>e i O O O),f,(e _ O O O).trans h.length,(e _ O O O).trans h.base,λi g=>(e _ O O O).trans (h.hist i g),(e _ O O O).trans h.count,(e _ O O O).trans h.sum⟩
theorem CSV.shift{c d o p s}(e:∀b,b<306->d (p+b)=c (o+b))(h:CSV c o s):CSV d p s:=
 ⟨λa f=>(e a O).trans (h.count a f),λa f=>by rw[Yg];exact(e (16+a) O).trans (by rw[<-Yg];exact h.sym a f),(e 304 O).trans h.total,(e 305 O).trans h.longest⟩
theorem TbV.shift{c d p s}(e:∀a,a<646->d (p+a)=c a)(h:TbV c 0 s):TbV d p s:=by
 have b:∀a g,a<646->c (0+a)=g->d (p+a)=g:=λa g j k=>(e a j).trans (by rw[XD] at k;exact k)
 refine⟨b 0 _ O h.literals,b 1 _ O h.distances,b 2 _ O h.shorts,h.short.shift (λa j => ?_),λf i => ?_,λf i => ?_,b 644 _ O h.told,b 645 _ O h.rep⟩
 .rw[Yg,e (3+a) O]
 .rw[Yg];exact b (309+f) _ O (by rw[<-Yg];exact h.sl f i)
 .rw[Yg];exact b (328+f) _ O (by rw[<-Yg];exact h.ls f i)
def St.counts(s:St)(v:Nat):St×Nat:=if 286<v%32+257\/30<v/32%32+1 then({s with tb:=tbN (v%32+257) (v/32%32+1) (v/1024+4)},12) else(({s with tb:=tbN (v%32+257) (v/32%32+1) (v/1024+4)}:St).enter 5 3,0)
theorem qb(b a n v:Nat)c s w(A:Blk w b n c)(M:StV c a s)(X:a+3351<=n)(b1:v<16384):Calls prog 211 #[.pointer (some ⟨b,a,none⟩),.int .u32 v] w λP Y=>P=.returned (.int .i64 ((s.counts v).2:Int))/\ak b a n c (s.counts v).1 w Y:=by
 have a0:=oH v O;have a1:=oH (v/32) O;obtain⟨d,B⟩:∃d,d=v%32+257:=⟨_,rfl⟩;obtain⟨e,C⟩:∃e,e=v/32%32+1:=⟨_,rfl⟩;obtain⟨g,D⟩:∃g,g=v/1024+4:=⟨_,rfl⟩;obtain⟨E,F⟩:∃E,E=v/32:=⟨_,rfl⟩;obtain⟨t,Q⟩:∃t,t=v/1024:=⟨_,rfl⟩;obtain⟨H,J⟩:∃H,H=v%32:=⟨_,rfl⟩;obtain⟨K,L⟩:∃K,K=v/32%32:=⟨_,rfl⟩;rw[<-J] at a0;rw[<-L,<-F] at a1;have b2:(v:Int)/32=(E:Int):=O;have b3:(v:Int)/1024=(t:Int):=O;have b4:(H:Int)+257=(d:Int):=O;have b5:(K:Int)+1=(e:Int):=O;have b6:(t:Int)+4=(g:Int):=O;have b7:d<300:=O;have b8:e<40:=O;have b9:g<30:=O;replace J:Z _:=J;replace L:Z _:=L;replace F:Z _:=F;replace Q:Z _:=Q;have R:Z (s.counts v=if 286<d\/30<e then({s with tb:=tbN d e g},12) else(({s with tb:=tbN d e g}:St).enter 5 3,0)):=by
  show s.counts v=_
  rw[B,C,D];rfl
 replace B:Z _:=B;replace C:Z _:=C;replace D:Z _:=D;generalize s.counts v=u at *;obtain⟨f,l⟩:∃f,f=tbL d e g:=⟨_,rfl⟩;have a2:=Ct d e g;rw[<-l] at a2;have x:f.length=646:=by rw[l];exact Cv _ _ _
 have c0:(storeCells ⟨b,a+623,none⟩ f).run prog w=.ok () (w.setCells b (a+623) f):=aM (by rw[x];exact A.there O) (by rw[l];exact Cu _ _ _);have j:=A.sets (k:=a+623) (m:=646) O (λh=>f.getD h undef) x (λh S=>by
  show f[h]? = some (f.getD h undef)
  rw[G,Xt O];rfl)
 have o:TbV (updL c (a+623) 646 (λh=>f.getD h undef)) (a+623) (tbN d e g):=TbV.shift (λh S=>by
  rw[dA S,l]) (IE d e g)
 have p:=M.put_tb (λa3 _ _ c1=>dr O) o;have q:FrC b a (a+3351) c (updL c (a+623) 646 (λh=>f.getD h undef)):=⟨λa3 c2=>dr O⟩;have r:Fr1 b w (w.setCells b (a+623) f):=Fr1.sets _ _ (Fr.refl _ _);have T:=j.at (i:=a+623) O o.literals;have U:=j.at (i:=a+623+1) O o.distances;replace T:(w.setCells b (a+623) f).cell? ⟨b,a+623,none⟩=some (.int .i64 d):=T;replace U:(w.setCells b (a+623) f).cell? ⟨b,a+623+1,none⟩=some (.int .i64 e):=U;replace j:Z _:=j;replace o:Z _:=o;replace p:Z _:=p;replace q:Z _:=q;replace r:Z _:=r;replace l:Z _:=l;replace x:Z _:=x;clear A M;generalize w.setCells b (a+623) f=a4 at *;by_cases y:286<d\/30<e
 .have z:Z (u=({s with tb:=tbN d e g},12)):=by show u=_;rw[R.o,I y]
  by_cases V:286<d
  .have W:(286:Int)<(d:Int):=O
   clear y;go_enter func211,ntmps211;go_wp2;go_ret;rw[z.o];exact⟨rfl,_,j.o,p.o,q.o,r.o⟩
  .have W:¬(286:Int)<(d:Int):=O
   have a5:(30:Int)<(e:Int):=O;clear y;go_enter func211,ntmps211;go_wp2;go_ret;rw[z.o];exact⟨rfl,_,j.o,p.o,q.o,r.o⟩
 .have z:Z (u=(({s with tb:=tbN d e g}:St).enter 5 3,0)):=by show u=_;rw[R.o,N y]
  have W:¬(286:Int)<(d:Int):=O;have a5:¬(30:Int)<(e:Int):=O;have a6:Z _:=bn b a n 5 3 _ {s with tb:=tbN d e g} a4 j.o p.o X;go_enter func211,ntmps211;go_wp2_with fail;refine X9 a6.o ?_;rintro P c3 ⟨rfl,a7,V,a8,a9,b0⟩;go_wp2_with fail;go_ret;rw[z.o];exact⟨rfl,a7,V,a8,q.o.trans a9,r.o.trans b0⟩
theorem ak.one{b o n c s w W}(h:ak b o n c s w W)k v t(j:o+3351<=n)(l:k<646)(e:∀d,TbV d (o+623) s.tb->TbV (upd d (o+623+k) v) (o+623) t):ak b o n c {s with tb:=t} w (W.setCell ⟨b,o+623+k,none⟩ v):=by
 obtain⟨d,f,a,g,i⟩:=h;exact⟨_,f.set (k:=o+623+k) O _,a.put_tb (λm _ _ p=>upd_ne _ _ _ O) (e d a.tb),g.trans (FrC.upd _ O O),Fr1.set i _ _⟩
theorem ak.sl{b a n:Nat}{c:Nat->Value}{s:St}{w W:World}(h:ak b a n c s w W)(d:a+3351<=n)(k v:Nat)(e:k<19):ak b a n c {s with tb:={s.tb with sl:=upd s.tb.sl k v}} w (W.setCell ⟨b,a+623+309+k,none⟩ (.int .u8 v)):=by
 have:=h.one (309+k) (.int .u8 v) {s.tb with sl:=upd s.tb.sl k v} d O (λg f=>by rw[<-Yg];exact f.set_sl k v e)
 rw[<-Yg] at this;exact this
theorem ak.ls{b a n:Nat}{c:Nat->Value}{s:St}{w W:World}(h:ak b a n c s w W)(d:a+3351<=n)(k v:Nat)(e:k<316):ak b a n c {s with tb:={s.tb with ls:=upd s.tb.ls k v}} w (W.setCell ⟨b,a+623+328+k,none⟩ (.int .u8 v)):=by
 have:=h.one (328+k) (.int .u8 v) {s.tb with ls:=upd s.tb.ls k v} d O (λg f=>by rw[<-Yg];exact f.set_ls k v e)
 rw[<-Yg] at this;exact this
theorem ak.told{b a n:Nat}{c:Nat->Value}{s:St}{w W:World}(h:ak b a n c s w W)(d:a+3351<=n)(v:Nat):ak b a n c {s with tb:={s.tb with told:=v}} w (W.setCell ⟨b,a+623+644,none⟩ (.int .i64 v)):=h.one 644 _ _ d O (λf e=>e.set_told v)
theorem ak.rep{b a n:Nat}{c:Nat->Value}{s:St}{w W:World}(h:ak b a n c s w W)(d:a+3351<=n)(v:Int):ak b a n c {s with tb:={s.tb with rep:=v}} w (W.setCell ⟨b,a+623+645,none⟩ (.int .i64 v)):=h.one 645 _ _ d O (λf e=>e.set_rep v)
theorem ak.kept{b o n c s w W W'}(h:ak b o n c s w W)(k:Kept W W'):ak b o n c s w W':=by
 obtain⟨a,d,e,f,g⟩:=h;exact⟨a,d.kept k,e,f,g.kept k⟩
theorem ak.set{b o n c s w W}(h:ak b o n c s w W)(u:o+3351<=n)k x s' cs(e:cs=(List.range 306).map (csC x))(v:k+306<=3351)(m:∀a f,StV a o s->CSV f (o+k) x->(∀d,¬(o+k<=d/\d<o+k+306)->f d=a d)->StV f o s'):(storeCells ⟨b,o+k,none⟩ cs).run prog W=.ok () (W.setCells b (o+k) cs)/\ak b o n c s' w (W.setCells b (o+k) cs):=by
 obtain⟨a,i,p,q,r⟩:=h;have j:cs.length=306:=by rw[e];exact bA _ 306
 refine⟨aM (by rw[j];exact i.there O) (by rw[e];exact gM _),updL a (o+k) 306 (csC x),i.sets O _ j (λl g=>by rw[e,cg _ 306 l g]),m a _ p (CSV.of_cells (λl g=>dA g)) (λd t=>dr t),q.trans (FrC.updL O O),Fr1.sets _ _ r⟩
theorem ak.short{b a n:Nat}{c:Nat->Value}{s:St}{w W:World}(h:ak b a n c s w W)(j:a+3351<=n)(x:CS)(d:List Value)(k:d=(List.range 306).map (csC x)):(storeCells ⟨b,a+623+3,none⟩ d).run prog W=.ok () (W.setCells b (a+623+3) d)/\ak b a n c {s with tb:={s.tb with short:=x}} w (W.setCells b (a+623+3) d) :=
 h.set j 626 x _ d k O (λm o f l g=>f.put_tb (λe _ _ i=>g e O) (f.tb.set_short x l (λe i=>g e (λp=>i ⟨O,O⟩))))
theorem ak.lit{b o n c s w W}(h:ak b o n c s w W)(a:o+3351<=n)x cs(d:cs=(List.range 306).map (csC x)):(storeCells ⟨b,o+11,none⟩ cs).run prog W=.ok () (W.setCells b (o+11) cs)/\ak b o n c {s with lit:=x} w (W.setCells b (o+11) cs) :=
 h.set a 11 x _ cs d O (λk l e f g=>e.set_lit x f (λi j=>g i (λm=>j ⟨O,O⟩)))
theorem ak.dist{b o n c s w W}(h:ak b o n c s w W)(a:o+3351<=n)x cs(d:cs=(List.range 306).map (csC x)):(storeCells ⟨b,o+317,none⟩ cs).run prog W=.ok () (W.setCells b (o+317) cs)/\ak b o n c {s with dist:=x} w (W.setCells b (o+317) cs) :=
 h.set a 317 x _ cs d O (λk l e f g=>e.set_dist x f (λi j=>g i (λm=>j ⟨O,O⟩)))
theorem ak.refl{b o n c s w}(a:Blk w b n c)(d:StV c o s):ak b o n c s w w:=⟨c,a,d,FrC.refl _ _ _ _,Fr.refl _ _⟩
theorem ak.tbc{b o n c s w W}(h:ak b o n c s w W)(g:o+3351<=n):W.cell? ⟨b,o+623,none⟩=some (.int .i64 s.tb.literals)/\W.cell? ⟨b,o+623+1,none⟩=some (.int .i64 s.tb.distances)/\W.cell? ⟨b,o+623+2,none⟩=some (.int .i64 s.tb.shorts)/\W.cell? ⟨b,o+623+644,none⟩=some (.int .i64 s.tb.told)/\W.cell? ⟨b,o+623+645,none⟩=some (.int .i64 s.tb.rep)/\(∀a,a<19->W.cell? ⟨b,o+623+309+a,none⟩=some (.int .u8 (s.tb.sl a)))/\(∀a,a<316->W.cell? ⟨b,o+623+328+a,none⟩=some (.int .u8 (s.tb.ls a)))/\∀a,W.frozen? ⟨b,a,none⟩=false:=by
 obtain⟨i,d,e,j,k⟩:=h;exact⟨d.at O e.tb.literals,d.at O e.tb.distances,d.at O e.tb.shorts,d.at O e.tb.told,d.at O e.tb.rep,λa f=>d.at O (e.tb.sl a f),λa f=>d.at O (e.tb.ls a f),d.fz⟩
def St.short1(s:St)(v:Nat):St:={s with tb:={s.tb with sl:=upd s.tb.sl (cy.getD s.tb.told 0) v,told:=s.tb.told+1}}
def St.short2(s:St):St:={s with tb:={s.tb with short:=cw s.tb.sl 19}}
def St.shortLen(s:St)(v:Nat):St×Nat:=
 if s.tb.told+1<s.tb.shorts then((s.short1 v).enter 5 3,0)
 else if(s.short1 v).short2.tb.short.full=true then(({(s.short1 v).short2 with tb:={(s.short1 v).short2.tb with told:=0}}:St).enter 11 0,0)
 else((s.short1 v).short2,12)
theorem yt(T a:Nat)w(d:T<19)(e:w.cell? ⟨3,T,none⟩=some (.int .i64 a)):Calls prog 196 #[.int .i64 T] w λb c=>b=.returned (.int .i64 a)/\c=w:=by
 have f:(0:Int)<=(T:Int):=O;have g:¬(T:Int)<0:=O;have h:(T:Int)<19:=O;have i:¬(19:Int)<=(T:Int):=O;go_enter func196,ntmps196;go_wp2;go_ret;exact⟨rfl,rfl⟩
theorem uJ w:Calls prog 195 #[.int .i64 16] w λa b=>a=.returned (.tuple #[.int .i64 3,.int .i64 2])/\b=w:=by
 go_enter func195,ntmps195;go_wp2;go_ret2;exact⟨rfl,rfl⟩
theorem Aa w:Calls prog 195 #[.int .i64 17] w λa b=>a=.returned (.tuple #[.int .i64 3,.int .i64 3])/\b=w:=by
 go_enter func195,ntmps195;go_wp2;go_ret2;exact⟨rfl,rfl⟩
theorem z9 w:Calls prog 195 #[.int .i64 18] w λa b=>a=.returned (.tuple #[.int .i64 11,.int .i64 7])/\b=w:=by
 go_enter func195,ntmps195;go_wp2;go_ret2;exact⟨rfl,rfl⟩
theorem IQ(x:Nat)w(a:x≠16)(b:x≠17)(c:x≠18):Calls prog 195 #[.int .i64 x] w λd e=>d=.returned (.tuple #[.int .i64 1,.int .i64 0])/\e=w:=by
 have f:((x:Int)==16)=false:=Xa;have g:((x:Int)==17)=false:=Xa;have h:((x:Int)==18)=false:=Xa;clear a b c;go_enter func195,ntmps195;go_wp2;go_ret2;exact⟨rfl,rfl⟩
theorem uE(b a n v:Nat)c s w(b1:Blk w b n c)(b2:StV c a s)(h:a+3351<=n)(b3:dN w)(e4:b≠3)(c5:v<256)(G:s.tb.told<19)(c6:s.tb.shorts<=19)(b4:∀i,i<19->s.tb.sl i<256):Calls prog 212 #[.pointer (some ⟨b,a,none⟩),.int .u32 v] w λd j=>d=.returned (.int .i64 ((s.shortLen v).2:Int))/\ak b a n c (s.shortLen v).1 w j:=by
 have R:=ak.refl b1 b2;obtain⟨-,-,u,l,-,p,-,m⟩:=R.tbc h;have H:=b3.ord s.tb.told G;have S:=Dg s.tb.told G;have x:Z (s.shortLen v=if s.tb.told+1<s.tb.shorts then((s.short1 v).enter 5 3,0) else if(s.short1 v).short2.tb.short.full=true then(({(s.short1 v).short2 with tb:={(s.short1 v).short2.tb with told:=0}}:St).enter 11 0,0) else((s.short1 v).short2,12)):=rfl;obtain⟨k,y⟩:∃k,k=s.tb.told:=⟨_,rfl⟩;obtain⟨f,J⟩:∃f,f=cy.getD s.tb.told 0:=⟨_,rfl⟩;rw[<-J] at H S;have b5:=p f S;obtain⟨b6,T⟩:∃b6,b6=s.tb.sl f:=⟨_,rfl⟩;rw[<-T] at b5;have K:Z (ak b a n c (s.short1 v) w ((w.setCell ⟨b,a+623+309+f,none⟩ (.int .u8 v)).setCell ⟨b,a+623+644,none⟩ (.int .i64 ((k+1:Nat):Int)))):=by
  have:=(R.sl h f v S).told h (k+1)
  rw[y] at this ⊢;unfold St.short1;rw[<-J];exact this
 have b7:∀i,i<19->(s.short1 v).tb.sl i<256:=λi c7=>by
  show upd s.tb.sl (cy.getD s.tb.told 0) v i<256
  by_cases d:i=cy.getD s.tb.told 0
  .rw[d,upd_same];exact c5
  .rw[upd_ne _ _ _ d];exact b4 i c7
 have b8:(s.short1 v).tb.told=k+1:=by rw[y];rfl
 have V:(s.short1 v).tb.shorts=s.tb.shorts:=rfl;rw[<-y] at l H G x;generalize s.short1 v=e at *;generalize s.shortLen v=q at *;obtain⟨z,W⟩:∃z,z=s.tb.shorts:=⟨_,rfl⟩;rw[<-W] at V x c6 u;replace J:Z _:=J;replace y:Z _:=y;replace T:Z _:=T;replace W:Z _:=W;replace p:Z _:=p;have c8:Z _:=b7;have b9:Z _:=b8;have c9:Z _:=V;clear R b1 b2 b3 b4 b7 b8 V;obtain⟨o,X⟩:∃o,o=k+1:=⟨_,rfl⟩;rw[<-X] at K b9 x;have e5:(k:Int)+1=(o:Int):=O;have e6:(0:Int)<=(f:Int):=O;have e7:(f:Int)<19:=O;have e8:IntKind.u8.wrap (v:Int)=(v:Int):=by rw[IntKind.wrap_u8];omega
 have d0:∀Y,(w.setCell ⟨b,a+623+309+f,none⟩ (.int .u8 v)).frozen? ⟨b,Y,none⟩=false:=λY=>(Xy _ _ _ _).trans (m Y)
 have d1:(w.setCell ⟨b,a+623+309+f,none⟩ (.int .u8 v)).cell? ⟨b,a+623+644,none⟩=some (.int .i64 k):=(aa _ _ _ _ _ O).trans l;replace X:Z _:=X;have c0:=U (yt k f w G H);clear H;go_enter func212,ntmps212;go_wp2_with fail;refine c0.o.mono ?_;rintro d d2 ⟨rfl,e9⟩;subst d2;go_upto_region 5 with fail
 generalize w.setCell ⟨b,a+623+309+f,none⟩ (.int .u8 v)=d3 at *;clear m l u b5 c0;go_upto_region 6 with fail
 generalize d3.setCell ⟨b,a+623+644,none⟩ (.int .i64 o)=c1 at *;clear d0 d1;obtain⟨-,-,u,l,-,-,-,m⟩:=K.o.tbc h;rw[c9.o] at u;rw[b9.o] at l;go_wp2_with fail;go_quiet (fail);have A:=K.o.kept ((Kept.refl c1).drewN nq);generalize c1.drewN nq=L at *;clear u l m K;replace A:Z (ak b a n c e w L):=A;by_cases c2:o<z
 .have d4:(o:Int)<(z:Int):=O
  have B:Z (q=(e.enter 5 3,0)):=by show q=_;rw[x.o,I c2]
  have a0:Z (Calls prog 165 #[.pointer (some ⟨b,a,none⟩),.int .i64 ((5:Nat):Int),.int .u64 ((3:Nat):Int)] L λd j=>d=.returned (.tuple #[])/\ak b a n c (e.enter 5 3) w j):=by
   obtain⟨C,D,E,M,P⟩:=A.o;refine(bn b a n 5 3 C e L D E h).mono ?_;rintro d j ⟨rfl,a1,a2,a3,a4,a5⟩;exact⟨rfl,a1,a2,a3,M.trans a4,P.trans a5⟩
  go_wp2_with fail;refine a0.o.mono ?_;rintro d a6 ⟨rfl,d5⟩;go_wp2;go_ret;rw[B.o];exact⟨rfl,d5⟩
 .have d4:¬(o:Int)<(z:Int):=O
  obtain⟨-,-,-,-,-,p,-,m⟩:=A.o.tbc h;have d6:Z _:=AM b (a+623+309) 19 19 e.tb.sl L p c8.o O O O;have B:Z (q=if e.short2.tb.short.full=true then(({e.short2 with tb:={e.short2.tb with told:=0}}:St).enter 11 0,0) else(e.short2,12)):=by show q=_;rw[x.o,N c2]
  clear p;go_wp2_with fail;refine X9 d6.o ?_;rintro d a6 ⟨rfl,c3⟩;obtain⟨r,F⟩:∃r,r=(List.range 306).map (csC (cw e.tb.sl 19)):=⟨_,rfl⟩;rw[<-F];obtain⟨d7,t⟩:=(A.o.kept c3).short h (cw e.tb.sl 19) r F;replace t:Z (ak b a n c e.short2 w (a6.setCells b (a+623+3) r)):=t;have d8:Z (gB e.short2.tb.short):=iJ e.tb.sl 19 O O;have d9:r.length=306:=by rw[F];exact bA _ 306
  replace F:Z _:=F;clear c3 m;generalize e.short2=g at *;go_upto_region 10 with fail
  generalize a6.setCells b (a+623+3) r=a7 at *;clear d7 d9;have c4:Z (Calls prog 224 #[.pointer (some ⟨b,a+623+3,none⟩)] a7 λd j=>d=.returned (.bool g.tb.short.full)/\j=a7):=by
   obtain⟨C,D,E,M,P⟩:=t.o;exact vr b (a+623+3) n C g.tb.short a7 D E.tb.short O d8.o
  obtain⟨a8,a9⟩:∃a8,a8=g.tb.short.full:=⟨_,rfl⟩;rw[<-a9] at c4 B;replace a9:Z _:=a9;go_wp2_with fail;refine c4.o.mono ?_;rintro d e0 ⟨rfl,f0⟩;subst e0;cases a8 with
  | false=>
   have b0:Z (q=(g,12)):=B.o;go_wp2;go_ret;rw[b0.o];exact⟨rfl,t.o⟩
  | true=>
   have b0:Z (q=(({g with tb:={g.tb with told:=0}}:St).enter 11 0,0)):=B.o;obtain⟨-,-,-,l,-,-,-,m⟩:=t.o.tbc h;have e1:Z _:=t.o.told h 0;have a0:Z (∀Q,ak b a n c {g with tb:={g.tb with told:=0}} w Q->Calls prog 165 #[.pointer (some ⟨b,a,none⟩),.int .i64 ((11:Nat):Int),.int .u64 ((0:Nat):Int)] Q λd j=>d=.returned (.tuple #[])/\ak b a n c (({g with tb:={g.tb with told:=0}}:St).enter 11 0) w j):=λQ e2=>by
    obtain⟨C,D,E,M,P⟩:=e2;refine(bn b a n 11 0 C {g with tb:={g.tb with told:=0}} Q D E h).mono ?_;rintro d j ⟨rfl,a1,a2,a3,a4,a5⟩;exact⟨rfl,a1,a2,a3,M.trans a4,P.trans a5⟩
   go_wp2_with fail;refine(a0.o _ e1.o).mono ?_;rintro d f1 ⟨rfl,e3⟩;go_wp2;go_ret;rw[b0.o];exact⟨rfl,e3⟩
def St.mkLit(s:St):St:={s with lit:=cw s.tb.ls s.tb.literals}
def St.mkDist(s:St):St:={s with dist:=cw (λi=>s.tb.ls (s.tb.literals+i)) (s.tb.told-s.tb.literals)}
def St.makeCodes(s:St):St×Nat:=
 if(s.mkLit.mkDist.lit.full||s.mkLit.mkDist.lit.lone)=false then(s.mkLit.mkDist,12)
 else if(s.mkLit.mkDist.dist.full||(s.mkLit.mkDist.dist.lone||s.mkLit.mkDist.dist.empty))=false then(s.mkLit.mkDist,12)
 else if s.tb.ls 256=0 then(s.mkLit.mkDist,12) else(s.mkLit.mkDist.enter 12 0,0)
def CsX(x:CS)(W:World)(e:Ending)(W':World):Prop:=∃cs:List Value,e=.returned (.agg cs.toArray)/\ZH0 (cs=(List.range 306).map (csC x))/\cs.length=306/\Kept W W'
theorem AL b q N C f w(e:∀i,i<N->w.cell? ⟨b,q+i,none⟩=some (.int .u8 (f i)))(g:∀i,i<N->f i<256)(h:0<N)(a:N<=288)(j:N<=C):Calls prog 223 #[.slice (some ⟨b,q,none⟩) N C] w λc d=>CsX (cw f N) w c d:=
 (AM b q N C f w e g h a j).mono (λc d ⟨a,k⟩=>⟨_,a,rfl,bA _ 306,k⟩)
theorem sM b o n c s w(b7:Blk w b n c)(d2:StV c o s)(H:o+3351<=n)(f2:257<=s.tb.literals)(f3:s.tb.literals<=286)(d3:s.tb.literals<s.tb.told)(d4:s.tb.told<=s.tb.literals+30)(d5:∀i,i<316->s.tb.ls i<256):Calls prog 219 #[.pointer (some ⟨b,o,none⟩)] w λe m=>e=.returned (.int .i64 (s.makeCodes.2:Int))/\ak b o n c s.makeCodes.1 w m:=by
 have b8:=ak.refl b7 d2;obtain⟨G,-,-,K,-,-,v,b9⟩:=b8.tbc H;have d6:=b7.lt;have q:ZH0 (s.makeCodes=if(s.mkLit.mkDist.lit.full||s.mkLit.mkDist.lit.lone)=false then(s.mkLit.mkDist,12) else if(s.mkLit.mkDist.dist.full||(s.mkLit.mkDist.dist.lone||s.mkLit.mkDist.dist.empty))=false then(s.mkLit.mkDist,12) else if s.tb.ls 256=0 then(s.mkLit.mkDist,12) else(s.mkLit.mkDist.enter 12 0,0)):=rfl;have c0:ZH0 _:=d5;have d7:=U b8;have Y:s.mkLit.tb=s.tb:=rfl;have c1:s.mkLit.mkDist.tb=s.tb:=rfl;have c2:gB s.mkLit.mkDist.lit:=iJ _ _ O O;have c3:gB s.mkLit.mkDist.dist:=iJ (λi=>s.tb.ls (s.tb.literals+i)) (s.tb.told-s.tb.literals) O O;have c4:ZH0 (s.mkLit={s with lit:=cw s.tb.ls s.tb.literals}):=rfl;have a0:ZH0 (s.mkLit.mkDist={s.mkLit with dist:=cw (λi=>s.tb.ls (s.tb.literals+i)) (s.tb.told-s.tb.literals)}):=rfl;generalize s.mkLit.mkDist=j at *;generalize s.mkLit=d8 at *;generalize s.makeCodes=g7 at *;obtain⟨g,a1⟩:∃g,g=s.tb.literals:=⟨_,rfl⟩;obtain⟨x,a2⟩:∃x,x=s.tb.told:=⟨_,rfl⟩;obtain⟨y,a3⟩:∃y,y=s.tb.ls:=⟨_,rfl⟩;obtain⟨L,b0⟩:∃L,L=s.tb.told-s.tb.literals:=⟨_,rfl⟩;rw[<-a1] at f2 f3 d3 d4 G c4 a0;rw[<-a2] at d3 d4 K a0;rw[<-a3] at c0 q v c4 a0;rw[<-a1,<-a2] at b0;rw[<-b0] at a0;have f4:ZH0 (∀a,Kept w a->∀Q,Q<316->a.cell? ⟨b,o+623+328+Q,none⟩=some (.int .u8 (y Q))):=λa t Q f5=>(t.cell (p:=⟨b,o+623+328+Q,none⟩) d6).trans (v Q f5)
 have a4:ZH0 (∀a,Kept w a->a.cell? ⟨b,o+623,none⟩=some (.int .i64 g)):=λa t=>(t.cell (p:=⟨b,o+623,none⟩) d6).trans G
 have d9:ZH0 (∀(a:World) (r:List Value),Kept w a->r.length=306->(a.setCells b (o+11) r).cell? ⟨b,o+623,none⟩=some (.int .i64 g)):=λa r t b1=>(YS b r (o+11) a ⟨b,o+623,none⟩ (λ_ _=>R (by rw[b1];show o+11+306<=o+623;omega))).trans (a4.o a t)
 replace a1:ZH0 _:=a1;replace a2:ZH0 _:=a2;replace a3:ZH0 _:=a3;have e0:ZH0 _:=b0;have f6:0<L/\L<=30:=O;clear b0;have g8:decide ((g:Int)<0)=false:=J;have g9:decide ((316:Int)<(x:Int))=false:=J;have h0:decide (x<g)=false:=J;have h1:(0:Int)<=(g:Int):=O;have h2:(g:Int)<=316:=O;have h3:(g:Int)<=(x:Int):=O;have h4:(x:Int)<=316:=O;replace v:ZH0 _:=v;replace Y:ZH0 _:=Y;replace c1:ZH0 _:=c1;replace c2:ZH0 _:=c2;replace c3:ZH0 _:=c3;clear b7 d2 d5 b8;go_enter func219,ntmps219;go_wp2_with fail;go_quiet (fail);have M:=(Kept.refl w).drewN nq;have a5:=d7.o.kept M;generalize w.drewN nq=c5 at *;replace a5:ZH0 (ak b o n c s w c5):=a5;replace M:ZH0 (Kept w c5):=M;have e1:=a4.o c5 M.o;clear G K b9 v d7;go_upto_region 4 with fail
 go_region_held3 (λa=>a.cell? ⟨b,o+623,none⟩=some (.int .i64 g)) (first|exact e1|exact d9.o _ _ c6 a6|exact a4.o _ c6|exact a4.o _ (M.o.trans ((Kept.refl _).drewN 1))|go_keep) ((go_at_call 223;refine((λa t=>AL b (o+623+328) g 316 y a (λi c7=>f4.o a t i O) (λi c7=>c0.o i O) O O O) _ (M.o.trans ((Kept.refl _).drewN 1))).mono ?_;rintro e e2 ⟨r,rfl,P,a6,c8⟩;have c6:=(M.o.trans ((Kept.refl _).drewN 1)).trans c8;have c9:=((Kept.refl _).drewN 1).trans c8;have f7:=((a5.o.kept c9).lit H (cw y g) r P.o).1))
 have S:ak b o n c d8 w (e2.setCells b (o+11) r):=by
  have a7:=((a5.o.kept c9).lit H (cw y g) r P.o).2;rw[<-c4.o] at a7;exact a7
 clear f7 a6 c8 c6 c9 P;generalize e2.setCells b (o+11) r=T at *;obtain⟨G,-,-,K,-,-,v,b9⟩:=S.tbc H;rw[Y.o,<-a1.o] at G;rw[Y.o,<-a2.o] at K;rw[Y.o,<-a3.o] at v;have d0:=B _ _ G;have d1:ZH0 (∀a,Kept T a->Calls prog 223 #[.slice (some ⟨b,o+623+328+g,none⟩) L (316-g)] a λe m=>CsX (cw (λi=>y (g+i)) L) a e m):=λa t=>AL b (o+623+328+g) L (316-g) (λi=>y (g+i)) a (λi c7=>by
  rw[Yg (o+623+328)];exact(t.cell (p:=⟨b,o+623+328+(g+i),none⟩) d0).trans (v (g+i) O)) (λi c7=>c0.o (g+i) O) f6.1 O O
 rw[e0.o] at d1;have a8:ZH0 (∀a,Kept T a->a.cell? ⟨b,o+623,none⟩=some (.int .i64 g)/\a.cell? ⟨b,o+623+644,none⟩=some (.int .i64 x)):=λa t=>⟨(t.cell (p:=⟨b,o+623,none⟩) d0).trans G,(t.cell (p:=⟨b,o+623+644,none⟩) d0).trans K⟩
 have e3:ZH0 (∀(a:World) (r:List Value),Kept T a->r.length=306->(a.setCells b (o+317) r).cell? ⟨b,o+623,none⟩=some (.int .i64 g)/\(a.setCells b (o+317) r).cell? ⟨b,o+623+644,none⟩=some (.int .i64 x)):=λa r t b1=>⟨(YS b r (o+317) a ⟨b,o+623,none⟩ (λ_ _=>R (by rw[b1];show o+317+306<=o+623;omega))).trans (a8.o a t).1,(YS b r (o+317) a ⟨b,o+623+644,none⟩ (λ_ _=>R (by rw[b1];show o+317+306<=o+623+644;omega))).trans (a8.o a t).2⟩
 replace S:ZH0 (ak b o n c d8 w T):=S;have b2:T.cell? ⟨b,o+623,none⟩=some (.int .i64 g)/\T.cell? ⟨b,o+623+644,none⟩=some (.int .i64 x):=⟨G,K⟩;replace b2:ZH0 _:=b2;clear v b9 a5 a4 d9 e1;have f8:¬(316=g):=O;go_upto_region 5 with fail
 go_region_held3 (λa=>a.cell? ⟨b,o+623,none⟩=some (.int .i64 g)/\a.cell? ⟨b,o+623+644,none⟩=some (.int .i64 x)) (first|exact b2.o|exact e3.o _ _ a9 a6|exact a8.o _ a9|exact a8.o _ ((Kept.refl _).drewN 1)|go_keep) ((go_at_call 223;refine(d1.o _ ((Kept.refl _).drewN 1)).mono ?_;rintro e e4 ⟨b3,rfl,P,a6,e5⟩;have a9:=((Kept.refl _).drewN 1).trans e5;have f9:=((S.o.kept a9).dist H (cw (λi=>y (g+i)) (x-g)) b3 P.o).1))
 have k:ak b o n c j w (e4.setCells b (o+317) b3):=by
  have a7:=((S.o.kept a9).dist H (cw (λi=>y (g+i)) (x-g)) b3 P.o).2;rw[<-e0.o,<-a0.o] at a7;exact a7
 clear f9 a6 e5 a9 P;generalize e4.setCells b (o+317) b3=l at *;replace k:ZH0 (ak b o n c j w l):=k;have e6:ZH0 (Calls prog 224 #[.pointer (some ⟨b,o+11,none⟩)] l λe m=>e=.returned (.bool j.lit.full)/\m=l):=by
  obtain⟨z,A,C,V,W⟩:=k.o;exact vr b (o+11) n z j.lit l A C.lit O c2.o
 have e7:ZH0 (Calls prog 225 #[.pointer (some ⟨b,o+11,none⟩)] l λe m=>e=.returned (.bool j.lit.lone)/\m=l):=by
  obtain⟨z,A,C,V,W⟩:=k.o;exact AN b (o+11) n z j.lit l A C.lit O
 have b4:ZH0 (Calls prog 224 #[.pointer (some ⟨b,o+317,none⟩)] l λe m=>e=.returned (.bool j.dist.full)/\m=l):=by
  obtain⟨z,A,C,V,W⟩:=k.o;exact vr b (o+317) n z j.dist l A C.dist O c3.o
 have b5:ZH0 (Calls prog 225 #[.pointer (some ⟨b,o+317,none⟩)] l λe m=>e=.returned (.bool j.dist.lone)/\m=l):=by
  obtain⟨z,A,C,V,W⟩:=k.o;exact AN b (o+317) n z j.dist l A C.dist O
 have b6:ZH0 (Calls prog 226 #[.pointer (some ⟨b,o+317,none⟩)] l λe m=>e=.returned (.bool j.dist.empty)/\m=l):=by
  obtain⟨z,A,C,V,W⟩:=k.o;exact D4 b (o+317) n z j.dist l A C.dist O
 have X:ZH0 (Calls prog 165 #[.pointer (some ⟨b,o,none⟩),.int .i64 ((12:Nat):Int),.int .u64 ((0:Nat):Int)] l λe m=>e=.returned (.tuple #[])/\ak b o n c (j.enter 12 0) w m):=by
  obtain⟨z,A,C,V,W⟩:=k.o;refine(bn b o n 12 0 z j l A C H).mono ?_;rintro e m ⟨rfl,g0,g1,g2,g3,g4⟩;exact⟨rfl,g0,g1,g2,V.trans g3,W.trans g4⟩
 obtain⟨-,-,-,-,-,-,v,-⟩:=k.o.tbc H;rw[c1.o,<-a3.o] at v;have h5:=v 256 O;clear v S b2 a8 e3 d1 G K f8;generalize j.lit.full=g5 at *;generalize j.lit.lone=g6 at *;generalize j.dist.full=e8 at *;generalize j.dist.lone=e9 at *;generalize j.dist.empty=f0 at *;generalize f1:y 256=Z at *;replace f1:ZH0 _:=f1;cases g5 with
 | true=>
  go_wp2_with fail;refine e6.o.mono ?_;rintro e f ⟨rfl,u⟩;subst f;cases e8 with
  | true=>
   go_wp2_with fail;refine b4.o.mono ?_;rintro e f ⟨rfl,u⟩;subst f;by_cases d:Z=0
   .have D:((Z:Int)==0)=true:=by rw[XI];omega
    have h:ZH0 _:=q.o.trans (I d);replace d:ZH0 _:=d;go_wp2;go_ret;rw[h.o];exact⟨rfl,k.o⟩
   .have D:((Z:Int)==0)=false:=by rw[F];omega
    have h:ZH0 _:=q.o.trans (N d);replace d:ZH0 _:=d;go_wp2_with fail;refine X.o.mono ?_;rintro e f ⟨rfl,E⟩;go_wp2;go_ret;rw[h.o];exact⟨rfl,E⟩
  | false=>
   go_wp2_with fail;refine b4.o.mono ?_;rintro e f ⟨rfl,u⟩;subst f;cases e9 with
   | true=>
    go_wp2_with fail;refine b5.o.mono ?_;rintro e f ⟨rfl,u⟩;subst f;by_cases d:Z=0
    .have D:((Z:Int)==0)=true:=by rw[XI];omega
     have h:ZH0 _:=q.o.trans (I d);replace d:ZH0 _:=d;go_wp2;go_ret;rw[h.o];exact⟨rfl,k.o⟩
    .have D:((Z:Int)==0)=false:=by rw[F];omega
     have h:ZH0 _:=q.o.trans (N d);replace d:ZH0 _:=d;go_wp2_with fail;refine X.o.mono ?_;rintro e f ⟨rfl,E⟩;go_wp2;go_ret;rw[h.o];exact⟨rfl,E⟩
   | false=>
    go_wp2_with fail;refine b5.o.mono ?_;rintro e f ⟨rfl,u⟩;subst f;cases f0 with
    | true=>
     go_wp2_with fail;refine b6.o.mono ?_;rintro e f ⟨rfl,u⟩;subst f;by_cases d:Z=0
     .have D:((Z:Int)==0)=true:=by rw[XI];omega
      have h:ZH0 _:=q.o.trans (I d);replace d:ZH0 _:=d;go_wp2;go_ret;rw[h.o];exact⟨rfl,k.o⟩
     .have D:((Z:Int)==0)=false:=by rw[F];omega
      have h:ZH0 _:=q.o.trans (N d);replace d:ZH0 _:=d;go_wp2_with fail;refine X.o.mono ?_;rintro e f ⟨rfl,E⟩;go_wp2;go_ret;rw[h.o];exact⟨rfl,E⟩
    | false=>
     go_wp2_with fail;refine b6.o.mono ?_;rintro e f ⟨rfl,u⟩;subst f;have h:=U q.o;go_wp2;go_ret;rw[h.o];exact⟨rfl,k.o⟩
 | false=>
  go_wp2_with fail;refine e6.o.mono ?_;rintro e f ⟨rfl,u⟩;subst f;cases g6 with
  | true=>
   go_wp2_with fail;refine e7.o.mono ?_;rintro e f ⟨rfl,u⟩;subst f;cases e8 with
   | true=>
    go_wp2_with fail;refine b4.o.mono ?_;rintro e f ⟨rfl,u⟩;subst f;by_cases d:Z=0
    .have D:((Z:Int)==0)=true:=by rw[XI];omega
     have h:ZH0 _:=q.o.trans (I d);replace d:ZH0 _:=d;go_wp2;go_ret;rw[h.o];exact⟨rfl,k.o⟩
    .have D:((Z:Int)==0)=false:=by rw[F];omega
     have h:ZH0 _:=q.o.trans (N d);replace d:ZH0 _:=d;go_wp2_with fail;refine X.o.mono ?_;rintro e f ⟨rfl,E⟩;go_wp2;go_ret;rw[h.o];exact⟨rfl,E⟩
   | false=>
    go_wp2_with fail;refine b4.o.mono ?_;rintro e f ⟨rfl,u⟩;subst f;cases e9 with
    | true=>
     go_wp2_with fail;refine b5.o.mono ?_;rintro e f ⟨rfl,u⟩;subst f;by_cases d:Z=0
     .have D:((Z:Int)==0)=true:=by rw[XI];omega
      have h:ZH0 _:=q.o.trans (I d);replace d:ZH0 _:=d;go_wp2;go_ret;rw[h.o];exact⟨rfl,k.o⟩
     .have D:((Z:Int)==0)=false:=by rw[F];omega
      have h:ZH0 _:=q.o.trans (N d);replace d:ZH0 _:=d;go_wp2_with fail;refine X.o.mono ?_;rintro e f ⟨rfl,E⟩;go_wp2;go_ret;rw[h.o];exact⟨rfl,E⟩
    | false=>
     go_wp2_with fail;refine b5.o.mono ?_;rintro e f ⟨rfl,u⟩;subst f;cases f0 with
     | true=>
      go_wp2_with fail;refine b6.o.mono ?_;rintro e f ⟨rfl,u⟩;subst f;by_cases d:Z=0
      .have D:((Z:Int)==0)=true:=by rw[XI];omega
       have h:ZH0 _:=q.o.trans (I d);replace d:ZH0 _:=d;go_wp2;go_ret;rw[h.o];exact⟨rfl,k.o⟩
      .have D:((Z:Int)==0)=false:=by rw[F];omega
       have h:ZH0 _:=q.o.trans (N d);replace d:ZH0 _:=d;go_wp2_with fail;refine X.o.mono ?_;rintro e f ⟨rfl,E⟩;go_wp2;go_ret;rw[h.o];exact⟨rfl,E⟩
     | false=>
      go_wp2_with fail;refine b6.o.mono ?_;rintro e f ⟨rfl,u⟩;subst f;have h:=U q.o;go_wp2;go_ret;rw[h.o];exact⟨rfl,k.o⟩
  | false=>
   go_wp2_with fail;refine e7.o.mono ?_;rintro e f ⟨rfl,u⟩;subst f;have h:=U q.o;go_wp2;go_ret;rw[h.o];exact⟨rfl,k.o⟩
structure iE (t:Tb):Prop where
 l1:257<=t.literals
 l2:t.literals<=286
 d1:1<=t.distances
 d2:t.distances<=30
 td:t.told<=t.literals+t.distances
 ls:∀i,t.ls i<256
def St.lay1(s:St)(x:Nat):St:={s with tb:={s.tb with ls:=upd s.tb.ls s.tb.told x,told:=s.tb.told+1}}
def St.layN:Nat->Nat->St->St
 | 0,_,s=>s
 | k+1,x,s=>St.layN k x (s.lay1 x)
def St.lay(s:St)(x k:Nat):St×Nat:=
 if s.tb.literals+s.tb.distances<s.tb.told+k then(s,12)
 else if(St.layN k x s).tb.told<s.tb.literals+s.tb.distances then((St.layN k x s).enter 11 0,0)
 else(St.layN k x s).makeCodes
theorem iE.lay1{s:St}{x}(h:iE s.tb)(c:x<256)(d:s.tb.told+1<=s.tb.literals+s.tb.distances):iE (s.lay1 x).tb:=⟨h.l1,h.l2,h.d1,h.d2,d,λa=>by
 show upd s.tb.ls s.tb.told x a<256
 by_cases b:a=s.tb.told
 .rw[b,upd_same];exact c
 .rw[upd_ne _ _ _ b];exact h.ls a⟩
theorem yN(b d n x k:Nat)c s w(c0:Blk w b n c)(c1:StV c d s)(u:d+3351<=n)(d2:x<256)(e8:k<=1000)(m:iE s.tb):Calls prog 202 #[.pointer (some ⟨b,d,none⟩),.int .u8 x,.int .i64 k] w λh o=>h=.returned (.int .i64 ((s.lay x k).2:Int))/\ak b d n c (s.lay x k).1 w o:=by
 have Y:=ak.refl c0 c1;obtain⟨c2,c3,-,i,-,-,-,P⟩:=Y.tbc u;have v:Z (s.lay x k=if s.tb.literals+s.tb.distances<s.tb.told+k then(s,12) else if(St.layN k x s).tb.told<s.tb.literals+s.tb.distances then((St.layN k x s).enter 11 0,0) else(St.layN k x s).makeCodes):=rfl;have c4:=U Y;have d3:Z _:=m;have d4:=m.l1;have d5:=m.l2;have d6:=m.d1;have d7:=m.d2;have c5:=m.td;obtain⟨q,C⟩:∃q,q=s.tb.literals:=⟨_,rfl⟩;obtain⟨D,E⟩:∃D,D=s.tb.distances:=⟨_,rfl⟩;obtain⟨j,F⟩:∃j,j=s.tb.told:=⟨_,rfl⟩;obtain⟨G,Q⟩:∃G,G=St.layN k x s:=⟨_,rfl⟩;rw[<-Q] at v;rw[<-C,<-E,<-F] at v c5;rw[<-C] at d4 d5 c2;rw[<-E] at d6 d7 c3;rw[<-F] at i;generalize s.lay x k=R at *;obtain⟨g,H⟩:∃g,g=q+D:=⟨_,rfl⟩;have e9:(q:Int)+(D:Int)=(g:Int):=O;obtain⟨r,J⟩:∃r,r=j+k:=⟨_,rfl⟩;have f0:(j:Int)+(k:Int)=(r:Int):=O;rw[<-H,<-J] at v;rw[<-H] at c5;have f1:g<=316/\q<g/\g<=q+30:=O;have f2:r<=2000:=O;replace Q:Z _:=Q;replace C:Z _:=C;replace E:Z _:=E;replace F:Z _:=F;replace H:Z _:=H;clear c0 c1 Y m;go_enter func202,ntmps202;go_wp2_with fail;go_quiet (fail);have a0:=(Kept.refl w).drewN nq;have K:=c4.o.kept a0;have d8:=(a0.cell (p:=⟨b,d+623+644,none⟩) (B _ _ i)).trans i;generalize w.drewN nq=d9 at *;replace K:Z (ak b d n c s w d9):=K;clear c2 c3 i P a0 c4;by_cases S:g<r
 .have e0:(g:Int)<(r:Int):=O
  have T:Z _:=v.o.trans (I S);replace J:Z _:=J;clear S;go_wp2;go_ret;rw[T.o];exact⟨rfl,K.o⟩
 have e0:¬(g:Int)<(r:Int):=O;have T:Z _:=v.o.trans (N S);have f3:j+k<=g:=O;replace J:Z _:=J;clear S v;go_wp2_with fail;go_loopg [9] k (λe1 e2 a1=>∃(e:Nat) (a:St),e1=k-e/\e<=k/\e2=.int .i64 e/\ak b d n c a w a1/\iE a.tb/\a.tb.literals=q/\a.tb.distances=D/\a.tb.told=j+e/\G=St.layN (k-e) x a)
 case atStart=>exact⟨0,s,O,O,rfl,K.o,d3.o,C.o.symm,E.o.symm,by rw[F.o,X5],Q.o⟩
 case round=>
  obtain⟨e,a,a2,f4,rfl,a3,c6,c7,c8,V,W⟩:=hrel;replace a2:Z _:=a2;clear d8 K;obtain⟨-,-,-,i,-,-,t,P⟩:=a3.tbc u;rw[V] at i;obtain⟨f,l⟩:∃f,f=j+e:=⟨_,rfl⟩;rw[<-l] at i V;have a4:=U a3;have c9:Z _:=c6;have a5:Z _:=c7;have d0:Z _:=c8;have y:Z _:=V;clear a3 c6 c7 c8 V;by_cases f5:e<k
  .have e3:(e:Int)<(k:Int):=O
   have f6:(f:Int)<316:=O;have f7:(0:Int)<=(f:Int):=O;have a6:G=St.layN (k-(e+1)) x (a.lay1 x):=by rw[W,show k-e=(k-(e+1))+1 from O];rfl
   replace a6:Z _:=a6;obtain⟨z,a7⟩:∃z,z=f+1:=⟨_,rfl⟩;have f8:(f:Int)+1=(z:Int):=O;have e4:=t f O;have L:Z (ak b d n c (a.lay1 x) w ((wr.setCell ⟨b,d+623+328+f,none⟩ (.int .u8 x)).drew.setCell ⟨b,d+623+644,none⟩ (.int .i64 z))):=by
    have:=((a4.o.ls u f x O).kept ((Kept.refl _).drewN 1)).told u z
    have h:a.lay1 x={a with tb:={a.tb with ls:=upd a.tb.ls f x,told:=z}}:=by unfold St.lay1;rw[y.o,<-a7]
    show ak b d n c (a.lay1 x) w _
    rw[h];exact this
   have e5:Z _:=c9.o.lay1 d2 (by rw[y.o,a5.o,d0.o];have:=H.o;omega);have f9:(wr.setCell ⟨b,d+623+328+f,none⟩ (.int .u8 x)).drew.cell? ⟨b,d+623+644,none⟩=some (.int .i64 f):=(aa _ _ _ _ _ O).trans i;have g0:∀k,(wr.setCell ⟨b,d+623+328+f,none⟩ (.int .u8 x)).drew.frozen? ⟨b,k,none⟩=false:=λk=>(Xy _ _ _ _).trans (P k)
   have e6:Z ((a.lay1 x).tb.told=j+(e+1)):=by
    show a.tb.told+1=_
    rw[y.o,l];omega
   replace l:Z _:=l;replace a7:Z _:=a7;replace t:Z _:=t;go_wp2_with fail;go_region_held3 (λa1=>a1.cell? ⟨b,d+623+644,none⟩=some (.int .i64 f)) (first|exact i|exact(aa _ _ _ _ _ O).trans i|go_keep) (fail)
   generalize (wr.setCell ⟨b,d+623+328+f,none⟩ (.int .u8 x)).drew=d1 at *;clear i e4 P;go_wp2;go_roundg (k-(e+1))
   case measure=>rw[a2.o];omega
   case rel=>exact⟨e+1,a.lay1 x,rfl,O,Xj,L.o,e5.o,a5.o,d0.o,e6.o,a6.o⟩
  .have e3:¬(e:Int)<(k:Int):=O
   have M:e=k:=O;rw[M,YC] at W;have A:G=a:=W;clear W;by_cases X:f<g
   .have e7:(f:Int)<(g:Int):=O
    have a8:Z (R=(a.enter 11 0,0)):=by
     show R=_
     rw[T.o,A,I (by rw[y.o];exact X)]
    have a9:Z (Calls prog 165 #[.pointer (some ⟨b,d,none⟩),.int .i64 ((11:Nat):Int),.int .u64 ((0:Nat):Int)] wr λh o=>h=.returned (.tuple #[])/\ak b d n c (a.enter 11 0) w o):=by
     obtain⟨b0,b1,b2,b3,b4⟩:=a4.o;refine(bn b d n 11 0 b0 a wr b1 b2 u).mono ?_;rintro h o ⟨rfl,b5,b6,b7,b8,b9⟩;exact⟨rfl,b5,b6,b7,b3.trans b8,b4.trans b9⟩
    replace l:Z _:=l;replace M:Z _:=M;replace A:Z _:=A;replace t:Z _:=t;clear X;go_wp2_with fail;refine a9.o.mono ?_;rintro h d1 ⟨rfl,L⟩;go_wp2;go_ret;rw[a8.o];exact⟨rfl,L⟩
   .have e7:¬(f:Int)<(g:Int):=O
    have a8:Z (R=a.makeCodes):=by
     show R=_
     rw[T.o,A,N (by rw[y.o];exact X)]
    have a9:Z (Calls prog 219 #[.pointer (some ⟨b,d,none⟩)] wr λh o=>h=.returned (.int .i64 (a.makeCodes.2:Int))/\ak b d n c a.makeCodes.1 w o):=by
     obtain⟨b0,b1,b2,b3,b4⟩:=a4.o;have g1:=y.o;have g2:=a5.o;refine(sM b d n b0 a wr b1 b2 u O O O O (λe _=>c9.o.ls e)).mono ?_;rintro h o ⟨rfl,b5,b6,b7,b8,b9⟩;exact⟨rfl,b5,b6,b7,b3.trans b8,b4.trans b9⟩
    generalize a.makeCodes=g3 at *;replace l:Z _:=l;replace M:Z _:=M;replace A:Z _:=A;replace t:Z _:=t;clear X;go_wp2_with fail;refine a9.o.mono ?_;rintro h d1 ⟨rfl,L⟩;go_wp2;go_ret;rw[a8.o];exact⟨rfl,L⟩
