import Derived.Test.YtgooinallljbpaaGreatDoorSh00
import Derived.Test.YtgooinallljbpaaGreatDoorSh14
set_option linter.all false
set_option maxRecDepth 100000
set_option maxHeartbeats 0
namespace Go.Proofs.YtgooinallljbpaaGreatDoor
open Go.RowKit Px Tryz
theorem J3:zeroCells60.toList=[.int .i64 0,.int .i64 0,.int .i64 0]++(List.replicate 306 (.int .i64 0)++(List.replicate 335 (.int .u8 0)++List.replicate 2 (.int .i64 0))):=Xk
def tbL(a b c:Nat):List Value:=[.int .i64 (a:Int),.int .i64 (b:Int),.int .i64 (c:Int)]++(List.replicate 306 (.int .i64 0)++(List.replicate 335 (.int .u8 0)++List.replicate 2 (.int .i64 0)))
theorem Ke a b c:(tbL a b c).length=646:=by
 unfold tbL;simp only[Xv,XE,Yj,List.length_nil]
theorem J9(a b c:Nat):((zeroCells60.toList.set 0 (.int .i64 a)).set 1 (.int .i64 b)).set 2 (.int .i64 c)=tbL a b c:=by
 rw[J3];rfl
def tbN(a b c:Nat):Tb:=⟨a,b,c,wq,λ_=>0,λ_=>0,0,0⟩
theorem NV a b c:TbV (λj=>(tbL a b c).getD j undef) 0 (tbN a b c):=by
 have l:∀d,d<306->(tbL a b c).getD (3+d) undef=.int .i64 0:=λd e=>(ay _ _ 3 d rfl).trans (cR _ _ _ _ e)
 have m:∀d,d<335->(tbL a b c).getD (3+(306+d)) undef=.int .u8 0:=λd e=>(ay _ _ 3 _ rfl).trans ((ay _ _ 306 d (XE ..)).trans (cR _ _ _ _ e))
 have n:∀d,d<2->(tbL a b c).getD (3+(306+(335+d))) undef=.int .i64 0:=λd e=>(ay _ _ 3 _ rfl).trans ((ay _ _ 306 _ (XE ..)).trans ((ay _ _ 335 d (XE ..)).trans (by
  have:=cR 2 d (.int .i64 0) [] e
  rw[XN] at this;exact this)))
 have f:∀d,3<=d->d<309->(tbL a b c).getD d undef=.int .i64 0:=λd g h=>by
  have:=l (d-3) O;rwa [show 3+(d-3)=d from O] at this
 have i:∀d,309<=d->d<644->(tbL a b c).getD d undef=.int .u8 0:=λd g h=>by
  have:=m (d-309) O;rwa [show 3+(306+(d-309))=d from O] at this
 have k:∀d,644<=d->d<646->(tbL a b c).getD d undef=.int .i64 0:=λd g h=>by
  have:=n (d-644) O;rwa [show 3+(306+(335+(d-644)))=d from O] at this
 exact⟨rfl,rfl,rfl,⟨λd e=>f _ O O,λd e=>f _ O O,f _ O O,f _ O O⟩,λd e=>i _ O O,λd e=>i _ O O,k _ O O,k _ O O⟩
theorem Kc a b c:∀e∈tbL a b c,e.oneCell'=true:=by
 intro e d;unfold tbL at d;simp only[XW,Y4,List.not_mem_nil,or_false,Yt] at d;rcases d with(rfl|rfl|rfl)|⟨_,rfl⟩|⟨_,rfl⟩|⟨_,rfl⟩<;>rfl
theorem wy(v:Nat)(a:v<4294967296):bits .and .u32 (v:Int) 31=((v%32:Nat):Int):=by
 have:=qx v 31 a O
 rw[show(31:Int)=((31:Nat):Int) from rfl,this]
 congr 1
 exact Zm v 5
theorem StV.put_tb{c d o s t}(h:StV c o s)(e:∀i,o<=i->i<o+3351->(i<o+623\/o+1269<=i)->d i=c i)(f:TbV d (o+623) t):StV d o {s with tb:=t} :=
 ⟨(e _ O O O).trans h.part,(e _ O O O).trans h.number,(e _ O O O).trans h.got,(e _ O O O).trans h.wanted,h.path.congr (λi a b=>e i O O O),(e _ O O O).trans h.skip,(e _ O O O).trans h.window,(e _ O O O).trans h.last,(e _ O O O).trans h.left,h.lit.congr (λi a b=>e i O O O),h.dist.congr (λi a b=>e i O O O),f,(e _ O O O).trans h.length,(e _ O O O).trans h.base,λi g=>(e _ O O O).trans (h.hist i g),(e _ O O O).trans h.count,(e _ O O O).trans h.sum⟩
theorem CSV.shift{c d o p s}(e:∀b,b<306->d (p+b)=c (o+b))(h:CSV c o s):CSV d p s:=
 ⟨λa f=>(e a O).trans (h.count a f),λa f=>by rw[Yg];exact(e (16+a) O).trans (by rw[<-Yg];exact h.sym a f),(e 304 O).trans h.total,(e 305 O).trans h.longest⟩
theorem TbV.shift{c d p s}(e:∀a,a<646->d (p+a)=c a)(h:TbV c 0 s):TbV d p s:=by
 have b:∀a g,a<646->c (0+a)=g->d (p+a)=g:=λa g j k=>(e a j).trans (by rw[XD] at k;exact k)
 refine⟨b 0 _ O h.literals,b 1 _ O h.distances,b 2 _ O h.shorts,h.short.shift (λa j => ?_),λf i => ?_,λf i => ?_,b 644 _ O h.told,b 645 _ O h.rep⟩
 .rw[Yg,e (3+a) O]
 .rw[Yg];exact b (309+f) _ O (by rw[<-Yg];exact h.sl f i)
 .rw[Yg];exact b (328+f) _ O (by rw[<-Yg];exact h.ls f i)
def St.counts(s:St)(v:Nat):St×Nat:=if 286<v%32+257\/30<v/32%32+1 then({s with tb:=tbN (v%32+257) (v/32%32+1) (v/1024+4)},12) else(({s with tb:=tbN (v%32+257) (v/32%32+1) (v/1024+4)}:St).enter 5 3,0)
theorem xW(b a n v:Nat)c s w(A:Blk w b n c)(M:StV c a s)(X:a+3351<=n)(b1:v<16384):Calls prog 163 #[.pointer (some ⟨b,a,none⟩),.int .u32 v] w λP Y=>P=.returned (.int .i64 ((s.counts v).2:Int))/\ao b a n c (s.counts v).1 w Y:=by
 have a0:=wy v O;have a1:=wy (v/32) O;obtain⟨d,B⟩:∃d,d=v%32+257:=⟨_,rfl⟩;obtain⟨e,C⟩:∃e,e=v/32%32+1:=⟨_,rfl⟩;obtain⟨g,D⟩:∃g,g=v/1024+4:=⟨_,rfl⟩;obtain⟨E,F⟩:∃E,E=v/32:=⟨_,rfl⟩;obtain⟨t,Q⟩:∃t,t=v/1024:=⟨_,rfl⟩;obtain⟨H,J⟩:∃H,H=v%32:=⟨_,rfl⟩;obtain⟨K,L⟩:∃K,K=v/32%32:=⟨_,rfl⟩;rw[<-J] at a0;rw[<-L,<-F] at a1;have b2:(v:Int)/32=(E:Int):=O;have b3:(v:Int)/1024=(t:Int):=O;have b4:(H:Int)+257=(d:Int):=O;have b5:(K:Int)+1=(e:Int):=O;have b6:(t:Int)+4=(g:Int):=O;have b7:d<300:=O;have b8:e<40:=O;have b9:g<30:=O;replace J:Z _:=J;replace L:Z _:=L;replace F:Z _:=F;replace Q:Z _:=Q;have R:Z (s.counts v=if 286<d\/30<e then({s with tb:=tbN d e g},12) else(({s with tb:=tbN d e g}:St).enter 5 3,0)):=by
  show s.counts v=_
  rw[B,C,D];rfl
 replace B:Z _:=B;replace C:Z _:=C;replace D:Z _:=D;generalize s.counts v=u at *;obtain⟨f,l⟩:∃f,f=tbL d e g:=⟨_,rfl⟩;have a2:=J9 d e g;rw[<-l] at a2;have x:f.length=646:=by rw[l];exact Ke _ _ _
 have c0:(storeCells ⟨b,a+623,none⟩ f).run prog w=.ok () (w.setCells b (a+623) f):=aT (by rw[x];exact A.there O) (by rw[l];exact Kc _ _ _);have j:=A.sets (k:=a+623) (m:=646) O (λh=>f.getD h undef) x (λh S=>by
  show f[h]? = some (f.getD h undef)
  rw[G,Xt O];rfl)
 have o:TbV (updL c (a+623) 646 (λh=>f.getD h undef)) (a+623) (tbN d e g):=TbV.shift (λh S=>by
  rw[dq S,l]) (NV d e g)
 have p:=M.put_tb (λa3 _ _ c1=>db O) o;have q:FrC b a (a+3351) c (updL c (a+623) 646 (λh=>f.getD h undef)):=⟨λa3 c2=>db O⟩;have r:Fr1 b w (w.setCells b (a+623) f):=Fr1.sets _ _ (Fr.refl _ _);have T:=j.at (i:=a+623) O o.literals;have U:=j.at (i:=a+623+1) O o.distances;replace T:(w.setCells b (a+623) f).cell? ⟨b,a+623,none⟩=some (.int .i64 d):=T;replace U:(w.setCells b (a+623) f).cell? ⟨b,a+623+1,none⟩=some (.int .i64 e):=U;replace j:Z _:=j;replace o:Z _:=o;replace p:Z _:=p;replace q:Z _:=q;replace r:Z _:=r;replace l:Z _:=l;replace x:Z _:=x;clear A M;generalize w.setCells b (a+623) f=a4 at *;by_cases y:286<d\/30<e
 .have z:Z (u=({s with tb:=tbN d e g},12)):=by show u=_;rw[R.o,I y]
  by_cases V:286<d
  .have W:(286:Int)<(d:Int):=O
   clear y;go_enter func163,ntmps163;go_wp2;go_ret;rw[z.o];exact⟨rfl,_,j.o,p.o,q.o,r.o⟩
  .have W:¬(286:Int)<(d:Int):=O
   have a5:(30:Int)<(e:Int):=O;clear y;go_enter func163,ntmps163;go_wp2;go_ret;rw[z.o];exact⟨rfl,_,j.o,p.o,q.o,r.o⟩
 .have z:Z (u=(({s with tb:=tbN d e g}:St).enter 5 3,0)):=by show u=_;rw[R.o,N y]
  have W:¬(286:Int)<(d:Int):=O;have a5:¬(30:Int)<(e:Int):=O;have a6:Z _:=ba b a n 5 3 _ {s with tb:=tbN d e g} a4 j.o p.o X;go_enter func163,ntmps163;go_wp2_with fail;refine X9 a6.o ?_;rintro P c3 ⟨rfl,a7,V,a8,a9,b0⟩;go_wp2_with fail;go_ret;rw[z.o];exact⟨rfl,a7,V,a8,q.o.trans a9,r.o.trans b0⟩
theorem ao.one{b o n c s w W}(h:ao b o n c s w W)k v t(j:o+3351<=n)(l:k<646)(e:∀d,TbV d (o+623) s.tb->TbV (upd d (o+623+k) v) (o+623) t):ao b o n c {s with tb:=t} w (W.setCell ⟨b,o+623+k,none⟩ v):=by
 obtain⟨d,f,a,g,i⟩:=h;exact⟨_,f.set (k:=o+623+k) O _,a.put_tb (λm _ _ p=>upd_ne _ _ _ O) (e d a.tb),g.trans (FrC.upd _ O O),Fr1.set i _ _⟩
theorem ao.sl{b a n:Nat}{c:Nat->Value}{s:St}{w W:World}(h:ao b a n c s w W)(d:a+3351<=n)(k v:Nat)(e:k<19):ao b a n c {s with tb:={s.tb with sl:=upd s.tb.sl k v}} w (W.setCell ⟨b,a+623+309+k,none⟩ (.int .u8 v)):=by
 have:=h.one (309+k) (.int .u8 v) {s.tb with sl:=upd s.tb.sl k v} d O (λg f=>by rw[<-Yg];exact f.set_sl k v e)
 rw[<-Yg] at this;exact this
theorem ao.ls{b a n:Nat}{c:Nat->Value}{s:St}{w W:World}(h:ao b a n c s w W)(d:a+3351<=n)(k v:Nat)(e:k<316):ao b a n c {s with tb:={s.tb with ls:=upd s.tb.ls k v}} w (W.setCell ⟨b,a+623+328+k,none⟩ (.int .u8 v)):=by
 have:=h.one (328+k) (.int .u8 v) {s.tb with ls:=upd s.tb.ls k v} d O (λg f=>by rw[<-Yg];exact f.set_ls k v e)
 rw[<-Yg] at this;exact this
theorem ao.told{b a n:Nat}{c:Nat->Value}{s:St}{w W:World}(h:ao b a n c s w W)(d:a+3351<=n)(v:Nat):ao b a n c {s with tb:={s.tb with told:=v}} w (W.setCell ⟨b,a+623+644,none⟩ (.int .i64 v)):=h.one 644 _ _ d O (λf e=>e.set_told v)
theorem ao.rep{b a n:Nat}{c:Nat->Value}{s:St}{w W:World}(h:ao b a n c s w W)(d:a+3351<=n)(v:Int):ao b a n c {s with tb:={s.tb with rep:=v}} w (W.setCell ⟨b,a+623+645,none⟩ (.int .i64 v)):=h.one 645 _ _ d O (λf e=>e.set_rep v)
theorem ao.kept{b o n c s w W W'}(h:ao b o n c s w W)(k:Kept W W'):ao b o n c s w W':=by
 obtain⟨a,d,e,f,g⟩:=h;exact⟨a,d.kept k,e,f,g.kept k⟩
theorem ao.set{b o n c s w W}(h:ao b o n c s w W)(u:o+3351<=n)k x s' cs(e:cs=(List.range 306).map (csC x))(v:k+306<=3351)(m:∀a f,StV a o s->CSV f (o+k) x->(∀d,¬(o+k<=d/\d<o+k+306)->f d=a d)->StV f o s'):(storeCells ⟨b,o+k,none⟩ cs).run prog W=.ok () (W.setCells b (o+k) cs)/\ao b o n c s' w (W.setCells b (o+k) cs):=by
 obtain⟨a,i,p,q,r⟩:=h;have j:cs.length=306:=by rw[e];exact bI _ 306
 refine⟨aT (by rw[j];exact i.there O) (by rw[e];exact kS _),updL a (o+k) 306 (csC x),i.sets O _ j (λl g=>by rw[e,eF _ 306 l g]),m a _ p (CSV.of_cells (λl g=>dq g)) (λd t=>db t),q.trans (FrC.updL O O),Fr1.sets _ _ r⟩
theorem ao.short{b a n:Nat}{c:Nat->Value}{s:St}{w W:World}(h:ao b a n c s w W)(j:a+3351<=n)(x:CS)(d:List Value)(k:d=(List.range 306).map (csC x)):(storeCells ⟨b,a+623+3,none⟩ d).run prog W=.ok () (W.setCells b (a+623+3) d)/\ao b a n c {s with tb:={s.tb with short:=x}} w (W.setCells b (a+623+3) d) :=
 h.set j 626 x _ d k O (λm o f l g=>f.put_tb (λe _ _ i=>g e O) (f.tb.set_short x l (λe i=>g e (λp=>i ⟨O,O⟩))))
theorem ao.lit{b o n c s w W}(h:ao b o n c s w W)(a:o+3351<=n)x cs(d:cs=(List.range 306).map (csC x)):(storeCells ⟨b,o+11,none⟩ cs).run prog W=.ok () (W.setCells b (o+11) cs)/\ao b o n c {s with lit:=x} w (W.setCells b (o+11) cs) :=
 h.set a 11 x _ cs d O (λk l e f g=>e.set_lit x f (λi j=>g i (λm=>j ⟨O,O⟩)))
theorem ao.dist{b o n c s w W}(h:ao b o n c s w W)(a:o+3351<=n)x cs(d:cs=(List.range 306).map (csC x)):(storeCells ⟨b,o+317,none⟩ cs).run prog W=.ok () (W.setCells b (o+317) cs)/\ao b o n c {s with dist:=x} w (W.setCells b (o+317) cs) :=
 h.set a 317 x _ cs d O (λk l e f g=>e.set_dist x f (λi j=>g i (λm=>j ⟨O,O⟩)))
theorem ao.refl{b o n c s w}(a:Blk w b n c)(d:StV c o s):ao b o n c s w w:=⟨c,a,d,FrC.refl _ _ _ _,Fr.refl _ _⟩
theorem ao.tbc{b o n c s w W}(h:ao b o n c s w W)(g:o+3351<=n):W.cell? ⟨b,o+623,none⟩=some (.int .i64 s.tb.literals)/\W.cell? ⟨b,o+623+1,none⟩=some (.int .i64 s.tb.distances)/\W.cell? ⟨b,o+623+2,none⟩=some (.int .i64 s.tb.shorts)/\W.cell? ⟨b,o+623+644,none⟩=some (.int .i64 s.tb.told)/\W.cell? ⟨b,o+623+645,none⟩=some (.int .i64 s.tb.rep)/\(∀a,a<19->W.cell? ⟨b,o+623+309+a,none⟩=some (.int .u8 (s.tb.sl a)))/\(∀a,a<316->W.cell? ⟨b,o+623+328+a,none⟩=some (.int .u8 (s.tb.ls a)))/\∀a,W.frozen? ⟨b,a,none⟩=false:=by
 obtain⟨i,d,e,j,k⟩:=h;exact⟨d.at O e.tb.literals,d.at O e.tb.distances,d.at O e.tb.shorts,d.at O e.tb.told,d.at O e.tb.rep,λa f=>d.at O (e.tb.sl a f),λa f=>d.at O (e.tb.ls a f),d.fz⟩
def St.short1(s:St)(v:Nat):St:={s with tb:={s.tb with sl:=upd s.tb.sl (rA.getD s.tb.told 0) v,told:=s.tb.told+1}}
def St.short2(s:St):St:={s with tb:={s.tb with short:=bR s.tb.sl 19}}
def St.shortLen(s:St)(v:Nat):St×Nat:=
 if s.tb.told+1<s.tb.shorts then((s.short1 v).enter 5 3,0)
 else if(s.short1 v).short2.tb.short.full=true then(({(s.short1 v).short2 with tb:={(s.short1 v).short2.tb with told:=0}}:St).enter 11 0,0)
 else((s.short1 v).short2,12)
theorem Ex(T a:Nat)w(d:T<19)(e:w.cell? ⟨4,T,none⟩=some (.int .i64 a)):Calls prog 175 #[.int .i64 T] w λb c=>b=.returned (.int .i64 a)/\c=w:=by
 have f:(0:Int)<=(T:Int):=O;have g:¬(T:Int)<0:=O;have h:(T:Int)<19:=O;have i:¬(19:Int)<=(T:Int):=O;go_enter func175,ntmps175;go_wp2;go_ret;exact⟨rfl,rfl⟩
theorem BU w:Calls prog 152 #[.int .i64 16] w λa b=>a=.returned (.tuple #[.int .i64 3,.int .i64 2])/\b=w:=by
 go_enter func152,ntmps152;go_wp2;go_ret2;exact⟨rfl,rfl⟩
theorem Hk w:Calls prog 152 #[.int .i64 17] w λa b=>a=.returned (.tuple #[.int .i64 3,.int .i64 3])/\b=w:=by
 go_enter func152,ntmps152;go_wp2;go_ret2;exact⟨rfl,rfl⟩
theorem Hj w:Calls prog 152 #[.int .i64 18] w λa b=>a=.returned (.tuple #[.int .i64 11,.int .i64 7])/\b=w:=by
 go_enter func152,ntmps152;go_wp2;go_ret2;exact⟨rfl,rfl⟩
theorem N9(x:Nat)w(a:x≠16)(b:x≠17)(c:x≠18):Calls prog 152 #[.int .i64 x] w λd e=>d=.returned (.tuple #[.int .i64 1,.int .i64 0])/\e=w:=by
 have f:((x:Int)==16)=false:=Xa;have g:((x:Int)==17)=false:=Xa;have h:((x:Int)==18)=false:=Xa;clear a b c;go_enter func152,ntmps152;go_wp2;go_ret2;exact⟨rfl,rfl⟩
theorem BP(b a n v:Nat)c s w(b1:Blk w b n c)(b2:StV c a s)(h:a+3351<=n)(b3:eJ w)(e4:b≠4)(c5:v<256)(G:s.tb.told<19)(c6:s.tb.shorts<=19)(b4:∀i,i<19->s.tb.sl i<256):Calls prog 164 #[.pointer (some ⟨b,a,none⟩),.int .u32 v] w λd j=>d=.returned (.int .i64 ((s.shortLen v).2:Int))/\ao b a n c (s.shortLen v).1 w j:=by
 have R:=ao.refl b1 b2;obtain⟨-,-,u,l,-,p,-,m⟩:=R.tbc h;have H:=b3.ord s.tb.told G;have S:=KO s.tb.told G;have x:Z (s.shortLen v=if s.tb.told+1<s.tb.shorts then((s.short1 v).enter 5 3,0) else if(s.short1 v).short2.tb.short.full=true then(({(s.short1 v).short2 with tb:={(s.short1 v).short2.tb with told:=0}}:St).enter 11 0,0) else((s.short1 v).short2,12)):=rfl;obtain⟨k,y⟩:∃k,k=s.tb.told:=⟨_,rfl⟩;obtain⟨f,J⟩:∃f,f=rA.getD s.tb.told 0:=⟨_,rfl⟩;rw[<-J] at H S;have b5:=p f S;obtain⟨b6,T⟩:∃b6,b6=s.tb.sl f:=⟨_,rfl⟩;rw[<-T] at b5;have K:Z (ao b a n c (s.short1 v) w ((w.setCell ⟨b,a+623+309+f,none⟩ (.int .u8 v)).setCell ⟨b,a+623+644,none⟩ (.int .i64 ((k+1:Nat):Int)))):=by
  have:=(R.sl h f v S).told h (k+1)
  rw[y] at this ⊢;unfold St.short1;rw[<-J];exact this
 have b7:∀i,i<19->(s.short1 v).tb.sl i<256:=λi c7=>by
  show upd s.tb.sl (rA.getD s.tb.told 0) v i<256
  by_cases d:i=rA.getD s.tb.told 0
  .rw[d,upd_same];exact c5
  .rw[upd_ne _ _ _ d];exact b4 i c7
 have b8:(s.short1 v).tb.told=k+1:=by rw[y];rfl
 have V:(s.short1 v).tb.shorts=s.tb.shorts:=rfl;rw[<-y] at l H G x;generalize s.short1 v=e at *;generalize s.shortLen v=q at *;obtain⟨z,W⟩:∃z,z=s.tb.shorts:=⟨_,rfl⟩;rw[<-W] at V x c6 u;replace J:Z _:=J;replace y:Z _:=y;replace T:Z _:=T;replace W:Z _:=W;replace p:Z _:=p;have c8:Z _:=b7;have b9:Z _:=b8;have c9:Z _:=V;clear R b1 b2 b3 b4 b7 b8 V;obtain⟨o,X⟩:∃o,o=k+1:=⟨_,rfl⟩;rw[<-X] at K b9 x;have e5:(k:Int)+1=(o:Int):=O;have e6:(0:Int)<=(f:Int):=O;have e7:(f:Int)<19:=O;have e8:IntKind.u8.wrap (v:Int)=(v:Int):=by rw[IntKind.wrap_u8];omega
 have d0:∀Y,(w.setCell ⟨b,a+623+309+f,none⟩ (.int .u8 v)).frozen? ⟨b,Y,none⟩=false:=λY=>(Xy _ _ _ _).trans (m Y)
 have d1:(w.setCell ⟨b,a+623+309+f,none⟩ (.int .u8 v)).cell? ⟨b,a+623+644,none⟩=some (.int .i64 k):=(aa _ _ _ _ _ O).trans l;replace X:Z _:=X;have c0:=U (Ex k f w G H);clear H;go_enter func164,ntmps164;go_wp2_with fail;refine c0.o.mono ?_;rintro d d2 ⟨rfl,e9⟩;subst d2;go_upto_region 5 with fail
 generalize w.setCell ⟨b,a+623+309+f,none⟩ (.int .u8 v)=d3 at *;clear m l u b5 c0;go_upto_region 6 with fail
 generalize d3.setCell ⟨b,a+623+644,none⟩ (.int .i64 o)=c1 at *;clear d0 d1;obtain⟨-,-,u,l,-,-,-,m⟩:=K.o.tbc h;rw[c9.o] at u;rw[b9.o] at l;go_wp2_with fail;go_quiet (fail);have A:=K.o.kept ((Kept.refl c1).drewN nq);generalize c1.drewN nq=L at *;clear u l m K;replace A:Z (ao b a n c e w L):=A;by_cases c2:o<z
 .have d4:(o:Int)<(z:Int):=O
  have B:Z (q=(e.enter 5 3,0)):=by show q=_;rw[x.o,I c2]
  have a0:Z (Calls prog 138 #[.pointer (some ⟨b,a,none⟩),.int .i64 ((5:Nat):Int),.int .u64 ((3:Nat):Int)] L λd j=>d=.returned (.tuple #[])/\ao b a n c (e.enter 5 3) w j):=by
   obtain⟨C,D,E,M,P⟩:=A.o;refine(ba b a n 5 3 C e L D E h).mono ?_;rintro d j ⟨rfl,a1,a2,a3,a4,a5⟩;exact⟨rfl,a1,a2,a3,M.trans a4,P.trans a5⟩
  go_wp2_with fail;refine a0.o.mono ?_;rintro d a6 ⟨rfl,d5⟩;go_wp2;go_ret;rw[B.o];exact⟨rfl,d5⟩
 .have d4:¬(o:Int)<(z:Int):=O
  obtain⟨-,-,-,-,-,p,-,m⟩:=A.o.tbc h;have d6:Z _:=Iw b (a+623+309) 19 19 e.tb.sl L p c8.o O O O;have B:Z (q=if e.short2.tb.short.full=true then(({e.short2 with tb:={e.short2.tb with told:=0}}:St).enter 11 0,0) else(e.short2,12)):=by show q=_;rw[x.o,N c2]
  clear p;go_wp2_with fail;refine X9 d6.o ?_;rintro d a6 ⟨rfl,c3⟩;obtain⟨r,F⟩:∃r,r=(List.range 306).map (csC (bR e.tb.sl 19)):=⟨_,rfl⟩;rw[<-F];obtain⟨d7,t⟩:=(A.o.kept c3).short h (bR e.tb.sl 19) r F;replace t:Z (ao b a n c e.short2 w (a6.setCells b (a+623+3) r)):=t;have d8:Z (kL e.short2.tb.short):=lS e.tb.sl 19 O O;have d9:r.length=306:=by rw[F];exact bI _ 306
  replace F:Z _:=F;clear c3 m;generalize e.short2=g at *;go_upto_region 10 with fail
  generalize a6.setCells b (a+623+3) r=a7 at *;clear d7 d9;have c4:Z (Calls prog 177 #[.pointer (some ⟨b,a+623+3,none⟩)] a7 λd j=>d=.returned (.bool g.tb.short.full)/\j=a7):=by
   obtain⟨C,D,E,M,P⟩:=t.o;exact Co b (a+623+3) n C g.tb.short a7 D E.tb.short O d8.o
  obtain⟨a8,a9⟩:∃a8,a8=g.tb.short.full:=⟨_,rfl⟩;rw[<-a9] at c4 B;replace a9:Z _:=a9;go_wp2_with fail;refine c4.o.mono ?_;rintro d e0 ⟨rfl,f0⟩;subst e0;cases a8 with
  | false=>
   have b0:Z (q=(g,12)):=B.o;go_wp2;go_ret;rw[b0.o];exact⟨rfl,t.o⟩
  | true=>
   have b0:Z (q=(({g with tb:={g.tb with told:=0}}:St).enter 11 0,0)):=B.o;obtain⟨-,-,-,l,-,-,-,m⟩:=t.o.tbc h;have e1:Z _:=t.o.told h 0;have a0:Z (∀Q,ao b a n c {g with tb:={g.tb with told:=0}} w Q->Calls prog 138 #[.pointer (some ⟨b,a,none⟩),.int .i64 ((11:Nat):Int),.int .u64 ((0:Nat):Int)] Q λd j=>d=.returned (.tuple #[])/\ao b a n c (({g with tb:={g.tb with told:=0}}:St).enter 11 0) w j):=λQ e2=>by
    obtain⟨C,D,E,M,P⟩:=e2;refine(ba b a n 11 0 C {g with tb:={g.tb with told:=0}} Q D E h).mono ?_;rintro d j ⟨rfl,a1,a2,a3,a4,a5⟩;exact⟨rfl,a1,a2,a3,M.trans a4,P.trans a5⟩
   go_wp2_with fail;refine(a0.o _ e1.o).mono ?_;rintro d f1 ⟨rfl,e3⟩;go_wp2;go_ret;rw[b0.o];exact⟨rfl,e3⟩
def St.mkLit(s:St):St:={s with lit:=bR s.tb.ls s.tb.literals}
def St.mkDist(s:St):St:={s with dist:=bR (λi=>s.tb.ls (s.tb.literals+i)) (s.tb.told-s.tb.literals)}
def St.makeCodes(s:St):St×Nat:=
 if(s.mkLit.mkDist.lit.full||s.mkLit.mkDist.lit.lone)=false then(s.mkLit.mkDist,12)
 else if(s.mkLit.mkDist.dist.full||(s.mkLit.mkDist.dist.lone||s.mkLit.mkDist.dist.empty))=false then(s.mkLit.mkDist,12)
 else if s.tb.ls 256=0 then(s.mkLit.mkDist,12) else(s.mkLit.mkDist.enter 12 0,0)
def CsX(x:CS)(W:World)(e:Ending)(W':World):Prop:=∃cs:List Value,e=.returned (.agg cs.toArray)/\ZH0 (cs=(List.range 306).map (csC x))/\cs.length=306/\Kept W W'
theorem Iv b q N C f w(e:∀i,i<N->w.cell? ⟨b,q+i,none⟩=some (.int .u8 (f i)))(g:∀i,i<N->f i<256)(h:0<N)(a:N<=288)(j:N<=C):Calls prog 176 #[.slice (some ⟨b,q,none⟩) N C] w λc d=>CsX (bR f N) w c d:=
 (Iw b q N C f w e g h a j).mono (λc d ⟨a,k⟩=>⟨_,a,rfl,bI _ 306,k⟩)
theorem z8 b o n c s w(b7:Blk w b n c)(d2:StV c o s)(H:o+3351<=n)(f2:257<=s.tb.literals)(f3:s.tb.literals<=286)(d3:s.tb.literals<s.tb.told)(d4:s.tb.told<=s.tb.literals+30)(d5:∀i,i<316->s.tb.ls i<256):Calls prog 169 #[.pointer (some ⟨b,o,none⟩)] w λe m=>e=.returned (.int .i64 (s.makeCodes.2:Int))/\ao b o n c s.makeCodes.1 w m:=by
 have b8:=ao.refl b7 d2;obtain⟨G,-,-,K,-,-,v,b9⟩:=b8.tbc H;have d6:=b7.lt;have q:ZH0 (s.makeCodes=if(s.mkLit.mkDist.lit.full||s.mkLit.mkDist.lit.lone)=false then(s.mkLit.mkDist,12) else if(s.mkLit.mkDist.dist.full||(s.mkLit.mkDist.dist.lone||s.mkLit.mkDist.dist.empty))=false then(s.mkLit.mkDist,12) else if s.tb.ls 256=0 then(s.mkLit.mkDist,12) else(s.mkLit.mkDist.enter 12 0,0)):=rfl;have c0:ZH0 _:=d5;have d7:=U b8;have Y:s.mkLit.tb=s.tb:=rfl;have c1:s.mkLit.mkDist.tb=s.tb:=rfl;have c2:kL s.mkLit.mkDist.lit:=lS _ _ O O;have c3:kL s.mkLit.mkDist.dist:=lS (λi=>s.tb.ls (s.tb.literals+i)) (s.tb.told-s.tb.literals) O O;have c4:ZH0 (s.mkLit={s with lit:=bR s.tb.ls s.tb.literals}):=rfl;have a0:ZH0 (s.mkLit.mkDist={s.mkLit with dist:=bR (λi=>s.tb.ls (s.tb.literals+i)) (s.tb.told-s.tb.literals)}):=rfl;generalize s.mkLit.mkDist=j at *;generalize s.mkLit=d8 at *;generalize s.makeCodes=g7 at *;obtain⟨g,a1⟩:∃g,g=s.tb.literals:=⟨_,rfl⟩;obtain⟨x,a2⟩:∃x,x=s.tb.told:=⟨_,rfl⟩;obtain⟨y,a3⟩:∃y,y=s.tb.ls:=⟨_,rfl⟩;obtain⟨L,b0⟩:∃L,L=s.tb.told-s.tb.literals:=⟨_,rfl⟩;rw[<-a1] at f2 f3 d3 d4 G c4 a0;rw[<-a2] at d3 d4 K a0;rw[<-a3] at c0 q v c4 a0;rw[<-a1,<-a2] at b0;rw[<-b0] at a0;have f4:ZH0 (∀a,Kept w a->∀Q,Q<316->a.cell? ⟨b,o+623+328+Q,none⟩=some (.int .u8 (y Q))):=λa t Q f5=>(t.cell (p:=⟨b,o+623+328+Q,none⟩) d6).trans (v Q f5)
 have a4:ZH0 (∀a,Kept w a->a.cell? ⟨b,o+623,none⟩=some (.int .i64 g)):=λa t=>(t.cell (p:=⟨b,o+623,none⟩) d6).trans G
 have d9:ZH0 (∀(a:World) (r:List Value),Kept w a->r.length=306->(a.setCells b (o+11) r).cell? ⟨b,o+623,none⟩=some (.int .i64 g)):=λa r t b1=>(YS b r (o+11) a ⟨b,o+623,none⟩ (λ_ _=>R (by rw[b1];show o+11+306<=o+623;omega))).trans (a4.o a t)
 replace a1:ZH0 _:=a1;replace a2:ZH0 _:=a2;replace a3:ZH0 _:=a3;have e0:ZH0 _:=b0;have f6:0<L/\L<=30:=O;clear b0;have g8:decide ((g:Int)<0)=false:=J;have g9:decide ((316:Int)<(x:Int))=false:=J;have h0:decide (x<g)=false:=J;have h1:(0:Int)<=(g:Int):=O;have h2:(g:Int)<=316:=O;have h3:(g:Int)<=(x:Int):=O;have h4:(x:Int)<=316:=O;replace v:ZH0 _:=v;replace Y:ZH0 _:=Y;replace c1:ZH0 _:=c1;replace c2:ZH0 _:=c2;replace c3:ZH0 _:=c3;clear b7 d2 d5 b8;go_enter func169,ntmps169;go_wp2_with fail;go_quiet (fail);have M:=(Kept.refl w).drewN nq;have a5:=d7.o.kept M;generalize w.drewN nq=c5 at *;replace a5:ZH0 (ao b o n c s w c5):=a5;replace M:ZH0 (Kept w c5):=M;have e1:=a4.o c5 M.o;clear G K b9 v d7;go_upto_region 4 with fail
 go_region_held3 (λa=>a.cell? ⟨b,o+623,none⟩=some (.int .i64 g)) (first|exact e1|exact d9.o _ _ c6 a6|exact a4.o _ c6|exact a4.o _ (M.o.trans ((Kept.refl _).drewN 1))|go_keep) ((go_at_call 176;refine((λa t=>Iv b (o+623+328) g 316 y a (λi c7=>f4.o a t i O) (λi c7=>c0.o i O) O O O) _ (M.o.trans ((Kept.refl _).drewN 1))).mono ?_;rintro e e2 ⟨r,rfl,P,a6,c8⟩;have c6:=(M.o.trans ((Kept.refl _).drewN 1)).trans c8;have c9:=((Kept.refl _).drewN 1).trans c8;have f7:=((a5.o.kept c9).lit H (bR y g) r P.o).1))
 have S:ao b o n c d8 w (e2.setCells b (o+11) r):=by
  have a7:=((a5.o.kept c9).lit H (bR y g) r P.o).2;rw[<-c4.o] at a7;exact a7
 clear f7 a6 c8 c6 c9 P;generalize e2.setCells b (o+11) r=T at *;obtain⟨G,-,-,K,-,-,v,b9⟩:=S.tbc H;rw[Y.o,<-a1.o] at G;rw[Y.o,<-a2.o] at K;rw[Y.o,<-a3.o] at v;have d0:=B _ _ G;have d1:ZH0 (∀a,Kept T a->Calls prog 176 #[.slice (some ⟨b,o+623+328+g,none⟩) L (316-g)] a λe m=>CsX (bR (λi=>y (g+i)) L) a e m):=λa t=>Iv b (o+623+328+g) L (316-g) (λi=>y (g+i)) a (λi c7=>by
  rw[Yg (o+623+328)];exact(t.cell (p:=⟨b,o+623+328+(g+i),none⟩) d0).trans (v (g+i) O)) (λi c7=>c0.o (g+i) O) f6.1 O O
 rw[e0.o] at d1;have a8:ZH0 (∀a,Kept T a->a.cell? ⟨b,o+623,none⟩=some (.int .i64 g)/\a.cell? ⟨b,o+623+644,none⟩=some (.int .i64 x)):=λa t=>⟨(t.cell (p:=⟨b,o+623,none⟩) d0).trans G,(t.cell (p:=⟨b,o+623+644,none⟩) d0).trans K⟩
 have e3:ZH0 (∀(a:World) (r:List Value),Kept T a->r.length=306->(a.setCells b (o+317) r).cell? ⟨b,o+623,none⟩=some (.int .i64 g)/\(a.setCells b (o+317) r).cell? ⟨b,o+623+644,none⟩=some (.int .i64 x)):=λa r t b1=>⟨(YS b r (o+317) a ⟨b,o+623,none⟩ (λ_ _=>R (by rw[b1];show o+317+306<=o+623;omega))).trans (a8.o a t).1,(YS b r (o+317) a ⟨b,o+623+644,none⟩ (λ_ _=>R (by rw[b1];show o+317+306<=o+623+644;omega))).trans (a8.o a t).2⟩
 replace S:ZH0 (ao b o n c d8 w T):=S;have b2:T.cell? ⟨b,o+623,none⟩=some (.int .i64 g)/\T.cell? ⟨b,o+623+644,none⟩=some (.int .i64 x):=⟨G,K⟩;replace b2:ZH0 _:=b2;clear v b9 a5 a4 d9 e1;have f8:¬(316=g):=O;go_upto_region 5 with fail
 go_region_held3 (λa=>a.cell? ⟨b,o+623,none⟩=some (.int .i64 g)/\a.cell? ⟨b,o+623+644,none⟩=some (.int .i64 x)) (first|exact b2.o|exact e3.o _ _ a9 a6|exact a8.o _ a9|exact a8.o _ ((Kept.refl _).drewN 1)|go_keep) ((go_at_call 176;refine(d1.o _ ((Kept.refl _).drewN 1)).mono ?_;rintro e e4 ⟨b3,rfl,P,a6,e5⟩;have a9:=((Kept.refl _).drewN 1).trans e5;have f9:=((S.o.kept a9).dist H (bR (λi=>y (g+i)) (x-g)) b3 P.o).1))
 have k:ao b o n c j w (e4.setCells b (o+317) b3):=by
  have a7:=((S.o.kept a9).dist H (bR (λi=>y (g+i)) (x-g)) b3 P.o).2;rw[<-e0.o,<-a0.o] at a7;exact a7
 clear f9 a6 e5 a9 P;generalize e4.setCells b (o+317) b3=l at *;replace k:ZH0 (ao b o n c j w l):=k;have e6:ZH0 (Calls prog 177 #[.pointer (some ⟨b,o+11,none⟩)] l λe m=>e=.returned (.bool j.lit.full)/\m=l):=by
  obtain⟨z,A,C,V,W⟩:=k.o;exact Co b (o+11) n z j.lit l A C.lit O c2.o
 have e7:ZH0 (Calls prog 178 #[.pointer (some ⟨b,o+11,none⟩)] l λe m=>e=.returned (.bool j.lit.lone)/\m=l):=by
  obtain⟨z,A,C,V,W⟩:=k.o;exact Iz b (o+11) n z j.lit l A C.lit O
 have b4:ZH0 (Calls prog 177 #[.pointer (some ⟨b,o+317,none⟩)] l λe m=>e=.returned (.bool j.dist.full)/\m=l):=by
  obtain⟨z,A,C,V,W⟩:=k.o;exact Co b (o+317) n z j.dist l A C.dist O c3.o
 have b5:ZH0 (Calls prog 178 #[.pointer (some ⟨b,o+317,none⟩)] l λe m=>e=.returned (.bool j.dist.lone)/\m=l):=by
  obtain⟨z,A,C,V,W⟩:=k.o;exact Iz b (o+317) n z j.dist l A C.dist O
 have b6:ZH0 (Calls prog 179 #[.pointer (some ⟨b,o+317,none⟩)] l λe m=>e=.returned (.bool j.dist.empty)/\m=l):=by
  obtain⟨z,A,C,V,W⟩:=k.o;exact LG b (o+317) n z j.dist l A C.dist O
 have X:ZH0 (Calls prog 138 #[.pointer (some ⟨b,o,none⟩),.int .i64 ((12:Nat):Int),.int .u64 ((0:Nat):Int)] l λe m=>e=.returned (.tuple #[])/\ao b o n c (j.enter 12 0) w m):=by
  obtain⟨z,A,C,V,W⟩:=k.o;refine(ba b o n 12 0 z j l A C H).mono ?_;rintro e m ⟨rfl,g0,g1,g2,g3,g4⟩;exact⟨rfl,g0,g1,g2,V.trans g3,W.trans g4⟩
 obtain⟨-,-,-,-,-,-,v,-⟩:=k.o.tbc H;rw[c1.o,<-a3.o] at v;have h5:=v 256 O;clear v S b2 a8 e3 d1 G K f8;generalize j.lit.full=g5 at *;generalize j.lit.lone=g6 at *;generalize j.dist.full=e8 at *;generalize j.dist.lone=e9 at *;generalize j.dist.empty=f0 at *;generalize f1:y 256=Z at *;replace f1:ZH0 _:=f1;cases g5 with
 | true=>
  go_wp2_with fail;refine e6.o.mono ?_;rintro e f ⟨rfl,u⟩;subst f;cases e8 with
  | true=>
   go_wp2_with fail;refine b4.o.mono ?_;rintro e f ⟨rfl,u⟩;subst f;by_cases d:Z=0
   .have D:((Z:Int)==0)=true:=by rw[XI];omega
    have h:ZH0 _:=q.o.trans (I d);replace d:ZH0 _:=d;go_wp2;go_ret;rw[h.o];exact⟨rfl,k.o⟩
   .have D:((Z:Int)==0)=false:=by rw[F];omega
    have h:ZH0 _:=q.o.trans (N d);replace d:ZH0 _:=d;go_wp2_with fail;refine X.o.mono ?_;rintro e f ⟨rfl,E⟩;go_wp2;go_ret;rw[h.o];exact⟨rfl,E⟩
  | false=>
   go_wp2_with fail;refine b4.o.mono ?_;rintro e f ⟨rfl,u⟩;subst f;cases e9 with
   | true=>
    go_wp2_with fail;refine b5.o.mono ?_;rintro e f ⟨rfl,u⟩;subst f;by_cases d:Z=0
    .have D:((Z:Int)==0)=true:=by rw[XI];omega
     have h:ZH0 _:=q.o.trans (I d);replace d:ZH0 _:=d;go_wp2;go_ret;rw[h.o];exact⟨rfl,k.o⟩
    .have D:((Z:Int)==0)=false:=by rw[F];omega
     have h:ZH0 _:=q.o.trans (N d);replace d:ZH0 _:=d;go_wp2_with fail;refine X.o.mono ?_;rintro e f ⟨rfl,E⟩;go_wp2;go_ret;rw[h.o];exact⟨rfl,E⟩
   | false=>
    go_wp2_with fail;refine b5.o.mono ?_;rintro e f ⟨rfl,u⟩;subst f;cases f0 with
    | true=>
     go_wp2_with fail;refine b6.o.mono ?_;rintro e f ⟨rfl,u⟩;subst f;by_cases d:Z=0
     .have D:((Z:Int)==0)=true:=by rw[XI];omega
      have h:ZH0 _:=q.o.trans (I d);replace d:ZH0 _:=d;go_wp2;go_ret;rw[h.o];exact⟨rfl,k.o⟩
     .have D:((Z:Int)==0)=false:=by rw[F];omega
      have h:ZH0 _:=q.o.trans (N d);replace d:ZH0 _:=d;go_wp2_with fail;refine X.o.mono ?_;rintro e f ⟨rfl,E⟩;go_wp2;go_ret;rw[h.o];exact⟨rfl,E⟩
    | false=>
     go_wp2_with fail;refine b6.o.mono ?_;rintro e f ⟨rfl,u⟩;subst f;have h:=U q.o;go_wp2;go_ret;rw[h.o];exact⟨rfl,k.o⟩
 | false=>
  go_wp2_with fail;refine e6.o.mono ?_;rintro e f ⟨rfl,u⟩;subst f;cases g6 with
  | true=>
   go_wp2_with fail;refine e7.o.mono ?_;rintro e f ⟨rfl,u⟩;subst f;cases e8 with
   | true=>
    go_wp2_with fail;refine b4.o.mono ?_;rintro e f ⟨rfl,u⟩;subst f;by_cases d:Z=0
    .have D:((Z:Int)==0)=true:=by rw[XI];omega
     have h:ZH0 _:=q.o.trans (I d);replace d:ZH0 _:=d;go_wp2;go_ret;rw[h.o];exact⟨rfl,k.o⟩
    .have D:((Z:Int)==0)=false:=by rw[F];omega
     have h:ZH0 _:=q.o.trans (N d);replace d:ZH0 _:=d;go_wp2_with fail;refine X.o.mono ?_;rintro e f ⟨rfl,E⟩;go_wp2;go_ret;rw[h.o];exact⟨rfl,E⟩
   | false=>
    go_wp2_with fail;refine b4.o.mono ?_;rintro e f ⟨rfl,u⟩;subst f;cases e9 with
    | true=>
     go_wp2_with fail;refine b5.o.mono ?_;rintro e f ⟨rfl,u⟩;subst f;by_cases d:Z=0
     .have D:((Z:Int)==0)=true:=by rw[XI];omega
      have h:ZH0 _:=q.o.trans (I d);replace d:ZH0 _:=d;go_wp2;go_ret;rw[h.o];exact⟨rfl,k.o⟩
     .have D:((Z:Int)==0)=false:=by rw[F];omega
      have h:ZH0 _:=q.o.trans (N d);replace d:ZH0 _:=d;go_wp2_with fail;refine X.o.mono ?_;rintro e f ⟨rfl,E⟩;go_wp2;go_ret;rw[h.o];exact⟨rfl,E⟩
    | false=>
     go_wp2_with fail;refine b5.o.mono ?_;rintro e f ⟨rfl,u⟩;subst f;cases f0 with
     | true=>
      go_wp2_with fail;refine b6.o.mono ?_;rintro e f ⟨rfl,u⟩;subst f;by_cases d:Z=0
      .have D:((Z:Int)==0)=true:=by rw[XI];omega
       have h:ZH0 _:=q.o.trans (I d);replace d:ZH0 _:=d;go_wp2;go_ret;rw[h.o];exact⟨rfl,k.o⟩
      .have D:((Z:Int)==0)=false:=by rw[F];omega
       have h:ZH0 _:=q.o.trans (N d);replace d:ZH0 _:=d;go_wp2_with fail;refine X.o.mono ?_;rintro e f ⟨rfl,E⟩;go_wp2;go_ret;rw[h.o];exact⟨rfl,E⟩
     | false=>
      go_wp2_with fail;refine b6.o.mono ?_;rintro e f ⟨rfl,u⟩;subst f;have h:=U q.o;go_wp2;go_ret;rw[h.o];exact⟨rfl,k.o⟩
  | false=>
   go_wp2_with fail;refine e7.o.mono ?_;rintro e f ⟨rfl,u⟩;subst f;have h:=U q.o;go_wp2;go_ret;rw[h.o];exact⟨rfl,k.o⟩
structure lK (t:Tb):Prop where
 l1:257<=t.literals
 l2:t.literals<=286
 d1:1<=t.distances
 d2:t.distances<=30
 td:t.told<=t.literals+t.distances
 ls:∀i,t.ls i<256
def St.lay1(s:St)(x:Nat):St:={s with tb:={s.tb with ls:=upd s.tb.ls s.tb.told x,told:=s.tb.told+1}}
def St.layN:Nat->Nat->St->St
 | 0,_,s=>s
 | k+1,x,s=>St.layN k x (s.lay1 x)
def St.lay(s:St)(x k:Nat):St×Nat:=
 if s.tb.literals+s.tb.distances<s.tb.told+k then(s,12)
 else if(St.layN k x s).tb.told<s.tb.literals+s.tb.distances then((St.layN k x s).enter 11 0,0)
 else(St.layN k x s).makeCodes
theorem lK.lay1{s:St}{x}(h:lK s.tb)(c:x<256)(d:s.tb.told+1<=s.tb.literals+s.tb.distances):lK (s.lay1 x).tb:=⟨h.l1,h.l2,h.d1,h.d2,d,λa=>by
 show upd s.tb.ls s.tb.told x a<256
 by_cases b:a=s.tb.told
 .rw[b,upd_same];exact c
 .rw[upd_ne _ _ _ b];exact h.ls a⟩
theorem ER(b d n x k:Nat)c s w(c0:Blk w b n c)(c1:StV c d s)(u:d+3351<=n)(d2:x<256)(e8:k<=1000)(m:lK s.tb):Calls prog 153 #[.pointer (some ⟨b,d,none⟩),.int .u8 x,.int .i64 k] w λh o=>h=.returned (.int .i64 ((s.lay x k).2:Int))/\ao b d n c (s.lay x k).1 w o:=by
 have Y:=ao.refl c0 c1;obtain⟨c2,c3,-,i,-,-,-,P⟩:=Y.tbc u;have v:Z (s.lay x k=if s.tb.literals+s.tb.distances<s.tb.told+k then(s,12) else if(St.layN k x s).tb.told<s.tb.literals+s.tb.distances then((St.layN k x s).enter 11 0,0) else(St.layN k x s).makeCodes):=rfl;have c4:=U Y;have d3:Z _:=m;have d4:=m.l1;have d5:=m.l2;have d6:=m.d1;have d7:=m.d2;have c5:=m.td;obtain⟨q,C⟩:∃q,q=s.tb.literals:=⟨_,rfl⟩;obtain⟨D,E⟩:∃D,D=s.tb.distances:=⟨_,rfl⟩;obtain⟨j,F⟩:∃j,j=s.tb.told:=⟨_,rfl⟩;obtain⟨G,Q⟩:∃G,G=St.layN k x s:=⟨_,rfl⟩;rw[<-Q] at v;rw[<-C,<-E,<-F] at v c5;rw[<-C] at d4 d5 c2;rw[<-E] at d6 d7 c3;rw[<-F] at i;generalize s.lay x k=R at *;obtain⟨g,H⟩:∃g,g=q+D:=⟨_,rfl⟩;have e9:(q:Int)+(D:Int)=(g:Int):=O;obtain⟨r,J⟩:∃r,r=j+k:=⟨_,rfl⟩;have f0:(j:Int)+(k:Int)=(r:Int):=O;rw[<-H,<-J] at v;rw[<-H] at c5;have f1:g<=316/\q<g/\g<=q+30:=O;have f2:r<=2000:=O;replace Q:Z _:=Q;replace C:Z _:=C;replace E:Z _:=E;replace F:Z _:=F;replace H:Z _:=H;clear c0 c1 Y m;go_enter func153,ntmps153;go_wp2_with fail;go_quiet (fail);have a0:=(Kept.refl w).drewN nq;have K:=c4.o.kept a0;have d8:=(a0.cell (p:=⟨b,d+623+644,none⟩) (B _ _ i)).trans i;generalize w.drewN nq=d9 at *;replace K:Z (ao b d n c s w d9):=K;clear c2 c3 i P a0 c4;by_cases S:g<r
 .have e0:(g:Int)<(r:Int):=O
  have T:Z _:=v.o.trans (I S);replace J:Z _:=J;clear S;go_wp2;go_ret;rw[T.o];exact⟨rfl,K.o⟩
 have e0:¬(g:Int)<(r:Int):=O;have T:Z _:=v.o.trans (N S);have f3:j+k<=g:=O;replace J:Z _:=J;clear S v;go_wp2_with fail;go_loopg [9] k (λe1 e2 a1=>∃(e:Nat) (a:St),e1=k-e/\e<=k/\e2=.int .i64 e/\ao b d n c a w a1/\lK a.tb/\a.tb.literals=q/\a.tb.distances=D/\a.tb.told=j+e/\G=St.layN (k-e) x a)
 case atStart=>exact⟨0,s,O,O,rfl,K.o,d3.o,C.o.symm,E.o.symm,by rw[F.o,X5],Q.o⟩
 case round=>
  obtain⟨e,a,a2,f4,rfl,a3,c6,c7,c8,V,W⟩:=hrel;replace a2:Z _:=a2;clear d8 K;obtain⟨-,-,-,i,-,-,t,P⟩:=a3.tbc u;rw[V] at i;obtain⟨f,l⟩:∃f,f=j+e:=⟨_,rfl⟩;rw[<-l] at i V;have a4:=U a3;have c9:Z _:=c6;have a5:Z _:=c7;have d0:Z _:=c8;have y:Z _:=V;clear a3 c6 c7 c8 V;by_cases f5:e<k
  .have e3:(e:Int)<(k:Int):=O
   have f6:(f:Int)<316:=O;have f7:(0:Int)<=(f:Int):=O;have a6:G=St.layN (k-(e+1)) x (a.lay1 x):=by rw[W,show k-e=(k-(e+1))+1 from O];rfl
   replace a6:Z _:=a6;obtain⟨z,a7⟩:∃z,z=f+1:=⟨_,rfl⟩;have f8:(f:Int)+1=(z:Int):=O;have e4:=t f O;have L:Z (ao b d n c (a.lay1 x) w ((wr.setCell ⟨b,d+623+328+f,none⟩ (.int .u8 x)).drew.setCell ⟨b,d+623+644,none⟩ (.int .i64 z))):=by
    have:=((a4.o.ls u f x O).kept ((Kept.refl _).drewN 1)).told u z
    have h:a.lay1 x={a with tb:={a.tb with ls:=upd a.tb.ls f x,told:=z}}:=by unfold St.lay1;rw[y.o,<-a7]
    show ao b d n c (a.lay1 x) w _
    rw[h];exact this
   have e5:Z _:=c9.o.lay1 d2 (by rw[y.o,a5.o,d0.o];have:=H.o;omega);have f9:(wr.setCell ⟨b,d+623+328+f,none⟩ (.int .u8 x)).drew.cell? ⟨b,d+623+644,none⟩=some (.int .i64 f):=(aa _ _ _ _ _ O).trans i;have g0:∀k,(wr.setCell ⟨b,d+623+328+f,none⟩ (.int .u8 x)).drew.frozen? ⟨b,k,none⟩=false:=λk=>(Xy _ _ _ _).trans (P k)
   have e6:Z ((a.lay1 x).tb.told=j+(e+1)):=by
    show a.tb.told+1=_
    rw[y.o,l];omega
   replace l:Z _:=l;replace a7:Z _:=a7;replace t:Z _:=t;go_wp2_with fail;go_region_held3 (λa1=>a1.cell? ⟨b,d+623+644,none⟩=some (.int .i64 f)) (first|exact i|exact(aa _ _ _ _ _ O).trans i|go_keep) (fail)
   generalize (wr.setCell ⟨b,d+623+328+f,none⟩ (.int .u8 x)).drew=d1 at *;clear i e4 P;go_wp2;go_roundg (k-(e+1))
   case measure=>rw[a2.o];omega
   case rel=>exact⟨e+1,a.lay1 x,rfl,O,Xj,L.o,e5.o,a5.o,d0.o,e6.o,a6.o⟩
  .have e3:¬(e:Int)<(k:Int):=O
   have M:e=k:=O;rw[M,YC] at W;have A:G=a:=W;clear W;by_cases X:f<g
   .have e7:(f:Int)<(g:Int):=O
    have a8:Z (R=(a.enter 11 0,0)):=by
     show R=_
     rw[T.o,A,I (by rw[y.o];exact X)]
    have a9:Z (Calls prog 138 #[.pointer (some ⟨b,d,none⟩),.int .i64 ((11:Nat):Int),.int .u64 ((0:Nat):Int)] wr λh o=>h=.returned (.tuple #[])/\ao b d n c (a.enter 11 0) w o):=by
     obtain⟨b0,b1,b2,b3,b4⟩:=a4.o;refine(ba b d n 11 0 b0 a wr b1 b2 u).mono ?_;rintro h o ⟨rfl,b5,b6,b7,b8,b9⟩;exact⟨rfl,b5,b6,b7,b3.trans b8,b4.trans b9⟩
    replace l:Z _:=l;replace M:Z _:=M;replace A:Z _:=A;replace t:Z _:=t;clear X;go_wp2_with fail;refine a9.o.mono ?_;rintro h d1 ⟨rfl,L⟩;go_wp2;go_ret;rw[a8.o];exact⟨rfl,L⟩
   .have e7:¬(f:Int)<(g:Int):=O
    have a8:Z (R=a.makeCodes):=by
     show R=_
     rw[T.o,A,N (by rw[y.o];exact X)]
    have a9:Z (Calls prog 169 #[.pointer (some ⟨b,d,none⟩)] wr λh o=>h=.returned (.int .i64 (a.makeCodes.2:Int))/\ao b d n c a.makeCodes.1 w o):=by
     obtain⟨b0,b1,b2,b3,b4⟩:=a4.o;have g1:=y.o;have g2:=a5.o;refine(z8 b d n b0 a wr b1 b2 u O O O O (λe _=>c9.o.ls e)).mono ?_;rintro h o ⟨rfl,b5,b6,b7,b8,b9⟩;exact⟨rfl,b5,b6,b7,b3.trans b8,b4.trans b9⟩
    generalize a.makeCodes=g3 at *;replace l:Z _:=l;replace M:Z _:=M;replace A:Z _:=A;replace t:Z _:=t;clear X;go_wp2_with fail;refine a9.o.mono ?_;rintro h d1 ⟨rfl,L⟩;go_wp2;go_ret;rw[a8.o];exact⟨rfl,L⟩
def St.setRep(s:St)(σ:Int):St:={s with tb:={s.tb with rep:=σ}}
def St.codeLen(s:St)(σ:Int):St×Nat:=
 if σ = -1 then(s.setRep σ,0) else if σ = -2 then(s.setRep σ,13)
 else if σ=16 then(if s.tb.told=0 then(s.setRep σ,12) else((s.setRep σ).enter 6 2,0))
 else if σ=17 then((s.setRep σ).enter 6 3,0) else if σ=18 then((s.setRep σ).enter 6 7,0)
 else(s.setRep σ).lay σ.toNat 1
def St.repeat(s:St)(v:Nat):St×Nat:=
 if s.tb.rep=17 then s.lay 0 (v+3) else if s.tb.rep=18 then s.lay 0 (v+11)
 else if s.tb.told<1 then(s,12) else s.lay (s.tb.ls (s.tb.told-1)) (v+3)
theorem ao.enterTo{b a n p k:Nat}{c s w W}(h:ao b a n c s w W)(f:a+3351<=n):Calls prog 138 #[.pointer (some ⟨b,a,none⟩),.int .i64 p,.int .u64 k] W λd e=>d=.returned (.tuple #[])/\ao b a n c (s.enter p k) w e:=by
 obtain⟨g,i,j,l,m⟩:=h;refine(ba b a n p k g s W i j f).mono ?_;rintro d e ⟨rfl,o,q,r,t,u⟩;exact⟨rfl,o,q,r,l.trans t,m.trans u⟩
theorem ao.layTo{b a n x k:Nat}{c s w W}(h:ao b a n c s w W)(f:a+3351<=n)(g:x<256)(i:k<=1000)(j:lK s.tb):Calls prog 153 #[.pointer (some ⟨b,a,none⟩),.int .u8 x,.int .i64 k] W λd e=>d=.returned (.int .i64 ((s.lay x k).2:Int))/\ao b a n c (s.lay x k).1 w e:=by
 obtain⟨l,m,o,p,q⟩:=h;refine(ER b a n x k l s W m o f g i j).mono ?_;rintro d e ⟨rfl,r,t,u,v,y⟩;exact⟨rfl,r,t,u,p.trans v,q.trans y⟩
theorem FW b o n σ c s w(C:Blk w b n c)(D:StV c o s)(k:o+3351<=n)(P : -2<=σ)(Q:σ<=18)(e:lK s.tb):Calls prog 147 #[.pointer (some ⟨b,o,none⟩),.int .i64 σ] w λa d=>a=.returned (.int .i64 ((s.codeLen σ).2:Int))/\ao b o n c (s.codeLen σ).1 w d:=by
 have z:=ao.refl C D;obtain⟨-,-,-,-,R,-,-,S⟩:=z.tbc k;have f:ao b o n c (s.setRep σ) w (w.setCell ⟨b,o+623+645,none⟩ (.int .i64 σ)):=z.rep k σ;obtain⟨-,-,-,H,-,-,-,-⟩:=f.tbc k;have E:(s.setRep σ).tb.told=s.tb.told:=rfl;have J:Z (lK (s.setRep σ).tb):=⟨e.l1,e.l2,e.d1,e.d2,e.td,e.ls⟩;rw[E] at H;have r:Z (s.codeLen σ=if σ = -1 then(s.setRep σ,0) else if σ = -2 then(s.setRep σ,13) else if σ=16 then(if s.tb.told=0 then(s.setRep σ,12) else((s.setRep σ).enter 6 2,0)) else if σ=17 then((s.setRep σ).enter 6 3,0) else if σ=18 then((s.setRep σ).enter 6 7,0) else(s.setRep σ).lay σ.toNat 1):=rfl;replace f:Z (ao b o n c (s.setRep σ) w (w.setCell ⟨b,o+623+645,none⟩ (.int .i64 σ))):=f;generalize s.setRep σ=l at *;generalize s.codeLen σ=K at *;have T:s.tb.told<=316:=by have:=e.td;have:=e.l2;have:=e.d2;omega
 generalize s.tb.told=G at *;clear C D z e E;by_cases g:σ = -1
 .have t:Z _:=r.o.trans (I g)
  subst g;go_enter func147,ntmps147;go_wp2;go_ret;rw[t.o];exact⟨rfl,f.o⟩
 have U:(σ == -1)=false:=by rw[F];exact g
 by_cases j:σ = -2
 .have t:Z _:=r.o.trans ((N g).trans (I j))
  subst j;go_enter func147,ntmps147;go_wp2;go_ret;rw[t.o];exact⟨rfl,f.o⟩
 have V:(σ == -2)=false:=by rw[F];exact j
 by_cases m:σ=16
 .have t:Z _:=r.o.trans ((N g).trans ((N j).trans (I m)))
  subst m;by_cases x:G=0
  .have h:Z _:=t.o.trans (I x)
   subst x;go_enter func147,ntmps147;go_wp2;go_ret;rw[h.o];exact⟨rfl,f.o⟩
  .have h:Z _:=t.o.trans (N x)
   have W:((G:Int)==0)=false:=Xa;have p:Z (Calls prog 138 #[.pointer (some ⟨b,o,none⟩),.int .i64 ((6:Nat):Int),.int .u64 ((2:Nat):Int)] _ λa d=>a=.returned (.tuple #[])/\ao b o n c (l.enter 6 2) w d):=f.o.enterTo k;clear x;go_enter func147,ntmps147;go_wp2_with fail;refine(BU _).mono ?_;rintro a wr ⟨rfl,A⟩;subst wr;go_wp2_with fail;refine p.o.mono ?_;rintro a B ⟨rfl,q⟩;go_wp2;go_ret;rw[h.o];exact⟨rfl,q⟩
 have X:(σ==16)=false:=by rw[F];exact m
 by_cases u:σ=17
 .have h:Z _:=r.o.trans ((N g).trans ((N j).trans ((N m).trans (I u))))
  subst u;have p:Z (Calls prog 138 #[.pointer (some ⟨b,o,none⟩),.int .i64 ((6:Nat):Int),.int .u64 ((3:Nat):Int)] _ λa d=>a=.returned (.tuple #[])/\ao b o n c (l.enter 6 3) w d):=f.o.enterTo k;go_enter func147,ntmps147;go_wp2_with fail;refine(Hk _).mono ?_;rintro a wr ⟨rfl,A⟩;subst wr;go_wp2_with fail;refine p.o.mono ?_;rintro a B ⟨rfl,q⟩;go_wp2;go_ret;rw[h.o];exact⟨rfl,q⟩
 have Y:(σ==17)=false:=by rw[F];exact u
 by_cases v:σ=18
 .have h:Z _:=r.o.trans ((N g).trans ((N j).trans ((N m).trans ((N u).trans (I v)))))
  subst v;have p:Z (Calls prog 138 #[.pointer (some ⟨b,o,none⟩),.int .i64 ((6:Nat):Int),.int .u64 ((7:Nat):Int)] _ λa d=>a=.returned (.tuple #[])/\ao b o n c (l.enter 6 7) w d):=f.o.enterTo k;go_enter func147,ntmps147;go_wp2_with fail;refine(Hj _).mono ?_;rintro a wr ⟨rfl,A⟩;subst wr;go_wp2_with fail;refine p.o.mono ?_;rintro a B ⟨rfl,q⟩;go_wp2;go_ret;rw[h.o];exact⟨rfl,q⟩
 have a0:(σ==18)=false:=by rw[F];exact v
 obtain⟨i,L⟩:∃i:Nat,σ=(i:Int):=⟨σ.toNat,O⟩;subst L;have h:Z (K=l.lay i 1):=r.o.trans ((N g).trans ((N j).trans ((N m).trans ((N u).trans (N v)))));have p:Z (Calls prog 153 #[.pointer (some ⟨b,o,none⟩),.int .u8 i,.int .i64 ((1:Nat):Int)] _ λa d=>a=.returned (.int .i64 ((l.lay i 1).2:Int))/\ao b o n c (l.lay i 1).1 w d):=f.o.layTo k O O J.o;generalize l.lay i 1=a1 at *;have M:Z (∀y,Calls prog 152 #[.int .i64 i] y λa d=>a=.returned (.tuple #[.int .i64 1,.int .i64 0])/\d=y):=λy=>N9 i y O O O
 clear g j m u v;go_enter func147,ntmps147;go_wp2_with fail;refine(M.o _).mono ?_;rintro a wr ⟨rfl,A⟩;subst wr;go_wp2_with fail;refine p.o.mono ?_;rintro a B ⟨rfl,q⟩;go_wp2;go_ret;rw[h.o];exact⟨rfl,q⟩
theorem Hl(b d n v:Nat)c s w(M:Blk w b n c)(P:StV c d s)(x:d+3351<=n)(a1:v<256)(k:s.tb.rep=16\/s.tb.rep=17\/s.tb.rep=18)(l:lK s.tb):Calls prog 165 #[.pointer (some ⟨b,d,none⟩),.int .u32 v] w λa i=>a=.returned (.int .i64 ((s.repeat v).2:Int))/\ao b d n c (s.repeat v).1 w i:=by
 have B:=ao.refl M P;obtain⟨-,-,-,a2,C,-,m,a3⟩:=B.tbc x;have o:Z (s.repeat v=if s.tb.rep=17 then s.lay 0 (v+3) else if s.tb.rep=18 then s.lay 0 (v+11) else if s.tb.told<1 then(s,12) else s.lay (s.tb.ls (s.tb.told-1)) (v+3)):=rfl;generalize s.repeat v=a4 at *;have y:Z (ao b d n c s w w):=B;have z:Z _:=l;have a5:s.tb.told<=316:=by have:=l.td;have:=l.l2;have:=l.d2;omega
 obtain⟨e,D⟩:∃E,E=v+3:=⟨_,rfl⟩;obtain⟨p,F⟩:∃E,E=v+11:=⟨_,rfl⟩;have a6:(3:Int)+(v:Int)=(e:Int):=O;have a7:(11:Int)+(v:Int)=(p:Int):=O;rw[<-D,<-F] at o;have Q:e<=1000:=O;replace D:Z _:=D;replace F:Z _:=F;clear M P B l;by_cases f:s.tb.rep=17
 .have g:Z _:=o.o.trans (I f)
  rw[f] at C;have q:Z (Calls prog 153 #[.pointer (some ⟨b,d,none⟩),.int .u8 ((0:Nat):Int),.int .i64 e] w λa i=>a=.returned (.int .i64 ((s.lay 0 e).2:Int))/\ao b d n c (s.lay 0 e).1 w i):=y.o.layTo x O Q z.o;generalize s.lay 0 e=R at *;clear f k m;go_enter func165,ntmps165;go_wp2_with fail;refine(Hk _).mono ?_;rintro a wr ⟨rfl,G⟩;subst wr;go_wp2_with fail;refine q.o.mono ?_;rintro a S ⟨rfl,r⟩;go_wp2;go_ret;rw[g.o];exact⟨rfl,r⟩
 by_cases h:s.tb.rep=18
 .have g:Z _:=o.o.trans ((N f).trans (I h))
  rw[h] at C;have q:Z (Calls prog 153 #[.pointer (some ⟨b,d,none⟩),.int .u8 ((0:Nat):Int),.int .i64 p] w λa i=>a=.returned (.int .i64 ((s.lay 0 p).2:Int))/\ao b d n c (s.lay 0 p).1 w i):=y.o.layTo x O O z.o;generalize s.lay 0 p=R at *;clear f h k m;go_enter func165,ntmps165;go_wp2_with fail;refine(Hj _).mono ?_;rintro a wr ⟨rfl,G⟩;subst wr;go_wp2_with fail;refine q.o.mono ?_;rintro a S ⟨rfl,r⟩;go_wp2;go_ret;rw[g.o];exact⟨rfl,r⟩
 have H:s.tb.rep=16:=by rcases k with t|t|t;exact t;exact absurd t f;exact absurd t h
 rw[H] at C;by_cases A:s.tb.told<1
 .have g:Z _:=o.o.trans ((N f).trans ((N h).trans (I A)))
  have V:(s.tb.told:Int)<1:=O;generalize s.tb.told=W at *;clear f h H k m A;go_enter func165,ntmps165;go_wp2_with fail;refine(BU _).mono ?_;rintro a wr ⟨rfl,G⟩;subst wr;go_wp2;go_ret;rw[g.o];exact⟨rfl,y.o⟩
 .have g:Z _:=o.o.trans ((N f).trans ((N h).trans (N A)))
  have V:¬(s.tb.told:Int)<1:=O;have T:=m (s.tb.told-1) O;have U:=z.o.ls (s.tb.told-1);obtain⟨j,J⟩:∃j,j=s.tb.ls (s.tb.told-1):=⟨_,rfl⟩;rw[<-J] at T U g;obtain⟨u,K⟩:∃u,u=s.tb.told-1:=⟨_,rfl⟩;rw[<-K] at T;have a8:(s.tb.told:Int)-1=(u:Int):=O;have a9:(0:Int)<=(u:Int):=O;have b0:(u:Int)<316:=O;replace J:Z _:=J;replace K:Z _:=K;have q:Z (∀L,Kept w L->Calls prog 153 #[.pointer (some ⟨b,d,none⟩),.int .u8 j,.int .i64 e] L λa i=>a=.returned (.int .i64 ((s.lay j e).2:Int))/\ao b d n c (s.lay j e).1 w i):=λL X=>(y.o.kept X).layTo x U Q z.o
  generalize s.lay j e=R at *;generalize s.tb.told=W at *;clear f h H k m A;go_enter func165,ntmps165;go_wp2_with fail;refine(BU _).mono ?_;rintro a wr ⟨rfl,G⟩;subst wr;go_wp2_with fail;go_quiet (fail);have Y:Z (Kept w (w.drewN nq)):=(Kept.refl w).drewN nq;generalize w.drewN nq=a0 at *;go_wp2_with fail;refine(q.o a0 Y.o).mono ?_;rintro a S ⟨rfl,r⟩;go_wp2;go_ret;rw[g.o];exact⟨rfl,r⟩
def St.lastIs(s:St)(v:Nat):St:={s with last:=decide (v%2=1)}
def St.block(s:St)(v:Nat):St:=if v/2=0 then s.block0 v else if v/2=1 then s.block1 v else if v/2=2 then(s.lastIs v).enter 4 14 else s.lastIs v
def dj(v:Nat):Nat:=if v/2=3 then 11 else 0
theorem wh(b a n v:Nat)c s w(d:Blk w b n c)(f:StV c a s)(y:a+3351<=n)(l:v/2=2\/v/2=3):Calls prog 160 #[.pointer (some ⟨b,a,none⟩),.int .u32 v] w λm z=>m=.returned (.int .i64 (dj v))/\ao b a n c (if v/2=2 then(s.lastIs v).enter 4 14 else s.lastIs v) w z:=by
 have J:=d.at (i:=a+9) O f.last;have K:=d.fz;have A:=lP v O;obtain⟨g,e⟩:∃g,g=v%2:=⟨_,rfl⟩;rw[<-e] at A;have o:Z (((g:Int)==1)=decide (v%2=1)):=by show((g:Int)==1)=decide (v%2=1);rw[X4,XI,XL];omega
 have p:Z (Blk (w.setCell ⟨b,a+9,none⟩ (.bool (decide (v%2=1)))) b n (upd c (a+9) (.bool (decide (v%2=1))))):=d.set O _;have q:Z (StV (upd c (a+9) (.bool (decide (v%2=1)))) a (s.lastIs v)):=f.set_last _;have r:Z (Fr1 b w (w.setCell ⟨b,a+9,none⟩ (.bool (decide (v%2=1))))):=Fr1.set (Fr.refl _ _) _ _;have t:Z (FrC b a (a+3351) c (upd c (a+9) (.bool (decide (v%2=1))))):=FrC.upd _ O O;generalize s.lastIs v=B at *;generalize decide (v%2=1)=j at *;generalize upd c (a+9) (.bool j)=u at *;by_cases h:v/2=2
 .have C:(v:Int)/2=2:=O
  have k:Z (dj v=0):=by show dj v=0;unfold dj;rw[N]
  rw[I h];replace e:Z _:=e;clear d f l h;go_enter func160,ntmps160;go_wp2_with fail;rw[o.o];generalize w.setCell ⟨b,a+9,none⟩ (.bool j)=x at *;refine(ba b a n 4 14 u B x p.o q.o y).mono ?_;rintro m L ⟨rfl,D,E,F,G,H⟩;go_wp2_with fail;go_ret;rw[k.o];exact⟨rfl,D,E,F,t.o.trans G,r.o.trans H⟩
 .have C:(v:Int)/2=3:=O
  have k:Z (dj v=11):=by show dj v=11;unfold dj;rw[I]
  rw[N h];replace e:Z _:=e;clear d f l h;go_enter func160,ntmps160;go_wp2_with fail;rw[o.o];generalize w.setCell ⟨b,a+9,none⟩ (.bool j)=x at *;go_ret;rw[k.o];exact⟨rfl,u,p.o,q.o,t.o,r.o⟩
theorem zs(b a n v:Nat)c s w(d:Blk w b n c)(e:StV c a s)(f:a+3351<=n)(k:v<8):Calls prog 160 #[.pointer (some ⟨b,a,none⟩),.int .u32 v] w λi j=>i=.returned (.int .i64 (dj v))/\ao b a n c (s.block v) w j:=by
 unfold St.block;by_cases g:v/2=0
 .rw[I g,show dj v=0 from N]
  exact xY b a n v c s w d e f O
 rw[N g];by_cases h:v/2=1
 .rw[I h,show dj v=0 from N]
  exact xX b a n v c s w d e f O
 rw[N h];exact wh b a n v c s w d e f O
def dz(s:St)(r:Rw)(σ:Int):St×Rw×Nat:=if σ = -1 then(s,r,0) else if σ<0\/286<=σ then(s,r,13) else if σ=256 then(s.endBlock,r,0) else if 257<=σ then(s.copy (σ.toNat-257),r,0) else aF (s.enter 12 0) r σ.toNat
theorem xQ b o n σ c s r w(d:Blk w b n c)(e:StV c o s)(f:RwV c (o+3351) r)(P:o+4900<=n)(k:jK r)(l:bJ w)(J:b≠0)(m:eJ w)(Q:s.sum<4294967296)(a9 : -2<=σ)(b0:σ<=1000):Calls prog 148 #[.pointer (some ⟨b,o,none⟩),.int .i64 σ,.pointer (some ⟨b,o+3351,none⟩)] w λi A=>i=.returned (.int .i64 ((dz s r σ).2.2:Int))/\av b o n c (dz s r σ).1 (dz s r σ).2.1 w A:=by
 by_cases p:σ = -1
 .subst p
  have x:=U (av.refl d e f);have h:Z (dz s r (-1)=(s,r,0)):=by show dz s r (-1)=_;unfold dz;rw[I rfl]
  clear d e f k l m;go_enter func148,ntmps148;go_wp2;go_ret;rw[h.o];exact⟨rfl,x.o⟩
 .have b1:(σ == -1)=false:=by rw[F];exact p
  by_cases j:σ<0\/286<=σ
  .have x:=U (av.refl d e f)
   have h:Z (dz s r σ=(s,r,13)):=by show dz s r σ=_;unfold dz;rw[N p,I j]
   clear d e f k l m;by_cases b2:σ<0
   .clear j
    go_enter func148,ntmps148;go_wp2;go_ret;rw[h.o];exact⟨rfl,x.o⟩
   .have b3:(286:Int)<=σ:=O
    clear j;go_enter func148,ntmps148;go_wp2;go_ret;rw[h.o];exact⟨rfl,x.o⟩
  have b4:¬σ<0:=O;have b5:¬(286:Int)<=σ:=O;by_cases y:σ=256
  .subst y
   have R:=U (nO b o n c s w d e O);have v:Z _:=f;have h:Z (dz s r 256=(s.endBlock,r,0)):=by show dz s r 256=_;unfold dz;rw[N Xh,N Xh,I rfl]
   clear d e f k l m;go_enter func148,ntmps148;go_wp2_with fail;refine R.o.mono ?_;rintro i B ⟨rfl,q⟩;go_wp2_with fail;go_ret;rw[h.o];exact⟨rfl,av.of_st v.o q⟩
  .have b6:(σ==256)=false:=by rw[F];exact y
   by_cases z:(257:Int)<=σ
   .obtain⟨t,K⟩:∃t:Nat,σ=((257+t:Nat):Int):=⟨σ.toNat-257,O⟩
    have S:Z _:=AP b o n t σ c s w d e O m K O;have v:Z _:=f;have h:Z (dz s r σ=(s.copy t,r,0)):=by show dz s r σ=_;unfold dz;rw[N p,N j,N y,I z,show σ.toNat-257=t from O]
    generalize s.copy t=b7 at *;clear d e f k l m j K;go_enter func148,ntmps148;go_wp2_with fail;refine X9 S.o ?_;rintro i B ⟨rfl,q⟩;go_wp2_with fail;go_ret;rw[h.o];exact⟨rfl,av.of_st v.o q⟩
   have b8:=z;obtain⟨a,T⟩:∃a:Nat,σ=(a:Int):=⟨σ.toNat,O⟩;subst T;have V:a<256:=O;have W:=U (ba b o n 12 0 c s w d e O);have v:Z _:=f;have C:Z (∀(u:World) (g:Nat->Value),Blk u b n g->StV g o (s.enter 12 0)->RwV g (o+3351) r->Fr1 b w u->Calls prog 156 #[.pointer (some ⟨b,o,none⟩),.int .u8 a,.pointer (some ⟨b,o+3351,none⟩)] u λi A=>i=.returned (.int .i64 ((aF (s.enter 12 0) r a).2.2:Int))/\av b o n g (aF (s.enter 12 0) r a).1 (aF (s.enter 12 0) r a).2.1 u A):=λu g X Y a0 a1=>Cl b o n a g (s.enter 12 0) r u X Y a0 P k (l.fr a1 (λa2=>J a2.symm)) J V Q
   obtain⟨L,D⟩:∃a3,a3=aF (s.enter 12 0) r a:=⟨_,rfl⟩;rw[<-D] at C;have a4:Z (dz s r (a:Int)=L):=by
    show dz s r (a:Int)=L
    unfold dz;rw[N p,N j,N y,N z,YQ,D]
   clear d e f k l m D j z;go_enter func148,ntmps148;go_wp2_with fail;refine W.o.mono ?_;rintro i B ⟨rfl,g,q,M,E,G⟩;have a5:Z (FrC b o (o+4900) c g):=E.mono O O;have H:=C.o B g q M (v.o.congr (λa6 p b9=>E.o a6 O)) G;replace H:Z _:=H;have a7:Z _:=G;clear q M E G C;go_wp2_with fail;refine X9 H.o ?_;rintro i c0 ⟨rfl,a8⟩;go_wp2_with fail;go_ret;rw[a4.o];exact⟨rfl,av.next a5.o a7.o a8⟩
