import Derived.Test.YtgooinallljbpaaGreatDoorSh00
import Derived.Test.YtgooinallljbpaaGreatDoorSh08
import Derived.Test.YtgooinallljbpaaGreatDoorSh39
import Derived.Test.YtgooinallljbpaaGreatDoorHd38
import Derived.WalkSpells
set_option linter.all false
set_option maxRecDepth 100000
set_option maxHeartbeats 0
namespace Go.Proofs.YtgooinallljbpaaGreatDoor
open Go.RowKit Px Tryz
def dX(t:ByteArray)(cut:Bool):Dc:=if cut=true then dcZ (ag t) else dcL (ag t)
def dnX(d:Dc):Bool:=decide (d.err=0)&&decide (d.file.part=5)
def SnR(w:World)(d:Dc)(e:Ending)(w':World):Prop:=Kept w w'/\((d.file.hd.W=0/\e=.returned (snV d.err d.at1 (dnX d) ⟨0,0,0,0,0⟩ (.slice none 0 0) (.slice none 0 0) (.slice none 0 0))) \/
 (d.file.hd.W≠0/\∃vk vp vs,e=.returned (snV d.err d.at1 (dnX d) d.file.hd vk vp vs)/\w'.ownsRow w.heap.size 3 1 vk (d.file.hd.W*d.file.hd.H) (fL (knP d.file.rw d.file.hd) (d.file.hd.W*d.file.hd.H)) /\
  w'.ownsRow w.heap.size 3 1 vp (4*(d.file.hd.W*d.file.hd.H)) (fL (λj=>pxP d.file.rw d.file.tl d.file.hd (j/4%d.file.hd.W) (j/4/d.file.hd.W) (j%4)) (4*(d.file.hd.W*d.file.hd.H))) /\
  w'.ownsRow w.heap.size 3 1 vs (4*(d.file.hd.W*d.file.hd.H)) (fL (λj=>shP d.file.rw d.file.tl d.file.hd (j/4%d.file.hd.W) (j/4/d.file.hd.W) (j%4)) (4*(d.file.hd.W*d.file.hd.H)))))
theorem At l:(dcL l).file=(af rd0 l).1:=by rw[kR]
theorem tI t cut:(dX t cut).file=(af rd0 (ag t)).1:=by
 unfold dX;split
 .unfold dcZ
  split<;>exact At _
 .exact At _
theorem Jf{t cut}(b:cut=true->rdE (ag t)=0/\(dcL (ag t)).file.part≠5):(dX t cut).err=ey t cut/\(dX t cut).at1=pQ t cut:=by
 unfold dX;cases cut
 .rw[tB,Dt];exact⟨rfl,rfl⟩
 .have a:=OS t
  rw[K (b rfl)] at a;exact⟨a.1.symm,a.2.symm⟩
theorem Oo{t cut}(c:cut=true->rdE (ag t)=0/\(dcL (ag t)).file.part≠5){F er at'}(h:cq (ag t) F er at'){out dn sm ser sat sen}(q:iD F.z out dn sm ser sat sen):dnX (dX t cut)=(F.done&&decide (ey t cut=0)):=by
 unfold dnX;rw[(Jf c).1,tI,Bool.and_comm];by_cases a:ey t cut=0
 .rw[K a,Bool.and_true,Bool.and_true]
  have e:(af rd0 (ag t)).2.1=0:=by
   rw[<-yc];cases cut
   .rw[tB] at a;exact a
   .exact(c rfl).1
  have d:=(kM (da t) h q (λ_=>0)).2.2 e;cases b:F.done with
  | true=>rw[K (d.2 b)]
  | false=>rw[J (λf=>by rw[d.1 f] at b;cases b)]
 .rw[J a,Y9,Y9]
theorem MD{h rows ls}(q:CP h rows ls):ls.length<=rows.length:=by
 by_cases a:ls.length<=rows.length
 .exact a
 .obtain⟨c,d,b,_⟩:=q rows.length (ls[rows.length]' O) (Xt O)
  have:=(Yb.1 b).1
  omega
theorem Es b t cut w(h:ec w b t cut)(u:cut=true->rdE (ag t)=0/\(dcL (ag t)).file.part≠5):Calls prog 20 #[.pointer (some ⟨b,0,none⟩)] w λi j=>SnR w (dX t cut) i j:=by
 obtain⟨c2,f,c3,c4,M,N,v,P,Q,S,T⟩:=h.ex;have k:=f.cell 2 O;rw[Q] at k;have x:=f.cell 3 O;rw[S] at x;have l:=f.cell 4 O;rw[M] at l;have m:=f.cell 5 O;rw[N] at m;obtain⟨a,y,c5,c6,c7,c8,c9,d0,d1,U,V,n,z,g,W,X,Y,A,Z,d2,d3,a0⟩:=T.ex;have o:=da t;have B:=DZ o n;obtain⟨a1,a2⟩:=Jf u;unfold SnR;rw[a1,a2,(tI t cut),(Oo u n z)];cases d:a.on with
 | false=>
  rw[d] at g;refine(Er b v _ _ a.done w k l m g A).mono ?_;rintro i j ⟨e,p⟩;exact⟨p,L ⟨B.2 d,e⟩⟩
 | true=>
  rw[d] at g;obtain⟨C,a3⟩:=B.1 d;obtain⟨a4,a5,a6,a7,a8,D,E,d4,a9⟩:=a0 d;have c:=Nq o n z d (λ_=>0);rw[<-a9] at c;have q:Agr (ag t) a (dQ a.hd D):=c;have b0:=Xz (MD E.sz) (wD a.hd c.hh.H (aq a.hd.L) 0 (kH a.hd.L).2);refine(GX b v P a4 a5 a6 _ _ a7 a8 a.hd D a.hasClear a.pal a.clear U V a.done (a.done&&decide (ey t cut=0)) w k x l m g W X Y A (⟨E,Z,⟨c.hh.W,c.hh.H,c.hh.D,c.hh.K⟩,λb1 b2 b3 b4 r s e=>q.co o r s e,b0,λb1 b2 b3 b4 r s e b5=>DA q.idx r s e b5⟩) ?_).mono ?_
  .cases a.done with
   | false=>exact L ⟨rfl,rfl⟩
   | true=>
    refine R ⟨rfl,?_⟩;rw[YH];by_cases G:ey t cut=0
    .rw[G];rfl
    .rw[J G];exact F.2 O
  .rintro i j ⟨⟨b6,b7,b8,y,H,I,K⟩,p⟩
   obtain⟨b9,c0,c1⟩:=q.three;rw[C];rw[b9] at H;rw[c0] at I;rw[c1] at K;exact⟨p,R ⟨by rw[<-C];exact a3,b6,b7,b8,y,H,I,K⟩⟩
def Nu(w:World)(n:Nat)(f:Nat->Int)(v:Value):Prop:=
 (n=0/\∃p c,v=.slice p 0 c)\/∃g c,v=.slice (some ⟨g,0,none⟩) n c/\0<n/\g<w.heap.size/\∀i,i<n->w.cell? ⟨g,i,none⟩=some (.int .i64 (f i))
def NuT(w:World)(n:Nat)(f:Nat->Int)(v:Value):Prop:=
 (n=0/\v=.slice none 0 0)\/∃g,v=.slice (some ⟨g,0,none⟩) n n/\0<n/\g<w.heap.size/\∀i,i<n->w.cell? ⟨g,i,none⟩=some (.int .i64 (f i))
theorem NuT.nu{w n f v}(h:NuT w n f v):Nu w n f v:=by
 rcases h with⟨a,b⟩|⟨c,a,b,d⟩
 .exact L ⟨a,_,_,b⟩
 .exact R ⟨c,n,a,b,d⟩
theorem Nu.own{w base n f v}(h:w.ownsRow base 3 1 v n (fL f n)):Nu w n f v:=by
 by_cases b:n=0
 .obtain⟨e,g,rfl⟩:=ak h
  subst b;exact L ⟨rfl,e,g,rfl⟩
 .rcases h.2 with⟨m,i⟩|⟨c,j,o,k,p,q⟩
  .exact absurd i b
  .subst k
   have d:∀a,a<n->w.cell? ⟨c,a,none⟩=some (.int .i64 (f a)):=λa l=>by
    have:=World.ownsRow.cells h rfl a _ (I5 f l)
    rw[addr_add] at this;exact this
   exact R ⟨c,j,rfl,O,B _ _ (d 0 O),d⟩
theorem Nu.kept{w w' n f v}(h:Nu w n f v)(k:Kept w w'):Nu w' n f v:=by
 rcases h with h|⟨a,b,c,d,e,g⟩
 .exact L h
 .exact R ⟨a,b,c,d,Xq e k.size,λi j=>cg k (g i j)⟩
theorem NuT.kept{w w' n f v}(h:NuT w n f v)(k:Kept w w'):NuT w' n f v:=by
 rcases h with h|⟨a,b,c,d,e⟩
 .exact L h
 .exact R ⟨a,b,c,Xq d k.size,λg i=>cg k (e g i)⟩
theorem Nu.sl{w n f v}(h:Nu w n f v):∃a c d,v=.slice a c d:=by
 rcases h with⟨_,a,e,b⟩|⟨g,e,b,_⟩<;>exact⟨_,_,_,b⟩
theorem rk{w n f v}(h:NuT w n f v)(a:n<=1048576):Calls prog 21 #[v] w λb c=>b=.returned (.bool true)/\Kept w c:=by
 rcases h with⟨d,rfl⟩|⟨g,rfl,i,j,e⟩
 .clear a d
  have k:∀(w:World),(binOp .eql 30 (.slice none 0 0) (.slice none 0 0)).run prog w=.ok (.bool true) w:=λw=>Lib.run_eql_slice_nil w _ _ none 0 0 0 0 underlying30
  go_enter func21,ntmps21;go_wp2;go_ret;exact⟨rfl,Kept.refl _⟩
 .have l:(0:Int)<(n:Int):=O
  clear e;go_enter func21,ntmps21;go_wp2;go_ret;exact⟨rfl,Kept.refl _⟩
theorem EA{n f va vb w}(k:Nu w n f va)(d:Nu w n f vb)(l:n<=1024):Calls prog 34 #[va,vb] w λm o=>m=.returned (.bool true)/\Kept w o:=by
 rcases k with⟨e,x,p,rfl⟩|⟨y,p,rfl,z,A,g⟩
 .subst e
  rcases d with⟨_,B,h,rfl⟩|⟨q,h,rfl,r,_⟩
  .clear l
   go_enter func34,ntmps34;go_wp2;refine wp_loop_rounds 1 ?_;rw[rounds_succ];go_wp2;go_ret;exact⟨rfl,Kept.refl _⟩
  .omega
 .rcases d with⟨e,_⟩|⟨q,h,rfl,r,C,i⟩
  .omega
  .have s:Z _:=g
   have t:Z _:=i;clear g i;go_enter func34,ntmps34;go_wp2;go_loopw [5] (λc u=>∃a:Nat,a<=n/\c=.int .i64 a/\Kept w u) (λc _=>n-(intOf c).toNat)
   case atStart=>exact⟨0,O,rfl,Kept.refl _⟩
   case round=>
    obtain⟨a,D,rfl,b⟩:=hrel;by_cases j:a<n
    .have E:=cg b (s.o a j)
     have F:=cg b (t.o a j);have v:(a:Int)<(n:Int):=O;generalize f a=G at *;go_wp2;go_quiet (fail);go_wp2;exact⟨⟨a+1,O,Xj,b.drewN _⟩,Xb⟩
    .have v:¬(a:Int)<(n:Int):=O
     go_wp2;go_ret;exact⟨rfl,b⟩
theorem wi E A DN G f1 f2 f3 ka pa sa kb pb sb w n m(H:n<=1024)(I:m<=1024)(j:Nu w n f1 ka)(k:Nu w n f1 kb)(l:Nu w m f2 pa)(o:Nu w m f2 pb)(q:Nu w m f3 sa)(r:Nu w m f3 sb):Calls prog 22 #[snV E A DN G ka pa sa,snV E A DN G kb pb sb] w λa s=>a=.returned (.bool true)/\Kept w s:=by
 have t:Z (∀(d:World) (f:Nat) (u:Nat->Int) (v x:Value),Nu d f u v->Nu d f u x->f<=1024->Calls prog 34 #[v,x] d λa s=>a=.returned (.bool true)/\Kept d s):=λd f u v x R S T=>EA R S T
 have V:=U j;have W:=U k;have X:=U l;have Y:=U o;have a0:=U q;have a1:=U r;have a2:Z _:=H;have J:Z _:=I;obtain⟨c9,d0,d1,a3⟩:=j.sl;obtain⟨d2,d3,d4,a4⟩:=k.sl;obtain⟨a5,a6,a7,a8⟩:=l.sl;obtain⟨a9,b0,b1,b2⟩:=o.sl;obtain⟨b3,b4,b5,b6⟩:=q.sl;obtain⟨b7,b8,b9,c0⟩:=r.sl;subst a3 a4 a8 b2 b6 c0;clear j k l o q r H I;unfold snV;go_enter func22,ntmps22;go_wp2_with fail;generalize b:World.alloc (World.alloc w _) _=e;have g:Kept w e:=by rw[<-b];exact((Xs _ _).alloc (Nat.le_refl _) _).alloc Xi _
 have y:e.cell? ⟨w.heap.size,9,none⟩=some (.slice a5 a6 a7):=by rw[<-b];simp
 have K:e.cell? ⟨w.heap.size,10,none⟩=some (.slice b3 b4 b5):=by rw[<-b];simp
 have z:e.cell? ⟨w.heap.size+1,9,none⟩=some (.slice a9 b0 b1):=by rw[<-b];simp
 have L:e.cell? ⟨w.heap.size+1,10,none⟩=some (.slice b7 b8 b9):=by rw[<-b];simp
 clear b;refine(t.o _ n _ _ _ (V.o.kept g) (W.o.kept g) a2.o).mono ?_;rintro a c1 ⟨rfl,c⟩;have C:=B _ _ y;have D:=B _ _ z;have M:=(c.cell (p:=⟨w.heap.size,9,none⟩) C).trans y;have N:=(c.cell (p:=⟨w.heap.size,10,none⟩) C).trans K;have O:=(c.cell (p:=⟨w.heap.size+1,9,none⟩) D).trans z;have P:=(c.cell (p:=⟨w.heap.size+1,10,none⟩) D).trans L;have h:Z (Kept w c1):=g.trans c;have c2:=B _ _ M;have c3:=B _ _ O;clear y K z L c g C D;go_wp2_with fail;refine(t.o _ m _ _ _ (X.o.kept h.o) (Y.o.kept h.o) J.o).mono ?_;rintro a c4 ⟨rfl,i⟩;have c5:=(i.cell (p:=⟨w.heap.size,10,none⟩) c2).trans N;have c6:=(i.cell (p:=⟨w.heap.size+1,10,none⟩) c3).trans P;have F:Z (Kept w c4):=h.o.trans i;clear M O N P i h;go_wp2_with fail;refine(t.o _ m _ _ _ (a0.o.kept F.o) (a1.o.kept F.o) J.o).mono ?_;rintro a c7 ⟨rfl,Q⟩;have c8:Z (Kept w c7):=F.o.trans Q;clear Q c5 c6;go_wp2;go_ret;exact⟨rfl,c8.o⟩
def gX(d:Dc):Hd:=if d.file.hd.W=0 then⟨0,0,0,0,0⟩ else d.file.hd
def pxX(d:Dc)(j:Nat):Int:=pxP d.file.rw d.file.tl d.file.hd (j/4%d.file.hd.W) (j/4/d.file.hd.W) (j%4)
def shX(d:Dc)(j:Nat):Int:=shP d.file.rw d.file.tl d.file.hd (j/4%d.file.hd.W) (j/4/d.file.hd.W) (j%4)
def SnU(N:World->Nat->(Nat->Int)->Value->Prop)(w:World)(d:Dc)(e:Ending)(w':World):Prop:=Kept w w'/\∃vk vp vs,e=.returned (snV d.err d.at1 (dnX d) (gX d) vk vp vs)/\N w' ((gX d).W*(gX d).H) (knP d.file.rw d.file.hd) vk/\N w' (4*((gX d).W*(gX d).H)) (pxX d) vp/\N w' (4*((gX d).W*(gX d).H)) (shX d) vs
theorem uF{d}(h:d.file.hd.W=0):gX d=⟨0,0,0,0,0⟩:=I h
theorem qa{d}(h:d.file.hd.W≠0):gX d=d.file.hd:=N h
theorem N6{w d e w'}(h:SnR w d e w'):SnU Nu w d e w':=by
 obtain⟨c,⟨a,b⟩|⟨a,f,g,i,b,j,k,l⟩⟩:=h
 .refine⟨c,.slice none 0 0,.slice none 0 0,.slice none 0 0,?_,?_,?_,?_⟩
  .rw[uF a];exact b
  all_goals
   rw[uF a];exact L ⟨rfl,none,0,rfl⟩
 .refine⟨c,f,g,i,?_,?_,?_,?_⟩
  .rw[qa a];exact b
  .rw[qa a];exact Nu.own j
  .rw[qa a];exact Nu.own k
  .rw[qa a];exact Nu.own l
theorem B3{w lo g n f}(h:eA w lo g n f)(a:0<n):NuT w n f (.slice (some ⟨g,0,none⟩) n n):=R ⟨g,rfl,a,h.2.1,h.2.2⟩
theorem N5{w d e w'}(h:SnX w d e w')(i:d.file.hd.W=0\/za d.file.hd):SnU NuT w d e w':=by
 obtain⟨f,⟨a,b⟩|⟨a,j,k,l,b,m,n,o⟩⟩:=h
 .refine⟨f,.slice none 0 0,.slice none 0 0,.slice none 0 0,?_,?_,?_,?_⟩
  .rw[uF a];exact b
  all_goals
   rw[uF a];exact L ⟨rfl,rfl⟩
 .have g:za d.file.hd:=by
   rcases i with c|c
   .exact absurd c a
   .exact c
  have p:=Nat.mul_pos g.W1 g.H1;refine⟨f,.slice (some ⟨j,0,none⟩) (d.file.hd.W*d.file.hd.H) (d.file.hd.W*d.file.hd.H),.slice (some ⟨k,0,none⟩) (4*(d.file.hd.W*d.file.hd.H)) (4*(d.file.hd.W*d.file.hd.H)),.slice (some ⟨l,0,none⟩) (4*(d.file.hd.W*d.file.hd.H)) (4*(d.file.hd.W*d.file.hd.H)),?_,?_,?_,?_⟩
  .rw[qa a];exact b
  .rw[qa a];exact B3 m p
  .rw[qa a];exact B3 n O
  .rw[qa a];exact B3 o O
theorem Hm{w b t cut}(h:ec w b t cut):(dX t cut).file.hd.W=0\/za (dX t cut).file.hd:=by
 obtain⟨i,j,k,l,m,n,o,p,q,r,f⟩:=h.ex;obtain⟨g,s,u,v,x,y,z,A,B,C,D,c,_⟩:=f.ex;have d:=da t;have e:=DZ d c;rw[tI];cases a:g.on with
 | false=>exact L (e.2 a)
 | true=>exact R (by rw[(e.1 a).1];exact(uJ d c).hd a)
theorem Et{w W g b t cut}(h:DI w W g (dX t cut))(r:ec W b t cut)(l:bJ w):Calls prog 19 #[.pointer (some ⟨g,0,none⟩)] W λe m=>SnU NuT W (dX t cut) e m:=by
 have f:=Hm r;obtain⟨i,j,k⟩:=Du (ag t) (da t);rw[<-(tI t cut)] at i j k;obtain⟨n,o,d⟩:=h.ex;refine(MJ g 5957 n (dX t cut) W o d (E _) ?_ i (l.kept h.kept)).mono (λe p a=>N5 a f);rcases f with a|a
 .exact L a
 .refine R ⟨d.file.rw,d.file.tl,O,O,j,k,?_,a.W1,a.W,a.H1,a.H,a.L⟩
  rcases a.K with c|c|c|c|c<;>omega
def y8(W:World)(P:Nat)(arr:Array Value):Prop:=P<W.heap.size/\∀j,W.cell? ⟨P,j,none⟩=arr[j]?
theorem y8.kept{W W' P arr}(h:y8 W P arr)(k:Kept W W'):y8 W' P arr:=
 ⟨Xq h.1 k.size,λa=>by rw[k.cell (p:=⟨P,a,none⟩) h.1];exact h.2 a⟩
theorem y8.new(W:World)arr:y8 (W.alloc (.cells arr 32)) W.heap.size arr:=
 ⟨Xi,λa=>by rw[Xr _ _ _ _ rfl]⟩
def SnF(v:Value):Prop:=∃(E A:Nat) (D:Bool) (G:Hd) (a:Option Addr) (b c:Nat) (d:Option Addr) (e f:Nat) (g:Option Addr) (h i:Nat),v=snV E A D G (.slice a b c) (.slice d e f) (.slice g h i)
theorem pK w00 w d b t cut(T:ny w00 w d b t cut)(b8:bJ w00):Calls prog 11 #[.pointer (some ⟨d,0,none⟩),.pointer (some ⟨b,0,none⟩)] w λG b9=>(∃e4,G=.returned (.tuple #[e4,.bool true])/\SnF e4)/\Kept w b9:=by
 have a4:Z (∀l,Kept w l->Calls prog 19 _ l _):=λl H=>Et (t:=t) (cut:=cut) (T.di.on H) (T.ref.kept H) b8
 have a5:Z (∀l,Kept w l->Calls prog 20 _ l _):=λl H=>(Es b t cut l (T.ref.kept H) T.cz).mono (λX b9 Y=>N6 Y)
 have a6:(gX (dX t cut)).W<=16/\(gX (dX t cut)).H<=16:=by
  by_cases Y:(dX t cut).file.hd.W=0
  .rw[uF Y];exact⟨X3 _,X3 _⟩
  .rw[qa Y]
   rcases Hm T.ref with X|X
   .exact absurd X Y
   .exact⟨X.W,X.H⟩
 unfold SnU at a4 a5;generalize gX (dX t cut)=a at *;have a0:Z _:=XF a6.1 a6.2;generalize (dX t cut).err=i at *;generalize (dX t cut).at1=j at *;generalize dnX (dX t cut)=k at *;generalize knP (dX t cut).file.rw (dX t cut).file.hd=e5 at *;generalize pxX (dX t cut)=e6 at *;generalize shX (dX t cut)=e7 at *;clear T b8 a6;generalize i2:a.W*a.H=c0 at *;obtain⟨F,V⟩:∃F,F=w.alloc (.cells #[.int .i64 0,.int .i64 0,.bool false,.int .i64 0,.int .i64 0,.int .i64 0,.int .i64 0,.int .i64 0,.slice none 0 0,.slice none 0 0,.slice none 0 0] 32):=⟨_,rfl⟩;have a7:Z (Kept w F):=by rw[V];exact(Xs _ _).alloc (E _) _
 have e8:Z (∀l,Kept F l->(∀r,r<11->∃e9,l.cell? ⟨w.heap.size,r,none⟩=some e9)/\(∀r,l.frozen? ⟨w.heap.size,r,none⟩=false)):=by
  intro l H;have c1:w.heap.size<F.heap.size:=by rw[V];simp
  refine⟨λr f0 => ?_,λr => ?_⟩
  .rw[H.cell (p:=⟨w.heap.size,r,none⟩) c1,V,Xr _ _ _ _ rfl]
   exact zO r f0
  .rw[H.frozen (p:=⟨w.heap.size,r,none⟩) c1,V]
   exact XB _ _ _ _ rfl
 go_enter func11,ntmps11;go_wp2_with fail;rw[<-V];clear V;refine(a4.o F a7.o).mono ?_;rintro G c ⟨c2,i3,i4,i5,rfl,a8,a9,b0⟩;have c3:Z _:=a5.o;have c4:=U a8;have c5:=U a9;have c6:=U b0;obtain⟨s,u,x,rfl⟩:=a8.nu.sl;obtain⟨y,z,A,rfl⟩:=a9.nu.sl;obtain⟨B,C,D,rfl⟩:=b0.nu.sl;have c7:Z (Kept F c):=c2;clear a4 a5 a8 a9 b0 c2;unfold snV;go_wp2_with fail;have c8:Z (y8 (c.alloc (.cells #[.int .i64 i,.int .i64 j,.bool k,.int .i64 a.W,.int .i64 a.H,.int .i64 a.K,.int .i64 a.D,.int .i64 a.L,.slice s u x,.slice y z A,.slice B C D] 32)) c.heap.size #[.int .i64 i,.int .i64 j,.bool k,.int .i64 a.W,.int .i64 a.H,.int .i64 a.K,.int .i64 a.D,.int .i64 a.L,.slice s u x,.slice y z A,.slice B C D]):=y8.new _ _;have b1:Z (Kept c (c.alloc (.cells #[.int .i64 i,.int .i64 j,.bool k,.int .i64 a.W,.int .i64 a.H,.int .i64 a.K,.int .i64 a.D,.int .i64 a.L,.slice s u x,.slice y z A,.slice B C D] 32))):=(Xs _ _).alloc (E _) _;generalize c.alloc (.cells #[.int .i64 i,.int .i64 j,.bool k,.int .i64 a.W,.int .i64 a.H,.int .i64 a.K,.int .i64 a.D,.int .i64 a.L,.slice s u x,.slice y z A,.slice B C D] 32)=f1 at *;refine(c3.o f1 (a7.o.trans (c7.o.trans b1.o))).mono ?_;rintro G h ⟨b2,i6,i7,i8,rfl,b3,b4,b5⟩;have f2:=U b3;have f3:=U b4;have f4:=U b5;obtain⟨I,J,K,rfl⟩:=b3.sl;obtain⟨L,M,N,rfl⟩:=b4.sl;obtain⟨P,Q,R,rfl⟩:=b5.sl;have f5:Z (Kept c h):=b1.o.trans b2;have b6:=U (c8.o.kept b2);clear b3 b4 b5 b2 c8 b1 c3;unfold snV;have o:Z (y8 (h.alloc (.cells #[.int .i64 i,.int .i64 j,.bool k,.int .i64 a.W,.int .i64 a.H,.int .i64 a.K,.int .i64 a.D,.int .i64 a.L,.slice I J K,.slice L M N,.slice P Q R] 32)) h.heap.size #[.int .i64 i,.int .i64 j,.bool k,.int .i64 a.W,.int .i64 a.H,.int .i64 a.K,.int .i64 a.D,.int .i64 a.L,.slice I J K,.slice L M N,.slice P Q R]):=y8.new _ _;have W:Z (Kept h (h.alloc (.cells #[.int .i64 i,.int .i64 j,.bool k,.int .i64 a.W,.int .i64 a.H,.int .i64 a.K,.int .i64 a.D,.int .i64 a.L,.slice I J K,.slice L M N,.slice P Q R] 32))):=(Xs _ _).alloc (E _) _;have f6:(h.alloc (.cells #[.int .i64 i,.int .i64 j,.bool k,.int .i64 a.W,.int .i64 a.H,.int .i64 a.K,.int .i64 a.D,.int .i64 a.L,.slice I J K,.slice L M N,.slice P Q R] 32)).cell? ⟨c.heap.size,8,none⟩=some (.slice s u x):=(b6.o.kept W.o).2 8
 go_wp2_with fail;have f:=U (b6.o.kept W.o);clear f6 b6;generalize h.alloc (.cells #[.int .i64 i,.int .i64 j,.bool k,.int .i64 a.W,.int .i64 a.H,.int .i64 a.K,.int .i64 a.D,.int .i64 a.L,.slice I J K,.slice L M N,.slice P Q R] 32)=a1 at *;have S:Z (Kept c a1):=f5.o.trans W.o;refine(rk (c4.o.kept S.o) (by have:=a0.o;omega)).mono ?_;rintro G f7 ⟨rfl,a2⟩;have f8:f7.cell? ⟨c.heap.size,9,none⟩=some (.slice y z A):=(f.o.kept a2).2 9;go_wp2_with fail;refine(rk (c5.o.kept (S.o.trans a2)) (by have:=a0.o;omega)).mono ?_;rintro G c9 ⟨rfl,d0⟩;have a3:Z (Kept a1 c9):=Kept.trans a2 d0;clear a2 d0 f8;have f9:c9.cell? ⟨c.heap.size,10,none⟩=some (.slice B C D):=(f.o.kept a3.o).2 10;go_wp2_with fail;refine(rk (c6.o.kept (S.o.trans a3.o)) (by have:=a0.o;omega)).mono ?_;rintro G g ⟨rfl,d1⟩;have e:Z (Kept a1 g):=a3.o.trans d1;clear d1 f9 a3;have d2:g.cell? ⟨c.heap.size,0,none⟩=some (.int .i64 i):=(f.o.kept e.o).2 0;have d3:g.cell? ⟨c.heap.size,1,none⟩=some (.int .i64 j):=(f.o.kept e.o).2 1;have d4:g.cell? ⟨c.heap.size,2,none⟩=some (.bool k):=(f.o.kept e.o).2 2;have d5:g.cell? ⟨c.heap.size,3,none⟩=some (.int .i64 a.W):=(f.o.kept e.o).2 3;have d6:g.cell? ⟨c.heap.size,4,none⟩=some (.int .i64 a.H):=(f.o.kept e.o).2 4;have d7:g.cell? ⟨c.heap.size,5,none⟩=some (.int .i64 a.K):=(f.o.kept e.o).2 5;have d8:g.cell? ⟨c.heap.size,6,none⟩=some (.int .i64 a.D):=(f.o.kept e.o).2 6;have d9:g.cell? ⟨c.heap.size,7,none⟩=some (.int .i64 a.L):=(f.o.kept e.o).2 7;have e0:g.cell? ⟨c.heap.size,8,none⟩=some (.slice s u x):=(f.o.kept e.o).2 8;have e1:g.cell? ⟨c.heap.size,9,none⟩=some (.slice y z A):=(f.o.kept e.o).2 9;have e2:g.cell? ⟨c.heap.size,10,none⟩=some (.slice B C D):=(f.o.kept e.o).2 10;have g0:g.cell? ⟨h.heap.size,0,none⟩=some (.int .i64 i):=(o.o.kept e.o).2 0;have g1:g.cell? ⟨h.heap.size,1,none⟩=some (.int .i64 j):=(o.o.kept e.o).2 1;have g2:g.cell? ⟨h.heap.size,2,none⟩=some (.bool k):=(o.o.kept e.o).2 2
 have g3:g.cell? ⟨h.heap.size,3,none⟩=some (.int .i64 a.W):=(o.o.kept e.o).2 3;have g4:g.cell? ⟨h.heap.size,4,none⟩=some (.int .i64 a.H):=(o.o.kept e.o).2 4;have g5:g.cell? ⟨h.heap.size,5,none⟩=some (.int .i64 a.K):=(o.o.kept e.o).2 5;have g6:g.cell? ⟨h.heap.size,6,none⟩=some (.int .i64 a.D):=(o.o.kept e.o).2 6;have g7:g.cell? ⟨h.heap.size,7,none⟩=some (.int .i64 a.L):=(o.o.kept e.o).2 7;have g8:g.cell? ⟨h.heap.size,8,none⟩=some (.slice I J K):=(o.o.kept e.o).2 8;have g9:g.cell? ⟨h.heap.size,9,none⟩=some (.slice L M N):=(o.o.kept e.o).2 9;have h0:g.cell? ⟨h.heap.size,10,none⟩=some (.slice P Q R):=(o.o.kept e.o).2 10;go_wp2_with fail;refine(wi i j k a e5 e6 e7 (.slice s u x) (.slice y z A) (.slice B C D) (.slice I J K) (.slice L M N) (.slice P Q R) g c0 (4*c0) (by have:=a0.o;omega) (by have:=a0.o;omega) (c4.o.nu.kept (S.o.trans e.o)) (f2.o.kept (W.o.trans e.o)) (c5.o.nu.kept (S.o.trans e.o)) (f3.o.kept (W.o.trans e.o)) (c6.o.nu.kept (S.o.trans e.o)) (f4.o.kept (W.o.trans e.o))).mono ?_;rintro G m ⟨rfl,b7⟩;have e3:Z (Kept F m):=c7.o.trans (S.o.trans (e.o.trans b7));have q:Z (Kept a1 m):=e.o.trans b7;clear b7;clear d2 d3 d4 d5 d6 d7 d8 d9 e0 e1 e2 g0 g1 g2 g3 g4 g5 g6 g7 g8 g9 h0;have d2:m.cell? ⟨c.heap.size,0,none⟩=some (.int .i64 i):=(f.o.kept q.o).2 0;have d3:m.cell? ⟨c.heap.size,1,none⟩=some (.int .i64 j):=(f.o.kept q.o).2 1;have d4:m.cell? ⟨c.heap.size,2,none⟩=some (.bool k):=(f.o.kept q.o).2 2;have d5:m.cell? ⟨c.heap.size,3,none⟩=some (.int .i64 a.W):=(f.o.kept q.o).2 3;have d6:m.cell? ⟨c.heap.size,4,none⟩=some (.int .i64 a.H):=(f.o.kept q.o).2 4;have d7:m.cell? ⟨c.heap.size,5,none⟩=some (.int .i64 a.K):=(f.o.kept q.o).2 5;have d8:m.cell? ⟨c.heap.size,6,none⟩=some (.int .i64 a.D):=(f.o.kept q.o).2 6;have d9:m.cell? ⟨c.heap.size,7,none⟩=some (.int .i64 a.L):=(f.o.kept q.o).2 7;have e0:m.cell? ⟨c.heap.size,8,none⟩=some (.slice s u x):=(f.o.kept q.o).2 8
 have e1:m.cell? ⟨c.heap.size,9,none⟩=some (.slice y z A):=(f.o.kept q.o).2 9;have e2:m.cell? ⟨c.heap.size,10,none⟩=some (.slice B C D):=(f.o.kept q.o).2 10;have n:=e8.o _ e3.o;have i9:=n.2;obtain⟨j0,h1⟩:=n.1 0 O;obtain⟨j1,h2⟩:=n.1 1 O;obtain⟨j2,h3⟩:=n.1 2 O;obtain⟨j3,h4⟩:=n.1 3 O;obtain⟨j4,h5⟩:=n.1 4 O;obtain⟨j5,h6⟩:=n.1 5 O;obtain⟨j6,h7⟩:=n.1 6 O;obtain⟨j7,h8⟩:=n.1 7 O;obtain⟨j8,h9⟩:=n.1 8 O;obtain⟨j9,i0⟩:=n.1 9 O;obtain⟨k0,i1⟩:=n.1 10 O;clear n;go_wp2;refine XA (v := .tuple #[snV i j k a (.slice s u x) (.slice y z A) (.slice B C D),.bool true]) (by simp[results,results11,go_sem,snV,h1,h2,h3,h4,h5,h6,h7,h8,h9,i0,i1]) rfl ⟨⟨_,rfl,_,_,_,_,_,_,_,_,_,_,_,_,_,rfl⟩,?_⟩;exact((((((((((((a7.o.trans e3.o).setCell (E _) _).setCell (E _) _).setCell (E _) _).setCell (E _) _).setCell (E _) _).setCell (E _) _).setCell (E _) _).setCell (E _) _).setCell (E _) _).setCell (E _) _).setCell (E _) _)
theorem LK:dcL (ag ⟨#[]⟩)=dc0:=rfl
theorem ny.kept{w0 W W' d b t cut}(h:ny w0 W d b t cut)(k:Kept W W'):ny w0 W' d b t cut:=⟨h.di.on k,h.ref.kept k,h.lt,h.cz⟩
theorem Pe c(n:Nat)w(g : -9223372036854775808<=c)(h:c<9223372036854775808)(i:1<=n)(j:n<=1048577):Calls prog 7 #[.int .i64 c,.int .i64 n] w λa b=>(∃k:Nat,k<n/\a=.returned (.int .i64 k))/\b=w:=by
 by_cases l:c<0
 .go_enter func7,ntmps7
  go_wp2;go_ret;have d : -(c+1).tmod (n:Int)=(-(c+1))%(n:Int):=by rw[<-Int.neg_tmod,XU O]
  have e:=Int.emod_nonneg (-(c+1)) (show(n:Int)≠0 from O);have f:=Int.emod_lt_of_pos (-(c+1)) (show(0:Int)<(n:Int) from O);exact⟨⟨((-(c+1))%(n:Int)).toNat,O,aj (by rw[d];omega)⟩,rfl⟩
 .go_enter func7,ntmps7
  go_wp2;go_ret;have e:=Int.emod_nonneg c (show(n:Int)≠0 from O);have f:=Int.emod_lt_of_pos c (show(0:Int)<(n:Int) from O);exact⟨⟨(c%(n:Int)).toNat,O,aj O⟩,rfl⟩
theorem Pd t w(d:t.size<=65536):Calls prog 6 #[.string t] w λe f=>(∃c:ByteArray,e=.returned (.string c)/\c.size<=65536)/\f=w:=by
 go_enter func6,ntmps6;go_wp2;go_loop [3] (λb=>∃a:Nat,a<=t.size/\b=.int .i64 a) (λb=>t.size-(intOf b).toNat)
 case atStart=>exact⟨0,X3 _,rfl⟩
 case round=>
  obtain⟨a,h,rfl⟩:=hrel;by_cases i:a+4<=t.size
  .have g:(a:Int)+4<=(t.size:Int):=O
   go_wp2
   .go_ret
    exact⟨⟨_,rfl,by rw[ByteArray.size_extract];omega⟩,rfl⟩
   .exact⟨⟨a+1,O,Xj⟩,Xb⟩
  .have g:¬(a:Int)+4<=(t.size:Int):=O
   go_wp2;go_ret;exact⟨⟨_,rfl,d⟩,rfl⟩
theorem Pc text a w(l : -9223372036854775808<=a)(p:a<9223372036854775808)(m:bC w):Calls prog 3 #[.string text,.int .i64 a] w λe h=>e=.returned (.bool true)/\Kept w h:=by
 by_cases q:text.size<=65536
 .have A:Z (∀b,Calls prog 6 #[.string text] b λe h=>(∃c:ByteArray,e=.returned (.string c)/\c.size<=65536)/\h=b):=λb=>Pd text b q
  have C:Z (∀(i:Nat) (b:World),1<=i->i<=1048577->Calls prog 7 #[.int .i64 a,.int .i64 i] b λe h=>(∃d:Nat,d<i/\e=.returned (.int .i64 d))/\h=b):=λi b a5 a6=>Pe a i b l p a5 a6
  have D:decide ((65536:Int)<(text.size:Int))=false:=J;have n:Z (bC w):=m;have E:0<w.heap.size:=by
   have l:0<w.heap.size:=B _ _ (m.grd 0 O);omega
  clear q l p m;go_enter func3,ntmps3;go_wp2_with fail;refine(A.o _).mono ?_;rintro e h ⟨⟨c,rfl,b6⟩,a7⟩;subst h;have F:Z (∀b:World,Calls prog 7 #[.int .i64 a,.int .i64 ((c.size:Int)+1)] b λe h=>(∃d:Nat,d<c.size+1/\e=.returned (.int .i64 d))/\h=b):=λb=>C.o (c.size+1) b O O
  go_wp2_with fail;refine(F.o _).mono ?_;rintro e h ⟨⟨d,b7,rfl⟩,a7⟩;subst h;have b8:(d:Int)<=(c.size:Int):=O;clear A C F D;go_wp2_with fail;refine(Oh (Kept.refl w) E).mono ?_;rintro e o ⟨f,rfl,G⟩;have r:Z (DI w o f dc0):=G;clear G E;go_wp2_with fail;refine(Ij o).mono ?_;rintro e s ⟨rfl,H,I⟩;have t:Z (ny w s f o.heap.size ⟨#[]⟩ false):=⟨by rw[N Xh,LK];exact r.o.on I,H,r.o.glt,(λa8=>by cases a8)⟩;obtain⟨g,L⟩:∃g,g=o.heap.size:=⟨_,rfl⟩;rw[<-L] at t ⊢;clear H I L;have a9:(⟨#[]⟩:ByteArray).size=0:=rfl;have M:(c.extract 0 d).size<=d:=by rw[ByteArray.size_extract];omega
  have P:(c.extract d c.size).size<=c.size-d:=by rw[ByteArray.size_extract];omega
  have Q:Z (Calls prog 10 #[.pointer (some ⟨f,0,none⟩),.pointer (some ⟨g,0,none⟩),.string (c.extract 0 d)] s _):=ss w s f g ⟨#[]⟩ (c.extract 0 d) false t.o O n.o;have R:Z ((c.extract 0 d).size<=d):=M;have u:Z ((c.extract d c.size).size<=c.size-d):=P;clear a9 M P t r;go_wp2_with fail;refine Q.o.mono ?_;rintro e S ⟨rfl,j,T,U⟩;have v:Z (ny w S f g j false):=U;have x:Z (j.size<=d):=Xz T (by rw[show(⟨#[]⟩:ByteArray).size=0 from rfl,XD];exact R.o);clear U T Q R;go_wp2_with fail;refine(pK w S f g j false v.o n.o.grd).mono ?_;rintro e V ⟨⟨b9,rfl,c0,c1,c2,c3,c4,c5,c6,c7,c8,c9,d0,d1,d2,rfl⟩,W⟩;have X:Z (ny w V f g j false):=v.o.kept W;clear W v;have Y:Z (∀b,Kept V b->Calls prog 10 #[.pointer (some ⟨f,0,none⟩),.pointer (some ⟨g,0,none⟩),.string (c.extract d c.size)] b _):=λb y=>ss w b f g j (c.extract d c.size) false (X.o.kept y) (by have:=x.o;have:=u.o;omega) n.o
  unfold snV;go_wp2_with fail;refine(Y.o _ (by go_grown)).mono ?_;rintro e a0 ⟨rfl,k,b0,a1⟩;have z:Z (ny w a0 f g k false):=a1;have b1:Z (k.size<=65536):=by show _<=_;have:=x.o;have:=u.o;omega
  clear a1 b0 Y X x u;go_wp2_with fail;refine(pK w a0 f g k false z.o n.o.grd).mono ?_;rintro e a2 ⟨⟨d3,rfl,d4,d5,d6,d7,d8,d9,e0,e1,e2,e3,e4,e5,e6,rfl⟩,a3⟩;have b2:Z (ny w a2 f g k false):=z.o.kept a3;clear a3 z;have b3:Z (∀b,Kept a2 b->Calls prog 12 #[.pointer (some ⟨f,0,none⟩),.pointer (some ⟨g,0,none⟩)] b _):=λb y=>ll w b f g k (b2.o.kept y) (by have:=b1.o;omega)
  unfold snV;go_wp2_with fail;refine(b3.o _ (by go_grown)).mono ?_;rintro e b4 ⟨rfl,e7,a4⟩;have b5:Z (Kept w b4):=a4.di.kept;clear a4;go_wp2;go_ret;exact⟨rfl,b5.o⟩
 .have D:decide ((65536:Int)<(text.size:Int))=true:=K
  clear q l p m;go_enter func3,ntmps3;go_wp2;go_ret;exact⟨rfl,Kept.refl _⟩
