import Derived.Test.YtgooinallljbpaaGreatDoorSh00
import Derived.Test.YtgooinallljbpaaGreatDoorSh06
import Derived.Test.YtgooinallljbpaaGreatDoorSh02
import Derived.Deep.RegionHeld3
set_option linter.all false
set_option maxRecDepth 100000
set_option maxHeartbeats 0
namespace Go.Proofs.YtgooinallljbpaaGreatDoor
open Go.RowKit Px Tryz
theorem cg{w W}(k:Kept w W){b j v}(e:w.cell? ⟨b,j,none⟩=some v):W.cell? ⟨b,j,none⟩=some v:=(k.cell (p:=⟨b,j,none⟩) (B _ _ e)).trans e
structure Up (lo:Nat) (w W:World):Prop where
 size:w.heap.size<=W.heap.size
 blk:∀i,lo<=i->i<w.heap.size->W.heap[i]? = w.heap[i]?
theorem Up.of{lo w W}(k:Kept w W):Up lo w W:=⟨k.size,λa _ b=>k.block a b⟩
theorem Up.fr{lo d w W}(k:Fr1 d w W)(h:d<lo):Up lo w W:=⟨k.size,λa c b=>k.block a b O⟩
theorem Up.c{lo w W}(k:Up lo w W){b j v}(a:lo<=b)(e:w.cell? ⟨b,j,none⟩=some v):W.cell? ⟨b,j,none⟩=some v:=(XK (w:=w) (k.blk b a (B _ _ e))).trans e
structure ImQ (w:World) (fb mb g cr cl:Nat) (pr pl:Option Addr) (h:Hd) (ls:List Ln):Prop where
 c0:w.cell? ⟨mb,0,none⟩=some (.pointer (some ⟨fb,0,none⟩))
 c1:w.cell? ⟨mb,1,none⟩=some (.slice (some ⟨g,0,none⟩) (aq h.L) (aq h.L))
 c2:w.cell? ⟨mb,2,none⟩=some (.slice pr (au h (aq h.L) 0).length cr)
 c3:w.cell? ⟨mb,3,none⟩=some (.slice pl ls.length cl)
 ps:lL w g h.L
 rows:∀(k p n:Nat),(au h (aq h.L) 0)[k]? = some (p,n)->∃gr,pr=some ⟨gr,0,none⟩/\w.cell? ⟨gr,k*5,none⟩=some (.int .i64 (p:Int))/\w.cell? ⟨gr,k*5+1,none⟩=some (.int .i64 (n:Int))
 lns:∀(k:Nat) (a:Ln),ls[k]? = some a->∃gl,pl=some ⟨gl,0,none⟩/\w.cell? ⟨gl,k,none⟩=some (lnV a)/\dS w a.g a.n a.x
 sz:CP h (au h (aq h.L) 0) ls
 lg:∀a∈ls,a.g<w.heap.size
 f3:w.cell? ⟨fb,3,none⟩=some (.int .i64 (h.D:Int))
 f4:w.cell? ⟨fb,4,none⟩=some (.int .i64 (h.K:Int))
structure CQ (lo fb mb g:Nat) (pr pl:Option Addr) (ls:List Ln):Prop where
 fb:lo<=fb
 mb:lo<=mb
 g:lo<=g
 pr:∀a,pr=some a->lo<=a.block
 pl:∀a,pl=some a->lo<=a.block
 ls:∀a∈ls,lo<=a.g
theorem ImQ.up{w w' lo fb mb g cr cl pr pl h ls}(q:ImQ w fb mb g cr cl pr pl h ls)(b:CQ lo fb mb g pr pl ls)(k:Up lo w w'):ImQ w' fb mb g cr cl pr pl h ls:=by
 refine⟨k.c b.mb q.c0,k.c b.mb q.c1,k.c b.mb q.c2,k.c b.mb q.c3,⟨λf m n o=>k.c b.g (q.ps.cell f m n o)⟩,λi f p d => ?_,λi a d => ?_,q.sz,λa e=>Xq (q.lg a e) k.size,k.c b.fb q.f3,k.c b.fb q.f4⟩
 .obtain⟨r,c,j,l⟩:=q.rows i f p d
  exact⟨r,c,k.c (b.pr _ c) j,k.c (b.pr _ c) l⟩
 .obtain⟨s,c,j,l⟩:=q.lns i a d
  have e:=X8 d;exact⟨s,c,k.c (b.pl _ c) j,l.same (k.blk a.g (b.ls a e) (q.lg a e))⟩
theorem ImQ.kept{w w' fb mb g cr cl pr pl h ls}(q:ImQ w fb mb g cr cl pr pl h ls)(k:Kept w w'):ImQ w' fb mb g cr cl pr pl h ls:=q.up (lo:=0) ⟨X3 _,X3 _,X3 _,λ_ _=>X3 _,λ_ _=>X3 _,λ_ _=>X3 _⟩ (.of k)
structure FcQ (w:World) (fb:Nat) (h:Hd) (hc:Bool) (pal cl:List Nat) (pw qw:Value):Prop where
 c3:w.cell? ⟨fb,3,none⟩=some (.int .i64 (h.D:Int))
 c4:w.cell? ⟨fb,4,none⟩=some (.int .i64 (h.K:Int))
 c7:w.cell? ⟨fb,7,none⟩=some (.bool hc)
 c8:w.cell? ⟨fb,8,none⟩=some pw
 c9:w.cell? ⟨fb,9,none⟩=some qw
 pal:IAt w pw pal
 clr:IAt w qw cl
theorem IAt.up{w w' lo v l}(h:IAt w v l)(b:∀a,ae v=some a->lo<=a)(k:Up lo w w'):IAt w' v l:=by
 refine⟨h.form,λe f c g i => ?_⟩;obtain⟨a,j,d,m⟩:=h.cells e f c g i;exact⟨a,j,d,k.c (b a (by rw[c,d];rfl)) m⟩
theorem FcQ.up{w w' lo fb h hc pal cl pw qw}(q:FcQ w fb h hc pal cl pw qw)(a:lo<=fb)(c:∀b,ae pw=some b->lo<=b)(d:∀b,ae qw=some b->lo<=b)(k:Up lo w w'):FcQ w' fb h hc pal cl pw qw:=
 ⟨k.c a q.c3,k.c a q.c4,k.c a q.c7,k.c a q.c8,k.c a q.c9,q.pal.up c k,q.clr.up d k⟩
theorem FcQ.kept{w w' fb h hc pal cl pw qw}(q:FcQ w fb h hc pal cl pw qw)(k:Kept w w'):FcQ w' fb h hc pal cl pw qw:=q.up (lo:=0) (X3 _) (λ_ _=>X3 _) (λ_ _=>X3 _) (.of k)
def atN(X Y DX DY x y:Nat):Option (Nat×Nat):=if x<X\/y<Y\/(x-X)%DX≠0\/(y-Y)%DY≠0 then none else some ((y-Y)/DY,(x-X)/DX)
theorem OB h p x y:atQ h p x y=atN (pv h.L p 0) (pv h.L p 1) (pv h.L p 2) (pv h.L p 3) x y:=rfl
def atV:Option (Nat×Nat)->Value
 | none => .tuple #[.int .i64 0,.int .i64 0,.bool false]
 | some a => .tuple #[.int .i64 (a.1:Int),.int .i64 (a.2:Int),.bool true]
theorem Mb(X a b c C D x y:Nat)w(U:1<=b)(V:b<=8)(W:1<=c)(Y:c<=8)(a0:x<=16)(a1:y<=16)(a2:X<=8)(a3:a<=8):Calls prog 79 #[.agg #[.int .i64 X,.int .i64 a,.int .i64 b,.int .i64 c,.int .i64 C,.int .i64 D],.int .i64 x,.int .i64 y] w
   λF G=>F=.returned (atV (atN X a b c x y))/\Kept w G:=by
 have o:Z (∀B,Kept w (w.alloc B)):=λB=>Xw (Xs _ _) (E _) _
 have g:Z ((x<X\/y<a\/(x-X)%b≠0\/(y-a)%c≠0)->atN X a b c x y=none):=λd=>I d
 have i:Z (¬(x<X\/y<a\/(x-X)%b≠0\/(y-a)%c≠0)->atN X a b c x y=some ((y-a)/c,(x-X)/b)):=λd=>N d
 generalize atN X a b c x y=a4 at *;by_cases l:x<X
 .have H:(x:Int)<(X:Int):=O
  have h:=g.o (L l);subst h;clear g i l;go_enter func79,ntmps79;go_wp2;go_ret3
  exact⟨rfl,o.o _⟩
 have H:¬(x:Int)<(X:Int):=O;by_cases m:y<a
 .have J:(y:Int)<(a:Int):=O
  have h:=g.o (R (L m));subst h;clear g i m;go_enter func79,ntmps79;go_wp2;go_ret3
  exact⟨rfl,o.o _⟩
 have J:¬(y:Int)<(a:Int):=O;obtain⟨e,z⟩:∃e,e=x-X:=⟨_,rfl⟩;have a5:(x:Int)-(X:Int)=(e:Int):=O;obtain⟨j,s⟩:∃j,j=e%b:=⟨_,rfl⟩;have K:(e:Int)%(b:Int)=(j:Int):=by rw[s];exact(Yo _ _).symm
 have a6:(e:Int).tmod (b:Int)=(j:Int):=by rw[XU O];exact K
 obtain⟨p,t⟩:∃p,p=e/b:=⟨_,rfl⟩;have M:(e:Int)/(b:Int)=(p:Int):=by rw[t];exact(YB _ _).symm
 have a7:(e:Int).tdiv (b:Int)=(p:Int):=by rw[XZ O];exact M
 obtain⟨f,A⟩:∃f,f=y-a:=⟨_,rfl⟩;have a8:(y:Int)-(a:Int)=(f:Int):=O;obtain⟨k,u⟩:∃k,k=f%c:=⟨_,rfl⟩;have P:(f:Int)%(c:Int)=(k:Int):=by rw[u];exact(Yo _ _).symm
 have a9:(f:Int).tmod (c:Int)=(k:Int):=by rw[XU O];exact P
 obtain⟨q,v⟩:∃q,q=f/c:=⟨_,rfl⟩;have Q:(f:Int)/(c:Int)=(q:Int):=by rw[v];exact(YB _ _).symm
 have b0:(f:Int).tdiv (c:Int)=(q:Int):=by rw[XZ O];exact Q
 have b1:p<=e:=by rw[t];exact Yz _ _
 have b2:q<=f:=by rw[v];exact Yz _ _
 have b3:e<=16:=O;have b4:f<=16:=O;rw[<-z,<-A,<-s,<-u,<-t,<-v] at i;rw[<-z,<-A,<-s,<-u] at g;clear z A s u t v;by_cases n:j=0
 .have S:((j:Int)!=0)=false:=by rw[n];rfl
  by_cases r:k=0
  .have T:((k:Int)!=0)=false:=by rw[r];rfl
   have h:=i.o (by rintro(d|d|d|d);exact l d;exact m d;exact d n;exact d r);subst h;clear g i l m n r;go_enter func79,ntmps79;go_wp2;go_quiet (fail);go_wp2;go_ret3
   exact⟨rfl,(o.o _).drewN _⟩
  .have T:((k:Int)!=0)=true:=by rw[XJ];omega
   have h:=g.o (R (R (R r)));subst h;clear g i l m n r;go_enter func79,ntmps79;go_wp2;go_ret3
   exact⟨rfl,o.o _⟩
 .have S:((j:Int)!=0)=true:=by rw[XJ];omega
  have h:=g.o (R (R (L n)));subst h;clear g i l m n;go_enter func79,ntmps79;go_wp2;go_ret3
  exact⟨rfl,o.o _⟩
def wdR(D v:Nat):Nat:=v*(65535/(2^D-1))
theorem Hi{a b}(h:a=b):Ending.returned (.int .i64 a)=.returned (.int .i64 b):=by rw[h]
theorem cw(v D:Nat)w(c:okD D)(q:v<65536):Calls prog 81 #[.int .i64 v,.int .i64 D] w λm n=>m=.returned (.int .i64 (wdR D v))/\n=w:=by
 unfold okD at c;have j:wrap64 (2^D)=((2^D:Nat):Int):=by rcases c with rfl|rfl|rfl|rfl|rfl<;>kernel_rfl
 obtain⟨a,d⟩:∃a,a=2^D-1:=⟨_,rfl⟩;have k:2^D=a+1:=by have:=Nat.two_pow_pos D;omega
 have r:1<=a:=by rcases c with rfl|rfl|rfl|rfl|rfl<;>(rw[d];decide)
 have s:a<=65535:=by rcases c with rfl|rfl|rfl|rfl|rfl<;>(rw[d];decide)
 rw[k] at j;have h:Z (wdR D v=v*(65535/a)):=by show wdR D v=_;unfold wdR;rw[<-d]
 obtain⟨b,e⟩:∃b,b=65535/a:=⟨_,rfl⟩;have o:(65535:Int)/(a:Int)=(b:Int):=by rw[e];exact(YB _ _).symm
 have t:(65535:Int).tdiv (a:Int)=(b:Int):=by rw[XZ O];exact o
 have p:b<=65535:=by rw[e];exact Yz _ _
 rw[<-e] at h;obtain⟨f,g⟩:∃f,f=v*b:=⟨_,rfl⟩;have u:(v:Int)*(b:Int)=(f:Int):=by rw[g,Yv]
 have x:f<=4294967295:=by rw[g];have:v*b<=65535*65535:=XF O p;omega
 rw[<-g] at h;have y:¬((a:Int)=0):=O;have z:¬(a=0):=O;obtain⟨i,l⟩:∃i,i=a+1:=⟨_,rfl⟩;rw[<-l] at j;have A:(i:Int)-1=(a:Int):=O;have B:D<=16:=O;clear g e d k l;generalize wdR D v=C at *;replace c:Z _:=c;go_enter func81,ntmps81;go_wp2;go_ret;exact⟨Hi (by rw[h.o]),rfl⟩
def Fo4(w:World)(a0 a1 a2 a3:Int)(e:Ending)(w':World):Prop:=∃g,e=.returned (.slice (some ⟨g,0,none⟩) 4 4)/\w.heap.size<=g/\w'.cell? ⟨g,0,none⟩=some (.int .i64 a0)/\w'.cell? ⟨g,1,none⟩=some (.int .i64 a1)/\w'.cell? ⟨g,2,none⟩=some (.int .i64 a2)/\w'.cell? ⟨g,3,none⟩=some (.int .i64 a3)/\Kept w w'
theorem iG{w W}(k:Kept w W)a0 a1 a2 a3 t W'(a:Kept (W.alloc (Obj.cells #[.int .i64 a0,.int .i64 a1,.int .i64 a2,.int .i64 a3] t)) W'):Fo4 w a0 a1 a2 a3 (.returned (.slice (some ⟨W.heap.size,0,none⟩) 4 4)) W':=by
 have b:W.heap.size<(W.alloc (Obj.cells #[.int .i64 a0,.int .i64 a1,.int .i64 a2,.int .i64 a3] t)).heap.size:=Xi;refine⟨W.heap.size,rfl,k.size,?_,?_,?_,?_,Kept.trans (Xw k k.size _) a⟩ <;>
 exact(a.cell (p:=⟨W.heap.size,_,none⟩) b).trans ((Xr _ _ _ _ rfl).trans rfl)
theorem Fo4.of{w w' e b0 b1 b2 b3 a0 a1 a2 a3}(h:Fo4 w b0 b1 b2 b3 e w')(a:b0=a0)(b:b1=a1)(c:b2=a2)(d:b3=a3):Fo4 w a0 a1 a2 a3 e w':=by rw[<-a,<-b,<-c,<-d];exact h
theorem Ju(A J a9 u j Y a0 m n b o p q k:Nat)qp w(b9:w.cell? ⟨A,4,none⟩=some (.int .i64 3))(K:w.cell? ⟨A,8,none⟩=some (.slice (some ⟨m,n,none⟩) u Y))(L:w.cell? ⟨A,9,none⟩=some (.slice qp j a0))(M:w.cell? ⟨J,0,none⟩=some (.int .i64 b))(b0:3*b+3<=u)(c0:u<=1048576)(P:w.cell? ⟨m,n+3*b,none⟩=some (.int .i64 o))(Q:w.cell? ⟨m,n+(3*b+1),none⟩=some (.int .i64 p))(R:w.cell? ⟨m,n+(3*b+2),none⟩=some (.int .i64 q))(c1:o<256)(c2:p<256)(c3:q<256)(c4:k<256)(a1:b<j->∃r s,qp=some ⟨r,s,none⟩/\w.cell? ⟨r,s+b,none⟩=some (.int .i64 k)):Calls prog 47 #[.pointer (some ⟨A,0,none⟩),.slice (some ⟨J,0,none⟩) 1 a9] w λc l=>Fo4 w ((wdR 8 o:Nat):Int) ((wdR 8 p:Nat):Int) ((wdR 8 q:Nat):Int) ((if b<j then wdR 8 k else 65535:Nat):Int) c l:=by
 have a2:Z (∀a,Calls prog 81 #[.int .i64 o,.int .i64 8] a λc l=>c=.returned (.int .i64 (wdR 8 o))/\l=a):=λa=>cw o 8 a (by unfold okD;omega) O
 have a3:Z (∀a,Calls prog 81 #[.int .i64 p,.int .i64 8] a λc l=>c=.returned (.int .i64 (wdR 8 p))/\l=a):=λa=>cw p 8 a (by unfold okD;omega) O
 have a4:Z (∀a,Calls prog 81 #[.int .i64 q,.int .i64 8] a λc l=>c=.returned (.int .i64 (wdR 8 q))/\l=a):=λa=>cw q 8 a (by unfold okD;omega) O
 have b1:Z (∀a,Calls prog 81 #[.int .i64 k,.int .i64 8] a λc l=>c=.returned (.int .i64 (wdR 8 k))/\l=a):=λa=>cw k 8 a (by unfold okD;omega) O
 obtain⟨C,a5⟩:∃D,D=3*b:=⟨_,rfl⟩;obtain⟨S,a6⟩:∃D,D=3*b+1:=⟨_,rfl⟩;obtain⟨T,a7⟩:∃D,D=3*b+2:=⟨_,rfl⟩;have c5:3*(b:Int)=(C:Int):=O;have c6:(C:Int)+1=(S:Int):=O;have c7:(C:Int)+2=(T:Int):=O;have c8:C<u:=O;have c9:S<u:=O;have d0:T<u:=O;have d1:b<=1048576:=O;rw[<-a5] at P;rw[<-a6] at Q;rw[<-a7] at R;have v:Z (∀a,Kept w a->a.cell? ⟨A,8,none⟩=some (.slice (some ⟨m,n,none⟩) u Y)/\a.cell? ⟨A,9,none⟩=some (.slice qp j a0)/\a.cell? ⟨J,0,none⟩=some (.int .i64 b)/\a.cell? ⟨m,n+C,none⟩=some (.int .i64 o)/\a.cell? ⟨m,n+S,none⟩=some (.int .i64 p)/\a.cell? ⟨m,n+T,none⟩=some (.int .i64 q)):=λa t=>⟨cg t K,cg t L,cg t M,cg t P,cg t Q,cg t R⟩
 have b2:Z (∀a,Kept w a->b<j->∃r s,qp=some ⟨r,s,none⟩/\a.cell? ⟨r,s+b,none⟩=some (.int .i64 k)):=λa t b3=>by
  obtain⟨r,s,c,b4⟩:=a1 b3;exact⟨r,s,c,cg t b4⟩
 obtain⟨H,U⟩:∃H,H=(if b<j then wdR 8 k else 65535:Nat):=⟨_,rfl⟩;have B:Z _:=U;rw[<-U];generalize wdR 8 o=d2 at *;generalize wdR 8 p=d3 at *;generalize wdR 8 q=d4 at *;generalize wdR 8 k=b5 at *;clear a1 P Q R a5 a6 a7 U b0;go_enter func47,ntmps47;go_wp2_with fail;go_quiet (fail);have E:Z (Kept w (w.drewN nq)):=(Kept.refl _).drewN _;generalize w.drewN nq=x at *;by_cases V:b<j
 .have b6:(b:Int)<(j:Int):=O
  have d5:(0:Int)<=(b:Int):=O;replace B:Z (H=b5):=B.o.trans (I V);obtain⟨r,s,c,b7⟩:=b2.o x E.o V;subst c;obtain⟨d,e,f,g,h,i⟩:=v.o x E.o;clear K L M;go_wp2_with fail;go_quiet ((go_at_call 81;exact Xu (b1.o _)))
  have a8:Z (Kept w (x.drewN nq)):=E.o.drewN _;generalize x.drewN nq=W at *;clear d e f g h i b7;obtain⟨d,e,f,g,h,i⟩:=v.o W a8.o;go_wp2_with fail;go_quiet ((go_at_call 81;exact Xu (a2.o _)))
  have F:Z (Kept w (W.drewN nq)):=a8.o.drewN _;generalize W.drewN nq=y at *;clear d e f g h i;obtain⟨d,e,f,g,h,i⟩:=v.o y F.o;go_wp2_with fail;go_quiet ((go_at_call 81;exact Xu (a3.o _)))
  have G:Z (Kept w (y.drewN nq)):=F.o.drewN _;generalize y.drewN nq=z at *;clear d e f g h i;obtain⟨d,e,f,g,h,i⟩:=v.o z G.o;go_wp2_with fail;go_quiet ((go_at_call 81;exact Xu (a4.o _)))
  have X:Z (Kept w (z.drewN nq)):=G.o.drewN _;generalize z.drewN nq=b8 at *;clear d e f g h i;go_wp2_with fail;go_ret;exact Fo4.of (iG X.o _ _ _ _ _ _ (Kept.refl _)) rfl rfl rfl (by rw[B.o])
 .have b6:¬(b:Int)<(j:Int):=O
  replace B:Z (H=65535):=B.o.trans (N V);obtain⟨d,e,f,g,h,i⟩:=v.o x E.o;clear K L M;go_wp2_with fail;go_quiet ((go_at_call 81;exact Xu (a2.o _)))
  have F:Z (Kept w (x.drewN nq)):=E.o.drewN _;generalize x.drewN nq=y at *;clear d e f g h i;obtain⟨d,e,f,g,h,i⟩:=v.o y F.o;go_wp2_with fail;go_quiet ((go_at_call 81;exact Xu (a3.o _)))
  have G:Z (Kept w (y.drewN nq)):=F.o.drewN _;generalize y.drewN nq=z at *;clear d e f g h i;obtain⟨d,e,f,g,h,i⟩:=v.o z G.o;go_wp2_with fail;go_quiet ((go_at_call 81;exact Xu (a4.o _)))
  have X:Z (Kept w (z.drewN nq)):=G.o.drewN _;generalize z.drewN nq=b8 at *;clear d e f g h i;go_wp2_with fail;go_ret;exact Fo4.of (iG X.o _ _ _ _ _ _ (Kept.refl _)) rfl rfl rfl (by rw[B.o];rfl)
theorem Jt(d e y D b c:Nat)w(p:w.cell? ⟨d,3,none⟩=some (.int .i64 D))(q:w.cell? ⟨d,4,none⟩=some (.int .i64 4))(m:okD D)(r:w.cell? ⟨e,0,none⟩=some (.int .i64 b))(s:w.cell? ⟨e,1,none⟩=some (.int .i64 c))(t:b<65536)(u:c<65536):Calls prog 47 #[.pointer (some ⟨d,0,none⟩),.slice (some ⟨e,0,none⟩) 2 y] w λf g=>Fo4 w ((wdR D b:Nat):Int) ((wdR D b:Nat):Int) ((wdR D b:Nat):Int) ((wdR D c:Nat):Int) f g:=by
 have z:Z (∀a,Calls prog 81 #[.int .i64 b,.int .i64 D] a λf g=>f=.returned (.int .i64 (wdR D b))/\g=a):=λa=>cw b D a m t
 have A:Z (∀a,Calls prog 81 #[.int .i64 c,.int .i64 D] a λf g=>f=.returned (.int .i64 (wdR D c))/\g=a):=λa=>cw c D a m u
 generalize wdR D b=C at *;generalize wdR D c=E at *;have n:Z (∀a,Kept w a->a.cell? ⟨d,3,none⟩=some (.int .i64 D)/\a.cell? ⟨d,4,none⟩=some (.int .i64 4)/\a.cell? ⟨e,0,none⟩=some (.int .i64 b)/\a.cell? ⟨e,1,none⟩=some (.int .i64 c)):=λa h=>⟨cg h p,cg h q,cg h r,cg h s⟩
 obtain⟨i,j,k,l⟩:=n.o w (Kept.refl _);clear p q m r s t u;go_enter func47,ntmps47;go_wp2_with fail;go_quiet ((go_at_call 81;exact Xu (A.o _)))
 have v:Z (Kept w (w.drewN nq)):=(Kept.refl _).drewN _;generalize w.drewN nq=o at *;clear i j k l;obtain⟨i,j,k,l⟩:=n.o o v.o;go_wp2_with fail;go_quiet ((go_at_call 81;exact Xu (z.o _)))
 have x:Z (Kept w (o.drewN nq)):=v.o.drewN _;generalize o.drewN nq=B at *;clear i j k l;obtain⟨i,j,k,l⟩:=n.o B x.o;go_wp2_with fail;go_ret;exact Fo4.of (iG x.o _ _ _ _ _ _ (Kept.refl _)) rfl rfl rfl rfl
theorem Js(p b L D e f g h:Nat)w(v:w.cell? ⟨p,3,none⟩=some (.int .i64 D))(x:w.cell? ⟨p,4,none⟩=some (.int .i64 6))(q:okD D)(y:w.cell? ⟨b,0,none⟩=some (.int .i64 e))(z:w.cell? ⟨b,1,none⟩=some (.int .i64 f))(A:w.cell? ⟨b,2,none⟩=some (.int .i64 g))(B:w.cell? ⟨b,3,none⟩=some (.int .i64 h))(C:e<65536)(E:f<65536)(F:g<65536)(G:h<65536):Calls prog 47 #[.pointer (some ⟨p,0,none⟩),.slice (some ⟨b,0,none⟩) 4 L] w λc d=>Fo4 w ((wdR D e:Nat):Int) ((wdR D f:Nat):Int) ((wdR D g:Nat):Int) ((wdR D h:Nat):Int) c d:=by
 have M:Z (∀a,Calls prog 81 #[.int .i64 e,.int .i64 D] a λc d=>c=.returned (.int .i64 (wdR D e))/\d=a):=λa=>cw e D a q C
 have N:Z (∀a,Calls prog 81 #[.int .i64 f,.int .i64 D] a λc d=>c=.returned (.int .i64 (wdR D f))/\d=a):=λa=>cw f D a q E
 have O:Z (∀a,Calls prog 81 #[.int .i64 g,.int .i64 D] a λc d=>c=.returned (.int .i64 (wdR D g))/\d=a):=λa=>cw g D a q F
 have P:Z (∀a,Calls prog 81 #[.int .i64 h,.int .i64 D] a λc d=>c=.returned (.int .i64 (wdR D h))/\d=a):=λa=>cw h D a q G
 generalize wdR D e=R at *;generalize wdR D f=S at *;generalize wdR D g=T at *;generalize wdR D h=U at *;have r:Z (∀a,Kept w a->a.cell? ⟨p,3,none⟩=some (.int .i64 D)/\a.cell? ⟨p,4,none⟩=some (.int .i64 6)/\a.cell? ⟨b,0,none⟩=some (.int .i64 e)/\a.cell? ⟨b,1,none⟩=some (.int .i64 f)/\a.cell? ⟨b,2,none⟩=some (.int .i64 g)/\a.cell? ⟨b,3,none⟩=some (.int .i64 h)):=λa o=>⟨cg o v,cg o x,cg o y,cg o z,cg o A,cg o B⟩
 obtain⟨i,j,k,l,m,n⟩:=r.o w (Kept.refl _);clear v x q y z A B C E F G;go_enter func47,ntmps47;go_wp2_with fail;go_quiet ((go_at_call 81;exact Xu (P.o _)))
 have H:Z (Kept w (w.drewN nq)):=(Kept.refl _).drewN _;generalize w.drewN nq=s at *;clear i j k l m n;obtain⟨i,j,k,l,m,n⟩:=r.o s H.o;go_wp2_with fail;go_quiet ((go_at_call 81;exact Xu (M.o _)))
 have I:Z (Kept w (s.drewN nq)):=H.o.drewN _;generalize s.drewN nq=t at *;clear i j k l m n;obtain⟨i,j,k,l,m,n⟩:=r.o t I.o;go_wp2_with fail;go_quiet ((go_at_call 81;exact Xu (N.o _)))
 have J:Z (Kept w (t.drewN nq)):=I.o.drewN _;generalize t.drewN nq=u at *;clear i j k l m n;obtain⟨i,j,k,l,m,n⟩:=r.o u J.o;go_wp2_with fail;go_quiet ((go_at_call 81;exact Xu (O.o _)))
 have K:Z (Kept w (u.drewN nq)):=J.o.drewN _;generalize u.drewN nq=Q at *;clear i j k l m n;obtain⟨i,j,k,l,m,n⟩:=r.o Q K.o;go_wp2_with fail;go_ret;exact Fo4.of (iG K.o _ _ _ _ _ _ (Kept.refl _)) rfl rfl rfl rfl
def alR(n:Nat)(hc:Bool)(cl v:Nat->Nat):Int:=if hc=true/\(∀k,k<n->v k=256*cl (2*k)+cl (2*k+1)) then 0 else 65535
theorem FJ(q P c5 D l n C Y:Nat)v cl hc qp w(a0:w.cell? ⟨q,3,none⟩=some (.int .i64 D))(c6:w.cell? ⟨q,4,none⟩=some (.int .i64 l))(e3:w.cell? ⟨q,7,none⟩=some (.bool hc))(a1:w.cell? ⟨q,9,none⟩=some (.slice qp C Y))(a2:okD D)(a3:(l=0/\n=1)\/(l=2/\n=3))(a4:∀j,j<n->w.cell? ⟨P,j,none⟩=some (.int .i64 (v j)))(a5:∀j,j<n->v j<65536)(a6:hc=true->C=2*n/\∃r s,qp=some ⟨r,s,none⟩/\∀j,j<2*n->cl j<256/\w.cell? ⟨r,s+j,none⟩=some (.int .i64 (cl j))):Calls prog 47 #[.pointer (some ⟨q,0,none⟩),.slice (some ⟨P,0,none⟩) n c5] w λe Q=>Fo4 w ((wdR D (v 0):Nat):Int) ((if l=0 then wdR D (v 0) else wdR D (v 1):Nat):Int) ((if l=0 then wdR D (v 0) else wdR D (v 2):Nat):Int) (alR n hc cl v) e Q:=by
 have e4:1<=n/\n<=3:=O;have a7:((l:Int)==3)=false:=F.2 O;have a8:((l:Int)==4)=false:=F.2 O;have a9:((l:Int)==6)=false:=F.2 O;have R:Z (∀j,j<n->∀b,Calls prog 81 #[.int .i64 (v j),.int .i64 D] b λe Q=>e=.returned (.int .i64 (wdR D (v j):Int))/\Q=b):=λj y b=>cw (v j) D b a2 (a5 j y)
 have c7:Z ((hc=true/\∀a,a<n->v a=256*cl (2*a)+cl (2*a+1))->alR n hc cl v=0):=λm=>I m
 have c8:Z (¬(hc=true/\∀a,a<n->v a=256*cl (2*a)+cl (2*a+1))->alR n hc cl v=65535):=λm=>N m
 have E:Z (∀b,Kept w b->∀j,j<n->b.cell? ⟨P,j,none⟩=some (.int .i64 (v j))):=λb a j y=>cg a (a4 j y)
 have c9:Z (∀b,Kept w b->hc=true->C=2*n/\∃r s,qp=some ⟨r,s,none⟩/\∀j,j<2*n->cl j<256/\b.cell? ⟨r,s+j,none⟩=some (.int .i64 (cl j))):=λb a e=>by
  obtain⟨b0,r,s,d0,b1⟩:=a6 e;exact⟨b0,r,s,d0,λj y=>⟨(b1 j y).1,cg a (b1 j y).2⟩⟩
 have t:Z (∀b,Kept w b->b.cell? ⟨q,3,none⟩=some (.int .i64 D)/\b.cell? ⟨q,4,none⟩=some (.int .i64 l)/\b.cell? ⟨q,9,none⟩=some (.slice qp C Y)):=λb a=>⟨cg a a0,cg a c6,cg a a1⟩
 have d1:Z _:=a3;generalize alR n hc cl v=b2 at *;clear a4 a5 a6 a0 a1 a2 a3;go_enter func47,ntmps47;go_wp2_with fail;go_loopw [9,10] (λd2 a b=>∃(j:Nat) (o:Bool),j<=n/\d2=.bool o/\a=.int .i64 j/\Kept w b/\(o=true↔(hc=true/\∀i,i<j->v i=256*cl (2*i)+cl (2*i+1)))) (λ_ a _=>n-(intOf a).toNat)
 case atStart=>exact⟨0,hc,O,rfl,rfl,Kept.refl _,⟨λe=>⟨e,λi b3=>O⟩,λe=>e.1⟩⟩
 case round=>
  obtain⟨j,o,y,rfl,rfl,b4,b5⟩:=hrel;have k:Z (Kept w wr):=b4;have H:Z _:=b5;clear b4 b5;by_cases L:j<n/\o=true
  .obtain⟨d3,rfl⟩:=L
   have e5:(j:Int)<(n:Int):=O;have e6:(0:Int)<=(j:Int):=O;obtain⟨f,g,h⟩:=t.o wr k.o;have e7:=E.o wr k.o j d3;have b6:Z _:=(H.o.1 rfl).1;have d4:Z _:=(H.o.1 rfl).2;obtain⟨d5,r,s,rfl,S⟩:=c9.o wr k.o b6.o;obtain⟨u,b7⟩:∃T,T=2*j:=⟨_,rfl⟩;obtain⟨z,b8⟩:∃T,T=2*j+1:=⟨_,rfl⟩;have e8:2*(j:Int)=(u:Int):=O;have e9:(u:Int)+1=(z:Int):=O;obtain⟨f0,f1⟩:=S u O;obtain⟨f2,b0⟩:=S z O;have f3:u<C:=O;have f4:z<C:=O;have U:Z (v j=256*cl (2*j)+cl (2*j+1)↔v j=256*cl u+cl z):=by rw[b7,b8];exact Iff.rfl
   obtain⟨J,b9⟩:∃J,J=256*cl u:=⟨_,rfl⟩;obtain⟨K,c0⟩:∃K,K=J+cl z:=⟨_,rfl⟩;have f5:256*((cl u:Nat):Int)=(J:Int):=O;have f6:(J:Int)+((cl z:Nat):Int)=(K:Int):=O;have f7:K<=100000:=O;rw[<-b9,<-c0] at U;clear S b7 b8 b9 c0 d5;generalize c1:v j=d6 at *;generalize cl u=f8 at *;generalize cl z=f9 at *;go_wp2_with fail;go_quiet (fail);have c:Z (Kept w (wr.drewN nq)):=k.o.drewN _;generalize wr.drewN nq=d at *;go_wp2;refine⟨⟨j+1,decide ((d6:Int)=(K:Int)),O,?_,Xj,c.o,?_⟩,Xb⟩
   .first|rfl|(congr 1)
   .rw[XL]
    constructor
    .intro e
     refine⟨b6.o,λi b3 => ?_⟩;by_cases V:i=j
     .subst V;rw[c1];exact U.o.2 O
     .exact d4.o i O
    .rintro⟨_,m⟩
     have:=m j O
     rw[c1] at this
     have:=U.o.1 this
     omega
  .have x:Z (b2=if o=true then 0 else 65535):=by
    show b2=_
    cases o with
    | true=>
     have:j=n:=by
      by_cases V:j<n
      .exact absurd ⟨V,rfl⟩ L
      .omega
     rw[I rfl];exact c7.o (this ▸ H.o.1 rfl)
    | false=>
     rw[N Xh];refine c8.o (λm => ?_)
     have:=H.o.2 ⟨m.1,λi b3=>m.2 i O⟩
     cases this
   have G:o=true->¬(j:Int)<(n:Int):=λe m=>L ⟨O,e⟩
   clear L H;obtain⟨f,g,h⟩:=t.o wr k.o;have g0:=E.o wr k.o 0 O;have M:Z _:=R.o 0 O;rcases d1.o with⟨d7,W⟩|⟨d8,g1⟩
   .subst d7
    clear a7 a8 a9;cases o with
    | true=>
     have d9:=G rfl;have A:Z _:=x.o.trans (I rfl);clear G x;go_wp2_with fail;go_quiet ((go_at_call 81;exact Xu (M.o _)))
     have c:Z (Kept w (wr.drewN nq)):=k.o.drewN _;generalize wr.drewN nq=d at *;clear f g h;obtain⟨f,g,h⟩:=t.o d c.o;go_wp2_with fail;go_ret;exact Fo4.of (iG c.o _ _ _ _ _ _ (Kept.refl _)) rfl rfl rfl A.o.symm
    | false=>
     have A:Z _:=x.o.trans (N Xh);clear G x;go_wp2_with fail
     all_goals
      go_quiet ((go_at_call 81;exact Xu (M.o _)))
      have c:Z (Kept w (wr.drewN nq)):=k.o.drewN _;generalize wr.drewN nq=d at *;have g2:=(t.o d c.o).2.1;go_wp2_with fail;go_ret;exact Fo4.of (iG c.o _ _ _ _ _ _ (Kept.refl _)) rfl rfl rfl A.o.symm
   .subst d8
    clear a7 a8 a9;have c2:Z _:=R.o 1 O;have c3:Z _:=R.o 2 O;have W:1<n:=O;have c4:2<n:=O;cases o with
    | true=>
     have d9:=G rfl;have A:Z _:=x.o.trans (I rfl);clear G x;go_wp2_with fail;go_quiet ((go_at_call 81;exact Xu (M.o _)))
     have c:Z (Kept w (wr.drewN nq)):=k.o.drewN _;generalize wr.drewN nq=d at *;clear f g h;obtain⟨f,g,h⟩:=t.o d c.o;have e0:=E.o d c.o 1 W;go_wp2_with fail;go_quiet ((go_at_call 81;exact Xu (c2.o _)))
     have B:Z (Kept w (d.drewN nq)):=c.o.drewN _;generalize d.drewN nq=p at *;clear f g h;obtain⟨f,g,h⟩:=t.o p B.o;have e1:=E.o p B.o 2 c4;go_wp2_with fail;go_quiet ((go_at_call 81;exact Xu (c3.o _)))
     have X:Z (Kept w (p.drewN nq)):=B.o.drewN _;generalize p.drewN nq=e2 at *;go_wp2_with fail;go_ret;exact Fo4.of (iG X.o _ _ _ _ _ _ (Kept.refl _)) rfl rfl rfl A.o.symm
    | false=>
     have A:Z _:=x.o.trans (N Xh);clear G x;go_wp2_with fail
     all_goals
      go_quiet ((go_at_call 81;exact Xu (M.o _)))
      have c:Z (Kept w (wr.drewN nq)):=k.o.drewN _;generalize wr.drewN nq=d at *;clear f g h;obtain⟨f,g,h⟩:=t.o d c.o;have e0:=E.o d c.o 1 W;go_wp2_with fail;go_quiet ((go_at_call 81;exact Xu (c2.o _)))
      have B:Z (Kept w (d.drewN nq)):=c.o.drewN _;generalize d.drewN nq=p at *;clear f g h;obtain⟨f,g,h⟩:=t.o p B.o;have e1:=E.o p B.o 2 c4;go_wp2_with fail;go_quiet ((go_at_call 81;exact Xu (c3.o _)))
      have X:Z (Kept w (p.drewN nq)):=B.o.drewN _;generalize p.drewN nq=e2 at *;go_wp2_with fail;go_ret;exact Fo4.of (iG X.o _ _ _ _ _ _ (Kept.refl _)) rfl rfl rfl A.o.symm
structure JY (h:Hd) (hc:Bool) (pal cl:List Nat):Prop where
 K:kindOk h.K
 D:okD h.D
 top:pal.length<=1048576
 pb:∀x∈pal,x<256
 cb:∀x∈cl,x<256
 len:hc=true->h.K=0\/h.K=2->cl.length=2*chn h.K
def pk4(a b c d:Int):Nat->Int:=λj=>if j=0 then a else if j=1 then b else if j=2 then c else d
def dI(h:Hd)(hc:Bool)(pal cl:List Nat)(v:Nat->Nat):Nat->Int:=
 if h.K=3 then pk4 ((wdR 8 (pal.getD (3*v 0) 0):Nat):Int) ((wdR 8 (pal.getD (3*v 0+1) 0):Nat):Int) ((wdR 8 (pal.getD (3*v 0+2) 0):Nat):Int) ((if v 0<cl.length then wdR 8 (cl.getD (v 0) 0) else 65535:Nat):Int)
 else if h.K=0 then pk4 ((wdR h.D (v 0):Nat):Int) ((wdR h.D (v 0):Nat):Int) ((wdR h.D (v 0):Nat):Int) (alR 1 hc (λj=>cl.getD j 0) v)
 else if h.K=4 then pk4 ((wdR h.D (v 0):Nat):Int) ((wdR h.D (v 0):Nat):Int) ((wdR h.D (v 0):Nat):Int) ((wdR h.D (v 1):Nat):Int)
 else if h.K=2 then pk4 ((wdR h.D (v 0):Nat):Int) ((wdR h.D (v 1):Nat):Int) ((wdR h.D (v 2):Nat):Int) (alR 3 hc (λj=>cl.getD j 0) v)
 else pk4 ((wdR h.D (v 0):Nat):Int) ((wdR h.D (v 1):Nat):Int) ((wdR h.D (v 2):Nat):Int) ((wdR h.D (v 3):Nat):Int)
def FoF(w:World)(f:Nat->Int)(e:Ending)(w':World):Prop:=Fo4 w (f 0) (f 1) (f 2) (f 3) e w'
theorem pZ{l:List Nat}(h:∀a∈l,a<256)i:l.getD i 0<256:=by
 rw[G];cases b:l[i]? with
 | none=>simp
 | some a=>exact h a (X8 b)
theorem uO fb gv cv h hc pal cl pw qw v w(f:FcQ w fb h hc pal cl pw qw)(c:JY h hc pal cl)(d:∀j,j<chn h.K->w.cell? ⟨gv,j,none⟩=some (.int .i64 (v j)))(e:∀j,j<chn h.K->v j<65536)(F:h.K=3->v 0<pal.length/3):Calls prog 47 #[.pointer (some ⟨fb,0,none⟩),.slice (some ⟨gv,0,none⟩) (chn h.K) cv] w λm q=>FoF w (dI h hc pal cl v) m q:=by
 obtain⟨A,r,s⟩:=f.pal.form;obtain⟨n,o,p⟩:=f.clr.form;have t:=f.c8;rw[s] at t;have u:=f.c9;rw[p] at u;unfold FoF dI;have B:(h.K=0/\chn h.K=1)\/(h.K=2/\chn h.K=3)->Calls prog 47 #[.pointer (some ⟨fb,0,none⟩),.slice (some ⟨gv,0,none⟩) (chn h.K) cv] w λm q=>Fo4 w ((wdR h.D (v 0):Nat):Int) ((if h.K=0 then wdR h.D (v 0) else wdR h.D (v 1):Nat):Int) ((if h.K=0 then wdR h.D (v 0) else wdR h.D (v 2):Nat):Int) (alR (chn h.K) hc (λj=>cl.getD j 0) v) m q:=λa=>
  FJ fb gv cv h.D h.K (chn h.K) cl.length o v (λj=>cl.getD j 0) hc n w f.c3 f.c4 f.c7 u c.D a d e (λm=>by
   have G:=c.len m O;refine⟨G,?_⟩;obtain⟨H,J,b,_⟩:=f.clr.cells n o p 0 O;refine⟨H,J,b,λj C=>⟨pZ c.cb j,?_⟩⟩;obtain⟨K,M,i,l⟩:=f.clr.cells n o p j O;rw[b] at i
   injection i with i
   injection i with x y
   subst x;subst y;exact l)
 rcases c.K with a|a|a|a|a
 .have k:=B (L ⟨a,by rw[a];rfl⟩)
  rw[N,I a];rw[I a,I a] at k;have b:chn h.K=1:=by rw[a];rfl
  rw[b] at k ⊢;exact k
 .have k:=B (R ⟨a,by rw[a];rfl⟩)
  rw[N,N,N,I a];rw[N,N] at k;have b:chn h.K=3:=by rw[a];rfl
  rw[b] at k ⊢;exact k
 .rw[I a]
  have S:=F a;have b:chn h.K=1:=by rw[a];rfl
  have g:=f.c4;rw[a] at g;obtain⟨D,E,i,_⟩:=f.pal.cells A r s 0 O;have z:∀j,j<pal.length->w.cell? ⟨D,E+j,none⟩=some (.int .i64 (pal.getD j 0)):=λj C=>by
   obtain⟨K,M,l,x⟩:=f.pal.cells A r s j C;rw[i] at l
   injection l with l
   injection l with y P
   subst y;subst P;exact x
  rw[i] at t;rw[b];exact Ju fb gv cv pal.length cl.length r o D E (v 0) (pal.getD (3*v 0) 0) (pal.getD (3*v 0+1) 0) (pal.getD (3*v 0+2) 0) (cl.getD (v 0) 0) n w g t u (d 0 O) O c.top (z _ O) (z _ O) (z _ O) (pZ c.pb _) (pZ c.pb _) (pZ c.pb _) (pZ c.cb _) (λQ=>f.clr.cells n o p (v 0) Q)
 .rw[N,N,I a]
  have b:chn h.K=2:=by rw[a];rfl
  have g:=f.c4;rw[a] at g;rw[b] at d e ⊢;exact Jt fb gv cv h.D (v 0) (v 1) w f.c3 g c.D (d 0 O) (d 1 O) (e 0 O) (e 1 O)
 .rw[N,N,N,N]
  have b:chn h.K=4:=by rw[a];rfl
  have g:=f.c4;rw[a] at g;rw[b] at d e ⊢;exact Js fb gv cv h.D (v 0) (v 1) (v 2) (v 3) w f.c3 g c.D (d 0 O) (d 1 O) (d 2 O) (d 3 O) (e 0 O) (e 1 O) (e 2 O) (e 3 O)
theorem OA{h p x y n i}(e:atQ h p x y=some (n,i))(a:x<h.W):i<bd h p:=by
 unfold atQ at e
 split at e
 .cases e
 .rename_i c
  injection e with e
  injection e with d b
  rw[<-b];exact tN O a
def dQ(h:Hd)(ls:List Ln):List RwL:=(au h (aq h.L) 0).zip (ls.map Ln.x)
theorem Kt{D n x i}(c:okD D)(a:∀b,b<n->x b<256)(g:(i+1)*D<=8*n):cU D x i<65536:=by
 unfold cU;split
 .rename_i h
  have d:=AM (x (i*D/8)) (i*D%8) D;have e:2^D<=2^15:=XH O O;omega
 .have f:D=16:=by unfold okD at c;omega
  subst f;have d:=a (i*16/8) O;have e:=a (i*16/8+1) O;omega
theorem uG{b:Type}P:∀(l:List b) (k:Nat) (z:b),l[k]? = some z->P z=true->(∀j,j<k->∀y,l[j]? = some y->P y=false)->l.find? P=some z
 | [],k,z,h,_,_=>by simp at h
 | a::l,0,z,h,hz,_=>by
  simp at h;subst h;rw[List.find?_cons,hz]
 | a::l,k+1,z,h,hz,c=>by
  rw[List.find?_cons,c 0 O a Xi];exact uG P l k z (by simpa using h) hz (λj e y d=>c (j+1) O y (by simpa using d))
theorem Lx{a:Type}P(l:List a)(h:∀(j:Nat) (y:a),l[j]? = some y->P y=false):l.find? P=none:=by
 rw[List.find?_eq_none];intro y b;obtain⟨j,c⟩:=List.getElem?_of_mem b;rw[h j y c];decide
def PxR(w:World)(h:Hd)(o:Option (Nat->Nat))(r:Ending)(w':World):Prop:=
 match o with
 | none=>r=.returned (.tuple #[.slice none 0 0,.bool false])/\Kept w w'
 | some v=>(∃gv cv,r=.returned (.tuple #[.slice (some ⟨gv,0,none⟩) (chn h.K) cv,.bool true])/\∀j,j<chn h.K->w'.cell? ⟨gv,j,none⟩=some (.int .i64 (v j))/\v j<65536)/\Kept w w'
structure HdQ (h:Hd):Prop where
 W:h.W<=16
 H:h.H<=16
 D:okD h.D
 K:kindOk h.K
theorem J2{h ls}{k:Nat}{y}(e:(dQ h ls)[k]? = some y):∃b,ls[k]? = some b/\(au h (aq h.L) 0)[k]? = some y.1/\y.2=b.x:=by
 unfold dQ at e;rw[List.getElem?_zip_eq_some] at e;obtain⟨d,a⟩:=e;rw[XQ] at a;cases c:ls[k]? with
 | none=>rw[c] at a;cases a
 | some b=>rw[c] at a;injection a with a;exact⟨b,rfl,d,a.symm⟩
theorem Lp{h ls}{k:Nat}{a t}(b:ls[k]? = some a)(c:(au h (aq h.L) 0)[k]? = some t):(dQ h ls)[k]? = some (t,a.x):=by
 unfold dQ;rw[List.getElem?_zip_eq_some];exact⟨c,by rw[XQ,b];rfl⟩
theorem uh fb mb g cr cl p x y pr pl h ls w(q:ImQ w fb mb g cr cl pr pl h ls)(H:HdQ h)(D:p<aq h.L)(f1:x<h.W)(o:y<h.H)(j9:ls.length<=200):Calls prog 46 #[.pointer (some ⟨mb,0,none⟩),.int .i64 p,.int .i64 x,.int .i64 y] w λr s=>PxR w h (dA h (dQ h ls) p x y) r s:=by
 have f2:=q.c1;have c2:=H.W;have k0:=H.H;have c3:=q.ps.cell p 0 D O;rw[X5] at c3;have f3:=q.ps.cell p 1 D O;have f4:=q.ps.cell p 2 D O;have f5:=q.ps.cell p 3 D O;have f6:=q.ps.cell p 4 D O;have f7:=q.ps.cell p 5 D O;have k1:(p:Int)<(aq h.L:Int):=O;have I:=bK h.L p;have a4:Z (Calls prog 79 _ w _):=Mb (pv h.L p 0) (pv h.L p 1) (pv h.L p 2) (pv h.L p 3) (pv h.L p 4) (pv h.L p 5) x y w I.2.1 I.2.2.1 I.2.2.2.2.2.1 I.2.2.2.2.2.2.1 O O (by show(ah h.L p).cf<=8;omega) (by show(ah h.L p).rf<=8;omega);rw[<-OB] at a4;have Q:Z (∀b,Kept w b->ImQ b fb mb g cr cl pr pl h ls):=λb d=>q.kept d
 have c4:Z (atQ h p x y=none->dA h (dQ h ls) p x y=none):=λe=>by unfold dA;rw[e];rfl
 have R:Z (∀t f,atQ h p x y=some (t,f)->f<bd h p/\dA h (dQ h ls) p x y=((dQ h ls).find? λa5=>decide (a5.1=(p,t))).map λa5 a=>cU h.D a5.2 (f*chn h.K+a)):=λt f e=>⟨OA e f1,by unfold dA;rw[e];rfl⟩
 generalize dA h (dQ h ls) p x y=S at *;generalize atQ h p x y=f8 at *;generalize pv h.L p 0=k2 at *;generalize pv h.L p 1=k3 at *;generalize pv h.L p 2=k4 at *;generalize pv h.L p 3=k5 at *;generalize pv h.L p 4=k6 at *;generalize pv h.L p 5=k7 at *;clear I q;go_enter func46,ntmps46;go_wp2_with fail;refine a4.o.mono ?_;rintro r f9 ⟨rfl,c5⟩;have a6:Z (Kept w f9):=c5;clear c5 f2 c3 f3 f4 f5 f6 f7 a4;cases f8 with
 | none=>
  have e:=c4.o rfl;subst e;unfold atV;go_wp2;go_ret2;exact⟨rfl,a6.o⟩
 | some g0=>
  obtain⟨t,f⟩:=g0;obtain⟨a7,c6⟩:=R.o t f rfl;have c7:Z _:=c6;clear c4 R c6;unfold atV;have g1:1<=chn h.K/\chn h.K<=4:=by rcases H.K with e|e|e|e|e<;>rw[e]<;>decide
  have g2:=Xq a7 (ed (bK _ _).2.1 c2);have R:Z _:=a7;have a8:Z (okD h.D):=H.D;have g3:Z (∀b,Calls prog 80 #[.int .i64 h.K] b λe s=>e=.returned (.int .i64 (chn h.K))/\s=b):=λb=>by
   have:=ef h.K b
   rw[(tR H.K)] at this;exact this
  have a9:=(Q.o _ a6.o).c3;clear a7;go_wp2_with fail;go_loopw [13] (λK b=>∃d:Nat,d<=ls.length/\K=.int .i64 d/\Kept w b/\∀a,a<d->∀y,(dQ h ls)[a]? = some y->(decide (y.1=(p,t)))=false) (λK _=>ls.length-(intOf K).toNat)
  case atStart=>exact⟨0,O,rfl,a6.o,λa l=>O⟩
  case round=>
   obtain⟨d,k8,rfl,c8,c9⟩:=hrel;have L:Z (Kept w wr):=c8;have b0:Z _:=c9;clear c8 c9 a9;have v:=Q.o wr L.o;have a9:=v.c3;by_cases g4:d<ls.length
   .have g5:(d:Int)<(ls.length:Int):=O
    obtain⟨c,B⟩:∃c,ls[d]? = some c:=⟨ls[d],Xt g4⟩;obtain⟨m,b1,M,T⟩:=v.sz d c B;obtain⟨k9,g6,g7,g8⟩:=v.rows d m b1 M;obtain⟨d0,g9,b2,b3⟩:=v.lns d c B;have h0:=v.c2;have h1:=v.c0;have d1:=v.f4;have l0:=(Yb.1 M).1;have l1:(d:Int)<((au h (aq h.L) 0).length:Int):=O;have l2:(0:Int)<=(d:Int):=O;have C:=Lp B M;subst g6;subst g9;by_cases N:m=p/\b1=t
    .obtain⟨rfl,rfl⟩:=N
     have d2:Z (S=some λa=>cU h.D c.x (f*chn h.K+a)):=by
      show S=_
      rw[c7.o,uG _ _ d _ C Xi b0.o];rfl
     have d3:Z (∀b,Kept w b->dS b c.g c.n c.x):=λb u=>by
      obtain⟨_,_,_,e⟩:=(Q.o b u).lns d c B;exact e
     have b4:∀a,a<chn h.K->(f*chn h.K+a+1)*h.D<=8*c.n:=λa l=>by
      rw[T];have d4:f*chn h.K+a+1<=bd h m*chn h.K:=by
       have:(f+1)*chn h.K<=bd h m*chn h.K:=XS _ R.o
       rw[YO,Zi] at this;omega
      have l3:(f*chn h.K+a+1)*h.D<=bd h m*chn h.K*h.D:=XS _ d4;have l4:bd h m*chn h.K*h.D=bd h m*bo h:=by unfold bo;rw[Y3]
      unfold aC;omega
     have h2:c.n<=100000:=by
      rw[T];have h3:h.D<=16:=by have:=a8.o;unfold okD at this;omega
      have d4:bd h m*bo h<=16*64:=XF (ed (bK _ _).2.1 c2) (XF (ev _) h3);unfold aC;omega
     have V:Z (∀a,a<chn h.K->∀b,Kept w b->Calls prog 73 #[.slice (some ⟨c.g,0,none⟩) c.n c.n,.int .i64 ((f*chn h.K+a:Nat):Int),.int .i64 h.D] b λr s=>r=.returned (.int .i64 (cU h.D c.x (f*chn h.K+a):Int))/\∃q,s=b.drewN q):=λa l b u=>zI c.g c.n c.n (f*chn h.K+a) h.D c.x b (d3.o b u) a8.o (b4 a l) h2
     have b5:Z (∀a,a<chn h.K->cU h.D c.x (f*chn h.K+a)<65536):=λa l=>Kt a8.o b3.lt (b4 a l)
     clear C T b4 M d3;unfold lnV at b2;generalize W:chn h.K=j at *;replace W:Z (chn h.K=j):=W;generalize au h (aq h.L) 0=d5 at *;go_wp2_with fail;refine(g3.o _).mono ?_;rintro r l5 ⟨rfl,h4⟩;subst h4;have h5:Z (∀b,Kept w b->b.cell? ⟨mb,3,none⟩=some (.slice (some ⟨d0,0,none⟩) ls.length cl)/\b.cell? ⟨d0,d,none⟩=some (.slice (some ⟨c.g,0,none⟩) c.n c.n)/\b.cell? ⟨mb,0,none⟩=some (.pointer (some ⟨fb,0,none⟩))/\b.cell? ⟨fb,3,none⟩=some (.int .i64 h.D)):=λb u=>by
      have X:=Q.o b u;obtain⟨l6,n,Y,_⟩:=X.lns d c B
      injection n with n
      injection n with n
      subst n;exact⟨X.c3,Y,X.c0,X.f3⟩
     obtain⟨i,b6⟩:∃i:Nat->Nat,i=λa=>cU h.D c.x (f*j+a):=⟨_,rfl⟩
     have b7:∀a,cU h.D c.x (f*j+a)=i a:=λa=>by rw[b6]
     rw[<-b6] at d2;replace V:Z (∀a,a<j->∀b,Kept w b->Calls prog 73 #[.slice (some ⟨c.g,0,none⟩) c.n c.n,.int .i64 ((f*j+a:Nat):Int),.int .i64 h.D] b λr s=>r=.returned (.int .i64 (i a))/\∃q,s=b.drewN q):=λa l b u=>by rw[<-b7];exact V.o a l b u
     replace b5:Z (∀a,a<j->i a<65536):=λa l=>by rw[<-b7];exact b5.o a l
     clear b6 b7;obtain⟨E,a0⟩:∃E,E=f*j:=⟨_,rfl⟩;have l7:(f:Int)*(j:Int)=(E:Int):=by rw[a0,Yv]
     have l8:E<=64:=by rw[a0];have:f*j<=16*4:=XF (Yx g2) g1.2;omega
     rw[<-a0] at V;generalize d6:c.g=h6 at *;generalize d7:c.n=d8 at *;replace d6:Z _:=d6;replace d7:Z _:=d7;clear a0 h0 h1 d1 g7 g8 b2 b3 a9 v;go_wp2_with fail;go_loopw [14,16] (λK b8 b=>∃a:Nat,a<=j/\b8=.int .i64 a/\Kept w b/\b.ownsRow w.heap.size 3 1 K ((List.range a).map i).length (ints ((List.range a).map i))) (λ_ b8 _=>j-(intOf b8).toNat)
     case atStart=>exact⟨0,O,rfl,L.o,XR _ _ _ _⟩
     case round=>
      obtain⟨a,l,rfl,d9,b9⟩:=hrel;obtain⟨e0,e1,rfl⟩:=ak b9;have a1:=U b9;have a2:Z (Kept w wr):=d9;clear d9 b9;by_cases h7:a<j
      .have h8:(a:Int)<(j:Int):=O
       obtain⟨P,e2⟩:∃P,P=E+a:=⟨_,rfl⟩;have l9:(E:Int)+(a:Int)=(P:Int):=O;have h9:Z (∀b,Kept w b->Calls prog 73 #[.slice (some ⟨h6,0,none⟩) d8 d8,.int .i64 P,.int .i64 h.D] b λr s=>r=.returned (.int .i64 (i a))/\∃q,s=b.drewN q):=λb u=>by rw[e2];exact V.o a h7 b u
       obtain⟨i0,i1,i2,i3⟩:=h5.o wr a2.o;have i4:Z ((List.range (a+1)).map i=(List.range a).map i++[i a]):=by show _=_;rw[List.range_succ,Zf];rfl
       have e3:((List.range a).map i).length=a:=Xi;generalize i a=e4 at *;generalize (List.range a).map i=c0 at *;have m0:P<=100:=O;clear e2;go_wp2_with fail;go_quiet ((go_at_call 73;exact Zb (h9.o _ (a2.o.drewN _))))
       have e5:Z (Kept w (wr.drewN nq)):=a2.o.drewN _;have e6:=U (bO a1.o ((Kept.refl wr).drewN nq));generalize wr.drewN nq=i5 at *;clear i0 i1 i2 i3;have i6:=e5.o.size;go_wp2_with (at_builtin;refine bU _ rfl _ _ rfl w.heap.size (.slice e0 c0.length e1) c0 rfl (e6.o.alloc _) i5.heap.size 1 e4 rfl Xi O Xf ?_)
       intro m1 i7 c1 C i8;obtain⟨m2,m3,rfl⟩:=ak c1;have i9:Z (Kept w i7):=(e5.o.alloc i6 _).grown C Xf (λk z=>(e6.o.lt k (by rw[e3];exact z)).1);have j0:=U c1;have j1:Z ((c0++[e4]).length=a+1):=by show _=_;rw[Xv,e3];rfl
       clear c1 C i8;go_wp2;refine⟨⟨a+1,O,Xj,i9.o,?_⟩,Xb⟩;rw[i4.o,j1.o];exact j0.o
      .have e7:a=j:=O
       have h8:¬(a:Int)<(j:Int):=O;have e8:Z _:=e7;have a3:((List.range a).map i).length=a:=Xi;have j2:∃A,e0=some ⟨A,0,none⟩/\∀k,k<a->wr.cell? ⟨A,k,none⟩=some (.int .i64 (i k)):=by
        rcases a1.o.2 with⟨e,j3⟩|⟨A,m4,m5,e,_⟩
        .rw[a3] at j3;omega
        .injection e with n Y m6
         refine⟨A,n,λk z => ?_⟩
         have:=a1.o.cells (by rw[n];rfl) k _ (uC _ k (by rw[a3];exact z))
         have j4:(Addr.add ⟨A,0,none⟩ k)=⟨A,k,none⟩:=by simp[Addr.add];intro h;exact h.symm
         rw[j4] at this;rw[this]
         congr 3
         rw[G,XQ,Yp z];rfl
       obtain⟨A,rfl,e9⟩:=j2;have j5:Z _:=e9;rw[a3];clear e9 e7 a3 a1;go_wp2_with fail;go_ret2;rw[d2.o];refine⟨⟨A,e1,?_,λk z => ?_⟩,a2.o⟩
       .rw[e8.o,W.o];rfl
       .rw[W.o] at z
        exact⟨j5.o k (by rw[e8.o];exact z),b5.o k z⟩
    .have f0:Z (∀a,a<d+1->∀y,(dQ h ls)[a]? = some y->decide (y.1=(p,t))=false):=λa l y o=>by
      by_cases j6:a=d
      .subst j6
       rw[C] at o
       injection o with o
       rw[<-o];refine J (λe=>N ?_)
       injection e with n Y
       exact⟨n,Y⟩
      .exact b0.o a O y o
     clear C T M b3 b2 d1;by_cases j7:m=p
     .subst j7
      have m7:((b1:Int)==(t:Int))=false:=F.2 (λe=>N ⟨rfl,O⟩);clear N;generalize au h (aq h.L) 0=d5 at *;go_wp2;exact⟨⟨d+1,O,Xj,L.o,f0.o⟩,Xb⟩
     .have m8:((m:Int)==(p:Int))=false:=F.2 O
      clear N;generalize au h (aq h.L) 0=d5 at *;go_wp2;exact⟨⟨d+1,O,Xj,L.o,f0.o⟩,Xb⟩
   .have g5:¬(d:Int)<(ls.length:Int):=O
    have j8:Z (S=none):=by
     show S=none
     rw[c7.o,Lx]
     .rfl
     .intro a y o
      refine b0.o a ?_ y o;obtain⟨c,B,_⟩:=J2 o
      have:=(Yb.1 B).1
      omega
    go_wp2;go_ret2;rw[j8.o];exact⟨rfl,L.o⟩
theorem IG{h D x y v k}(e:knQ h D x y k=some v):∀m,knQ h D x y (k+m)=some v
 | 0=>e
 | m+1=>by
  show(match knQ h D x y (k+m) with|some v=>some v|none=>dA h D (k+m) x y)=some v
  rw[IG e m]
theorem IH{h D x y k}(e:knQ h D x y k=none):knQ h D x y (k+1)=dA h D k x y:=by
 show(match knQ h D x y k with|some a=>some a|none=>dA h D k x y)=_
 rw[e]
structure ShQ (w:World) (fb mb g cr cl:Nat) (pr pl:Option Addr) (h:Hd) (ls:List Ln) (hc:Bool) (pal clr:List Nat) (pw qw:Value):Prop where
 im:ImQ w fb mb g cr cl pr pl h ls
 f:FcQ w fb h hc pal clr pw qw
 hd:HdQ h
 ok:∀p x y v,x<h.W->y<h.H->dA h (dQ h ls) p x y=some v->JY h hc pal clr
 len:ls.length<=200
 idx:∀p x y v,x<h.W->y<h.H->dA h (dQ h ls) p x y=some v->h.K=3->v 0<pal.length/3
theorem ShQ.kept{w w' fb mb g cr cl pr pl h ls hc pal clr pw qw}(q:ShQ w fb mb g cr cl pr pl h ls hc pal clr pw qw)(k:Kept w w'):ShQ w' fb mb g cr cl pr pl h ls hc pal clr pw qw:=⟨q.im.kept k,q.f.kept k,q.hd,q.ok,q.len,q.idx⟩
def KnR(w:World)(col:(Nat->Nat)->Nat->Int)(o:Option (Nat->Nat))(r:Ending)(w':World):Prop:=
 match o with
 | none=>r=.returned (.tuple #[.slice none 0 0,.bool false])/\Kept w w'
 | some v=>∃gv,r=.returned (.tuple #[.slice (some ⟨gv,0,none⟩) 4 4,.bool true])/\w.heap.size<=gv/\(∀j,j<4->w'.cell? ⟨gv,j,none⟩=some (.int .i64 (col v j)))/\Kept w w'
theorem D3{w f e w'}(h:FoF w f e w'):∃a,e=.returned (.slice (some ⟨a,0,none⟩) 4 4)/\w.heap.size<=a/\(∀j,j<4->w'.cell? ⟨a,j,none⟩=some (.int .i64 (f j)))/\Kept w w':=by
 obtain⟨b,c,d,g,i,k,l,m⟩:=h;refine⟨b,c,d,λj n => ?_,m⟩
 match j,n with
 | 0,_=>exact g
 | 1,_=>exact i
 | 2,_=>exact k
 | 3,_=>exact l
theorem Ce fb mb g cr cl x y pr pl h ls hc pal clr pw qw w(q:ShQ w fb mb g cr cl pr pl h ls hc pal clr pw qw)(l:x<h.W)(m:y<h.H):Calls prog 32 #[.pointer (some ⟨mb,0,none⟩),.int .i64 x,.int .i64 y] w λn J=>KnR w (dI h hc pal clr) (knQ h (dQ h ls) x y (aq h.L)) n J:=by
 have a0:=(kH h.L).2;have C:Z (∀e,Kept w e->ShQ e fb mb g cr cl pr pl h ls hc pal clr pw qw):=λe K=>q.kept K
 clear q;go_enter func32,ntmps32;go_wp2;go_loopw [8] (λo e=>∃a:Nat,a<=aq h.L/\o=.int .i64 a/\Kept w e/\knQ h (dQ h ls) x y a=none) (λo _=>aq h.L-(intOf o).toNat)
 case atStart=>exact⟨0,O,rfl,Kept.refl _,rfl⟩
 case round=>
  obtain⟨a,a1,rfl,p,D⟩:=hrel;have r:Z (Kept w wr):=p;have E:Z _:=D;have c:=C.o _ p;have L:=c.im.c1;clear p D;by_cases M:a<aq h.L
  .have N:(a:Int)<(aq h.L:Int):=O
   have s:=U (uh fb mb g cr cl a x y pr pl h ls wr c.im c.hd M l m c.len);have t:Z _:=IH E.o;have k:Z (∀b,dA h (dQ h ls) a x y=some b->(h.K=3->b 0<pal.length/3)/\JY h hc pal clr):=λb F=>⟨c.idx a x y b l m F,c.ok a x y b l m F⟩
   clear c;go_wp2_with fail;refine s.o.mono ?_;intro n u f;generalize dA h (dQ h ls) a x y=P at *;cases P with
   | none=>
    obtain⟨rfl,i⟩:=f;have j:Z (Kept w u):=r.o.trans i;clear i s k;go_wp2;exact⟨⟨a+1,O,Xj,j.o,t.o⟩,Xb⟩
   | some b=>
    obtain⟨⟨Q,R,rfl,d⟩,i⟩:=f;have j:Z (Kept w u):=r.o.trans i;have v:=C.o _ j.o;have S:=v.im.c0;have G:=U (uO fb Q R h hc pal clr pw qw b u v.f (k.o b rfl).2 (λz A=>(d z A).1) (λz A=>(d z A).2) (k.o b rfl).1);have B:Z (knQ h (dQ h ls) x y (aq h.L)=some b):=by
     have:=IG t.o (aq h.L-(a+1))
     rw[show a+1+(aq h.L-(a+1))=aq h.L from O] at this;exact this
    clear i s k v d t L;go_wp2_with fail;refine G.o.mono ?_;intro n T f;obtain⟨V,rfl,H,d,I⟩:=D3 f;have W:Z _:=Xz j.o.size H;have X:Z (Kept w T):=j.o.trans I;have Y:Z _:=d;clear d I f G S H;go_wp2;go_ret2;rw[B.o];exact⟨V,rfl,W.o,Y.o,X.o⟩
  .have N:¬(a:Int)<(aq h.L:Int):=O
   have B:Z (knQ h (dQ h ls) x y (aq h.L)=none):=by
    have:a=aq h.L:=O
    rw[<-this];exact E.o
   clear c;go_wp2;go_ret2;rw[B.o];exact⟨rfl,r.o⟩
theorem Kx{h D col x y k}(c:x<pv h.L k 0\/y<pv h.L k 1):shQ h D col x y (k+1)=shQ h D col x y k:=I c
theorem Ky{h D col x y k}(c:¬(x<pv h.L k 0\/y<pv h.L k 1))(d:pv h.L k 4<=(x-pv h.L k 0)%pv h.L k 2\/pv h.L k 5<=(y-pv h.L k 1)%pv h.L k 3):shQ h D col x y (k+1)=shQ h D col x y k:=(N c).trans (I d)
theorem ML{h:Hd}{D:List RwL}{a:(Nat->Nat)->Nat->Int}{x y k:Nat}(c:¬(x<pv h.L k 0\/y<pv h.L k 1))(d:¬(pv h.L k 4<=(x-pv h.L k 0)%pv h.L k 2\/pv h.L k 5<=(y-pv h.L k 1)%pv h.L k 3)):shQ h D a x y (k+1)=match dA h D k (x-(x-pv h.L k 0)%pv h.L k 2) (y-(y-pv h.L k 1)%pv h.L k 3) with
   | some b=>a b
   | none=>shQ h D a x y k:=(N c).trans (N d)
theorem tS fb mb g cr cl x y pr pl h ls hc pal clr pw qw w(q:ShQ w fb mb g cr cl pr pl h ls hc pal clr pw qw)(e5:x<h.W)(e6:y<h.H):Calls prog 33 #[.pointer (some ⟨mb,0,none⟩),.int .i64 x,.int .i64 y] w
   λD M=>∃N,D=.returned (.slice (some ⟨N,0,none⟩) 4 4)/\(∀f,f<4->M.cell? ⟨N,f,none⟩=some (.int .i64 (shQ h (dQ h ls) (dI h hc pal clr) x y (aq h.L) f)))/\Kept w M:=by
 have e7:=(kH h.L).2;have P:=q.hd.W;have e8:=q.hd.H;have c5:=q.im.c1;have a0:Z (∀b,Kept w b->ShQ b fb mb g cr cl pr pl h ls hc pal clr pw qw):=λb P=>q.kept P
 clear q;go_enter func33,ntmps33;go_wp2;go_loopw [7] (λa b=>∃m:Nat,m<=aq h.L/\a=.int .i64 ((m:Int)-1)/\Kept w b/\shQ h (dQ h ls) (dI h hc pal clr) x y (aq h.L)=shQ h (dQ h ls) (dI h hc pal clr) x y m) (λa _=>(intOf a+1).toNat)
 case atStart=>exact⟨aq h.L,O,rfl,Kept.refl _,rfl⟩
 case round=>
  obtain⟨m,e9,rfl,b2,b3⟩:=hrel;have a1:Z (Kept w wr):=b2;have a2:Z _:=b3;clear c5 b2 b3;cases m with
  | zero=>
   go_wp2;go_ret;refine⟨_,rfl,λf r => ?_,a1.o.trans ((Xs _ _).alloc (E _) _)⟩;rw[a2.o,Xr _ _ _ _ rfl]
   match f,r with
   | 0,_=>rfl
   | 1,_=>rfl
   | 2,_=>rfl
   | 3,_=>rfl
  | succ a=>
   have c:=a0.o _ a1.o;have s:a<aq h.L:=O;have c6:=c.im.c1;have F:=bK h.L a;have b4:=c.im.ps.cell a 0 s O;rw[X5] at b4;have c7:=c.im.ps.cell a 1 s O;have c8:=c.im.ps.cell a 2 s O;have c9:=c.im.ps.cell a 3 s O;have d0:=c.im.ps.cell a 4 s O;have d1:=c.im.ps.cell a 5 s O;have f0:(a:Int)<(aq h.L:Int):=O;have a3:Z (∀(b:World) (i j:Nat),Kept w b->i<h.W->j<h.H->Calls prog 46 #[.pointer (some ⟨mb,0,none⟩),.int .i64 a,.int .i64 i,.int .i64 j] b λD M=>PxR b h (dA h (dQ h ls) a i j) D M):=λb i j P Q R=>by
    have c:=a0.o b P;exact uh fb mb g cr cl a i j pr pl h ls b c.im c.hd s Q R c.len
   have b5:Z (∀i j k,i<h.W->j<h.H->dA h (dQ h ls) a i j=some k->(h.K=3->k 0<pal.length/3)/\JY h hc pal clr):=λi j k Q R S=>⟨c.idx a i j k Q R S,c.ok a i j k Q R S⟩
   have a4:Z ((x<pv h.L a 0\/y<pv h.L a 1)->shQ h (dQ h ls) (dI h hc pal clr) x y (a+1)=shQ h (dQ h ls) (dI h hc pal clr) x y a):=Kx;have t:Z (¬(x<pv h.L a 0\/y<pv h.L a 1)->(pv h.L a 4<=(x-pv h.L a 0)%pv h.L a 2\/pv h.L a 5<=(y-pv h.L a 1)%pv h.L a 3)->shQ h (dQ h ls) (dI h hc pal clr) x y (a+1)=shQ h (dQ h ls) (dI h hc pal clr) x y a):=Ky;have d:Z (¬(x<pv h.L a 0\/y<pv h.L a 1)->¬(pv h.L a 4<=(x-pv h.L a 0)%pv h.L a 2\/pv h.L a 5<=(y-pv h.L a 1)%pv h.L a 3)->shQ h (dQ h ls) (dI h hc pal clr) x y (a+1)=match dA h (dQ h ls) a (x-(x-pv h.L a 0)%pv h.L a 2) (y-(y-pv h.L a 1)%pv h.L a 3) with|some k=>dI h hc pal clr k|none=>shQ h (dQ h ls) (dI h hc pal clr) x y a):=ML;have f1:1<=pv h.L a 2:=F.2.1;have f2:pv h.L a 2<=8:=F.2.2.1;have f3:1<=pv h.L a 3:=F.2.2.2.2.2.1;have f4:pv h.L a 3<=8:=F.2.2.2.2.2.2.1;generalize pv h.L a 0=u at *;generalize pv h.L a 1=G at *;generalize pv h.L a 2=a5 at *;generalize pv h.L a 3=T at *;generalize pv h.L a 4=H at *;generalize pv h.L a 5=a6 at *;have b6:¬(T:Int)=0:=O;have d2:((a+1:Nat):Int)-1=(a:Int):=O;have v:Z (∀a7,Kept w (wr.alloc a7)):=λa7=>a1.o.trans ((Xs _ _).alloc (E _) a7)
   rw[d2];clear c F;have I:Z (∀b,Kept w b->shQ h (dQ h ls) (dI h hc pal clr) x y (a+1)=shQ h (dQ h ls) (dI h hc pal clr) x y a->∃m:Nat,m<=aq h.L/\(Value.int .i64 ((a:Int)-1))=.int .i64 ((m:Int)-1)/\Kept w b/\shQ h (dQ h ls) (dI h hc pal clr) x y (aq h.L)=shQ h (dQ h ls) (dI h hc pal clr) x y m):=λb d3 S=>⟨a,O,rfl,d3,a2.o.trans S⟩
   by_cases B:x<u\/y<G
   .have b7:=a4.o B
    have n:Z _:=b7;clear a4 t d b7;by_cases f5:x<u
    .have d4:(x:Int)<(u:Int):=O
     clear B;go_wp2;exact⟨I.o _ (v.o _) n.o,by simp[intOf]⟩
    .have d4:¬(x:Int)<(u:Int):=O
     have d5:(y:Int)<(G:Int):=O;clear B;go_wp2;exact⟨I.o _ (v.o _) n.o,by simp[intOf]⟩
   have f6:¬(x:Int)<(u:Int):=O;have d5:¬(y:Int)<(G:Int):=O;replace t:Z _:=t.o B;replace d:Z _:=d.o B;obtain⟨o,b8⟩:∃o,o=x-u:=⟨_,rfl⟩;have f7:(x:Int)-(u:Int)=(o:Int):=O;obtain⟨e,V⟩:∃e,e=o%a5:=⟨_,rfl⟩;have d6:(o:Int)%(a5:Int)=(e:Int):=by rw[V];exact(Yo _ _).symm
   have f8:(o:Int).tmod (a5:Int)=(e:Int):=by rw[XU O];exact d6
   obtain⟨p,b9⟩:∃p,p=y-G:=⟨_,rfl⟩;have f9:(y:Int)-(G:Int)=(p:Int):=O;obtain⟨l,W⟩:∃l,l=p%T:=⟨_,rfl⟩;have d7:(p:Int)%(T:Int)=(l:Int):=by rw[W];exact(Yo _ _).symm
   have g0:(p:Int).tmod (T:Int)=(l:Int):=by rw[XU O];exact d7
   have g1:e<=o:=by rw[V];exact Zg _ _
   have g2:l<=p:=by rw[W];exact Zg _ _
   have g3:o<=16:=O;have g4:p<=16:=O;obtain⟨z,c0⟩:∃z,z=x-e:=⟨_,rfl⟩;have g5:(x:Int)-(e:Int)=(z:Int):=O;obtain⟨A,c1⟩:∃A,A=y-l:=⟨_,rfl⟩;have g6:(y:Int)-(l:Int)=(A:Int):=O;have a8:z<h.W:=O;have a9:A<h.H:=O;rw[<-b8,<-b9,<-V,<-W] at t d;rw[<-c0,<-c1] at d;clear a4 b8 b9 V W c0 c1 B;by_cases J:H<=e\/a6<=l
   .have n:Z _:=t.o J
    clear t d;by_cases g7:H<=e
    .have c2:(H:Int)<=(e:Int):=O
     clear J;go_wp2;exact⟨I.o _ (v.o _) n.o,by simp[intOf]⟩
    .have c2:¬(H:Int)<=(e:Int):=O
     have d8:(a6:Int)<=(l:Int):=O;clear J;go_wp2;exact⟨I.o _ (v.o _) n.o,by simp[intOf]⟩
   have c2:¬(H:Int)<=(e:Int):=O;have d8:¬(a6:Int)<=(l:Int):=O;replace d:Z _:=d.o J;have X:Z _:=b5.o z A;clear t J b5;go_wp2_with fail;refine(a3.o _ z A (v.o _) a8 a9).mono ?_;intro D b0 K;generalize dA h (dQ h ls) a z A=d9 at *;cases d9 with
   | none=>
    obtain⟨rfl,L⟩:=K;have Y:Z (Kept w b0):=(v.o _).trans L;have n:Z _:=d.o;clear L a3 X d;go_wp2;exact⟨I.o _ Y.o n.o,by simp[intOf]⟩
   | some k=>
    obtain⟨⟨N,e0,rfl,C⟩,L⟩:=K;have Y:Z (Kept w b0):=(v.o _).trans L;have n:Z _:=d.o;have b1:=a0.o _ Y.o;have e1:=b1.im.c0;have c3:=U (uO fb N e0 h hc pal clr pw qw k b0 b1.f (X.o k a8 a9 rfl).2 (λf r=>(C f r).1) (λf r=>(C f r).2) (X.o k a8 a9 rfl).1);clear L a3 X d b1 C c6 b4 c7 c8 c9 d0 d1;go_wp2_with fail;refine c3.o.mono ?_;intro D e2 K;obtain⟨b6,rfl,_,C,c4⟩:=D3 K;have e3:Z (Kept w e2):=Y.o.trans c4;have e4:Z _:=C;clear C c4 K c3 e1;go_wp2;go_ret;refine⟨b6,rfl,λf r => ?_,e3.o⟩;rw[a2.o,n.o];exact e4.o f r
def fL(f:Nat->Int)(n:Nat):List Value:=(List.range n).map λj=>Value.int .i64 (f j)
theorem I4 f n:(fL f n).length=n:=by simp[fL]
theorem I5 f{n j}(h:j<n):(fL f n)[j]? = some (.int .i64 (f j)):=by
 unfold fL;rw[XQ,Yp h];rfl
theorem I6 f n:∀a,fL f (n+a)=fL f n++fL (λj=>f (n+j)) a
 | 0=>by simp[fL]
 | a+1=>by
  have b:fL f (n+a+1)=fL f (n+a)++[.int .i64 (f (n+a))]:=by unfold fL;rw[List.range_succ,Zf];rfl
  have c:fL (λj=>f (n+j)) (a+1)=fL (λj=>f (n+j)) a++[.int .i64 (f (n+a))]:=by unfold fL;rw[List.range_succ,Zf];rfl
  rw[<-Yg,b,I6 f n a,c,XY]
theorem addr_add g j:(⟨g,0,none⟩:Addr).add j=⟨g,j,none⟩:=by unfold Addr.add;by_cases a:j=0<;>simp[a]
theorem gJ w{ops rest o a}{j:Exit->Act->World->Prop}(l:o.guard=none)s x(p:o.op=Op.call {callee:=Callee.builtin Builtin.append,args:=#[s,x],argTypes:=#[30,30]})base v n f(q:a.eval s=v)(r:w.ownsRow base 3 1 v n (fL f n))g m c(t:a.eval x=.slice (some ⟨g,0,none⟩) m c)(u:0<m)(y:∀b,b<m->w.cell? ⟨g,b,none⟩=some (.int .i64 (f (n+b))))(G:n+m<=1048576)(z:base<=w.heap.size)(A:∀d e,e.ownsRow base 3 1 d (n+m) (fL f (n+m))->w.grownBy e v.ownBlock->(∀i,d.ownBlock=some i->v.ownBlock=some i\/w.heap.size<=i)->wpList prog ops j rest (a.put o.dst d) e):wpList prog ops j (o::rest) a w:=by
 refine ch w 30 3 1 8 (.int .i64 0) underlying30 kQ rfl O l s x p base v n (fL f n) q r ⟨g,0,none⟩ m c (fL (λb=>f (n+b)) m) t (by rw[I4,Nat.mul_one]) u ?_ ?_ Xn O z ?_
 .intro b B h
  have k:b<m:=by have:=(Yb.1 h).1;rwa [I4] at this
  rw[I5 _ k] at h
  injection h with h
  rw[addr_add,<-h];exact y b k
 .intro B C
  obtain⟨b,_,rfl⟩:=YP.1 C;rfl
 .intro d e D E F
  exact A d e (by rw[I6];exact D) E F
def v3{α:Type}(a b c:α):Nat->α:=λt=>if t=0 then a else if t=1 then b else c
def wk{α:Type}(V:Nat->α)(t:Nat)(x:α):Nat->α:=λs=>if s=t then x else V s
theorem yf{α}(a b c x:α):wk (v3 a b c) 0 x=v3 x b c:=by funext d;unfold wk v3;by_cases e:d=0<;>simp[e]
theorem ye{α}(a b c x:α):wk (v3 a b c) 1 x=v3 a x c:=by
 funext d;unfold wk v3
 by_cases e:d=0
 .subst e;rfl
 .by_cases f:d=1<;>simp[e,f]
structure dB (w W:World) (P:Nat) (V:Nat->Value) (F:Nat->Nat->Int) (N:Nat->Nat) (pc:Nat->Value):Prop where
 kept:Kept w W
 base:w.heap.size<=P
 c:∀t,t<3->W.cell? ⟨P,8+t,none⟩=some (V t)
 fz:∀k,W.frozen? ⟨P,k,none⟩=false
 o:∀t,t<3->W.ownsRow (P+1) 3 1 (V t) (N t) (fL (F t) (N t))
 dis:∀t s k,t<3->s<3->t≠s->(V t).ownBlock=some k->(V s).ownBlock≠some k
 rest:∀j,j<8->W.cell? ⟨P,j,none⟩=some (pc j)
theorem dB.lt{w W P V F N pc}(h:dB w W P V F N pc):P<W.heap.size:=B _ _ (h.rest 0 O)
theorem dB.keep{w W W' P V F N pc}(h:dB w W P V F N pc)(k:Kept W W'):dB w W' P V F N pc:=
 ⟨h.kept.trans k,h.base,λb c=>cg k (h.c b c),λa=>by rw[k.frozen (p:=⟨P,a,none⟩) h.lt];exact h.fz a,λb c=>bO (h.o b c) k,h.dis,λa d=>cg k (h.rest a d)⟩
theorem dB.ne{w W P V F N pc}(h:dB w W P V F N pc){t}(a:t<3):some P≠(V t).ownBlock:=λb=>by have:=((h.o t a).lt P b.symm).1;omega
theorem dB.blk{w W W' P V F N pc}(h:dB w W P V F N pc){t}(e:t<3)(c:W.grownBy W' (V t).ownBlock):(∀a b,W.cell? ⟨P,a,none⟩=some b->W'.cell? ⟨P,a,none⟩=some b)/\(∀a,W'.frozen? ⟨P,a,none⟩=false)/\P<W'.heap.size:=by
 have d:=c.block P h.lt (h.ne e);exact⟨λa b f=>(XK (w:=W) d).trans f,λa=>(X2 (w:=W) d).trans (h.fz a),Xq h.lt c.size⟩
theorem dB.app{w W W' P t m V F N pc v'}(h:dB w W P V F N pc)(k:t<3)(x:W'.ownsRow (P+1) 3 1 v' (N t+m) (fL (F t) (N t+m)))(g:W.grownBy W' (V t).ownBlock)(u:∀a,v'.ownBlock=some a->(V t).ownBlock=some a\/W.heap.size<=a):dB w (W'.setCell ⟨P,8+t,none⟩ v') P (wk V t v') F (wk N t (N t+m)) pc:=by
 obtain⟨p,y,B⟩:=h.blk k g;have z:Kept w W':=⟨g.os.trans h.kept.os,g.tape.trans h.kept.tape,g.output.trans h.kept.output,Xz h.kept.size g.size,λi n=>(g.block i (Xq n h.kept.size) (λc=>by have:=((h.o t k).lt i c.symm).1;have:=h.base;omega)).trans (h.kept.block i n)⟩;refine⟨z.setCell h.base _,h.base,λb d => ?_,λi=>(Xy _ _ _ _).trans (y i),λb d => ?_,λb o a d q r j f => ?_,λi n => ?_⟩
 .unfold wk
  by_cases c:b=t
  .subst c;rw[I rfl];exact ai (p _ _ (h.c b d)) _
  .rw[if_neg c,aa _ _ _ _ _ O];exact p _ _ (h.c b d)
 .unfold wk
  by_cases c:b=t
  .subst c;rw[I rfl,I rfl];exact Yf x (show P<P+1 from O) _
  .rw[if_neg c,if_neg c]
   refine Yf ((h.o b d).kept g ?_) (show P<P+1 from O) _;cases A:(V b).ownBlock with
   | none=>exact L rfl
   | some a=>exact R (λe=>h.dis t b a k d (λs=>c s.symm) e.symm A)
 .unfold wk at j f
  by_cases l:b=t
  .rw[I l] at j
   rw[if_neg (λe=>r (l.trans e.symm))] at f;rcases u a j with e|e
   .exact h.dis t o a k q (λs=>r (l.trans s)) e f
   .have:=((h.o o q).lt a f).2;omega
  .rw[if_neg l] at j
   by_cases v:o=t
   .rw[I v] at f
    rcases u a f with e|e
    .exact h.dis b t a d k l j e
    .have:=((h.o b d).lt a j).2;omega
   .rw[if_neg v] at f
    exact h.dis b o a d q r j f
 .rw[aa _ _ _ _ _ O];exact p _ _ (h.rest i n)
def snV(E A:Nat)(DN:Bool)(G:Hd)(vk vp vs:Value):Value := .agg #[.int .i64 (E:Int),.int .i64 (A:Int),.bool DN,.int .i64 (G.W:Int),.int .i64 (G.H:Int),.int .i64 (G.K:Int),.int .i64 (G.D:Int),.int .i64 (G.L:Int),vk,vp,vs]
def pcQ(E A:Nat)(DN:Bool)(G:Hd)(j:Nat):Value:=
 match j with
 | 0 => .int .i64 (E:Int)
 | 1 => .int .i64 (A:Int)
 | 2 => .bool DN
 | 3 => .int .i64 (G.W:Int)
 | 4 => .int .i64 (G.H:Int)
 | 5 => .int .i64 (G.K:Int)
 | 6 => .int .i64 (G.D:Int)
 | _ => .int .i64 (G.L:Int)
theorem Er b fb a c dn w(g:w.cell? ⟨b,2,none⟩=some (.pointer (some ⟨fb,0,none⟩)))(j:w.cell? ⟨b,4,none⟩=some (.int .i64 a))(k:w.cell? ⟨b,5,none⟩=some (.int .i64 c))(f0:w.cell? ⟨fb,0,none⟩=some (.bool false))(l:w.cell? ⟨fb,14,none⟩=some (.bool dn)):Calls prog 20 #[.pointer (some ⟨b,0,none⟩)] w λh i=>h=.returned (snV a c (dn&&decide (a=0)) ⟨0,0,0,0,0⟩ (.slice none 0 0) (.slice none 0 0) (.slice none 0 0))/\Kept w i:=by
 have m:=B _ _ g;have n:=B _ _ f0;obtain⟨d,e⟩:∃d,d=decide (a=0):=⟨_,rfl⟩;rw[<-e];have o:((a:Int)==0)=d:=by
  rw[e];by_cases f:a=0
  .subst f;rfl
  .rw[J f];exact F.2 O
 clear e;cases dn
 all_goals
  go_enter func20,ntmps20;go_wp2;go_region
  go_wp2;refine XA (v:=snV a c _ ⟨0,0,0,0,0⟩ (.slice none 0 0) (.slice none 0 0) (.slice none 0 0)) (by simp[results,results20,go_sem];first|rfl|done) rfl ⟨rfl,?_⟩;go_grown
theorem NU w1 P d e DN G F a W(h:P=w1.heap.size)(i:W=w1.alloc (.cells #[.int .i64 d,.int .i64 e,.bool DN,.int .i64 G.W,.int .i64 G.H,.int .i64 G.K,.int .i64 G.D,.int .i64 G.L,.slice none 0 0,.slice none 0 0,.slice none 0 0] a)):dB w1 W.drew P (v3 (.slice none 0 0) (.slice none 0 0) (.slice none 0 0)) F (v3 0 0 0) (pcQ d e DN G):=by
 subst h;subst i;have g:∀b,((w1.alloc (.cells #[.int .i64 d,.int .i64 e,.bool DN,.int .i64 G.W,.int .i64 G.H,.int .i64 G.K,.int .i64 G.D,.int .i64 G.L,.slice none 0 0,.slice none 0 0,.slice none 0 0] a)).drew).cell? ⟨w1.heap.size,b,none⟩=(#[.int .i64 d,.int .i64 e,.bool DN,.int .i64 G.W,.int .i64 G.H,.int .i64 G.K,.int .i64 G.D,.int .i64 G.L,.slice none 0 0,.slice none 0 0,.slice none 0 0]:Array Value)[b]? := λb=>by
  show(w1.alloc _).cell? _=_
  rw[Xr _ _ _ _ rfl]
 refine⟨((Xs _ _).alloc (E _) _).drew,E _,λa c => ?_,λb=>XB _ _ _ _ rfl,λa c => ?_,λa l b c m _ f _ => ?_,λj k => ?_⟩
 .rw[g]
  match a,c with
  | 0,_=>rfl
  | 1,_=>rfl
  | 2,_=>rfl
 .match a,c with
  | 0,_=>exact XR _ _ _ _
  | 1,_=>exact XR _ _ _ _
  | 2,_=>exact XR _ _ _ _
 .match a,c with
  | 0,_=>cases f
  | 1,_=>cases f
  | 2,_=>cases f
 .rw[g]
  match j,k with
  | 0,_=>rfl
  | 1,_=>rfl
  | 2,_=>rfl
  | 3,_=>rfl
  | 4,_=>rfl
  | 5,_=>rfl
  | 6,_=>rfl
  | 7,_=>rfl
theorem rz{W:World}{B P v n xs u0 u1 u2 u3 u4 u5 u6 u7 u8 u9 Di}(h:W.ownsRow (B+1+1) 3 1 v n xs)(d:P<B+1+1):(((((((((((W.setCell ⟨P,0,none⟩ u0).setCell ⟨P,1,none⟩ u1).setCell ⟨P,2,none⟩ u2).setCell ⟨P,3,none⟩ u3).setCell ⟨P,4,none⟩ u4).setCell ⟨P,5,none⟩ u5).setCell ⟨P,6,none⟩ u6).setCell ⟨P,7,none⟩ u7).setCell ⟨P,8,none⟩ u8).setCell ⟨P,9,none⟩ u9).setCell ⟨P,10,none⟩ Di).ownsRow B 3 1 v n xs:=by
 have a:∀{W:World} (c:Nat) (b:Value),W.ownsRow (B+1+1) 3 1 v n xs->(W.setCell ⟨P,c,none⟩ b).ownsRow (B+1+1) 3 1 v n xs:=λc b h=>Yf h d b
 exact lU (a _ _ (a _ _ (a _ _ (a _ _ (a _ _ (a _ _ (a _ _ (a _ _ (a _ _ (a _ _ (a _ _ h))))))))))) O
theorem zO j(a:j<11):∃b,(#[.int .i64 0,.int .i64 0,.bool false,.int .i64 0,.int .i64 0,.int .i64 0,.int .i64 0,.int .i64 0,.slice none 0 0,.slice none 0 0,.slice none 0 0]:Array Value)[j]? = some b:=
 ⟨_,Array.getElem?_eq_getElem (by simpa using a)⟩
def opK:Option (Nat->Nat)->Int
 | some _=>1
 | none=>0
def opC(col:(Nat->Nat)->Nat->Int):Option (Nat->Nat)->Nat->Int
 | some v,j=>col v j
 | none,_=>0
def fkQ(h:Hd)(D:List RwL)(j:Nat):Int:=opK (knQ h D (j%h.W) (j/h.W) (aq h.L))
def fpQ(h:Hd)(D:List RwL)(col:(Nat->Nat)->Nat->Int)(j:Nat):Int:=opC col (knQ h D (j/4%h.W) (j/4/h.W) (aq h.L)) (j%4)
def fsQ(h:Hd)(D:List RwL)(col:(Nat->Nat)->Nat->Int)(j:Nat):Int:=shQ h D col (j/4%h.W) (j/4/h.W) (aq h.L) (j%4)
theorem Oz{W x y:Nat}(h:x<W):(y*W+x)%W=x/\(y*W+x)/W=y:=by
 constructor
 .rw[Zk,Nat.mul_add_mod,X1 h]
 .rw[Zk,Nat.mul_add_div O,Nat.div_eq_of_lt h,X5]
theorem tM{m j}(h:j<4):(4*m+j)/4=m/\(4*m+j)%4=j:=O
