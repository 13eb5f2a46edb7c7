import Derived.Test.YtbedkdnphobmlaaGreatDoorProg
import Derived.Test.YtbedkdnphobmlaaGreatDoorUaa00
import Derived.Test.YtbedkdnphobmlaaGreatDoorUaa01
import Derived.Test.YtbedkdnphobmlaaGreatDoorUaa02
import Derived.Test.YtbedkdnphobmlaaGreatDoorUaa03
import Derived.Test.YtbedkdnphobmlaaGreatDoorUaa04
import Derived.Test.YtbedkdnphobmlaaGreatDoorUaa06
import Derived.Test.YtbedkdnphobmlaaGreatDoorUaa11
import Derived.Test.YtbedkdnphobmlaaGreatDoorUaa14
import Derived.Test.YtbedkdnphobmlaaGreatDoorUaa19
import Derived.Test.YtbedkdnphobmlaaGreatDoorUaa21
import Derived.Test.YtbedkdnphobmlaaGreatDoorUaa22
import Derived.Test.YtbedkdnphobmlaaGreatDoorUaa23
set_option linter.all false
set_option maxRecDepth 100000
set_option maxHeartbeats 0
namespace Go.Proofs.YtbedkdnphobmlaaGreatDoor
open Go.RowKit Px Tryz
theorem pK(x N W f H D K L d s1 e b:Nat)b1 b2 pv cv pl cl o row abv w(h:LwB w x N W f H D K L o row abv)(b0:f<=16)(b8:H<=16)(b9:d<=8)(c0:1<=s1)(c1:s1<=8)(c2:e<=8)(c3:1<=b)(c4:b<=8)(c5:LAt w .i64 pv pl)(c6:LAt w .i64 cv cl)(c7:within d s1 f=0):Calls prog 96 #[.pointer (some ⟨x,0,none⟩),.agg #[.int .i64 d,.int .i64 s1,.int .i64 b1,.int .i64 e,.int .i64 b,.int .i64 b2],pv,cv] w λn C=>n=.returned (.tuple #[])/\LwB C x N W f H D K L o row abv/\FrN x N w C:=by
 obtain⟨e0,e1,rfl⟩:=c5.form;obtain⟨e2,e3,rfl⟩:=c6.form;have q:Kept w (w.alloc (Obj.cells #[.int .i64 d,.int .i64 s1,.int .i64 b1,.int .i64 e,.int .i64 b,.int .i64 b2] 146)):=Xw (Xs _ _) (E _) _;obtain⟨F,G⟩:∃F:Nat->Prop,F=λc=>c=x\/(N<=c/\c≠w.heap.size):=⟨_,rfl⟩
 have c8:=Xq h.lt h.size;have X:∀c,F c->c=x\/N<=c:=by intro c I;rw[G] at I;rcases I with r|⟨r,_⟩;exact Or.inl r;exact R r
 have J:Z (eI x N W f H D K L o row abv F w (w.alloc (Obj.cells #[.int .i64 d,.int .i64 s1,.int .i64 b1,.int .i64 e,.int .i64 b,.int .i64 b2] 146))):=by
  refine⟨h.kept q,Fr.of_kept q,?_⟩;refine⟨by rw[G];exact Or.inl rfl,λc I => ?_,λe4 c s c9 => ?_⟩
  .rw[G];simp at I;have:=h.size;exact R ⟨O,O⟩
  .rw[q.cell (p:=⟨x,5,none⟩) c8] at s
   obtain⟨e5,M,d0⟩:=h.o;rw[s] at M
   injection M with M
   subst M
   have:=d0.2.lt c c9
   rw[G];exact R ⟨this.1,O⟩
 have i:∀Y a0,#[Value.int .i64 d,.int .i64 s1,.int .i64 b1,.int .i64 e,.int .i64 b,.int .i64 b2][Y]? = some a0->(w.alloc (Obj.cells #[.int .i64 d,.int .i64 s1,.int .i64 b1,.int .i64 e,.int .i64 b,.int .i64 b2] 146)).cell? ⟨w.heap.size,Y,none⟩=some a0:=by
  intro Y a0 d1;rw[Xr _ _ _ _ rfl];exact d1
 have P:=i 0 _ rfl;have a1:=i 1 _ rfl;have a2:=i 2 _ rfl;have b3:=i 3 _ rfl;have b4:=i 4 _ rfl;have b5:=i 5 _ rfl;have Q:=J.o.lw.c0;have s:=J.o.lw.c1;have a3:Z (∀(a:World) (t j u:Nat) (a4:Int),t<=8->1<=j->j<=8->u<=16->Calls prog 130 #[.agg #[.int .i64 t,.int .i64 j,.int .i64 a4],.int .i64 u] a λn C=>n=.returned (.int .i64 (within t j u))/\Kept a C):=λa t j u a4 d2 d3 d4 d5=>ma t j u a4 a d2 d3 d4 d5
 clear i;replace q:Z _:=q;go_enter func96,ntmps96;go_wp2_with fail;generalize (w.alloc (Obj.cells #[.int .i64 d,.int .i64 s1,.int .i64 b1,.int .i64 e,.int .i64 b,.int .i64 b2] 146))=d6 at *;have k:=B _ _ P;have b6:=B _ _ Q;obtain⟨d7,S⟩:∃a5,a5=within d s1 f:=⟨_,rfl⟩;obtain⟨d8,a6⟩:∃a5,a5=within e b H:=⟨_,rfl⟩;have e6:d7<=16:=by rw[S];exact ks b0
 have v:=λ(a:World)=>a3.o a d s1 f b1 b9 c0 c1 b0
 have y:=λ(a:World)=>a3.o a e b H b2 c2 c3 c4 b8
 rw[<-S] at v;rw[<-a6] at y;replace v:Z _:=v;replace y:Z _:=y;replace a6:Z (d8=within e b H):=a6;have d9:=S.trans c7;clear S;go_region_held3 (λa=>a.cell? ⟨w.heap.size,0,none⟩=some (.int .i64 d)/\a.cell? ⟨w.heap.size,1,none⟩=some (.int .i64 s1)/\a.cell? ⟨w.heap.size,2,none⟩=some (.int .i64 b1)/\a.cell? ⟨x,0,none⟩=some (.int .i64 f)) (first|exact⟨P,a1,a2,Q⟩|exact z|go_keep) ((go_at_call 130;refine X9 (v.o _) ?_;rintro n A ⟨rfl,l⟩;have z:A.cell? ⟨w.heap.size,0,none⟩=some (.int .i64 d)/\A.cell? ⟨w.heap.size,1,none⟩=some (.int .i64 s1)/\A.cell? ⟨w.heap.size,2,none⟩=some (.int .i64 b1)/\A.cell? ⟨x,0,none⟩=some (.int .i64 f):=⟨(l.cell (p:=⟨w.heap.size,0,none⟩) k).trans P,(l.cell (p:=⟨w.heap.size,1,none⟩) k).trans a1,(l.cell (p:=⟨w.heap.size,2,none⟩) k).trans a2,(l.cell (p:=⟨x,0,none⟩) b6).trans Q⟩))
 have g:=Kept.trans ((Kept.refl _).drewN 1) l;have T:=(g.cell (p:=⟨w.heap.size,3,none⟩) k).trans b3;have a7:=(g.cell (p:=⟨w.heap.size,4,none⟩) k).trans b4;have a8:=(g.cell (p:=⟨w.heap.size,5,none⟩) k).trans b5;have U:=(g.cell (p:=⟨x,1,none⟩) b6).trans s;have a9:=B _ _ T;replace g:Z (Kept d6 A):=g;clear l z;go_wp2_with fail;go_region_held3 (λa=>a.cell? ⟨w.heap.size,3,none⟩=some (.int .i64 e)/\a.cell? ⟨w.heap.size,4,none⟩=some (.int .i64 b)/\a.cell? ⟨w.heap.size,5,none⟩=some (.int .i64 b2)/\a.cell? ⟨x,1,none⟩=some (.int .i64 H)) (first|exact⟨T,a7,a8,U⟩|exact z|go_keep) ((go_at_call 130;refine X9 (y.o _) ?_;rintro n V ⟨rfl,m⟩;have z:V.cell? ⟨w.heap.size,3,none⟩=some (.int .i64 e)/\V.cell? ⟨w.heap.size,4,none⟩=some (.int .i64 b)/\V.cell? ⟨w.heap.size,5,none⟩=some (.int .i64 b2)/\V.cell? ⟨x,1,none⟩=some (.int .i64 H):=⟨(m.cell (p:=⟨w.heap.size,3,none⟩) a9).trans T,(m.cell (p:=⟨w.heap.size,4,none⟩) a9).trans a7,(m.cell (p:=⟨w.heap.size,5,none⟩) a9).trans a8,(m.cell (p:=⟨x,1,none⟩) (B _ _ U)).trans U⟩))
 have b7:Z _:=J.o.kept (g.o.trans (Kept.trans ((Kept.refl _).drewN 1) m));clear m z T a7 a8 U P a1 a2 b3 b4 b5 Q s g v y a3 J;subst d9;replace X:Z _:=X;go_wp2;refine XA (YA rfl _ _ _) rfl ?_;exact⟨rfl,b7.o.lw,b7.o.fr.mono (λc _ r=>X.o c r)⟩
def dM(h:Hd):Nat->Nat
 | 0=>0
 | p+1=>dM h p+(if aH h p=0 then 0 else ao h p)
def fpB(h:Hd)(pl fl:List Int)(p:Nat):List Int:=if aH h p=0 then[] else ei h.W h.K h.D (ae h.L p).cf (ae h.L p).cs (ae h.L p).rf (ae h.L p).rs pl fl (dM h p) (ao h p)
def dq(h:Hd)(pl fl:List Int):Nat->List Int
 | 0=>[]
 | p+1=>dq h pl fl p++fpB h pl fl p
theorem szs c m(a:m<=64):(c*m+7)/8<=8*c:=by
 have:=Nat.mul_le_mul_left c a
 omega
theorem DT h pl fl p(a:ax h.K h.D):(fpB h pl fl p).length<=ao h p*(1+8*aH h p):=by
 unfold fpB;split
 .exact X3 _
 .rw[gl]
  refine Nat.mul_le_mul_left _ ?_
  have:=szs (within (ae h.L p).cf (ae h.L p).cs h.W) (chan h.K*h.D) (Xz (XF (@bI h.K).2 (show h.D<=16 by have:=a.d;omega)) Xh)
  show 1+(within (ae h.L p).cf (ae h.L p).cs h.W*(chan h.K*h.D)+7)/8<=1+8*within (ae h.L p).cf (ae h.L p).cs h.W
  omega
def fO(h:Hd):Nat->Nat
 | 0=>0
 | p+1=>fO h p+ao h p*(1+8*aH h p)
theorem tP h pl fl(a:ax h.K h.D):∀n,(dq h pl fl n).length<=fO h n
 | 0=>E _
 | n+1=>by
  show(dq h pl fl n++fpB h pl fl n).length<=fO h n+_
  rw[Xv]
  have:=tP h pl fl a n
  have:=DT h pl fl n a
  omega
theorem Cp:∀L,L<2->∀a,a<17->∀b,b<17->fO ⟨a,b,0,0,L⟩ (av L)<=2078:=Xl
theorem rU W H D K L:∀n,fO ⟨W,H,D,K,L⟩ n=fO ⟨W,H,0,0,L⟩ n
 | 0=>rfl
 | n+1=>by
  show fO ⟨W,H,D,K,L⟩ n+_=fO ⟨W,H,0,0,L⟩ n+_
  rw[rU W H D K L n];rfl
theorem zJ h n m(a:n<=m):fO h n<=fO h m:=by
 induction a with
 | refl=>exact E _
 | step _ b=>exact Xz b (XG _ _)
theorem gA{h}(a:ax h.K h.D)(d:h.W<=16)(e:h.H<=16)(f:h.L<=1)pl fl n(b:n<=av h.L):(dq h pl fl n).length<=2078:=by
 have g:=tP h pl fl a n;have i:=zJ h n (av h.L) b;have c:=Cp h.L O h.W O h.H O;rw[<-rU h.W h.H h.D h.K h.L] at c;have j:fO ⟨h.W,h.H,h.D,h.K,h.L⟩ (av h.L)=fO h (av h.L):=rfl;omega
theorem B2{h}(b:h.H<=16):∀a,dM h a<=16*a
 | 0=>E _
 | a+1=>by
  have c:=B2 b a;have d:=iL b a;show dM h a+(if aH h a=0 then 0 else ao h a)<=_
  split<;>omega
theorem qS h p i c k C(a:i<ao h p)(b:c<aH h p)(d:k<C):(((ae h.L p).rf+i*(ae h.L p).rs)*h.W+((ae h.L p).cf+c*(ae h.L p).cs))*C+k<h.W*h.H*C:=by
 have:=H3 h.W h.H C ((ae h.L p).rf+i*(ae h.L p).rs) ((ae h.L p).cf+c*(ae h.L p).cs) k (dQ (cr h.L p).2.2.2.2.2.1 a) (dQ (cr h.L p).2.1 b) d
 rw[XD,Nat.mul_one,XD,Nat.mul_one] at this;exact this
theorem xP(e H D K L:Nat)pv cv pl cl w(d5:ax K D)(i1:1<=e)(i2:1<=H)(T:e<=16)(C:H<=16)(V:L<=1)(W:aS w)(p:LAt w .i64 pv pl)(b4:∀j,ai pv=some j->j<w.heap.size)(b5:pl.length=e*H*chan K)(d6:∀F∈pl,0<=F/\F<65536)(b6:LAt w .i64 cv cl)(b7:∀j,ai cv=some j->j<w.heap.size)(g0:0<cl.length)(g1:cl.length<=64)(d7:∀F∈cl,0<=F/\F<=4):Calls prog 68 #[.agg #[.int .i64 e,.int .i64 H,.int .i64 D,.int .i64 K,.int .i64 L],pv,cv] w λf g=>∃X,f=.returned X/\bg g w.heap.size X (dq ⟨e,H,D,K,L⟩ pl cl (av L))/\Kept w g:=by
 have g2:pl.length<=65536:=by rw[b5];exact Xz (XF (XF T C) (@bI K).2) Xh
 obtain⟨G,J,rfl⟩:=p.form;obtain⟨M,P,rfl⟩:=b6.form;obtain⟨u,g3,g4,Y,a0,a1,a2,a3,a4,a5,Q,d8⟩:=yL e H D K L;have b8:Z (((w.alloc (Obj.cells #[.int .i64 e,.int .i64 H,.int .i64 D,.int .i64 K,.int .i64 L] 71)).alloc (Obj.cells zeroCells142 142)).there (w.heap.size+1) 0 u.length):=by
  intro m d9;refine⟨?_,XB _ _ _ _ Xi⟩;rw[Xr _ _ _ _ Xi]
  have:m<(zeroCells142).size:=by have:=CM;rw[Array.length_toList] at this;omega
  show((zeroCells142)[0+m]?).isSome=true
  rw[XD,Array.getElem?_eq_getElem this];rfl
 have g5:(storeCells ⟨w.heap.size+1,0,none⟩ u).run prog ((w.alloc (Obj.cells #[.int .i64 e,.int .i64 H,.int .i64 D,.int .i64 K,.int .i64 L] 71)).alloc (Obj.cells zeroCells142 142))=.ok () (((w.alloc (Obj.cells #[.int .i64 e,.int .i64 H,.int .i64 D,.int .i64 K,.int .i64 L] 71)).alloc (Obj.cells zeroCells142 142)).setCells (w.heap.size+1) 0 u):=bl b8.o d8;have e0:=U (XO _ _ _ _ b8.o);have e1:Z (∀c,(((w.alloc (Obj.cells #[.int .i64 e,.int .i64 H,.int .i64 D,.int .i64 K,.int .i64 L] 71)).alloc (Obj.cells zeroCells142 142)).setCells (w.heap.size+1) 0 u).frozen? ⟨w.heap.size+1,c,none⟩=false):=λc=>by rw[World.frozen?_setCells];exact XB _ _ _ _ Xi
 have a6:Z (Kept w (((w.alloc (Obj.cells #[.int .i64 e,.int .i64 H,.int .i64 D,.int .i64 K,.int .i64 L] 71)).alloc (Obj.cells zeroCells142 142)).setCells (w.heap.size+1) 0 u)):=Kept.setCells O _ _ (Xw (Xw (Xs _ _) (E _) _) Xi _);have e2:Z ((((w.alloc (Obj.cells #[.int .i64 e,.int .i64 H,.int .i64 D,.int .i64 K,.int .i64 L] 71)).alloc (Obj.cells zeroCells142 142)).setCells (w.heap.size+1) 0 u).heap.size=w.heap.size+2):=by show _=_;rw[setCells_size];simp
 have g6:(((w.alloc (Obj.cells #[.int .i64 e,.int .i64 H,.int .i64 D,.int .i64 K,.int .i64 L] 71)).alloc (Obj.cells zeroCells142 142)).setCells (w.heap.size+1) 0 u).cell? ⟨w.heap.size,4,none⟩=some (.int .i64 L):=by
  rw[YS _ _ _ _ ⟨w.heap.size,4,none⟩ (λg7 _=>by simp at g7),YG _ _ _ Xi,Xr _ _ _ _ rfl];rfl
 have b9:Z (∀d:World,Calls prog 94 #[.int .i64 L] d λf g=>f=.returned (.int .i64 ((if L=1 then 7 else 1:Nat):Int))/\g=d):=λd=>zh L d V
 obtain⟨b,v⟩:∃b:Hd,b=⟨e,H,D,K,L⟩:=⟨_,rfl⟩;obtain⟨k,z⟩:∃k,k=av L:=⟨_,rfl⟩;have e3:(if L=1 then 7 else 1:Nat)=k:=by rw[z];rfl
 rw[e3] at b9;have i3:1<=k/\k<=7:=by rw[z];exact tB V
 have e4:Z (∀a R a7 c,R<ao b a->a7<aH b a->c<chan K->(((ae L a).rf+R*(ae L a).rs)*e+((ae L a).cf+a7*(ae L a).cs))*chan K+c<pl.length):=λa R a7 c g8 g9 h0=>by rw[b5];subst v;exact qS _ a R a7 c (chan K) g8 g9 h0
 have c0:Z (∀l,l<=k->(dq b pl cl l).length<=2078):=λl e5=>by subst v;exact gA (h:=⟨e,H,D,K,L⟩) d5 T C V pl cl l (by rw[z] at e5;exact e5)
 have e6:Z (∀l,dM b l<=16*l):=by subst v;exact B2 (h:=⟨e,H,D,K,L⟩) C
 have c1:Z (∀l,dq b pl cl (l+1)=dq b pl cl l++fpB b pl cl l):=λ_=>rfl
 have e7:Z (∀a,aH b a≠0->fpB b pl cl a=ei e K D (ae L a).cf (ae L a).cs (ae L a).rf (ae L a).rs pl cl (dM b a) (ao b a)/\dM b (a+1)=dM b a+ao b a/\ao b a=within (ae L a).rf (ae L a).rs H):=λa p=>by
  refine⟨?_,?_,?_⟩
  .unfold fpB;rw[N p];subst v;rfl
  .show dM b a+(if aH b a=0 then 0 else ao b a)=_;rw[N p]
  .subst v;rfl
 have e8:Z (∀a,aH b a=0->fpB b pl cl a=[]/\dM b (a+1)=dM b a):=λa p=>by
  refine⟨?_,?_⟩
  .unfold fpB;rw[I p]
  .show dM b a+(if aH b a=0 then 0 else ao b a)=_;rw[I p];rfl
 have a8:Z (∀a,aH b a=within (ae L a).cf (ae L a).cs e):=λa=>by subst v;rfl
 clear b5;rw[<-z,<-v];have e9:Z (dq b pl cl 0=[]):=rfl;have h1:Z (dM b 0=0):=rfl;obtain⟨n,f0⟩:∃n,n=dq b pl cl:=⟨_,rfl⟩;rw[<-f0] at c0 c1 e9 ⊢;clear f0;replace z:Z _:=z;clear e3 v;replace Y:Z _:=Y;replace a0:Z _:=a0;replace a1:Z _:=a1;replace a2:Z _:=a2;replace a3:Z _:=a3;replace a4:Z _:=a4;replace a5:Z _:=a5;replace Q:Z _:=Q;clear d8;go_enter func68,ntmps68;go_wp2;generalize ((w.alloc (Obj.cells #[.int .i64 e,.int .i64 H,.int .i64 D,.int .i64 K,.int .i64 L] 71)).alloc (Obj.cells zeroCells142 142)).setCells (w.heap.size+1) 0 u=x at *;clear g5 b8 g3;have f1:Z (LwB x (w.heap.size+1) (w.heap.size+2) 0 e H D K L [] (λ_=>0) (λ_=>0)):=by
  have f:=e0.o;refine⟨O,by rw[e2.o];omega,e1.o,f 0 _ Y.o,f 1 _ a0.o,f 2 _ a1.o,f 3 _ a2.o,f 4 _ a3.o,⟨_,f 5 _ a4.o,bg.nil _ _⟩,f 6 _ a5.o,?_,?_,λ_=>O,λ_=>O⟩
  .intro m d9
   have:=f (7+m) _ (Q.o m O)
   rw[XD] at this;exact this
  .intro m d9
   have:=f (7+(128+m)) _ (Q.o (128+m) O)
   rw[XD,show 7+(128+m)=135+m from O] at this;exact this
 clear Y a0 a1 a2 a3 a4 a5 Q e0 e1 g4;have h2:w.heap.size<x.heap.size:=by rw[e2.o];omega
 have i4:0<w.heap.size:=by have:=B _ _ (W 0 O);omega
 have h3:Z _:=B _ _ (W 0 O);have h4:Z (∀(d:World) (c:Nat),c<=7->FrN (w.heap.size+1) (w.heap.size+2) x d->Calls prog 95 #[.int .i64 L,.int .i64 c] d λf g=>f=.returned (psV (ae L c))/\Kept d g):=by
  intro d c c2 i;exact mP L c d V O ((W.kept a6.o).fr i (by have:=h3.o;omega))
 have h5:Z (∀(d:World) (a:Nat) (q r:Nat->Nat),a<k->LwB d (w.heap.size+1) (w.heap.size+2) (dM b a) e H D K L (n a) q r->FrN (w.heap.size+1) (w.heap.size+2) x d->Calls prog 96 #[.pointer (some ⟨w.heap.size+1,0,none⟩),psV (ae L a),.slice G pl.length J,.slice M cl.length P] d λf g=>f=.returned (.tuple #[])/\(∃o s,LwB g (w.heap.size+1) (w.heap.size+2) (dM b (a+1)) e H D K L (n (a+1)) o s)/\FrN (w.heap.size+1) (w.heap.size+2) d g):=by
  intro d a q r i5 t i;obtain⟨i6,i7,i8,i9,j0,j1,j2,j3⟩:=cr L a;have f2:=(p.kept a6.o).fr i (λj y=>by have:=b4 j y;omega);have f3:=(b6.kept a6.o).fr i (λj y=>by have:=b7 j y;omega);have j4:=c0.o a O;have j5:=e6.o a;by_cases a9:aH b a=0
  .have b0:=pK _ _ (dM b a) e H D K L (ae L a).cf (ae L a).cs (ae L a).rf (ae L a).rs ((ae L a).cb:Int) ((ae L a).rb:Int) (.slice G pl.length J) (.slice M cl.length P) pl cl (n a) q r d t T C O O O O O O f2 f3 (by rw[<-a8.o];exact a9)
   refine b0.mono ?_;rintro f g ⟨c3,A,S⟩;obtain⟨c4,c5⟩:=e8.o a a9;rw[c1.o,c4,c5,XN];exact⟨c3,⟨q,r,A⟩,S⟩
  .obtain⟨c4,c5,f4⟩:=e7.o a a9
   have b0:=rQ _ _ (dM b a) e H D K L (ae L a).cf (ae L a).cs (ae L a).rf (ae L a).rs ((ae L a).cb:Int) ((ae L a).rb:Int) (.slice G pl.length J) (.slice M cl.length P) pl cl (n a) q r d t d5 T C O O O O O O f2 (λj y=>by have:=b4 j y;omega) g2 d6 f3 (λj y=>by have:=b7 j y;omega) g0 g1 d7 O O (by rw[<-a8.o];exact a9) (by rw[<-a8.o,<-f4];exact e4.o a);refine b0.mono ?_;rintro f g ⟨c3,⟨o,A⟩,S⟩;rw[<-f4] at A;rw[c1.o,c4,c5];exact⟨c3,⟨_,_,A⟩,S⟩
 clear p b6 b4 b7 d7 d6 W e4 e7 e8 a8 e6 c0;go_loopw [8] (λc6 d=>∃(c:Nat) (q r:Nat->Nat),c<=k/\c6=.int .i64 c/\LwB d (w.heap.size+1) (w.heap.size+2) (dM b c) e H D K L (n c) q r/\FrN (w.heap.size+1) (w.heap.size+2) x d) (λc6 _=>k-(intOf c6).toNat)
 case atStart=>exact⟨0,λ_=>0,λ_=>0,O,rfl,by rw[e9.o,h1.o];exact f1.o,Fr.refl _ _⟩
 case round=>
  obtain⟨c,q,r,j6,rfl,t,i⟩:=hrel;have j7:=(i.cell h2 O).trans g6;clear f1;by_cases h6:c<k
  .have h7:(c:Int)<(k:Int):=O
   have b1:=h4.o wr c O i;have b2:Z (∀d,Kept wr d->Calls prog 96 #[.pointer (some ⟨w.heap.size+1,0,none⟩),psV (ae L c),.slice G pl.length J,.slice M cl.length P] d λf g=>f=.returned (.tuple #[])/\(∃o s,LwB g (w.heap.size+1) (w.heap.size+2) (dM b (c+1)) e H D K L (n (c+1)) o s)/\FrN (w.heap.size+1) (w.heap.size+2) d g):=λd c2=>h5.o d c q r h6 (t.kept c2) (i.kept c2)
   obtain⟨⟨c7,c8,c9,d0,d1,d2⟩,f5⟩:∃h8:Ps,h8=ae L c:=⟨_,rfl⟩;rw[<-f5] at b1 b2;clear f5;replace b1:Z (Calls prog 95 #[.int .i64 L,.int .i64 c] wr λf g=>f=.returned (.agg #[.int .i64 c7,.int .i64 c8,.int .i64 c9,.int .i64 d0,.int .i64 d1,.int .i64 d2])/\Kept wr g):=b1;replace b2:Z (∀d,Kept wr d->Calls prog 96 #[.pointer (some ⟨w.heap.size+1,0,none⟩),.agg #[.int .i64 c7,.int .i64 c8,.int .i64 c9,.int .i64 d0,.int .i64 d1,.int .i64 d2],.slice G pl.length J,.slice M cl.length P] d λf g=>f=.returned (.tuple #[])/\(∃o s,LwB g (w.heap.size+1) (w.heap.size+2) (dM b (c+1)) e H D K L (n (c+1)) o s)/\FrN (w.heap.size+1) (w.heap.size+2) d g):=b2;replace t:Z _:=t;replace i:Z (FrN (w.heap.size+1) (w.heap.size+2) x wr):=i;go_wp2_with fail;refine(b9.o _).mono ?_;rintro f wr ⟨rfl,rfl⟩;go_wp2_with fail;refine X9 b1.o ?_;rintro f h9 ⟨rfl,f6⟩;have b3:Kept wr (h9.alloc (Obj.cells #[.int .i64 c7,.int .i64 c8,.int .i64 c9,.int .i64 d0,.int .i64 d1,.int .i64 d2] 146)):=Kept.trans f6 (Xw (Xs _ _) (E _) _);have d3:=b2.o _ b3;replace d3:Z _:=d3;replace b3:Z _:=b3;clear f6;go_wp2_with fail;refine X9 d3.o ?_;rintro f f7 ⟨rfl,f8,f9⟩;have i0:Z ((∃o s,LwB f7 (w.heap.size+1) (w.heap.size+2) (dM b (c+1)) e H D K L (n (c+1)) o s)/\FrN (w.heap.size+1) (w.heap.size+2) x f7):=⟨f8,(i.o.kept b3.o).trans f9⟩;clear f8 f9;go_wp2;obtain⟨⟨o,s,A⟩,S⟩:=i0.o;exact⟨⟨c+1,o,s,O,Xj,A,S⟩,Xb⟩
  .have h7:¬(c:Int)<(k:Int):=O
   obtain rfl:c=k:=O;obtain⟨X,b0,d4⟩:=t.o;replace d4:Z _:=d4;replace i:Z (FrN (w.heap.size+1) (w.heap.size+2) x wr):=i;replace t:Z _:=t;go_wp2_with fail;refine(b9.o _).mono ?_;rintro f wr ⟨rfl,rfl⟩;go_wp2;go_ret;exact⟨X,rfl,bg.base d4.o O,Fr.to_kept a6.o i.o (λR j8=>O)⟩
theorem pI n s:xb (n%2^s) 0 s=xb n 0 s:=by
 have a:n=n%2^s+n/2^s*2^s:=by rw[Zk];exact(Nat.mod_add_div n (2^s)).symm
 have:=pJ (n%2^s) (n/2^s) s s 0 O
 rw[<-a] at this;exact this.symm
theorem EX r m n s(a:r<2^m):xb (kJ r m n s) 0 (m+s)=xb r 0 m++xb n 0 s:=by
 unfold kJ;rw[lY,pJ r (n%2^s) m m 0 O,gV,Nat.add_mul_div_right _ _ (Nat.two_pow_pos m),Nat.div_eq_of_lt a,XD,pI]
theorem EF:∀(k a:Nat),bW (nl (leB k a))=xb a 0 (8*k)
 | 0,a=>rfl
 | k+1,a=>by
  have b:nl (leB (k+1) a)=a%256::nl (leB k (a/256)):=rfl;rw[b,cU,EF k (a/256),show 8*(k+1)=8+8*k from O,lY a 8 0 (8*k),gV a 8 (8*k) 0]
  have:=pI a 8
  rw[show(2:Nat)^8=256 from Xh] at this ⊢;rw[this]
def oa(l:List Int)(r m:Nat):List Nat:=bW (nl l)++xb r 0 m
theorem zt l r m n s(a:r<2^m):oa (l++leB ((m+s)/8) (kJ r m n s)) (kJ r m n s/256^((m+s)/8)) ((m+s)%8)=oa l r m++xb n 0 s:=by
 unfold oa;rw[bR,iO,EF,XY,XY,<-EX r m n s a]
 congr 1
 have b:(256:Nat)^((m+s)/8)=2^(8*((m+s)/8)):=by rw[Nat.pow_mul]
 rw[b]
 have:=lY (kJ r m n s) (8*((m+s)/8)) 0 ((m+s)%8)
 rw[<-((Nat.div_add_mod (m+s) 8).symm),gV] at this;exact this.symm
theorem kU l r m:(oa l r m).length=8*l.length+m:=by
 unfold oa;rw[Xv,fq,dU,aU]
theorem vY:∀(k i:Nat),xb 0 i k=List.replicate k 0
 | 0,_=>rfl
 | k+1,i=>by
  show 0/2^i%2::xb 0 (i+1) k=0::List.replicate k 0
  rw[Nat.zero_div,vY k (i+1)]
theorem Ip n k:cb n (k+1)=xb (n/2^k) 0 1++cb n k:=by
 show n/2^k%2::cb n k=(n/2^k/2^0%2::[])++cb n k
 rw[Nat.pow_zero,Nat.div_one];rfl
def chL(PL:List (List Int)):List Int:=PL.flatMap (chB ar)
theorem BQ PL d:chL (PL++[d])=chL PL++chB ar d:=by
 unfold chL;rw[List.flatMap_append,List.flatMap_cons,List.flatMap_nil,XN]
theorem lU:∀PL:List (List Int),(chL PL).length=12*PL.length+PL.flatten.length
 | []=>rfl
 | d::a=>by
  have b:chL (d::a)=chB ar d++chL a:=rfl;rw[b,Xv,dF,lU a,List.flatten_cons,Xv,Yj];omega
theorem Bw C k f f' V n(e:1<=C)(h:k<=C*f)(g:f<n)(c:k%C=0->1<=V)(i:f'=f+min V (n-f)):k+1<=C*f':=by
 by_cases a:k%C=0
 .have:=c a
  have b:C*(f+1)<=C*f':=Nat.mul_le_mul_left C O;rw[Nat.mul_succ] at b;omega
 .have j:k≠C*f:=λd=>a (by rw[d,Nat.mul_mod_right])
  have b:C*f<=C*f':=Nat.mul_le_mul_left C O;omega
theorem pb PL(l:List Int)f n(h:PL.flatten=l.take f):(PL++[(l.drop f).take n]).flatten=l.take (f+n):=by
 rw[List.flatten_append,h,List.flatten_cons,List.flatten_nil,XN,List.take_add]
theorem Cl x N g o c L(S:Nat->Prop)cv l cl w(h:WrY w x N L S)(d7:0<L.length)(d8:L.length<=10000000)(X:LAt w .u8 (.slice (some ⟨g,o,none⟩) l.length c) l)(Y:isBytes l)(d9:l.length<=c)(J:0<l.length)(b7:l.length<=1250000)(a0:¬S g)(K:LAt w .i64 cv cl)(A:0<cl.length)(b8:cl.length<=64)(a1:∀s,ai cv=some s->¬S s)(a2:∀a3∈cl,0<=a3/\a3<=65536)(e0:1<=cl.getD 0 0):Calls prog 76 #[.pointer (some ⟨x,0,none⟩),.slice (some ⟨g,o,none⟩) l.length c,cv] w λi q=>i=.returned (.tuple #[])/\∃PL:List (List Int),PL≠[]/\PL.flatten=l/\(chL PL).length<=962000000/\bo x N (L++chL PL) S w q:=by
 obtain⟨a4,a5,rfl⟩:=K.form;have b9:cl.length*l.length<=80000000:=Xz (XF b8 b7) Xh;have c0:=Nat.mul_pos A J;have a6:∀(PL:List (List Int)) (b a:Nat),PL.length=b->b<=80000000->PL.flatten=l.take a->a<=l.length->(L++chL PL).length<=1000000000/\0<(L++chL PL).length/\(chL PL).length<=962000000:=λPL b a B C D E=>by
  have:=lU PL
  rw[D,Yd,B] at this;rw[Xv];omega
 have c1:Z (∀(f:World) (b:Nat) (a7:List Int),b<=100000000->bo x N a7 S w f->Calls prog 100 #[.slice a4 cl.length a5,.int .i64 b] f λi q=>i=.returned (.int .i64 (cl.getD (b%cl.length) 0))/\Kept f q):=λf b a7 a8 e=>ky _ cl b f (K.fr e.fr a1) A O O
 have a9:Z (∀(f:World) (PL:List (List Int)) (a j F:Nat),(L++chL PL).length<=1000000000->0<(L++chL PL).length->a+j<=l.length->j<=65536->bo x N (L++chL PL) S w f->Calls prog 108 #[.pointer (some ⟨x,0,none⟩),.slice (some ⟨g,o+a,none⟩) j F] f λi q=>i=.returned (.tuple #[])/\bo x N (L++chL (PL++[(l.drop a).take j])) S f q):=by
  intro f PL a j F a8 c2 u e1 e;have c3:((l.drop a).take j).length=j:=Xf
  have:=D7 x N (L++chL PL) S (.slice (some ⟨g,o+a,none⟩) j F) _ f e.at' c2 ((X.fr e.fr (λs M=>by
   have:g=s:=by injection M
   rw[<-this];exact a0)).part a j F u) (Y.part a j) (λe2 e3 m=>by injection m with m _ _;cases m) (λs M=>by
   have:g=s:=by injection M
   rw[<-this];exact a0) a8 (by rw[c3];omega)
  rw[BQ,<-XY];exact this
 have c4:Z (bo x N (L++chL []) S w w):=by show bo x N (L++[]) S w w;rw[XN];exact bo.refl h
 have c5:Z _:=a2;have b0:Z _:=a6;have G:∀b a,b<=cl.length*a->¬(a<l.length/\b<cl.length*l.length)->a<=l.length->a=l.length:=λb a B C D=>by
  by_cases c6:a<l.length
  .have E:cl.length*(a+1)<=cl.length*l.length:=Nat.mul_le_mul_left _ O
   rw[Nat.mul_succ] at E;exact absurd ⟨c6,O⟩ C
  .omega
 have c7:Z (∀b a n d,b<=cl.length*a->a<l.length->(b%cl.length=0->1<=d)->n=a+min d (l.length-a)->b+1<=cl.length*n):=λb a n d B C D E=>Bw cl.length b a n d l.length A B C D E
 clear h X Y K a1 a2 a6;have c8:((cl.length:Int)*(l.length:Int))=((cl.length*l.length:Nat):Int):=Xi;obtain⟨t,b1⟩:∃t,t=cl.length*l.length:=⟨_,rfl⟩;rw[<-b1] at c8 b9 c0 G;replace G:Z _:=G;clear b1;go_enter func76,ntmps76;go_wp2;go_loopw [6,7] (λP c9 f=>∃(b a:Nat) (PL:List (List Int)),P=.int .i64 b/\c9=.int .i64 a/\a<=l.length/\b<=t/\Z (b<=cl.length*a)/\PL.length=b/\PL.flatten=l.take a/\bo x N (L++chL PL) S w f) (λP _ _=>t-(intOf P).toNat)
 case atStart=>exact⟨0,0,[],rfl,rfl,O,O,X3 _,rfl,rfl,c4.o⟩
 case round=>
  obtain⟨b,a,PL,rfl,rfl,u,e4,b2,r,k,e⟩:=hrel;by_cases b3:a<l.length/\b<t
  .obtain⟨d0,e5⟩:=b3
   have v:=c1.o wr b _ O e;have d1:=c5.o _ (az (YD b A));obtain⟨d,Q⟩:∃d:Nat,cl.getD (b%cl.length) 0=(d:Int):=⟨(cl.getD (b%cl.length) 0).toNat,O⟩;have b4:b%cl.length=0->1<=d:=by
    intro m;rw[m] at Q;omega
   have b5:Z (∀n,n=a+min d (l.length-a)->b+1<=cl.length*n):=λn m=>c7.o b a n d b2.o d0 b4 m
   obtain⟨H,I,_⟩:=b0.o PL b a r O k u;rw[Q] at v;have e6:d<=65536:=O;clear d1 Q b4;replace H:Z _:=H;replace I:Z _:=I;replace r:Z _:=r;replace k:Z _:=k;replace v:Z (Calls prog 100 #[.slice a4 cl.length a5,.int .i64 b] wr λi q=>i=.returned (.int .i64 d)/\Kept wr q):=v;replace e:Z (bo x N (L++chL PL) S w wr):=e;have d2:(a:Int)<(l.length:Int):=O;have e7:(b:Int)<(t:Int):=O;by_cases e8:d<=l.length-a
   .have d3:(d:Int)<=(l.length:Int)-(a:Int):=O
    go_wp2_with fail;refine v.o.mono ?_;rintro i y ⟨rfl,p⟩;replace p:Z (Kept wr y):=p;go_wp2_with fail;refine(a9.o y PL a (d) (c-a) H.o I.o O O (e.o.kept p.o)).mono ?_;rintro i d4 ⟨rfl,z⟩;have R:Z _:=(e.o.kept p.o).trans z;have T:Z ((PL++[(l.drop a).take d]).length=b+1):=by show _=_;rw[Xv,r.o];rfl
    have U:Z _:=pb PL l a d k.o;have V:Z _:=b5.o (a+d) O;clear z;generalize PL++[(l.drop a).take d]=W at *;go_wp2;exact⟨⟨b+1,a+d,W,Xj,by first|rfl|go_num,O,O,V,T.o,U.o,R.o⟩,Xb⟩
   .have d3:¬(d:Int)<=(l.length:Int)-(a:Int):=O
    go_wp2_with fail;refine v.o.mono ?_;rintro i y ⟨rfl,p⟩;replace p:Z (Kept wr y):=p;go_wp2_with fail;refine(a9.o y PL a (l.length-a) (c-a) H.o I.o O O (e.o.kept p.o)).mono ?_;rintro i d4 ⟨rfl,z⟩;have R:Z _:=(e.o.kept p.o).trans z;have T:Z ((PL++[(l.drop a).take (l.length-a)]).length=b+1):=by show _=_;rw[Xv,r.o];rfl
    have U:Z ((PL++[(l.drop a).take (l.length-a)]).flatten=l.take l.length):=by
     have:=pb PL l a (l.length-a) k.o
     rw[show a+(l.length-a)=l.length from O] at this;exact this
    have V:Z _:=b5.o l.length O;clear z;generalize PL++[(l.drop a).take (l.length-a)]=W at *;go_wp2;exact⟨⟨b+1,l.length,W,Xj,by first|rfl|go_num,O,O,V,T.o,U.o,R.o⟩,Xb⟩
  .have d5:=G.o b a b2.o b3 u
   subst d5;obtain⟨_,_,b6⟩:=b0.o PL b l.length r O k u;have d6:Z (∃PL:List (List Int),PL≠[]/\PL.flatten=l/\(chL PL).length<=962000000/\bo x N (L++chL PL) S w wr):=by
    refine⟨PL,?_,by rw[k,List.take_length],b6,e⟩;intro m;subst m;rw[List.take_length] at k
    have:l=[]:=k.symm
    rw[this] at J;exact absurd J Xh
   clear e k r b6;have d2:¬(l.length:Int)<(l.length:Int):=O;go_wp2;go_end0
   exact⟨rfl,d6.o⟩
