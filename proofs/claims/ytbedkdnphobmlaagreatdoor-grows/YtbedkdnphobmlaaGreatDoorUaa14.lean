import Derived.Test.YtbedkdnphobmlaaGreatDoorProg
import Derived.Test.YtbedkdnphobmlaaGreatDoorUaa00
import Derived.Test.YtbedkdnphobmlaaGreatDoorUaa01
import Derived.Test.YtbedkdnphobmlaaGreatDoorUaa03
import Derived.Test.YtbedkdnphobmlaaGreatDoorUaa06
import Derived.Test.YtbedkdnphobmlaaGreatDoorUaa13
set_option linter.all false
set_option maxRecDepth 100000
set_option maxHeartbeats 0
namespace Go.Proofs.YtbedkdnphobmlaaGreatDoor
open Go.RowKit Px Tryz
theorem LwB.setCnt{w x N cnt W H D K L o row abv}(h:LwB w x N cnt W H D K L o row abv)(m:Nat):LwB (w.setCell ⟨x,6,none⟩ (.int .i64 m)) x N m W H D K L o row abv:=by
 obtain⟨d,e,f,g,i,j,k,l,⟨n,p,q⟩,r,s,t,u,v⟩:=h;have a:∀b,b≠6->(w.setCell ⟨x,6,none⟩ (.int .i64 m)).cell? ⟨x,b,none⟩=w.cell? ⟨x,b,none⟩:=λb c=>aa _ _ _ _ _ (λa=>c a.symm)
 exact⟨d,by rw[show(w.setCell ⟨x,6,none⟩ (.int .i64 m)).heap.size=w.heap.size by simp[World.setCell]];exact e,λy=>by rw[Xy];exact f y,(a 0 O).trans g,(a 1 O).trans i,(a 2 O).trans j,(a 3 O).trans k,(a 4 O).trans l,⟨n,(a 5 O).trans p,q.set d _ _⟩,af r _,λb c=>(a _ O).trans (s b c),λb c=>(a _ O).trans (t b c),u,v⟩
def hM(W K D f1 s1 f2 s2:Nat)(pl:List Int)(i:Nat):Nat->Nat:=gQ D (chan K) pl (λc=>((f2+i*s2)*W+(f1+c*s1))*chan K) (within f1 s1 W)
def dZ(W K D f1 s1 f2 s2:Nat)(pl:List Int):Nat->(Nat->Nat)
 | 0=>λ_=>0
 | i+1=>hM W K D f1 s1 f2 s2 pl i
def ei(W K D f1 s1 f2 s2:Nat)(pl fl:List Int)(cnt:Nat):Nat->List Int
 | 0=>[]
 | i+1=>ei W K D f1 s1 f2 s2 pl fl cnt i++ez K D (fl.getD ((cnt+i)%fl.length) 0).toNat ((within f1 s1 W*(chan K*D)+7)/8) (hM W K D f1 s1 f2 s2 pl i) (dZ W K D f1 s1 f2 s2 pl i)
theorem gl W K D f1 s1 f2 s2 pl fl cnt:∀i,(ei W K D f1 s1 f2 s2 pl fl cnt i).length=i*(1+(within f1 s1 W*(chan K*D)+7)/8)
 | 0=>by rw[Nat.zero_mul];rfl
 | i+1=>by
  show(_++_:List Int).length=_
  rw[Xv,gl W K D f1 s1 f2 s2 pl fl cnt i,su,YO,Zi]
theorem rQ x N cnt W H D K L f1 s1 f2 c b1 b2 pv cv pl cl o row abv w(h:LwB w x N cnt W H D K L o row abv)(d7:ax K D)(f4:W<=16)(i2:H<=16)(i3:f1<=8)(l5:1<=s1)(i4:s1<=8)(i5:f2<=8)(l6:1<=c)(i6:c<=8)(f5:LAt w .i64 pv pl)(f6:∀g,ai pv=some g->¬(g=x\/N<=g))(l7:pl.length<=65536)(i7:∀b7∈pl,0<=b7/\b7<65536)(f7:LAt w .i64 cv cl)(i8:∀g,ai cv=some g->¬(g=x\/N<=g))(i9:0<cl.length)(o8:cl.length<=64)(j0:∀b7∈cl,0<=b7/\b7<=4)(o9:o.length<=65536)(p0:cnt<=65536)(j1:within f1 s1 W≠0)(f8:∀a C d,a<within f2 c H->C<within f1 s1 W->d<chan K->((f2+a*c)*W+(f1+C*s1))*chan K+d<pl.length):Calls prog 96 #[.pointer (some ⟨x,0,none⟩),.agg #[.int .i64 f1,.int .i64 s1,.int .i64 b1,.int .i64 f2,.int .i64 c,.int .i64 b2],pv,cv] w λi s=>i=.returned (.tuple #[])/\(∃l8,LwB s x N (cnt+within f2 c H) W H D K L (o++ei W K D f1 s1 f2 c pl cl cnt (within f2 c H)) l8 (dZ W K D f1 s1 f2 c pl (within f2 c H)))/\FrN x N w s:=by
 obtain⟨f9,g0,rfl⟩:=f5.form;obtain⟨j2,j3,rfl⟩:=f7.form;have b8:Kept w (w.alloc (Obj.cells #[.int .i64 f1,.int .i64 s1,.int .i64 b1,.int .i64 f2,.int .i64 c,.int .i64 b2] 146)):=Xw (Xs _ _) (E _) _;obtain⟨j,a2⟩:∃j:Nat->Prop,j=λg=>g=x\/(N<=g/\g≠w.heap.size):=⟨_,rfl⟩
 have j4:=Xq h.lt h.size;have b9:∀g,j g->g=x\/N<=g:=by intro g T;rw[a2] at T;rcases T with m|⟨m,_⟩;exact Or.inl m;exact R m
 have g1:¬j w.heap.size:=by rw[a2];rintro(m|⟨_,m⟩);omega;exact m rfl
 have d8:ZH0 (eI x N cnt W H D K L o row abv j w (w.alloc (Obj.cells #[.int .i64 f1,.int .i64 s1,.int .i64 b1,.int .i64 f2,.int .i64 c,.int .i64 b2] 146))):=by
  refine⟨h.kept b8,Fr.of_kept b8,?_⟩;have d9:=j4;refine⟨by rw[a2];exact Or.inl rfl,λg T => ?_,λp1 g c0 l9 => ?_⟩
  .rw[a2];simp at T;have:=h.size;exact R ⟨O,O⟩
  .rw[b8.cell (p:=⟨x,5,none⟩) j4] at c0
   obtain⟨p2,e0,m0⟩:=h.o;rw[c0] at e0
   injection e0 with e0
   subst e0
   have:=m0.2.lt g l9
   rw[a2];exact R ⟨this.1,O⟩
 have a3:∀d k,#[Value.int .i64 f1,.int .i64 s1,.int .i64 b1,.int .i64 f2,.int .i64 c,.int .i64 b2][d]? = some k->(w.alloc (Obj.cells #[.int .i64 f1,.int .i64 s1,.int .i64 b1,.int .i64 f2,.int .i64 c,.int .i64 b2] 146)).cell? ⟨w.heap.size,d,none⟩=some k:=by
  intro d k t;rw[Xr _ _ _ _ rfl];exact t
 have U:=a3 0 _ rfl;have a6:=a3 1 _ rfl;have a7:=a3 2 _ rfl;have c1:=a3 3 _ rfl;have c2:=a3 4 _ rfl;have c3:=a3 5 _ rfl;have e1:=d8.o.lw.c0;have c0:=d8.o.lw.c1;have g2:ZH0 (∀(b:World) (G a8 f:Nat) (g3:Int),G<=8->1<=a8->a8<=8->f<=16->Calls prog 130 #[.agg #[.int .i64 G,.int .i64 a8,.int .i64 g3],.int .i64 f] b λi s=>i=.returned (.int .i64 (within G a8 f))/\Kept b s):=λb G a8 f g3 m1 m2 m3 m4=>ma G a8 f g3 b m1 m2 m3 m4
 clear a3;replace b8:ZH0 _:=b8;go_enter func96,ntmps96;go_wp2_with fail;generalize (w.alloc (Obj.cells #[.int .i64 f1,.int .i64 s1,.int .i64 b1,.int .i64 f2,.int .i64 c,.int .i64 b2] 146))=j5 at *;have u:=B _ _ U;have j6:=B _ _ e1;obtain⟨v,V⟩:∃C,C=within f1 s1 W:=⟨_,rfl⟩;obtain⟨M,a9⟩:∃C,C=within f2 c H:=⟨_,rfl⟩;have j7:v<=16:=by rw[V];exact ks f4
 have p3:M<=16:=by rw[a9];exact ks i2
 have c4:=λ(b:World)=>g2.o b f1 s1 W b1 i3 l5 i4 f4
 have c5:=λ(b:World)=>g2.o b f2 c H b2 i5 l6 i6 i2
 rw[<-V] at c4;rw[<-a9] at c5;replace c4:ZH0 _:=c4;replace c5:ZH0 _:=c5;have c6:ZH0 (∀a,ei W K D f1 s1 f2 c pl cl cnt (a+1)=ei W K D f1 s1 f2 c pl cl cnt a++ez K D (cl.getD ((cnt+a)%cl.length) 0).toNat ((v*(chan K*D)+7)/8) (hM W K D f1 s1 f2 c pl a) (dZ W K D f1 s1 f2 c pl a)):=λa=>by rw[V];rfl
 have g4:ZH0 (∀a,(ei W K D f1 s1 f2 c pl cl cnt a).length=a*(1+(v*(chan K*D)+7)/8)):=λa=>by rw[V];exact gl W K D f1 s1 f2 c pl cl cnt a
 have j8:ZH0 (ei W K D f1 s1 f2 c pl cl cnt 0=[]):=rfl;have j9:ZH0 (dZ W K D f1 s1 f2 c pl 0=λ_=>0):=rfl;have g5:ZH0 (∀a,dZ W K D f1 s1 f2 c pl (a+1)=hM W K D f1 s1 f2 c pl a):=λ_=>rfl
 have k0:ZH0 (∀a,hM W K D f1 s1 f2 c pl a=gQ D (chan K) pl (λC=>((f2+a*c)*W+(f1+C*s1))*chan K) v):=λa=>by rw[V];rfl
 rw[<-V] at j1;rw[<-V,<-a9] at f8;replace a9:ZH0 (M=within f2 c H):=a9;obtain⟨y,e2⟩:∃y,y=ei W K D f1 s1 f2 c pl cl cnt:=⟨_,rfl⟩;obtain⟨a4,e3⟩:∃a4,a4=dZ W K D f1 s1 f2 c pl:=⟨_,rfl⟩;obtain⟨c7,k1⟩:∃c7,c7=hM W K D f1 s1 f2 c pl:=⟨_,rfl⟩;rw[<-e2] at c6 g4 j8;rw[<-e3] at c6 j9 g5;rw[<-k1] at c6 g5 k0;replace e2:ZH0 (y=ei W K D f1 s1 f2 c pl cl cnt):=e2;replace e3:ZH0 (a4=dZ W K D f1 s1 f2 c pl):=e3;clear k1;clear V;go_region_held3 (λb=>b.cell? ⟨w.heap.size,0,none⟩=some (.int .i64 f1)/\b.cell? ⟨w.heap.size,1,none⟩=some (.int .i64 s1)/\b.cell? ⟨w.heap.size,2,none⟩=some (.int .i64 b1)/\b.cell? ⟨x,0,none⟩=some (.int .i64 W)) (first|exact⟨U,a6,a7,e1⟩|exact c8|go_keep) ((go_at_call 130;refine X9 (c4.o _) ?_;rintro i c9 ⟨rfl,b0⟩;have c8:c9.cell? ⟨w.heap.size,0,none⟩=some (.int .i64 f1)/\c9.cell? ⟨w.heap.size,1,none⟩=some (.int .i64 s1)/\c9.cell? ⟨w.heap.size,2,none⟩=some (.int .i64 b1)/\c9.cell? ⟨x,0,none⟩=some (.int .i64 W):=⟨(b0.cell (p:=⟨w.heap.size,0,none⟩) u).trans U,(b0.cell (p:=⟨w.heap.size,1,none⟩) u).trans a6,(b0.cell (p:=⟨w.heap.size,2,none⟩) u).trans a7,(b0.cell (p:=⟨x,0,none⟩) j6).trans e1⟩))
 have X:=Kept.trans ((Kept.refl _).drewN 1) b0;have e4:=(X.cell (p:=⟨w.heap.size,3,none⟩) u).trans c1;have g6:=(X.cell (p:=⟨w.heap.size,4,none⟩) u).trans c2;have g7:=(X.cell (p:=⟨w.heap.size,5,none⟩) u).trans c3;have e5:=(X.cell (p:=⟨x,1,none⟩) j6).trans c0;have g8:=B _ _ e4;replace X:ZH0 (Kept j5 c9):=X;clear b0 c8;go_wp2_with fail;go_region_held3 (λb=>b.cell? ⟨w.heap.size,3,none⟩=some (.int .i64 f2)/\b.cell? ⟨w.heap.size,4,none⟩=some (.int .i64 c)/\b.cell? ⟨w.heap.size,5,none⟩=some (.int .i64 b2)/\b.cell? ⟨x,1,none⟩=some (.int .i64 H)) (first|exact⟨e4,g6,g7,e5⟩|exact c8|go_keep) ((go_at_call 130;refine X9 (c5.o _) ?_;rintro i P ⟨rfl,b3⟩;have c8:P.cell? ⟨w.heap.size,3,none⟩=some (.int .i64 f2)/\P.cell? ⟨w.heap.size,4,none⟩=some (.int .i64 c)/\P.cell? ⟨w.heap.size,5,none⟩=some (.int .i64 b2)/\P.cell? ⟨x,1,none⟩=some (.int .i64 H):=⟨(b3.cell (p:=⟨w.heap.size,3,none⟩) g8).trans e4,(b3.cell (p:=⟨w.heap.size,4,none⟩) g8).trans g6,(b3.cell (p:=⟨w.heap.size,5,none⟩) g8).trans g7,(b3.cell (p:=⟨x,1,none⟩) (B _ _ e5)).trans e5⟩))
 have a5:ZH0 (Kept j5 P):=X.o.trans (Kept.trans ((Kept.refl _).drewN 1) b3);have g9:ZH0 _:=d8.o.kept a5.o;have h0:ZH0 ((∀d k,#[Value.int .i64 f1,.int .i64 s1,.int .i64 b1,.int .i64 f2,.int .i64 c,.int .i64 b2][d]? = some k->P.cell? ⟨w.heap.size,d,none⟩=some k)):=by
  intro d k t
  have:d=0\/d=1\/d=2\/d=3\/d=4\/d=5:=by
   have:=(Array.getElem?_eq_some_iff.1 t).1
   simp at this;omega
  rcases this with rfl|rfl|rfl|rfl|rfl|rfl
  .rw[a5.o.cell (p:=⟨w.heap.size,0,none⟩) u,U,<-t];rfl
  .rw[a5.o.cell (p:=⟨w.heap.size,1,none⟩) u,a6,<-t];rfl
  .rw[a5.o.cell (p:=⟨w.heap.size,2,none⟩) u,a7,<-t];rfl
  .rw[a5.o.cell (p:=⟨w.heap.size,3,none⟩) u,c1,<-t];rfl
  .rw[a5.o.cell (p:=⟨w.heap.size,4,none⟩) u,c2,<-t];rfl
  .rw[a5.o.cell (p:=⟨w.heap.size,5,none⟩) u,c3,<-t];rfl
 clear b3 c8 e4 g6 g7 e5 U a6 a7 c1 c2 c3 e1 c0 X c4 c5 g2 d8;have p4:=j1;have p5:((v:Int)==0)=false:=Xa;have h1:=oQ x N o.length cnt W H D K L P g9.o.lw.at' d7;have m5:chan K*D<=64:=Xz (XF (@bI K).2 (show D<=16 by have:=d7.d;omega)) Xh;have h2:=f8;replace h2:ZH0 _:=h2;clear f8;generalize chan K*D=d0 at *;replace h1:ZH0 (Calls prog 131 #[.pointer (some ⟨x,0,none⟩)] P λi s=>i=.returned (.int .i64 d0)/\Kept P s):=h1;have p6:v*d0<=1024:=Xz (XF j7 m5) Xh;have p7:(v:Int)*(d0:Int)=((v*d0:Nat):Int):=Xi;generalize v*d0=k2 at *;obtain⟨Z,k3⟩:∃Z,Z=(k2+7)/8:=⟨_,rfl⟩;rw[<-k3] at c6 g4;have m6:((k2:Int)+7)/8=(Z:Int):=O;have m7:Z<=128:=O;clear k3;go_wp2_with fail;refine h1.o.mono ?_;rintro i d1 ⟨rfl,h3⟩;have d2:ZH0 _:=g9.o.kept h3;have d3:ZH0 (d1.there x 135 (zeroCells90).toList.length):=by
  intro e l;rw[kM] at l;have h4:=d2.o.lw.abvc e l;exact⟨by rw[h4];rfl,d2.o.lw.fz _⟩
 have k4:(storeCells ⟨x,135,none⟩ (zeroCells90).toList).run prog d1=.ok () (d1.setCells x 135 (zeroCells90).toList):=bl d3.o (ia kM rK);have k5:ZH0 _:=d2.o.lxb ⟨d2.o.lw.layA _ (λ_=>0) kM oG (λ_=>O),Fr.setCells (S:=λd=>d=x) (Fr.refl _ _) (Or.inl rfl) _ _ (Fr.refl _ _),YS x _ 135 _ ⟨x,5,none⟩ (λ_ _=>Or.inl (by show 5<135;omega))⟩;have m8:=B _ _ (h0.o 0 _ rfl);have k6:ZH0 ((∀d k,#[Value.int .i64 f1,.int .i64 s1,.int .i64 b1,.int .i64 f2,.int .i64 c,.int .i64 b2][d]? = some k->(d1.setCells x 135 (zeroCells90).toList).cell? ⟨w.heap.size,d,none⟩=some k)):=by
  intro d k t;rw[YS x _ 135 _ ⟨w.heap.size,d,none⟩ (λm _=>by simp at m;omega),h3.cell (p:=⟨w.heap.size,d,none⟩) m8];exact h0.o d k t
 clear h3 d3 g9 h0;go_wp2;generalize d1.setCells x 135 (zeroCells90).toList=p8 at *;clear k4;have k7:ZH0 (∀b,Fr j w b->LAt b .i64 (.slice f9 pl.length g0) pl/\LAt b .i64 (.slice j2 cl.length j3) cl):=λb G=>⟨f5.fr G (λg T m=>f6 g T (b9 g m)),f7.fr G (λg T m=>i8 g T (b9 g m))⟩
 have m9:ZH0 (∀(b:World) (f:List Int) (n I:Nat->Nat) (Q e:Nat),eI x N Q W H D K L f n I j w b->e<M->Calls prog 132 #[.pointer (some ⟨x,0,none⟩),.agg #[.int .i64 f1,.int .i64 s1,.int .i64 b1,.int .i64 f2,.int .i64 c,.int .i64 b2],.int .i64 e,.int .i64 v,.slice f9 pl.length g0] b λi s=>i=.returned (.tuple #[])/\LxB x N Q W H D K L f (c7 e) I b s):=λb f n I Q e d4 l=>by rw[k0.o e];exact AW x N Q W H D K L f1 s1 f2 c e v b1 b2 _ pl f n I b d4.lw d7 f4 i3 i4 i5 i6 O j7 (k7.o b d4.fr).1 f6 l7 i7 (λC d n0 n1=>h2.o e C d l n0 n1)
 have n2:ZH0 (∀(b:World) (d:Nat),Fr j w b->d<=131072->Calls prog 100 #[.slice j2 cl.length j3,.int .i64 d] b λi s=>i=.returned (.int .i64 (cl.getD (d%cl.length) 0))/\Kept b s):=λb d G p9=>ky _ cl d b (k7.o b G).2 i9 O O
 have n3:ZH0 (∀(b:World) (f:List Int) (n I:Nat->Nat) (Q J:Nat),eI x N Q W H D K L f n I j w b->J<=4->f.length<=1048576->Calls prog 133 #[.pointer (some ⟨x,0,none⟩),.int .u8 J,.int .i64 Z] b λi s=>i=.returned (.tuple #[])/\eI x N Q W H D K L (f++ez K D J Z n I) n I j b s):=λb f n I Q J d4 b4 e6=>tW x N Q W H D K L J Z f n I b d4.lw d7 b4 m7 e6 j d4.ls
 have n4:ZH0 _:=j0;clear f5 f7 f6 i8 i7 j0 h d2;replace a2:ZH0 _:=a2;replace b9:ZH0 (∀g,j g->g=x\/N<=g):=b9;replace g1:ZH0 (¬j w.heap.size):=g1;rw[m6];go_loopw [11] (λe7 b=>∃a:Nat,a<=M/\e7=.int .i64 a/\(∃n,eI x N (cnt+a) W H D K L (o++y a) n (a4 a) j w b)/\(∀d k,#[Value.int .i64 f1,.int .i64 s1,.int .i64 b1,.int .i64 f2,.int .i64 c,.int .i64 b2][d]? = some k->b.cell? ⟨w.heap.size,d,none⟩=some k)) (λe7 _=>M-(intOf e7).toNat)
 case atStart=>exact⟨0,O,rfl,by rw[j8.o,j9.o,XN];exact⟨_,k5.o⟩,k6.o⟩
 case round=>
  obtain⟨a,q0,rfl,⟨n,z⟩,A⟩:=hrel;clear k5 k6;by_cases n5:a<M
  .have n6:(a:Int)<(M:Int):=O
   have U:=A 0 _ rfl;have a6:=A 1 _ rfl;have a7:=A 2 _ rfl;have c1:=A 3 _ rfl;have c2:=A 4 _ rfl;have c3:=A 5 _ rfl;have n7:=B _ _ U;have n8:a*(1+Z)<=2064:=Xz (XF (show a<=16 from O) (show 1+Z<=129 from O)) Xh;have e8:(o++y a).length<=67700:=by rw[Xv,g4.o a];omega
   have b5:ZH0 (o++y (a+1)=o++y a++ez K D (cl.getD ((cnt+a)%cl.length) 0).toNat Z (c7 a) (a4 a)):=by show o++y (a+1)=_;rw[c6.o a,XY]
   have k8:ZH0 _:=g5.o a;obtain⟨f,e6⟩:∃f,f=o++y a:=⟨_,rfl⟩;rw[<-e6] at z e8 b5;clear e6 n8;replace e8:ZH0 _:=e8;have b6:=m9.o wr f n _ (cnt+a) a z n5;obtain⟨Y,k9⟩:∃Y,Y=c7 a:=⟨_,rfl⟩;obtain⟨d5,l0⟩:∃d5,d5=a4 a:=⟨_,rfl⟩;rw[<-k9] at b6 b5 k8;rw[<-l0] at b6 b5 z;clear k9 l0;replace b6:ZH0 (Calls prog 132 #[.pointer (some ⟨x,0,none⟩),.agg #[.int .i64 f1,.int .i64 s1,.int .i64 b1,.int .i64 f2,.int .i64 c,.int .i64 b2],.int .i64 a,.int .i64 v,.slice f9 pl.length g0] wr λi s=>i=.returned (.tuple #[])/\LxB x N (cnt+a) W H D K L f Y d5 wr s):=b6;replace z:ZH0 (eI x N (cnt+a) W H D K L f n d5 j w wr):=z;replace A:ZH0 _:=A;obtain⟨q,e9⟩:∃q,q=cnt+a:=⟨_,rfl⟩;rw[<-e9] at b6 z b5;have q1:q<=65552:=O;replace e9:ZH0 (q=cnt+a):=e9;go_wp2_with fail;refine b6.o.mono ?_;rintro i l1 ⟨rfl,d9⟩;have f0:ZH0 _:=z.o.lxb d9;have n9:ZH0 (Fr j wr l1):=d9.fr.mono (λg _ m=>by rw[m];exact f0.o.ls.sx);have o0:=f0.o.lw.cn;clear d9 U a6 a7 c1 c2 c3;go_wp2_with fail;refine(n2.o l1 q f0.o.fr O).mono ?_;rintro i o1 ⟨rfl,h5⟩;obtain⟨J,b4⟩:∃J:Nat,cl.getD (q%cl.length) 0=(J:Int)/\J<=4:=by
    have:=n4.o _ (az (YD q i9))
    exact⟨(cl.getD (q%cl.length) 0).toNat,O,O⟩
   rw[b4.1];rw[b4.1,YQ] at b5;have o2:=b4.2;clear b4;have l2:ZH0 _:=f0.o.kept h5;have o3:ZH0 _:=n9.o.kept h5;clear h5 o0;go_wp2_with fail;refine(n3.o o1 f _ _ q J l2.o o2 (by have:=e8.o;omega)).mono ?_;rintro i a0 ⟨rfl,h6⟩;have a1:ZH0 (eI x N q W H D K L (o++y (a+1)) Y d5 j w a0):=by rw[b5.o];exact l2.o.trans h6
   have l3:ZH0 _:=o3.o.trans h6.fr;clear h6;obtain⟨r,h7⟩:∃r:List Value,r=(List.range 128).map (λe=>Value.int .u8 (Y e)):=⟨_,rfl⟩;have f3:r.length=128:=by rw[h7];simp
   have h8:ZH0 (∀e,e<128->r[e]? = some (.int .u8 (Y e))):=λe l=>by rw[h7,XQ,Yp l];rfl
   have h9:∀e,e<128->∃i0:Int,0<=i0/\i0<256/\r[e]? = some (.int .u8 i0):=λe l=>⟨_,O,by have:=a1.o.lw.rb e;omega,h8.o e l⟩
   have i1:a0.rangeAt x 7 r:=λe e7 l=>by
    have l4:e<128:=by have:=(Yb.1 l).1;omega
    rw[h8.o e l4] at l
    injection l with l
    rw[<-l];exact a1.o.lw.rowc e l4
   clear h7;have d3:ZH0 (a0.there x 135 r.length):=by
    intro e l;rw[f3] at l;have h4:=a1.o.lw.abvc e l;exact⟨by rw[h4];rfl,a1.o.lw.fz _⟩
   have k4:(storeCells ⟨x,135,none⟩ r).run prog a0=.ok () (a0.setCells x 135 r):=bl d3.o (ia f3 h9);have o4:ZH0 ((prog.info? 90).map (·.size)=some r.length):=by show _=_;rw[f3];exact CO
   have d6:ZH0 (eI x N q W H D K L (o++y (a+1)) Y (a4 (a+1)) j w (a0.setCells x 135 r)):=a1.o.lxb ⟨by rw[k8.o];exact a1.o.lw.layA r Y f3 h8.o a1.o.lw.rb,Fr.setCells (S:=λd=>d=x) (Fr.refl _ _) (Or.inl rfl) _ _ (Fr.refl _ _),YS x _ 135 _ ⟨x,5,none⟩ (λ_ _=>Or.inl (by show 5<135;omega))⟩;have o5:ZH0 (Fr j wr (a0.setCells x 135 r)):=Fr.setCells l3.o (Or.inl a1.o.ls.sx) _ _ l3.o;have q2:=d6.o.lw.cn;have q3:=d6.o.lw.fz 6;replace i1:ZH0 _:=i1;replace h9:ZH0 _:=h9;clear d3;go_wp2;refine wp_load_mid 90 _ rfl x 7 rfl r _ i1.o underlying90 rfl o4.o ?_;go_wp2;generalize a0.setCells x 135 r=q4 at *;have o6:(q:Int)+1=((q+1:Nat):Int):=Xi;rw[o6];refine⟨⟨a+1,O,Xj,?_,?_⟩,Xb⟩
   .rw[show cnt+(a+1)=q+1 by have:=e9.o;omega]
    exact⟨_,d6.o.lxb ⟨d6.o.lw.setCnt (q+1),Fr1.set (Fr1.refl x _) _ _,aa _ _ _ _ _ O⟩⟩
   .intro d k t
    exact((o5.o.setCell (Or.inl d6.o.ls.sx) _ _).cell n7 g1.o).trans (A.o d k t)
  .have o7:a=M:=O
   have n6:¬(a:Int)<(M:Int):=O;subst o7;replace z:ZH0 _:=z;replace A:ZH0 _:=A;go_wp2;go_end0
   refine⟨rfl,⟨n,?_⟩,z.o.fr.mono (λg _ m=>b9.o g m)⟩;rw[<-a9.o,<-e2.o,<-e3.o];exact z.o.lw
end Go.Proofs.YtbedkdnphobmlaaGreatDoor
namespace Go.Proofs.YtbedkdnphobmlaaGreatDoor
open Go.RowKit Tryz
theorem zh(L:Nat)w(h:L<=1):Calls prog 94 #[.int .i64 L] w λa b=>a=.returned (.int .i64 ((if L=1 then 7 else 1:Nat):Int))/\b=w:=by
 have:L=0\/L=1:=O
 rcases this with rfl|rfl
 all_goals
  go_enter func94,ntmps94;go_wp2;go_ret;exact⟨rfl,rfl⟩
def fJ:List Int:=[0,0,8,8,8,8,4,0,8,8,4,8,0,4,4,8,4,4,2,0,4,4,2,4,0,2,2,4,2,2,1,0,2,2,1,2,0,1,1,2,1,1]
def aV(w:World):Prop:=(∀j,j<42->w.cell? ⟨0,j,none⟩=some (.int .i64 (fJ.getD j 0)))/\ep w
theorem aV.kept{w w'}(h:aV w)(k:Kept w w'):aV w':=⟨λa b=>(k.cell (p:=⟨0,a,none⟩) (B _ _ (h.1 a b))).trans (h.1 a b),h.2.kept k⟩
theorem aV.fr{S:Nat->Prop}{w w'}(h:aV w)(k:Fr S w w')(a:∀b,b<5->¬S b):aV w':=⟨λc d=>(k.cell (B _ _ (h.1 c d)) (a 0 Xh)).trans (h.1 c d),h.2.fr k (a 1 Xh) (a 4 Xh) (a 2 Xh) (a 3 Xh)⟩
theorem aV.lt{w}(h:aV w):4<w.heap.size:=by
 have a:=B _ _ (h.1 0 O);have b:=B _ _ (h.2.len 0 O);have c:=B _ _ (h.2.lbt 0 O);have d:=B _ _ (h.2.dis 0 O);have e:=B _ _ (h.2.ord 0 O);simp at a b c d e;omega
theorem vU:zeroCells142=#[.int .i64 0,.int .i64 0,.int .i64 0,.int .i64 0,.int .i64 0,.slice none 0 0,.int .i64 0]++Array.replicate 256 (.int .u8 0):=Xk
theorem CM:(zeroCells142).toList.length=263:=by rw[vU,Array.toList_append,Array.toList_replicate,Xv,XE];rfl
theorem yL(b H D K L:Nat):∃a:List Value,(((((zeroCells142.toList.set 0 (.int .i64 b)).set 1 (.int .i64 H)).set 2 (.int .i64 D)).set 3 (.int .i64 K)).set 4 (.int .i64 L))=a/\a.length=263/\a[0]? = some (.int .i64 b)/\a[1]? = some (.int .i64 H)/\a[2]? = some (.int .i64 D)/\a[3]? = some (.int .i64 K)/\a[4]? = some (.int .i64 L)/\a[5]? = some (.slice none 0 0)/\a[6]? = some (.int .i64 0)/\(∀c,c<256->a[7+c]? = some (.int .u8 0))/\(∀e∈a,e.oneCell'=true):=by
 have f:(((((zeroCells142.toList.set 0 (.int .i64 b)).set 1 (.int .i64 H)).set 2 (.int .i64 D)).set 3 (.int .i64 K)).set 4 (.int .i64 L))=[.int .i64 b,.int .i64 H,.int .i64 D,.int .i64 K,.int .i64 L,.slice none 0 0,.int .i64 0]++List.replicate 256 (.int .u8 0):=by
  rw[vU,Array.toList_append,Array.toList_replicate];rfl
 refine⟨_,f,by rw[Xv,XE];rfl,rfl,rfl,rfl,rfl,rfl,rfl,rfl,?_,?_⟩
 .intro c g
  rw[XP Xi];rw[show 7+c-[Value.int .i64 b,.int .i64 H,.int .i64 D,.int .i64 K,.int .i64 L,.slice none 0 0,.int .i64 0].length=c from Xi,Zj,I g]
 .intro e h
  rcases XW.1 h with d|d
  .simp at d
   rcases d with rfl|rfl|rfl|rfl|rfl|rfl|rfl<;>rfl
  .rw[(Yt.1 d).2];rfl
end Go.Proofs.YtbedkdnphobmlaaGreatDoor
namespace Go.Proofs.YtbedkdnphobmlaaGreatDoor
open Go.RowKit Px Tryz
theorem H3(W H C i c k:Nat)(h1:i<H)(h2:c<W)(h3:k<C):((0+i*1)*W+(0+c*1))*C+k<W*H*C:=by
 have e1:(i+1)*W<=H*W:=Nat.mul_le_mul_right _ h1;rw[Nat.add_mul,Nat.one_mul] at e1;have e2:(i*W+c+1)*C<=H*W*C:=Nat.mul_le_mul_right _ (by omega);rw[Nat.add_mul _ 1,Nat.one_mul] at e2;rw[Nat.mul_comm W H,Nat.zero_add,Nat.mul_one,Nat.zero_add,Nat.mul_one];omega
end Go.Proofs.YtbedkdnphobmlaaGreatDoor
namespace Px
def db(D n T j0:Nat)(pix:List Int):Nat->Nat
 | 0=>0
 | m+1=>db D n T j0 pix m*2^D+(if j0+m<n then(pix.getD (T+(j0+m)) 0).toNat else 0)
theorem mL(D n T j0:Nat)(pix:List Int)(h:∀y∈pix,0<=y/\y<((2^D:Nat):Int)):∀m,db D n T j0 pix m<2^(D*m)
 | 0=>by show 0<_;exact Nat.two_pow_pos _
 | m+1=>by
  have ih:=mL D n T j0 pix h m;have hb:(if j0+m<n then(pix.getD (T+(j0+m)) 0).toNat else 0)<2^D:=by
   split
   .by_cases hl:T+(j0+m)<pix.length
    .have:=h (pix.getD (T+(j0+m)) 0) (by rw[List.getD_eq_getElem?_getD,List.getElem?_eq_getElem hl];exact List.getElem_mem hl)
     omega
    .rw[List.getD_eq_getElem?_getD,List.getElem?_eq_none (by omega)];exact Nat.two_pow_pos _
   .exact Nat.two_pow_pos _
  show db D n T j0 pix m*2^D+_<_
  have e:2^(D*(m+1))=2^(D*m)*2^D:=by rw[Nat.mul_add,Nat.pow_add,Nat.mul_one]
  rw[e]
  have:(db D n T j0 pix m+1)*2^D<=2^(D*m)*2^D:=Nat.mul_le_mul_right _ ih
  rw[Nat.add_mul,Nat.one_mul] at this;omega
end Px
namespace Go.Proofs.YtbedkdnphobmlaaGreatDoor
open Go.RowKit Px Tryz
theorem kN(D:Nat)(pl:List Int)(A B:Nat)(z:Nat->Nat):∀k,bE D pl (A+B) B (bE D pl A 0 z B) k=bE D pl A 0 z (B+k)
 | 0=>rfl
 | k+1=>by
  show de D (bE D pl (A+B) B (bE D pl A 0 z B) k) (B+k) (pl.getD (A+B+k) 0).toNat=de D (bE D pl A 0 z (B+k)) (0+(B+k)) (pl.getD (A+(B+k)) 0).toNat
  rw[kN D pl A B z k,Nat.zero_add,Nat.add_assoc]
theorem gG(pl:List Int)(A:Nat):∀(n j:Nat),bE 16 pl A 0 (λ_=>0) n j=if j<2*n then(if j%2=0 then(pl.getD (A+j/2) 0).toNat/256 else(pl.getD (A+j/2) 0).toNat%256) else 0
 | 0,j=>by rw[if_neg (by omega)];rfl
 | n+1,j=>by
  show de 16 (bE 16 pl A 0 (λ_=>0) n) (0+n) (pl.getD (A+n) 0).toNat j=_
  unfold de;rw[if_neg (by omega),Nat.zero_add,show n*16/8=2*n by omega];by_cases h1:j=2*n+1
  .subst h1
   rw[upd_same,if_pos (by omega),if_neg (by omega),show(2*n+1)/2=n by omega]
  .rw[upd_ne _ _ _ h1]
   by_cases h2:j=2*n
   .subst h2
    rw[upd_same,if_pos (by omega),if_pos (by omega),show 2*n/2=n by omega]
   .rw[upd_ne _ _ _ h2,gG pl A n j]
    by_cases h3:j<2*n
    .rw[if_pos h3,if_pos (show j<2*(n+1) by omega)]
    .rw[if_neg h3,if_neg (show ¬j<2*(n+1) by omega)]
theorem Am(x g:Nat)(hx:x<256)(hg:g<256):((x+256-g)%256+g)%256=x:=by omega
end Go.Proofs.YtbedkdnphobmlaaGreatDoor
namespace Px
theorem jd D n n' T j0 pix:∀m,(∀i,i<m->(j0+i<n↔j0+i<n'))->db D n T j0 pix m=db D n' T j0 pix m
 | 0,_=>rfl
 | m+1,b=>by
  show db D n T j0 pix m*2^D+(if j0+m<n then _ else _)=db D n' T j0 pix m*2^D+(if j0+m<n' then _ else _)
  rw[jd D n n' T j0 pix m (λi d=>b i O)]
  have:=b m O
  by_cases a:j0+m<n
  .rw[I a,I (this.1 a)]
  .rw[N a,N (λc=>a (this.2 c))]
theorem gE D n T j0 m pix(h:n<=j0+m):∀a,db D n T j0 pix (m+a)=db D n T j0 pix m*2^(D*a)
 | 0=>by rw[Nat.mul_zero,Nat.pow_zero,Nat.mul_one];rfl
 | a+1=>by
  show db D n T j0 pix (m+a)*2^D+(if j0+(m+a)<n then _ else _)=_
  rw[N,gE D n T j0 m pix h a,X5,Y3,<-Nat.pow_add,Nat.mul_add,Nat.mul_one]
theorem Hr a v i e(h:v*2^e<2^i):a*2^i ||| v*2^e=a*2^i+v*2^e:=by
 have:=YW (b:=v*2^e) (i:=i) h a
 rw[Nat.shiftLeft_eq] at this;exact this.symm
end Px
namespace Go.Proofs.YtbedkdnphobmlaaGreatDoor
open Go.RowKit Px Tryz
theorem uZ D per n(a:D=1/\per=8\/D=2/\per=4\/D=4/\per=2\/D=8/\per=1):n*D/8=n/per/\8-n*D%8-D=D*(per-1-n%per)/\n=per*(n/per)+n%per/\n%per<per/\D*(per-1-n%per)+D<=8:=by
 rcases a with⟨rfl,rfl⟩|⟨rfl,rfl⟩|⟨rfl,rfl⟩|⟨rfl,rfl⟩<;>omega
theorem nf D per(f:D=1/\per=8\/D=2/\per=4\/D=4/\per=2\/D=8/\per=1)pl A(g:∀h∈pl,0<=h/\h<((2^D:Nat):Int)):∀(n j:Nat),bE D pl A 0 (λ_=>0) n j=db D n A (per*j) pl per
 | 0,j=>by
  have:=gE D 0 A (per*j) 0 pl O per
  rw[XD] at this;rw[this];show 0=0*_
  rw[Nat.zero_mul]
 | n+1,j=>by
  have i:=nf D per f pl A g n;obtain⟨r,s,d,t,k⟩:=uZ D per n f;show de D (bE D pl A 0 (λ_=>0) n) (0+n) (pl.getD (A+n) 0).toNat j=_
  unfold de;rw[I,XD,r,s];have u:(pl.getD (A+n) 0).toNat<2^D:=by
   by_cases l:A+n<pl.length
   .have:=g (pl.getD (A+n) 0) (by rw[G,Xt l];exact YU l)
    omega
   .rw[G,XX O];exact Nat.two_pow_pos _
  by_cases e:j=n/per
  .subst e
   rw[upd_same,i];obtain⟨a,v⟩:∃a,a=n%per:=⟨_,rfl⟩;obtain⟨c,w⟩:∃c,c=per*(n/per):=⟨_,rfl⟩;obtain⟨b,x⟩:∃b,b=per-1-n%per:=⟨_,rfl⟩;rw[<-v] at d t;rw[<-w] at d ⊢;rw[<-x] at k ⊢;have m:per=a+(b+1):=O;have y:db D n A c pl per=db D n A c pl a*2^(D*(b+1)):=by rw[m];exact gE D n A c a pl O (b+1)
   have z:db D (n+1) A c pl per=db D (n+1) A c pl (a+1)*2^(D*b):=by rw[m,show a+(b+1)=a+1+b from O];exact gE D (n+1) A c (a+1) pl O b
   have B:db D (n+1) A c pl (a+1)=db D n A c pl a*2^D+(pl.getD (A+n) 0).toNat:=by
    show db D (n+1) A c pl a*2^D+(if c+a<n+1 then(pl.getD (A+(c+a)) 0).toNat else 0)=_
    rw[I,<-d,jd D (n+1) n A c pl a (λo p=>O)]
   generalize (pl.getD (A+n) 0).toNat=C at *;have q:C*2^(D*b)<2^(D*(b+1)):=by
    rw[Nat.mul_add,Nat.mul_one,Nat.pow_add,Zk (2^(D*b))];exact Nat.mul_lt_mul_of_pos_right u (Nat.two_pow_pos _)
   have E:2^(D*(b+1))<=256:=by
    rw[Nat.mul_add,Nat.mul_one];exact Xz (XH O k) Xh
   rw[X1 (Xq q E),y,z,B,Hr _ _ _ _ q,YO,Y3,<-Nat.pow_add,show D+D*b=D*(b+1) by rw[Nat.mul_add,Nat.mul_one];omega]
  .rw[upd_ne _ _ _ e,i]
   refine jd D n (n+1) A (per*j) pl per (λo p => ?_)
   have:per*j+o≠n:=by
    intro F;apply e;rw[<-F,Nat.mul_add_div O,Nat.div_eq_of_lt p,X5]
   omega
structure tV (L P V:Nat) (fl kl cl:List Int):Prop where
 l:L<=1
 p1:1<=P
 p2:P<=1048576
 v:V<=7
 f0:0<fl.length
 f1:fl.length<=64
 fb:∀y∈fl,0<=y/\y<=4
 k0:0<kl.length
 k1:kl.length<=64
 kb:∀y∈kl,0<=y/\y<=2
 c0:0<cl.length
 c1:cl.length<=64
 cb:∀y∈cl,0<=y/\y<=65536
 cf:1<=cl.getD 0 0
theorem tC(L P V Z:Nat)fp kp cp fc kc cc fl kl cl w(h:tV L P V fl kl cl)(a0:Z<=64)(K:LAt w .i64 (.slice fp fl.length fc) fl)(M:LAt w .i64 (.slice kp kl.length kc) kl)(N:LAt w .i64 (.slice cp cl.length cc) cl):Calls prog 49 #[.agg #[.int .i64 L,.slice fp fl.length fc,.slice kp kl.length kc,.int .i64 P,.slice cp cl.length cc,.int .i64 V,.int .i64 Z]] w λb d=>b=.returned (.int .i64 0)/\Kept w d:=by
 have i:Kept w (w.alloc (Obj.cells #[.int .i64 L,.slice fp fl.length fc,.slice kp kl.length kc,.int .i64 P,.slice cp cl.length cc,.int .i64 V,.int .i64 Z] 35)):=Xw (Xs _ _) (E _) _;have f:∀c y,#[Value.int .i64 L,.slice fp fl.length fc,.slice kp kl.length kc,.int .i64 P,.slice cp cl.length cc,.int .i64 V,.int .i64 Z][c]? = some y->(w.alloc (Obj.cells #[.int .i64 L,.slice fp fl.length fc,.slice kp kl.length kc,.int .i64 P,.slice cp cl.length cc,.int .i64 V,.int .i64 Z] 35)).cell? ⟨w.heap.size,c,none⟩=some y:=by
  intro c y U;rw[Xr _ _ _ _ rfl];exact U
 have g:w.heap.size<(w.alloc (Obj.cells #[.int .i64 L,.slice fp fl.length fc,.slice kp kl.length kc,.int .i64 P,.slice cp cl.length cc,.int .i64 V,.int .i64 Z] 35)).heap.size:=Xi;have u:ZH0 (∀a:World,Kept (w.alloc (Obj.cells #[.int .i64 L,.slice fp fl.length fc,.slice kp kl.length kc,.int .i64 P,.slice cp cl.length cc,.int .i64 V,.int .i64 Z] 35)) a->(a.cell? ⟨w.heap.size,0,none⟩=some (.int .i64 L)/\a.cell? ⟨w.heap.size,1,none⟩=some (.slice fp fl.length fc)/\a.cell? ⟨w.heap.size,2,none⟩=some (.slice kp kl.length kc)/\a.cell? ⟨w.heap.size,3,none⟩=some (.int .i64 P)/\a.cell? ⟨w.heap.size,4,none⟩=some (.slice cp cl.length cc)/\a.cell? ⟨w.heap.size,5,none⟩=some (.int .i64 V)/\a.cell? ⟨w.heap.size,6,none⟩=some (.int .i64 Z))):=λa c=>⟨(c.cell (p:=⟨w.heap.size,0,none⟩) g).trans (f 0 _ rfl),(c.cell (p:=⟨w.heap.size,1,none⟩) g).trans (f 1 _ rfl),(c.cell (p:=⟨w.heap.size,2,none⟩) g).trans (f 2 _ rfl),(c.cell (p:=⟨w.heap.size,3,none⟩) g).trans (f 3 _ rfl),(c.cell (p:=⟨w.heap.size,4,none⟩) g).trans (f 4 _ rfl),(c.cell (p:=⟨w.heap.size,5,none⟩) g).trans (f 5 _ rfl),(c.cell (p:=⟨w.heap.size,6,none⟩) g).trans (f 6 _ rfl)⟩
 have z:ZH0 (∀(a:World) (e v:Int),0<=e->e<v->Calls prog 64 #[.int .i64 e,.int .i64 v] a λb d=>b=.returned (.bool true)/\d=a):=λa e v A B=>pD e v a A B
 have C:ZH0 (∀(a:World) (D:Option Addr) (e F:Nat),1<=e->e<=64->Calls prog 65 #[.slice D e F] a λb d=>b=.returned (.bool true)/\d=a):=λa D e F A B=>ve D e F a A B
 have W:ZH0 (∀a,Kept (w.alloc (Obj.cells #[.int .i64 L,.slice fp fl.length fc,.slice kp kl.length kc,.int .i64 P,.slice cp cl.length cc,.int .i64 V,.int .i64 Z] 35)) a->Calls prog 66 #[.slice fp fl.length fc,.int .i64 5] a λb d=>b=.returned (.bool true)/\Kept a d):=λa c=>dH _ fl _ _ ((K.kept i).kept c) (by have:=h.f1;omega) (λs t=>by have:=h.fb s t;omega)
 have X:ZH0 (∀a,Kept (w.alloc (Obj.cells #[.int .i64 L,.slice fp fl.length fc,.slice kp kl.length kc,.int .i64 P,.slice cp cl.length cc,.int .i64 V,.int .i64 Z] 35)) a->Calls prog 66 #[.slice kp kl.length kc,.int .i64 3] a λb d=>b=.returned (.bool true)/\Kept a d):=λa c=>dH _ kl _ _ ((M.kept i).kept c) (by have:=h.k1;omega) (λs t=>by have:=h.kb s t;omega)
 have Y:ZH0 (∀a,Kept (w.alloc (Obj.cells #[.int .i64 L,.slice fp fl.length fc,.slice kp kl.length kc,.int .i64 P,.slice cp cl.length cc,.int .i64 V,.int .i64 Z] 35)) a->Calls prog 67 #[.slice cp cl.length cc] a λb d=>b=.returned (.bool true)/\Kept a d):=λa c=>vg _ cl _ ((N.kept i).kept c) h.c0 (by have:=h.c1;omega) (λs t=>(h.cb s t).1) h.cf
 obtain⟨a1,a2,a3,a4,a5,a6,_,a7,a8,_,a9,b0,_,_⟩:=h;clear K M N;have b1:(1:Int)<=(P:Int):=O;replace i:ZH0 _:=i;replace f:ZH0 _:=f;go_enter func49,ntmps49;go_wp2_with fail;generalize (w.alloc (Obj.cells #[.int .i64 L,.slice fp fl.length fc,.slice kp kl.length kc,.int .i64 P,.slice cp cl.length cc,.int .i64 V,.int .i64 Z] 35))=j at *;obtain⟨k,l,m,n,o,q,r⟩:=u.o j (Kept.refl _);refine(z.o _ (L:Int) 2 O O).mono ?_;rintro b j ⟨rfl,rfl⟩;go_wp2_with fail;refine(C.o _ _ _ _ O O).mono ?_;rintro b j ⟨rfl,rfl⟩;go_wp2_with fail;refine(W.o _ (Kept.refl _)).mono ?_;rintro b G ⟨rfl,Q⟩;have H:ZH0 (Kept j G):=Q;clear Q;clear k l m n o q r;obtain⟨k,l,m,n,o,q,r⟩:=u.o G H.o;go_wp2_with fail;refine(C.o _ _ _ _ O O).mono ?_;rintro b G ⟨rfl,rfl⟩;go_wp2_with fail;refine(X.o _ H.o).mono ?_;rintro b I ⟨rfl,R⟩;have J:ZH0 (Kept j I):=H.o.trans R;clear R;clear k l m n o q r;obtain⟨k,l,m,n,o,q,r⟩:=u.o I J.o;go_wp2_with fail;refine(C.o _ _ _ _ O O).mono ?_;rintro b I ⟨rfl,rfl⟩;go_wp2_with fail;refine(Y.o _ J.o).mono ?_;rintro b x ⟨rfl,S⟩;have T:ZH0 (Kept j x):=J.o.trans S;clear S;clear k l m n o q r;obtain⟨k,l,m,n,o,q,r⟩:=u.o x T.o;go_wp2_with fail;refine(z.o _ (V:Int) 8 O O).mono ?_;rintro b x ⟨rfl,rfl⟩;go_wp2_with fail;refine(z.o _ (Z:Int) 65 O O).mono ?_;rintro b x ⟨rfl,rfl⟩;go_wp2;go_ret;exact⟨rfl,Kept.trans i.o T.o⟩
