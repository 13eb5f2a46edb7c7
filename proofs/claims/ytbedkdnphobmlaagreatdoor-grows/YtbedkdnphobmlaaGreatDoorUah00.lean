import Derived.Test.YtbedkdnphobmlaaGreatDoorProg
import Derived.Test.YtbedkdnphobmlaaGreatDoorUaa00
import Derived.Test.YtbedkdnphobmlaaGreatDoorUaa01
import Derived.Test.YtbedkdnphobmlaaGreatDoorUaa02
import Derived.Test.YtbedkdnphobmlaaGreatDoorUaa04
import Derived.Test.YtbedkdnphobmlaaGreatDoorUaa05
import Derived.Test.YtbedkdnphobmlaaGreatDoorUaa12
import Derived.Test.YtbedkdnphobmlaaGreatDoorUaa15
import Derived.Test.YtbedkdnphobmlaaGreatDoorUaa16
import Derived.Test.YtbedkdnphobmlaaGreatDoorUaa17
import Derived.Test.YtbedkdnphobmlaaGreatDoorUaa18
import Derived.Test.YtbedkdnphobmlaaGreatDoorUaa19
import Derived.Test.YtbedkdnphobmlaaGreatDoorUaa23
import Derived.Test.YtbedkdnphobmlaaGreatDoorUab00
import Derived.Test.YtbedkdnphobmlaaGreatDoorUac00
import Derived.Test.YtbedkdnphobmlaaGreatDoorUac01
import Derived.Test.YtbedkdnphobmlaaGreatDoorUac02
import Derived.Test.YtbedkdnphobmlaaGreatDoorUad00
import Derived.Test.YtbedkdnphobmlaaGreatDoorUaf00
set_option linter.all false
set_option maxRecDepth 100000
set_option maxHeartbeats 0
namespace Go.Proofs.YtbedkdnphobmlaaGreatDoor
open Go.RowKit Px Tryz
theorem kO(s:Rd)x:(s.keep x).1.part=s.part:=by
 unfold Rd.keep;split
 .rfl
 .split
  .rfl
  .split
   .rfl
   .split
    .unfold Rd.takeStream
     split
     .rfl
     .split
      .rfl
      .rfl
    .rfl
theorem dW{w g o N c f}(h:∀j,j<N->w.cell? ⟨g,o+j,none⟩=some (.int .i64 (f j))):LAt w .i64 (.slice (some ⟨g,o,none⟩) ((List.range N).map f).length c) ((List.range N).map f):=by
 have b:((List.range N).map f).length=N:=by rw[List.length_map,List.length_range]
 refine⟨⟨_,_,rfl⟩,λk l d e a => ?_⟩
 injection d with i _ _
 rw[b] at a;refine⟨g,o,i.symm,?_⟩;rw[h e a,G,XQ,Yp a];rfl
theorem dg.lat{w w' e f}(h:dg w (f 0) (f 1) (f 2) (f 3) e w'):∃a,e=.returned (.slice (some ⟨a,0,none⟩) 4 4)/\(∀b,Kept w' b->LAt b .i64 (.slice (some ⟨a,0,none⟩) ((List.range 4).map f).length 4) ((List.range 4).map f))/\Kept w w':=by
 obtain⟨a,c,_,d,g,i,j,k⟩:=h;refine⟨a,c,λb l=>LAt.kept (dW (λm n => ?_)) l,k⟩
 match m,n with
 | 0,_=>exact d
 | 1,_=>exact g
 | 2,_=>exact i
 | 3,_=>exact j
theorem jB:∀x,x<16->∀c,c<16->∃a,a<7/\aX (ae 1 a).cf (ae 1 a).cs (ae 1 a).cb x=(x,true)/\aX (ae 1 a).rf (ae 1 a).rs (ae 1 a).rb c=(c,true)/\∀b,b<7->a<b->((aX (ae 1 b).cf (ae 1 b).cs (ae 1 b).cb x).2&&(aX (ae 1 b).rf (ae 1 b).rs (ae 1 b).rb c).2)=false:=Xl
theorem ed{r t h x y k}:∀n,k<n->(∀j,j<n->k<j->((aX (ae h.L j).cf (ae h.L j).cs (ae h.L j).cb x).2&&(aX (ae h.L j).rf (ae h.L j).rs (ae h.L j).rb y).2)=false)->fB r t h x y n=fB r t h x y (k+1)
 | 0,d,_=>O
 | n+1,d,c=>by
  by_cases e:n=k
  .rw[e]
  .rw[jC (a:=(aX (ae h.L n).cf (ae h.L n).cs (ae h.L n).cb x).1) (b:=(aX (ae h.L n).rf (ae h.L n).rs (ae h.L n).rb y).1) (A:=(aX (ae h.L n).cf (ae h.L n).cs (ae h.L n).cb x).2) (B:=(aX (ae h.L n).rf (ae h.L n).rs (ae h.L n).rb y).2) rfl rfl (by rw[c n O O];rfl)]
   exact ed n O (λj g f=>c j O f)
theorem sj{r t h x y}(o:h.L<=1)(k:x<16)(l:y<16)(d:r.known (y*16+x)=true):shP r t h x y=pxP r t h x y:=by
 unfold shP;by_cases a:h.L=1
 .obtain⟨p,m,e,f,g⟩:=jB x k y l
  rw[<-a] at e f g;have b:av h.L=7:=by unfold av;rw[I a]
  rw[b,ed 7 m g,eO e f d]
 .have b:av h.L=1:=by unfold av;rw[N a]
  have i:ae h.L 0=⟨0,1,1,0,1,1⟩:=by unfold ae;rw[N (λn=>a n.1)]
  have j:∀c,aX 0 1 1 c=(c,true):=λc=>by unfold aX;rw[N,Nat.mod_one];rfl
  rw[b];exact eO (by rw[i];exact j x) (by rw[i];exact j y) d
def aI(s:Rd):Prop:=∀j,s.tl.pal j<256
theorem aI.note{s}(h:aI s):aI s.note:=by
 have a:aI s.note1:=by
  unfold Rd.note1;split
  .exact h
  .split
   .exact h
   .split
    .unfold Rd.begin
     split
     .exact h
     .exact h
    .exact h
 show aI s.note1.note2
 unfold Rd.note2;split
 .exact a
 .exact a
theorem aI.accept{s}(h:aI s):aI s.accept.1:=by
 unfold aI;rw[(fw s).1];exact h
theorem aI.keep{s x}(h:aI s)(c:x<256):aI (s.keep x).1:=by
 unfold Rd.keep;split
 .exact h
 .split
  .intro a
   show upd s.tl.pal s.taken x a<256
   by_cases b:a=s.taken
   .rw[b,upd_same];exact c
   .rw[upd_ne _ _ _ b];exact h a
  .split
   .exact h
   .split
    .unfold Rd.takeStream
     split
     .exact h
     .split
      .exact h
      .exact h
    .exact h
theorem aI.take{s x}(h:aI s)(d:x<256):aI (s.take x).1:=by
 unfold Rd.take;split
 .unfold Rd.takeSign
  split
  .exact h
  .split
   .exact h
   .exact h
 .split
  .unfold Rd.takeLength
   split
   .exact h
   .split
    .exact h
    .exact h
  .split
   .unfold Rd.takeType
    have a:aI (s.typed x):=h;split
    .exact h
    .split
     .exact a
     .split
      .exact a.note
      .exact a.note
   .split
    .have b:=aI.keep (s:=s.summed x) (x:=x) h d
     unfold Rd.takeData;split
     .exact b
     .show aI ((s.summed x).keep x).1.dataEnd
      unfold Rd.dataEnd;split
      .exact b
      .exact b
    .split
     .unfold Rd.takeSum
      have c:=aI.accept (s:=s.num x) h;split
      .exact h
      .split
       .exact h
       .split
        .exact c
        .split
         .exact c
         .exact c
     .exact h
theorem Rn.palI:∀{l:List Nat} {s b:Rd},Rn s l b->(∀x∈l,x<256)->aI s->aI b
 | [],s,b,a,_,k=>by cases a;exact k
 | x::l,s,b,a,c,k=>Rn.palI a.2.2 (λd e=>c d (by simp[e])) (k.take (c x Xi))
theorem jJ:aI rd0:=λ_=>Xp
structure ev (W H D K L:Nat) (pal clr pix:List Int) (b:Rd):Prop where
 part:b.part=5
 hd:b.hd=⟨W,H,D,K,L⟩
 show':cC b
 palI:aI b
 tab:fN K pal clr b.tl
 seen:iZ ⟨W,H,D,K,L⟩ pix b.rw
theorem jb{w W g d}(h:DI w W g d)(a:cC d.file)(f:aI d.file)(i:aS w):Calls prog 24 #[.pointer (some ⟨g,0,none⟩)] W λb j=>SnX W d b j:=by
 obtain⟨k,l,c⟩:=h.ex;refine qf g 5957 k d W l c (E _) ?_ f (i.kept h.kept);by_cases e:d.file.hd.W=0
 .exact L e
 .refine R ⟨c.file.rw,c.file.tl,O,O,a.clear,a.sm.1,a.hd.K,O,a.hd.W,?_,a.hd.H,a.hd.L⟩
  rcases a.sm.2 with b|b
  .exact absurd b e
  .exact b
theorem CW s0 s1 s2 s3 s4 s5 s6 s7 s9 s10 p w:Calls prog 26 #[.agg #[s0,s1,s2,s3,s4,s5,s6,s7,.slice p 0 0,s9,s10]] w λa b=>a=.returned (.bool true)/\Kept w b:=by
 have c:Z (Kept w (w.alloc (Obj.cells #[s0,s1,s2,s3,s4,s5,s6,s7,.slice p 0 0,s9,s10] 50))):=Xw (Xs _ _) (E _) _;have g:(w.alloc (Obj.cells #[s0,s1,s2,s3,s4,s5,s6,s7,.slice p 0 0,s9,s10] 50)).cell? ⟨w.heap.size,8,none⟩=some (.slice p 0 0):=(Xr _ _ _ _ rfl).trans rfl;go_enter func26,ntmps26;go_upto_region 1 with fail
 generalize (w.alloc (Obj.cells #[s0,s1,s2,s3,s4,s5,s6,s7,.slice p 0 0,s9,s10] 50))=d at *;go_wp2_with fail;go_loopg [3,4] 1 (λh e i f=>e=.int .i64 0/\f=d)
 case atStart=>exact⟨rfl,rfl⟩
 case round=>
  obtain⟨rfl,rfl⟩:=hrel;go_wp2_with fail;go_ret;exact⟨rfl,c.o⟩
theorem Hf n n4 bK bP bS s0 s1 s2 s3 s4 s5 s6 s7(m h o:Nat->Int)w(c2:n<=256)(W:n4=4*n)(K:∀j,j<n->w.cell? ⟨bK,j,none⟩=some (.int .i64 (m j)))(L:∀j,j<n4->w.cell? ⟨bP,j,none⟩=some (.int .i64 (h j)))(M:∀j,j<n4->w.cell? ⟨bS,j,none⟩=some (.int .i64 (o j)))(X:∀j,j<n->m j=0\/m j=1)(Y:∀j,j<n4->m (j/4)=0->h j=0)(a0:∀j,j<n4->m (j/4)=1->o j=h j)(a1:∀j,j<n4->0<=h j/\h j<=65535)(a2:∀j,j<n4->0<=o j/\o j<=65535):Calls prog 26 #[.agg #[s0,s1,s2,s3,s4,s5,s6,s7,.slice (some ⟨bK,0,none⟩) n n,.slice (some ⟨bP,0,none⟩) n4 n4,.slice (some ⟨bS,0,none⟩) n4 n4]] w λa9 b0=>a9=.returned (.bool true)/\Kept w b0:=by
 have i:Kept w (w.alloc (Obj.cells #[s0,s1,s2,s3,s4,s5,s6,s7,.slice (some ⟨bK,0,none⟩) n n,.slice (some ⟨bP,0,none⟩) n4 n4,.slice (some ⟨bS,0,none⟩) n4 n4] 50)):=Xw (Xs _ _) (E _) _;have z:Z (∀b,Kept (w.alloc (Obj.cells #[s0,s1,s2,s3,s4,s5,s6,s7,.slice (some ⟨bK,0,none⟩) n n,.slice (some ⟨bP,0,none⟩) n4 n4,.slice (some ⟨bS,0,none⟩) n4 n4] 50)) b->(b.cell? ⟨w.heap.size,8,none⟩=some (.slice (some ⟨bK,0,none⟩) n n)/\b.cell? ⟨w.heap.size,9,none⟩=some (.slice (some ⟨bP,0,none⟩) n4 n4)/\b.cell? ⟨w.heap.size,10,none⟩=some (.slice (some ⟨bS,0,none⟩) n4 n4))):=λb a=>by
  have N:w.heap.size<(w.alloc (Obj.cells #[s0,s1,s2,s3,s4,s5,s6,s7,.slice (some ⟨bK,0,none⟩) n n,.slice (some ⟨bP,0,none⟩) n4 n4,.slice (some ⟨bS,0,none⟩) n4 n4] 50)).heap.size:=Xi;exact⟨(a.cell (p:=⟨w.heap.size,8,none⟩) N).trans ((Xr _ _ _ _ rfl).trans rfl),(a.cell (p:=⟨w.heap.size,9,none⟩) N).trans ((Xr _ _ _ _ rfl).trans rfl),(a.cell (p:=⟨w.heap.size,10,none⟩) N).trans ((Xr _ _ _ _ rfl).trans rfl)⟩
 have a3:Z (∀b,Kept w b->∀j,j<n->b.cell? ⟨bK,j,none⟩=some (.int .i64 (m j))):=λb a j g=>(a.cell (p:=⟨bK,j,none⟩) (B _ _ (K j g))).trans (K j g)
 have b1:Z (∀b,Kept w b->∀j,j<n4->b.cell? ⟨bP,j,none⟩=some (.int .i64 (h j))):=λb a j g=>(a.cell (p:=⟨bP,j,none⟩) (B _ _ (L j g))).trans (L j g)
 have b2:Z (∀b,Kept w b->∀j,j<n4->b.cell? ⟨bS,j,none⟩=some (.int .i64 (o j))):=λb a j g=>(a.cell (p:=⟨bS,j,none⟩) (B _ _ (M j g))).trans (M j g)
 have a4:Z _:=X;have b3:Z _:=Y;have b4:Z _:=a0;have b5:Z _:=a1;have b6:Z _:=a2;have c3:4*(n:Int)=(n4:Int):=O;have c4:n4<=1024:=O;replace W:Z _:=W;replace i:Z _:=i;clear K L M X Y a0 a1 a2;go_enter func26,ntmps26;go_upto_region 1 with fail
 generalize (w.alloc (Obj.cells #[s0,s1,s2,s3,s4,s5,s6,s7,.slice (some ⟨bK,0,none⟩) n n,.slice (some ⟨bP,0,none⟩) n4 n4,.slice (some ⟨bS,0,none⟩) n4 n4] 50))=q at *;go_wp2_with fail;go_loopg [3,4] n (λP Q c5 b=>∃a:Nat,P=n-a/\a<=n/\Q=.int .i64 a/\Kept q b)
 case atStart=>exact⟨0,O,O,rfl,Kept.refl _⟩
 case round=>
  obtain⟨a,A,c6,rfl,a5⟩:=hrel;replace A:Z _:=A;have R:Z (Kept q wr):=a5;clear a5;obtain⟨C,D,F⟩:=z.o wr R.o;by_cases G:a<n
  .have b7:(a:Int)<(n:Int):=O
   have c7:(0:Int)<=(a:Int):=O;obtain⟨H,u⟩:∃S,S=4*a:=⟨_,rfl⟩;obtain⟨e,v⟩:∃S,S=4*a+4:=⟨_,rfl⟩;have c8:4*(a:Int)=(H:Int):=O;have c9:(H:Int)+4=(e:Int):=O;have d0:e<=n4:=O;replace u:Z _:=u;replace v:Z _:=v;go_wp2_with fail;go_loopg [4] 4 (λP Q b=>∃j:Nat,P=e-j/\H<=j/\j<=e/\Q=.int .i64 j/\Kept q b)
   case atStart=>exact⟨H,by have:=u.o;have:=v.o;omega,O,by have:=u.o;have:=v.o;omega,rfl,R.o⟩
   case round=>
    obtain⟨j,I,d1,d2,rfl,a6⟩:=hrel;replace I:Z _:=I;have f:Z (Kept q wr):=a6;clear a6 C D F;obtain⟨C,D,F⟩:=z.o wr f.o;by_cases d3:j<e
    .have b8:(j:Int)<(e:Int):=O
     have d4:(0:Int)<=(j:Int):=O;have d5:(j:Int)<(n4:Int):=O;have r:j<n4:=O;have T:j/4=a:=by have:=u.o;have:=v.o;omega
     have x:=a3.o wr (Kept.trans i.o f.o) a G;have k:=b1.o wr (Kept.trans i.o f.o) j r;have l:=b2.o wr (Kept.trans i.o f.o) j r;have a7:=b5.o j r;have a8:=b6.o j r;have s:=b3.o j r;have t:=b4.o j r;rw[T] at s t;replace T:Z _:=T;rcases a4.o a G with c|c
     .rw[c] at x s t
      rw[s rfl] at k;generalize o j=d at *;have b9:¬d<0:=O;have c0:decide (65535<d)=false:=J;have c1:¬65535<d:=O;clear s t a7 a8 c;have U:Z (∀b,Kept wr b->b.cell? ⟨bP,j,none⟩=some (.int .i64 0)/\b.cell? ⟨bS,j,none⟩=some (.int .i64 d)):=λb a=>⟨(a.cell (p:=⟨bP,j,none⟩) (B _ _ k)).trans k,(a.cell (p:=⟨bS,j,none⟩) (B _ _ l)).trans l⟩
      go_wp2_with fail;go_quiet (fail);have y:Z (Kept q (wr.drewN nq)):=f.o.drewN _;obtain⟨k,l⟩:=U.o (wr.drewN nq) ((Kept.refl _).drewN _);generalize wr.drewN nq=V at *;obtain⟨C,D,F⟩:=z.o V y.o;go_wp2_with fail;go_roundg (e-(j+1))
      case measure=>rw[I.o];omega
      case rel=>exact⟨j+1,rfl,O,O,Xj,y.o⟩
     .rw[c] at x s t
      rw[t rfl] at l;generalize h j=d at *;have b9:¬d<0:=O;have c0:decide (65535<d)=false:=J;have c1:¬65535<d:=O;clear s t a7 a8 c;have U:Z (∀b,Kept wr b->b.cell? ⟨bP,j,none⟩=some (.int .i64 d)/\b.cell? ⟨bS,j,none⟩=some (.int .i64 d)):=λb a=>⟨(a.cell (p:=⟨bP,j,none⟩) (B _ _ k)).trans k,(a.cell (p:=⟨bS,j,none⟩) (B _ _ l)).trans l⟩
      go_wp2_with fail;go_quiet (fail);have y:Z (Kept q (wr.drewN nq)):=f.o.drewN _;obtain⟨k,l⟩:=U.o (wr.drewN nq) ((Kept.refl _).drewN _);generalize wr.drewN nq=V at *;obtain⟨C,D,F⟩:=z.o V y.o;go_wp2_with fail;go_roundg (e-(j+1))
      case measure=>rw[I.o];omega
      case rel=>exact⟨j+1,rfl,O,O,Xj,y.o⟩
    .have b8:¬(j:Int)<(e:Int):=O
     have x:=a3.o wr (Kept.trans i.o f.o) a G;rcases a4.o a G with c|c
     .rw[c] at x
      clear c;go_wp2_with fail;go_roundg (n-(a+1))
      case measure=>rw[A.o];omega
      case rel=>exact⟨a+1,rfl,O,Xj,f.o⟩
     .rw[c] at x
      clear c;go_wp2_with fail;go_roundg (n-(a+1))
      case measure=>rw[A.o];omega
      case rel=>exact⟨a+1,rfl,O,Xj,f.o⟩
  .have b7:¬(a:Int)<(n:Int):=O
   go_wp2_with fail;go_ret;exact⟨rfl,Kept.trans i.o R.o⟩
theorem KP(x wd k a b:Nat)w(t:w.cell? ⟨x,0,none⟩=some (.int .i64 wd))(u:1<=wd)(v:wd<=16)(n:k<1000)(y:1<=a)(z:a<=8)(A:1<=b)(B:b<=8):Calls prog 46 #[.pointer (some ⟨x,0,none⟩),.int .i64 k,.int .i64 a,.int .i64 b] w λo p=>o=.returned (.bool (decide (k%wd%a=0)&&decide (k/wd%b=0)))/\p=w:=by
 obtain⟨d,j⟩:∃d,d=k%wd:=⟨_,rfl⟩;obtain⟨c,g⟩:∃c,c=k/wd:=⟨_,rfl⟩;rw[<-j,<-g];have C:(k:Int).tmod (wd:Int)=(d:Int):=by rw[XU O,j];exact(Yo _ _).symm
 have D:(k:Int).tdiv (wd:Int)=(c:Int):=by rw[XZ O,g];exact(YB _ _).symm
 have E:(k:Int)/(wd:Int)=(c:Int):=by rw[g];exact(YB _ _).symm
 have q:d<1000:=by rw[j];exact Zh (Zg _ _) n
 have r:c<1000:=by rw[g];exact Zh (Yz _ _) n
 obtain⟨e,h⟩:∃e,e=d%a:=⟨_,rfl⟩;obtain⟨f,i⟩:∃f,f=c%b:=⟨_,rfl⟩;rw[<-h,<-i];have G:(d:Int).tmod (a:Int)=(e:Int):=by rw[XU O,h];exact(Yo _ _).symm
 have H:(c:Int).tmod (b:Int)=(f:Int):=by rw[XU O,i];exact(Yo _ _).symm
 have I:(d:Int)%(a:Int)=(e:Int):=by rw[h];exact(Yo _ _).symm
 have K:(c:Int)%(b:Int)=(f:Int):=by rw[i];exact(Yo _ _).symm
 have L:e<1000:=by rw[h];exact Zh (Zg _ _) q
 have M:f<1000:=by rw[i];exact Zh (Zg _ _) r
 have N:¬(wd=0):=O;have P:¬(a=0):=O;have Q:¬(b=0):=O;clear j g h i;by_cases l:e=0
 .subst l
  by_cases m:f=0
  .subst m
   go_enter func46,ntmps46;go_wp2;go_ret;exact⟨rfl,rfl⟩
  .have s:((f:Int)==0)=false:=by rw[F];omega
   rw[J m];clear m;go_enter func46,ntmps46;go_wp2;go_ret;exact⟨rfl,rfl⟩
 .have s:((e:Int)==0)=false:=by rw[F];omega
  rw[J l];clear l;go_enter func46,ntmps46;go_wp2;go_ret;exact⟨rfl,rfl⟩
def dxP(p:Nat):Nat:=8/2^((p+1)/2)
def dyP(p:Nat):Nat:=8/2^(p/2)
theorem xG:∀a,a<7->1<=dxP a/\dxP a<=8/\1<=dyP a/\dyP a<=8:=Xh
theorem xH:∀p,p<7->p%2=0->dxP (p+1)=dxP p/2/\dyP (p+1)=dyP p:=Xh
theorem Bv:∀p,p<7->p%2≠0->dxP (p+1)=dxP p/\dyP (p+1)=dyP p/2:=Xh
def onB(wd p j:Nat):Bool:=decide (j%wd%dxP p=0)&&decide (j/wd%dyP p=0)
def kq(f:Nat->Bool):Nat->Bool
 | 0=>true
 | k+1=>kq f k&&f k
theorem og{f}:∀n,kq f n=true->∀a,a<n->f a=true
 | 0,_,a,c=>O
 | n+1,d,a,c=>by
  have b:(kq f n&&f n)=true:=d;rw[Bool.and_eq_true] at b;by_cases e:a=n
  .rw[e];exact b.2
  .exact og n b.1 a O
def Hq(wd p k:Nat):Nat:=(k/wd-k/wd%dyP p)*wd+k%wd-k%wd%dxP p
theorem B7 x s0 s1 s2 s3 s4 s5 s6 s7 s8 s9 s10 w(b:w.cell? ⟨x,7,none⟩=some (.int .i64 0)):Calls prog 28 #[.pointer (some ⟨x,0,none⟩),.agg #[s0,s1,s2,s3,s4,s5,s6,s7,s8,s9,s10]] w λc d=>c=.returned (.bool true)/\Kept w d:=by
 have a:Kept w (w.alloc (Obj.cells #[s0,s1,s2,s3,s4,s5,s6,s7,s8,s9,s10] 50)):=Xw (Xs _ _) (E _) _;have e:=(a.cell (p:=⟨x,7,none⟩) (B _ _ b)).trans b;replace a:Z _:=a;go_enter func28,ntmps28;go_wp2_with fail;go_ret;exact⟨rfl,a.o⟩
theorem Ey(x wd n d:Nat)pk ps s0 s1 s2 s3 s4 s5 s6 s7 s9(c:Nat->Int)(F:Nat->Nat->Int)w(b0:w.cell? ⟨x,0,none⟩=some (.int .i64 wd))(c0:w.cell? ⟨x,7,none⟩=some (.int .i64 1))(g0:1<=wd)(c1:wd<=16)(k7:n<=256)(d3:0<n)(d4:d=4*n)(b1:∀j,j<n->∃e,pk=some ⟨e,0,none⟩/\w.cell? ⟨e,j,none⟩=some (.int .i64 (c j)))(d5:∀a,a<7->0<n->(∀j,j<n->onB wd a j=decide (c j=1))->∀k,k<n->∃q,k/wd%dyP a<=k/wd/\Hq wd a k=q/\(∀b,Kept w b->Calls prog 29 #[.pointer (some ⟨x,0,none⟩),.int .i64 q] b λh s=>∃e,h=.returned (.slice (some ⟨e,0,none⟩) 4 4)/\(∀d6,Kept s d6->LAt d6 .i64 (.slice (some ⟨e,0,none⟩) ((List.range 4).map (F k)).length 4) ((List.range 4).map (F k)))/\Kept b s))(d7:∀a,a<7->0<n->(∀j,j<n->onB wd a j=decide (c j=1))->∀k,k<n->∃t,ps=some ⟨t,0,none⟩/\∀i,i<4->w.cell? ⟨t,4*k+i,none⟩=some (.int .i64 (F k i))):Calls prog 28 #[.pointer (some ⟨x,0,none⟩),.agg #[s0,s1,s2,s3,s4,s5,s6,s7,.slice pk n n,s9,.slice ps d d]] w λa0 s=>a0=.returned (.bool true)/\Kept w s:=by
 have y:Kept w (w.alloc (Obj.cells #[s0,s1,s2,s3,s4,s5,s6,s7,.slice pk n n,s9,.slice ps d d] 50)):=Xw (Xs _ _) (E _) _;have U:Z (∀b,Kept (w.alloc (Obj.cells #[s0,s1,s2,s3,s4,s5,s6,s7,.slice pk n n,s9,.slice ps d d] 50)) b->(b.cell? ⟨x,0,none⟩=some (.int .i64 wd)/\b.cell? ⟨w.heap.size,8,none⟩=some (.slice pk n n)/\b.cell? ⟨w.heap.size,10,none⟩=some (.slice ps d d))):=λb k=>by
  have d8:w.heap.size<(w.alloc (Obj.cells #[s0,s1,s2,s3,s4,s5,s6,s7,.slice pk n n,s9,.slice ps d d] 50)).heap.size:=Xi;exact⟨((y.trans k).cell (p:=⟨x,0,none⟩) (B _ _ b0)).trans b0,(k.cell (p:=⟨w.heap.size,8,none⟩) d8).trans ((Xr _ _ _ _ rfl).trans rfl),(k.cell (p:=⟨w.heap.size,10,none⟩) d8).trans ((Xr _ _ _ _ rfl).trans rfl)⟩
 have g1:=(y.cell (p:=⟨x,7,none⟩) (B _ _ c0)).trans c0;have g2:Z (∀b,Kept w b->∀j,j<n->∃e,pk=some ⟨e,0,none⟩/\b.cell? ⟨e,j,none⟩=some (.int .i64 (c j))):=λb k j G=>by
  obtain⟨e,h,a1⟩:=b1 j G;exact⟨e,h,(k.cell (p:=⟨e,j,none⟩) (B _ _ a1)).trans a1⟩
 have g3:Z _:=d5;have g4:Z (∀a,a<7->0<n->(∀j,j<n->onB wd a j=decide (c j=1))->∀k,k<n->∃t,ps=some ⟨t,0,none⟩/\∀b e,Kept w b->LAt b .i64 (.slice (some ⟨e,0,none⟩) ((List.range 4).map (F k)).length 4) ((List.range 4).map (F k))->Calls prog 27 #[.slice (some ⟨t,4*k,none⟩) 4 (d-4*k),.slice (some ⟨e,0,none⟩) 4 4] b λh s=>h=.returned (.bool true)/\Kept b s):=λa c2 g5 G k b1=>by
  obtain⟨t,h,a1⟩:=d7 a c2 g5 G k b1;refine⟨t,h,λb e a2 g6 => ?_⟩;have b2:((List.range 4).map (F k)).length=4:=rfl;have g7:LAt b .i64 (.slice (some ⟨t,4*k,none⟩) ((List.range 4).map (F k)).length (d-4*k)) ((List.range 4).map (F k)):=dW (λj G=>(a2.cell (p:=⟨t,4*k+j,none⟩) (B _ _ (a1 j G))).trans (a1 j G))
  have:=bY (some ⟨t,4*k,none⟩) (some ⟨e,0,none⟩) 4 4 (d-4*k) 4 _ _ b b2.symm b2.symm g7 g6 (by rw[b2];omega) (by rw[b2];omega)
  rw[K rfl] at this;exact this
 have g8:Z (∀b a k,Kept w b->a<7->k<n->Calls prog 46 #[.pointer (some ⟨x,0,none⟩),.int .i64 k,.int .i64 (dxP a),.int .i64 (dyP a)] b λa0 s=>a0=.returned (.bool (onB wd a k))/\s=b):=λb a k a2 c2 c3=>by
  obtain⟨g9,h0,h1,h2⟩:=xG a c2;exact KP x wd k (dxP a) (dyP a) b ((a2.cell (p:=⟨x,0,none⟩) (B _ _ b0)).trans b0) g0 c1 O g9 h0 h1 h2
 have k8:4*(n:Int)=(d:Int):=O;replace d4:Z _:=d4;replace y:Z _:=y;clear b1 d5 d7 c0;go_enter func28,ntmps28;go_upto_region 1 with fail
 generalize (w.alloc (Obj.cells #[s0,s1,s2,s3,s4,s5,s6,s7,.slice pk n n,s9,.slice ps d d] 50))=H at *;go_wp2_with fail;clear g1;go_loopg [5,6,7,8,9,10,11,12,13,14,15] 7 (λa3 h3 h4 h5 d9 e0 h6 e1 h7 h8 h9 i0 b=>∃a:Nat,a3=7-a/\a<=7/\h5=.int .i64 a/\h3=.int .i64 (dxP a)/\h4=.int .i64 (dyP a)/\Kept H b)
 case atStart=>exact⟨0,O,O,rfl,rfl,rfl,Kept.refl _⟩
 case round=>
  obtain⟨a,V,k9,rfl,rfl,rfl,e2⟩:=hrel;replace V:Z _:=V;have c4:Z (Kept H wr):=e2;clear e2;obtain⟨I,Q,W⟩:=U.o wr c4.o;by_cases X:a<7
  .have i1:(a:Int)<7:=O
   have e3:Z _:=xH a X;have e4:Z _:=Bv a X;have i2:Z (∀b k,Kept w b->k<n->Calls prog 46 #[.pointer (some ⟨x,0,none⟩),.int .i64 k,.int .i64 (dxP a),.int .i64 (dyP a)] b λa0 s=>a0=.returned (.bool (onB wd a k))/\s=b):=λb k a2 c3=>g8.o b a k a2 X c3
   have i3:Z _:=g4.o a X;have i4:Z _:=g3.o a X;have i5:Z (∀k,Hq wd a k=(k/wd-k/wd%dyP a)*wd+k%wd-k%wd%dxP a):=λk=>rfl
   obtain⟨l0,l1,l2,l3⟩:=(xG a X);generalize dxP a=z at *;generalize dyP a=u at *;have l4:(0:Int)<(n:Int):=O;go_wp2_with fail;go_loopg [8,9,10] n (λa3 d9 e0 h6 b=>∃k:Nat,a3=n-k/\k<=n/\e0=.int .i64 k/\d9=.bool (kq (λj=>onB wd a j==decide (c j=1)) k)/\Kept H b)
   case atStart=>exact⟨0,O,O,rfl,rfl,c4.o⟩
   case round=>
    obtain⟨k,R,c3,rfl,rfl,e5⟩:=hrel;replace R:Z _:=R;have L:Z (Kept H wr):=e5;clear e5 I Q W;obtain⟨I,Q,W⟩:=U.o wr L.o;by_cases e6:k<n
    .have i6:(k:Int)<(n:Int):=O
     have l5:(0:Int)<=(k:Int):=O;have i7:Z _:=i2.o wr k (Kept.trans y.o L.o) e6;obtain⟨l6,c5,l7⟩:=g2.o wr (Kept.trans y.o L.o) k e6;rw[c5] at Q;replace c5:Z _:=c5;have M:Z (kq (λj=>onB wd a j==decide (c j=1)) (k+1)=(kq (λj=>onB wd a j==decide (c j=1)) k&&(onB wd a k==decide (c k=1)))):=rfl;have e7:Z (decide (c k=1)=(c k==1)):=by
      show decide (c k=1)=(c k==1)
      by_cases q:c k=1
      .rw[q];rfl
      .rw[J q];exact(beq_eq_false_iff_ne.2 q).symm
     have c6:=M.o;rw[e7.o] at c6;replace M:Z _:=c6;clear c6;generalize kq (λj=>onB wd a j==decide (c j=1)) k=l8 at *;generalize onB wd a k=e8 at *;generalize c k=i8 at *;clear e7;go_wp2_with fail;refine X9 i7.o ?_;rintro h e9 ⟨rfl,c1⟩;subst e9;cases f0:(i8==1)
     .rw[f0] at M
      cases e8
      .go_wp2_with fail
       go_roundg (n-(k+1))
       case measure=>rw[R.o];omega
       case rel=>exact⟨k+1,rfl,O,Xj,by rw[M.o];simp,L.o⟩
      .go_wp2_with fail
       go_roundg (n-(k+1))
       case measure=>rw[R.o];omega
       case rel=>exact⟨k+1,rfl,O,Xj,by rw[M.o];simp,L.o⟩
     .rw[f0] at M
      cases e8
      .go_wp2_with fail
       go_roundg (n-(k+1))
       case measure=>rw[R.o];omega
       case rel=>exact⟨k+1,rfl,O,Xj,by rw[M.o];simp,L.o⟩
      .go_wp2_with fail
       go_roundg (n-(k+1))
       case measure=>rw[R.o];omega
       case rel=>exact⟨k+1,rfl,O,Xj,by rw[M.o];simp,L.o⟩
    .have i6:¬(k:Int)<(n:Int):=O
     have i9:k=n:=O;subst i9;have f1:Z (kq (λj=>onB wd a j==decide (c j=1)) k=true->∀j,j<k->onB wd a j=decide (c j=1)):=λh j G=>by
      have:=og k h j G
      exact eq_of_beq this
     generalize kq (λj=>onB wd a j==decide (c j=1)) k=j0 at *;clear R;go_wp2_with fail;go_loopg [11,12,13,14,15] k (λa3 e1 h7 h8 h9 i0 b=>∃i:Nat,a3=k-i/\i<=k/\e1=.int .i64 i/\Kept H b)
     case atStart=>exact⟨0,O,O,rfl,L.o⟩
     case round=>
      obtain⟨i,c7,l9,rfl,f2⟩:=hrel;replace c7:Z _:=c7;have S:Z (Kept H wr):=f2;clear f2 I Q W;obtain⟨I,Q,W⟩:=U.o wr S.o;by_cases f3:i<k
      .have j1:(i:Int)<(k:Int):=O
       have m0:(0:Int)<=(i:Int):=O;cases j0 with
       | false=>
        obtain⟨f,A⟩:∃f,f=a%2:=⟨_,rfl⟩;have j2:(a:Int).tmod 2=(f:Int):=by rw[XU O,A];exact(Yo _ _).symm
        have j3:(a:Int)%2=(f:Int):=by rw[A];exact(Yo _ _).symm
        obtain⟨l,m⟩:∃l,l=z/2:=⟨_,rfl⟩;obtain⟨o,r⟩:∃o,o=u/2:=⟨_,rfl⟩;have j4:(z:Int).tdiv 2=(l:Int):=by rw[XZ O,m];exact(YB _ _).symm
        have j5:(z:Int)/2=(l:Int):=by rw[m];exact(YB _ _).symm
        have j6:(u:Int).tdiv 2=(o:Int):=by rw[XZ O,r];exact(YB _ _).symm
        have j7:(u:Int)/2=(o:Int):=by rw[r];exact(YB _ _).symm
        have j8:f<2:=O;have j9:l<=8:=O;have k0:o<=8:=O;by_cases a4:f=0
        .have g:Z _:=e3.o O
         rw[<-m] at g;subst a4;clear A m r;go_wp2_with fail;go_roundg (7-(a+1))
         case measure=>rw[V.o];omega
         case rel=>exact⟨a+1,rfl,O,Xj,by rw[g.o.1],by rw[g.o.2],S.o⟩
        .have g:Z _:=e4.o O
         rw[<-r] at g;have k1:((f:Int)==0)=false:=Xa;clear A m r a4;go_wp2_with fail;go_roundg (7-(a+1))
         case measure=>rw[V.o];omega
         case rel=>exact⟨a+1,rfl,O,Xj,by rw[g.o.1],by rw[g.o.2],S.o⟩
       | true=>
        obtain⟨q,c8,a5,c9⟩:=i4.o d3 (f1.o rfl) i f3;obtain⟨m1,b3,b4⟩:=i3.o d3 (f1.o rfl) i f3;rw[b3] at W;replace b3:Z _:=b3;rw[i5.o i] at a5;obtain⟨C,b5⟩:∃C,C=i%wd:=⟨_,rfl⟩;obtain⟨v,Y⟩:∃v,v=i/wd:=⟨_,rfl⟩;rw[<-b5,<-Y] at a5;rw[<-Y] at c8;have m2:(i:Int).tmod (wd:Int)=(C:Int):=by rw[XU O,b5];exact(Yo _ _).symm
        have m3:(i:Int).tdiv (wd:Int)=(v:Int):=by rw[XZ O,Y];exact(YB _ _).symm
        have m4:(i:Int)/(wd:Int)=(v:Int):=by rw[Y];exact(YB _ _).symm
        have m5:C<1000:=by rw[b5];exact Zh (Zg _ _) O
        have m6:v<1000:=by rw[Y];exact Zh (Yz _ _) O
        obtain⟨D,a6⟩:∃D,D=v%u:=⟨_,rfl⟩;obtain⟨N,b6⟩:∃N,N=C%z:=⟨_,rfl⟩;rw[<-a6,<-b6] at a5;rw[<-a6] at c8;have m7:(v:Int).tmod (u:Int)=(D:Int):=by rw[XU O,a6];exact(Yo _ _).symm
        have m8:(C:Int).tmod (z:Int)=(N:Int):=by rw[XU O,b6];exact(Yo _ _).symm
        have m9:(v:Int)%(u:Int)=(D:Int):=by rw[a6];exact(Yo _ _).symm
        have n0:N<=C:=by rw[b6];exact Zg _ _
        obtain⟨T,f4⟩:∃T,T=v-D:=⟨_,rfl⟩;obtain⟨P,b7⟩:∃P,P=T*wd:=⟨_,rfl⟩;obtain⟨a7,f5⟩:∃k2,k2=P+C:=⟨_,rfl⟩;rw[<-f4,<-b7,<-f5] at a5;have n1:(v:Int)-(D:Int)=(T:Int):=O;have n2:(T:Int)*(wd:Int)=(P:Int):=by rw[b7];exact(Yv _ _).symm
        have n3:(P:Int)+(C:Int)=(a7:Int):=O;have n4:(a7:Int)-(N:Int)=(q:Int):=O;have n5:P<=1000*16:=by rw[b7];exact XF O c1
        have e9:¬(wd=0):=O;have n6:¬(z=0):=O;have n7:¬(u=0):=O;obtain⟨b8,f6⟩:∃d0,d0=4*i:=⟨_,rfl⟩;obtain⟨b9,k3⟩:∃d0,d0=4*i+4:=⟨_,rfl⟩;have n8:4*(i:Int)=(b8:Int):=O;have n9:(b8:Int)+4=(b9:Int):=O;have o0:b8<=b9:=O;have o1:b9<=d:=O;have o2:b9-b8=4:=O;have o3:q<=20000:=O;have o4:D<1000:=O;have o5:N<1000:=O;have o6:a7<20000:=O;have o7:IntKind.i64.wrap (D:Int)=(D:Int):=Xd;have o8:IntKind.i64.wrap (N:Int)=(N:Int):=Xd;have o9:IntKind.i64.wrap (T:Int)=(T:Int):=Xd;have p0:IntKind.i64.wrap (P:Int)=(P:Int):=Xd;have p1:IntKind.i64.wrap (a7:Int)=(a7:Int):=Xd;have p2:IntKind.i64.wrap (q:Int)=(q:Int):=Xd;rw[<-f6] at b4;replace b4:Z _:=b4;replace c9:Z _:=c9;have f7:Z (∀b,Kept wr b->b.cell? ⟨x,0,none⟩=some (.int .i64 wd)):=λb k=>(k.cell (p:=⟨x,0,none⟩) (B _ _ I)).trans I
        clear b5 Y a6 b6 f4 b7 f5 a5 f6 k3 c8;go_wp2_with fail;go_region_held3 (λb=>b.cell? ⟨x,0,none⟩=some (.int .i64 wd)) (first|exact f7.o _ ((Kept.refl _).drewN 1)|exact f7.o _ d1|go_keep) ((go_at_call 29;refine X9 (c9.o _ (Kept.trans (Kept.trans y.o S.o) ((Kept.refl _).drewN 1))) ?_;rintro h a8 ⟨e,rfl,d2,f8⟩;have d1:=((Kept.refl _).drewN 1).trans f8))
        have a9:Z (Kept H a8):=S.o.trans d1;replace d2:Z _:=d2;clear d1 f8 I Q;have I:=(U.o a8 a9.o).1;have Q:=(U.o a8 a9.o).2.1;have k4:=(U.o a8 a9.o).2.2;rw[b3.o] at k4;clear W;go_wp2_with fail;refine X9 (b4.o a8 e (Kept.trans y.o a9.o) (d2.o _ (Kept.refl _))) ?_;rintro h k5 ⟨rfl,f9⟩;have k6:Z (Kept H k5):=a9.o.trans f9;clear f9;go_wp2_with fail;go_roundg (k-(i+1))
        case measure=>rw[c7.o];omega
        case rel=>exact⟨i+1,rfl,O,Xj,k6.o⟩
      .have j1:¬(i:Int)<(k:Int):=O
       obtain⟨f,A⟩:∃f,f=a%2:=⟨_,rfl⟩;have j2:(a:Int).tmod 2=(f:Int):=by rw[XU O,A];exact(Yo _ _).symm
       have j3:(a:Int)%2=(f:Int):=by rw[A];exact(Yo _ _).symm
       obtain⟨l,m⟩:∃l,l=z/2:=⟨_,rfl⟩;obtain⟨o,r⟩:∃o,o=u/2:=⟨_,rfl⟩;have j4:(z:Int).tdiv 2=(l:Int):=by rw[XZ O,m];exact(YB _ _).symm
       have j5:(z:Int)/2=(l:Int):=by rw[m];exact(YB _ _).symm
       have j6:(u:Int).tdiv 2=(o:Int):=by rw[XZ O,r];exact(YB _ _).symm
       have j7:(u:Int)/2=(o:Int):=by rw[r];exact(YB _ _).symm
       have j8:f<2:=O;have j9:l<=8:=O;have k0:o<=8:=O;by_cases a4:f=0
       .have g:Z _:=e3.o O
        rw[<-m] at g;subst a4;clear A m r;go_wp2_with fail;go_roundg (7-(a+1))
        case measure=>rw[V.o];omega
        case rel=>exact⟨a+1,rfl,O,Xj,by rw[g.o.1],by rw[g.o.2],S.o⟩
       .have g:Z _:=e4.o O
        rw[<-r] at g;have k1:((f:Int)==0)=false:=Xa;clear A m r a4;go_wp2_with fail;go_roundg (7-(a+1))
        case measure=>rw[V.o];omega
        case rel=>exact⟨a+1,rfl,O,Xj,by rw[g.o.1],by rw[g.o.2],S.o⟩
  .have i1:¬(a:Int)<7:=O
   go_wp2_with fail;go_ret;exact⟨rfl,Kept.trans y.o c4.o⟩
