import Derived.Test.YtgooinallljbpaaGreatDoorSh00
import Derived.Test.YtgooinallljbpaaGreatDoorSh03
import Derived.Test.YtgooinallljbpaaGreatDoorSh02
import Derived.Test.YtgooinallljbpaaGreatDoorSh04
import Derived.Deep.OwnRows
import Derived.Deep.CutBlock
import Derived.Deep.LoopGhost
import Derived.Deep.RegionHeld3
import Derived.Test.YtgooinallljbpaaGreatDoorSh01
import Derived.Handy
set_option linter.all false
set_option maxRecDepth 100000
set_option maxHeartbeats 0
namespace Go.Proofs.YtgooinallljbpaaGreatDoor
open Go.RowKit Px Tryz
def pv(L p j:Nat):Nat:=[(ah L p).cf,(ah L p).rf,(ah L p).cs,(ah L p).rs,(ah L p).cb,(ah L p).rb].getD j 0
structure lL (w:World) (g:Nat) (L:Nat):Prop where
 cell:∀p j,p<aq L->j<6->w.cell? ⟨g,p*6+j,none⟩=some (.int .i64 (pv L p j))
theorem kH L:1<=aq L/\aq L<=7:=by unfold aq;split<;>omega
theorem lL.lt{w g L}(h:lL w g L):g<w.heap.size:=B _ _ (h.cell 0 0 (kH L).1 O)
theorem lL.kept{w w' g L}(h:lL w g L)(k:Kept w w'):lL w' g L:=⟨λa b c d=>by rw[k.cell (p:=⟨g,a*6+b,none⟩) h.lt];exact h.cell a b c d⟩
theorem AJ(w:World)(l:List Nat)k(a:k<l.length)t:(w.alloc (.cells ((l.map λ(n:Nat)=>Value.int .i64 n).toArray) t)).cell? ⟨w.heap.size,k,none⟩=some (.int .i64 (l.getD k 0)):=by
 rw[Xr _ _ _ _ rfl];simp[XQ,Xt a,G]
theorem pv0:∀a,a<6->([0,0,1,1,1,1]:List Nat).getD (0*6+a) 0=pv 0 0 a:=Xh
theorem pv1:∀p,p<7->∀a,a<6->grd.getD (p*6+a) 0=pv 1 p a:=Xh
theorem ui(a:Nat)w(j:a<=1):Calls prog 69 #[.int .i64 a] w λg e=>g=.returned (.slice (some ⟨w.heap.size,0,none⟩) (aq a) (aq a))/\lL e w.heap.size a/\Kept w e:=by
 have h:a=0\/a=1:=O;rcases h with rfl|rfl
 .go_enter func69,ntmps69
  go_wp2;go_ret;refine⟨rfl,⟨λb c f d => ?_⟩,(Xs _ _).alloc (E _) _⟩
  have:b=0:=by
   have:aq 0=1:=rfl
   omega
  subst this;rw[<-pv0 c d];exact AJ w [0,0,1,1,1,1] (0*6+c) (by show _<6;omega) _
 .go_enter func69,ntmps69
  go_wp2;go_ret;refine⟨rfl,⟨λb c f d => ?_⟩,(Xs _ _).alloc (E _) _⟩;have i:b<7:=f;rw[<-pv1 b i c d];exact AJ w grd (b*6+c) (by show _<42;omega) _
def two(d:Nat):Prop:=d=1\/d=2\/d=4\/d=8
theorem MR L p(b:p<aq L):two (ah L p).cs/\two (ah L p).rs/\(ah L p).cf<=8/\(ah L p).rf<=8:=by
 by_cases a:L=1
 .subst a
  have:∀p,p<7->((ah 1 p).cs=1\/(ah 1 p).cs=2\/(ah 1 p).cs=4\/(ah 1 p).cs=8)/\((ah 1 p).rs=1\/(ah 1 p).rs=2\/(ah 1 p).rs=4\/(ah 1 p).rs=8)/\(ah 1 p).cf<=8/\(ah 1 p).rf<=8:=Xh
  exact this p b
 .unfold ah
  rw[N (λc=>a c.1)];exact⟨Or.inl rfl,Or.inl rfl,Xh,Xh⟩
theorem z5(n a d:Nat)w(v:n<=16)(x:a<=8)(s:two d):Calls prog 111 #[.int .i64 n,.int .i64 a,.int .i64 d] w λt u=>t=.returned (.int .i64 (bq a d n))/\u=w:=by
 obtain⟨h,m⟩:∃h,h=bq a d n:=⟨_,rfl⟩;rw[<-m];have l:Z _:=m;clear m;rcases s with rfl|rfl|rfl|rfl
 .have i:Z (h=n-a):=by
   show h=n-a
   rw[l.o];unfold bq;split<;>omega
  go_enter func111,ntmps111;go_wp2;go_loop [7,8] (λj e=>∃b c:Nat,j=.int .i64 b/\e=.int .i64 c/\c=a+1*b/\b<=16/\b<=n-a) (λ_ e=>40-(intOf e).toNat)
  case atStart=>exact⟨0,a,rfl,rfl,O,O,O⟩
  case round=>
   obtain⟨b,c,rfl,rfl,f,o,p⟩:=hrel;have g:Z _:=f;by_cases q:c<n
   .clear f
    go_wp2;have k:=g.o;exact⟨⟨b+1,c+1,Xj,Xj,O,O,O⟩,Xb⟩
   .clear f
    go_wp2;go_ret;have k:=g.o;have r:=i.o;exact⟨aj O,rfl⟩
 .have i:Z (h=(n-a+1)/2):=by
   show h=(n-a+1)/2
   rw[l.o];unfold bq;split<;>omega
  go_enter func111,ntmps111;go_wp2;go_loop [7,8] (λj e=>∃b c:Nat,j=.int .i64 b/\e=.int .i64 c/\c=a+2*b/\b<=16/\b<=(n-a+1)/2) (λ_ e=>40-(intOf e).toNat)
  case atStart=>exact⟨0,a,rfl,rfl,O,O,O⟩
  case round=>
   obtain⟨b,c,rfl,rfl,f,o,p⟩:=hrel;have g:Z _:=f;by_cases q:c<n
   .clear f
    go_wp2;have k:=g.o;exact⟨⟨b+1,c+2,Xj,Xj,O,O,O⟩,Xb⟩
   .clear f
    go_wp2;go_ret;have k:=g.o;have r:=i.o;exact⟨aj O,rfl⟩
 .have i:Z (h=(n-a+3)/4):=by
   show h=(n-a+3)/4
   rw[l.o];unfold bq;split<;>omega
  go_enter func111,ntmps111;go_wp2;go_loop [7,8] (λj e=>∃b c:Nat,j=.int .i64 b/\e=.int .i64 c/\c=a+4*b/\b<=16/\b<=(n-a+3)/4) (λ_ e=>40-(intOf e).toNat)
  case atStart=>exact⟨0,a,rfl,rfl,O,O,O⟩
  case round=>
   obtain⟨b,c,rfl,rfl,f,o,p⟩:=hrel;have g:Z _:=f;by_cases q:c<n
   .clear f
    go_wp2;have k:=g.o;exact⟨⟨b+1,c+4,Xj,Xj,O,O,O⟩,Xb⟩
   .clear f
    go_wp2;go_ret;have k:=g.o;have r:=i.o;exact⟨aj O,rfl⟩
 .have i:Z (h=(n-a+7)/8):=by
   show h=(n-a+7)/8
   rw[l.o];unfold bq;split<;>omega
  go_enter func111,ntmps111;go_wp2;go_loop [7,8] (λj e=>∃b c:Nat,j=.int .i64 b/\e=.int .i64 c/\c=a+8*b/\b<=16/\b<=(n-a+7)/8) (λ_ e=>40-(intOf e).toNat)
  case atStart=>exact⟨0,a,rfl,rfl,O,O,O⟩
  case round=>
   obtain⟨b,c,rfl,rfl,f,o,p⟩:=hrel;have g:Z _:=f;by_cases q:c<n
   .clear f
    go_wp2;have k:=g.o;exact⟨⟨b+1,c+8,Xj,Xj,O,O,O⟩,Xb⟩
   .clear f
    go_wp2;go_ret;have k:=g.o;have r:=i.o;exact⟨aj O,rfl⟩
def rm(k:Nat):Nat:=if k=2 then 3 else if k=4 then 2 else if k=6 then 4 else 1
theorem ef(k:Nat)w:Calls prog 80 #[.int .i64 k] w λa b=>a=.returned (.int .i64 (rm k))/\b=w:=by
 have c:Z (rm k=if k=2 then 3 else if k=4 then 2 else if k=6 then 4 else 1):=rfl;generalize rm k=d at *;go_enter func80,ntmps80;go_wp2
 all_goals(go_ret;refine⟨aj ?_,rfl⟩;rw[c.o];simp only[XI,F] at *;(repeat' split)<;>omega)
def kindOk(k:Nat):Prop:=k=0\/k=2\/k=3\/k=4\/k=6
theorem tR{k}(h:kindOk k):rm k=chn k:=by rcases h with rfl|rfl|rfl|rfl|rfl<;>rfl
theorem Do k:rm k<=4:=by unfold rm;(repeat' split)<;>omega
theorem GV(a D:Nat)w(h:D<=16):Calls prog 71 #[.int .i64 a,.int .i64 D] w λb c=>b=.returned (.int .i64 (((rm a*D+7)/8:Nat):Int))/\c=w:=by
 have i:=Do a;have j:Z (∀d,Calls prog 80 #[.int .i64 a] d λb c=>b=.returned (.int .i64 (rm a))/\c=d):=λd=>ef a d
 generalize rm a=f at *;have k:f*D<=64:=by have:=XF i h;omega
 obtain⟨g,e⟩:∃g,g=f*D:=⟨_,rfl⟩;rw[<-e] at k ⊢;have l:(f:Int)*(D:Int)=(g:Int):=by rw[e,Yv]
 replace e:Z _:=e;go_enter func71,ntmps71;go_wp2_with (go_at_call 80;refine(j.o _).mono ?_;rintro b c ⟨rfl,rfl⟩)
 go_ret;exact⟨aj O,rfl⟩
theorem BL{h}(c:kindOk h.K)(d:okD h.D)(e:(h.K=0\/h.K=3)\/(h.D=8\/h.D=16)):(rm h.K*h.D+7)/8=bZ h:=by
 unfold bZ bo;rw[tR c];unfold okD at d;rcases c with a|a|a|a|a<;>rw[a] at e ⊢<;>rcases d with b|b|b|b|b<;>rw[b] at e ⊢<;>first|rfl|(exfalso;omega)
theorem Li:(prog.info? 146).map (λi=>(i.zero,i.size,i.bytes))=some (some (.agg #[.int .i64 0,.int .i64 0,.int .i64 0,.int .i64 0,.int .i64 0]),5,40):=Xk
theorem OV x n d(a:x<=16)(b:n<=4)(c:d<=16):x*n<=64/\x*n*d<=1024:=⟨XF a b,XF (XF a b) c⟩
def gh(h:Hd):List (Nat×Nat)->Nat->List Value
 | [],_=>[]
 | x::rs,a=>[.int .i64 (x.1:Int),.int .i64 (x.2:Int),.int .i64 (a:Int),.int .i64 (bd h x.1),.int .i64 (aC h x.1)]++gh h rs (a+(1+aC h x.1))
theorem wE h x:∀(rs:List (Nat×Nat)) (a:Nat),gh h (rs++[x]) a=gh h rs a++[.int .i64 (x.1:Int),.int .i64 (x.2:Int),.int .i64 ((a+aN h rs:Nat):Int),.int .i64 (bd h x.1),.int .i64 (aC h x.1)]
 | [],a=>by simp[gh,aN]
 | y::rs,a=>by
  rw[Ye,gh,gh,wE h x rs,aN,XY];rw[show a+(1+aC h y.1)+aN h rs=a+(1+aC h y.1+aN h rs) from O]
theorem tX h:∀(n p:Nat),au h (n+1) p=au h n p++(if 0<bd h (p+n) then dg h (p+n) 0 else[])
 | 0,p=>by simp[au]
 | n+1,p=>by
  rw[au,tX h n (p+1)]
  conv=>rhs;rw[au]
  rw[XY,show p+1+n=p+(n+1) from O]
def lr(p n:Nat):List (Nat×Nat):=(List.range' 0 n).map λj=>(p,j)
theorem EG p n:lr p (n+1)=lr p n++[(p,n)]:=by
 unfold lr;rw[List.range'_concat];simp
structure wv (h:Hd) (w1:World) (B:Nat) (v:Value) (n:Nat) (rs:List (Nat×Nat)) (Wd:World):Prop where
 own:Wd.ownsRow (B+1) 146 5 v rs.length (gh h rs 0)
 tot:n=aN h rs
 big:n<=200*rs.length
 below:Below (B+1) w1 Wd
theorem wv.drewN{h w1 B v n rs Wd}(k:wv h w1 B v n rs Wd)q:wv h w1 B v n rs (Wd.drewN q) :=
 ⟨k.own,k.tot,k.big,below_drewN k.below q⟩
theorem wv.re{h w1 B v n rs rs' Wd}(k:wv h w1 B v n rs Wd)(e:rs=rs'):wv h w1 B v n rs' Wd:=e ▸ k
theorem Hh h w(a0:h.W<=16)(a1:h.H<=16)(c7:h.D<=16)(c8:h.L<=1)(c9:kindOk h.K):Calls prog 70 #[.int .i64 h.W,.int .i64 h.H,.int .i64 h.K,.int .i64 h.D,.int .i64 h.L] w λi m=>
   (∃v,i=.returned (.tuple #[v,.int .i64 (aN h (au h (aq h.L) 0):Int)])/\m.ownsRow w.heap.size 146 5 v (au h (aq h.L) 0).length (gh h (au h (aq h.L) 0) 0))/\Kept w m:=by
 obtain⟨d0,d1,d2,d3,d4⟩:=info_parts Li;have d5:Z (∀a,aC h a=(bd h a*(rm h.K*h.D)+7)/8):=λa=>by rw[tR c9];rfl
 go_enter func70,ntmps70;go_wp2_with fail;refine(ui h.L _ c8).mono ?_;rintro i E ⟨rfl,a2,d6⟩;have g5:=a2.lt;have d7:=kH h.L;obtain⟨o,K⟩:∃o,o=aq h.L:=⟨_,rfl⟩;rw[<-K] at d7 ⊢;have M:Z _:=K;clear K;go_wp2;go_loopw [12,13,15] (λv P Q d=>∃(x a:Nat),P=.int .i64 x/\Q=.int .i64 a/\a<=o/\(au h a 0).length<=16*a/\wv h E w.heap.size v x (au h a 0) d) (λ_ _ Q _=>o-(intOf Q).toNat)
 case atStart=>exact⟨0,0,rfl,rfl,O,by show 0<=_;omega,⟨XR _ _ _ _,rfl,by show 0<=_;omega,Xs _ _⟩⟩
 case round=>
  obtain⟨x,a,rfl,rfl,g6,g7,e⟩:=hrel;by_cases S:a<o
  .have y:=MR h.L a (by rw[<-M.o];exact S)
   have z:∀f,f<6->wr.cell? ⟨w.heap.size,a*6+f,none⟩=some (.int .i64 (pv h.L a f)):=λf c=>(e.below.cell (p:=⟨w.heap.size,a*6+f,none⟩) (by show w.heap.size<w.heap.size+1;omega)).trans (a2.cell a f (by rw[<-M.o];exact S) c)
   have a3:=z 0 O;rw[X5] at a3;have a4:=z 1 O;have d8:=z 2 O;have a5:=z 3 O;have a6:Z (∀d,Calls prog 111 #[.int .i64 h.W,.int .i64 (pv h.L a 0),.int .i64 (pv h.L a 2)] d λi m=>i=.returned (.int .i64 (bd h a))/\m=d):=λd=>z5 h.W (ah h.L a).cf (ah h.L a).cs d a0 y.2.2.1 y.1
   have a7:Z (∀d,Calls prog 111 #[.int .i64 h.H,.int .i64 (pv h.L a 1),.int .i64 (pv h.L a 3)] d λi m=>i=.returned (.int .i64 (dt h a))/\m=d):=λd=>z5 h.H (ah h.L a).rf (ah h.L a).rs d a1 y.2.2.2 y.2.1
   have a8:bd h a<=16:=ed (bK _ _).2.1 a0;have d9:dt h a<=16:=ed (bK _ _).2.2.2.2.2.1 a1;have F:=d5.o a;have G:Z (au h (a+1) 0=au h a 0++(if 0<bd h a then lr a (dt h a) else[])):=by
    have:=tX h a 0
    rw[XD] at this;exact this
   have g8:(a:Int)<(o:Int):=O;obtain⟨g,T⟩:∃g,g=bd h a:=⟨_,rfl⟩;obtain⟨n,a9⟩:∃n,n=dt h a:=⟨_,rfl⟩;rw[<-T] at a8 a6 G F;rw[<-a9] at d9 a7 G;have e0:Z _:=T;generalize pv h.L a 0=g9 at *;generalize pv h.L a 1=e1 at *;generalize pv h.L a 2=h0 at *;generalize pv h.L a 3=e2 at *;clear z y T a9;go_wp2;go_quiet ((go_at_call 111;exact Xu (a6.o _)))
   have b0:=e.drewN nq;have e3:(wr.drewN nq).cell? ⟨w.heap.size,a*6+1,none⟩=some (.int .i64 e1):=a4;have e4:(wr.drewN nq).cell? ⟨w.heap.size,a*6+3,none⟩=some (.int .i64 e2):=a5;generalize wr.drewN nq=e5 at *;clear a3 a4 d8 a5 e;go_wp2;go_quiet ((go_at_call 111;exact Xu (a7.o _)))
   have b1:=b0.drewN nq;generalize e5.drewN nq=h1 at *;clear e3 e4 b0;have b2:=Do h.K;have b3:Z (∀d,Calls prog 80 #[.int .i64 h.K] d λi m=>i=.returned (.int .i64 (rm h.K))/\m=d):=λd=>ef h.K d
   obtain⟨A,U⟩:∃A,A=rm h.K:=⟨_,rfl⟩;rw[<-U] at b2 b3 F;replace U:Z _:=U;have H:=OV g A h.D a8 b2 c7;obtain⟨B,C⟩:∃B,B=g*A:=⟨_,rfl⟩;obtain⟨u,D⟩:∃u,u=B*h.D:=⟨_,rfl⟩;have h2:(g:Int)*(A:Int)=(B:Int):=by rw[C,Yv]
   have h3:(B:Int)*(h.D:Int)=(u:Int):=by rw[D,Yv]
   rw[<-C,<-D] at H;have e6:Z (aC h a=(u+7)/8):=by show aC h a=_;rw[F,<-Y3,<-C,<-D]
   replace C:Z _:=C;replace D:Z _:=D;have h4:=H.1;have h5:=H.2;clear H F;go_wp2_with (go_at_call 80;refine(b3.o _).mono ?_;rintro i m ⟨rfl,rfl⟩)
   obtain⟨l,b4,h6⟩:∃l:Nat,((u:Int)+7)/8=(l:Int)/\l<=128:=⟨(u+7)/8,O,O⟩;rw[b4];have b5:Z (aC h a=l):=by show aC h a=l;rw[e6.o];omega
   clear b4;go_loopw [12,13,20] (λv P f d=>∃(j b:Nat),P=.int .i64 j/\f=.int .i64 b/\b<=n/\(0<b->0<g)/\wv h E w.heap.size v j (au h a 0++lr a b) d) (λ_ _ f _=>n-(intOf f).toNat)
   case atStart=>exact⟨x,0,rfl,rfl,O,O,by show wv h E w.heap.size _ x (au h a 0++[]) _;rw[XN];exact b1⟩
   case round=>
    clear b1;obtain⟨j,b,rfl,rfl,h7,b6,e⟩:=hrel;have h8:=e.big;have e7:(au h a 0++lr a b).length=(au h a 0).length+b:=by simp[lr]
    by_cases J:b<n
    .by_cases q:0<g
     .have e8:(0:Int)<(g:Int):=O
      have b7:(b:Int)<(n:Int):=O;have V:=e.below;have W:=e.own;have X:=e.tot;have h9:=V.size;have e9:Z (gh h ((au h a 0++lr a b)++[(a,b)]) 0=gh h (au h a 0++lr a b) 0++[.int .i64 a,.int .i64 b,.int .i64 j,.int .i64 g,.int .i64 l]):=by
       show _=_
       rw[wE,XD,<-X,<-e0.o,b5.o]
      have f0:Z (aN h ((au h a 0++lr a b)++[(a,b)])=j+1+l):=by
       show _=_
       rw[kA,<-X];show j+(1+aC h a+0)=_
       rw[b5.o];omega
      have f1:Z (au h a 0++lr a (b+1)=(au h a 0++lr a b)++[(a,b)]):=by
       show _=_
       rw[EG,XY]
      have i0:(au h a 0++lr a b).length<=200:=O;generalize au h a 0++lr a b=i1 at *;clear X e;go_wp2_with (at_builtin;refine wpList_append_own _ rfl _ _ 102 rfl (w.heap.size+1) 146 d0 (.agg #[.int .i64 0,.int .i64 0,.int .i64 0,.int .i64 0,.int .i64 0]) 5 40 underlying102 d1 d2 d3 d4 rfl Xh _ _ _ rfl (W.alloc _) ⟨wr.heap.size,0,none⟩ 1 1 [.int .i64 a,.int .i64 b,.int .i64 j,.int .i64 g,.int .i64 l] rfl rfl ?c1 ?c2 ?c3 ?c4 ?c5 ?_)
      case c1=>
       intro f f2 c
       match f,c with
       | 0,c=>simp at c;subst c;simp[Addr.add]
       | 1,c=>simp at c;subst c;simp[Addr.add]
       | 2,c=>simp at c;subst c;simp[Addr.add]
       | 3,c=>simp at c;subst c;simp[Addr.add]
       | 4,c=>simp at c;subst c;simp[Addr.add]
       | f+5,c=>simp at c
      case c2=>intro f2 b8;simp at b8;rcases b8 with rfl|rfl|rfl|rfl|rfl<;>rfl
      case c3=>unfold maxLen;omega
      case c4=>omega
      case c5=>simp;omega
      intro f3 f4 b9 c0 f5;have f6:wv h E w.heap.size f3 (j+1+l) (au h a 0++lr a (b+1)) f4:=by
       rw[f1.o];refine⟨?_,f0.o.symm,?_,(V.alloc O _).grown c0 Xf (λf c=>(W.lt f c).1)⟩
       .rw[e9.o,Xv,e7];exact b9
       .rw[Xv];simp;omega
      clear f5 c0 W V b9;go_wp2;exact⟨⟨j+1+l,b+1,Xj,Xj,O,λ_=>q,f6⟩,Xb⟩
     .have e8:¬(0:Int)<(g:Int):=O
      have b7:(b:Int)<(n:Int):=O;have Y:b=0:=by
       by_cases k:b=0
       .exact k
       .exact absurd (b6 O) q
      have k:au h a 0++lr a b=au h (a+1) 0:=by
       have r:=G.o;rw[N q] at r;rw[r,Y];rfl
      have s:(au h (a+1) 0).length<=16*(a+1):=by rw[<-k];omega
      have t:=e.re k;replace t:Z _:=t;replace s:Z _:=s;clear k;clear e;go_wp2;exact⟨⟨j,a+1,rfl,Xj,O,s.o,t.o⟩,Xb⟩
    .have b7:¬(b:Int)<(n:Int):=O
     have f7:b=n:=O;have k:au h a 0++lr a b=au h (a+1) 0:=by
      have r:=G.o;by_cases q:0<g
      .rw[I q,<-f7] at r
       exact r.symm
      .have Y:b=0:=by
        by_cases k:b=0
        .exact k
        .exact absurd (b6 O) q
       rw[N q] at r;rw[r,Y];rfl
     have s:(au h (a+1) 0).length<=16*(a+1):=by rw[<-k];omega
     have t:=e.re k;replace t:Z _:=t;replace s:Z _:=s;clear k;clear e;go_wp2;exact⟨⟨j,a+1,rfl,Xj,O,s.o,t.o⟩,Xb⟩
  .have c6:a=o:=O
   go_wp2;go_ret2;have f8:a=aq h.L:=by rw[c6];exact M.o
   clear c6 S;subst f8;have f9:=e.tot;subst f9;obtain⟨g0,J⟩:=e.own;refine⟨⟨_,rfl,⟨g0,?_⟩⟩,?_⟩
   .rcases J with J|⟨g1,g2,g3,g4,i2,i⟩
    .exact L J
    .exact R ⟨g1,g2,g3,g4,O,i⟩
   .exact Below.trans d6 (e.below.mono O)
theorem uY n w(c : -100000<=n)(d:n<=100000):Calls prog 134 #[.int .i64 n] w λa b=>a=.returned (.int .i64 n.natAbs)/\b=w:=by
 by_cases e:n<0
 .go_enter func134,ntmps134
  go_wp2;go_ret;exact⟨aj O,rfl⟩
 .go_enter func134,ntmps134
  go_wp2;go_ret;exact⟨aj O,rfl⟩
theorem BW(a b c:Nat)w(L:a<256)(M:b<256)(P:c<256):Calls prog 112 #[.int .i64 a,.int .i64 b,.int .i64 c] w λh k=>h=.returned (.int .i64 (near a b c))/\k=w:=by
 obtain⟨i,s⟩:∃o,o=dst b c:=⟨_,rfl⟩;obtain⟨f,t⟩:∃o,o=dst a c:=⟨_,rfl⟩;obtain⟨g,u⟩:∃o,o=dst (a+b) (2*c):=⟨_,rfl⟩;have m:Z (near a b c=if i<=f/\i<=g then a else if f<=g then b else c):=by show near a b c=_;unfold near;rw[s,t,u]
 obtain⟨x,y⟩:∃x,x=near a b c:=⟨_,rfl⟩;rw[<-y] at m ⊢;obtain⟨e,z⟩:∃e:Int,e=(a:Int)+(b:Int)-(c:Int):=⟨_,rfl⟩;have A:Z (∀d,Calls prog 134 #[.int .i64 (e-(a:Int))] d λh k=>h=.returned (.int .i64 i)/\k=d):=λd=>by
  have:=uY (e-(a:Int)) d O O
  have p:(((e-(a:Int)).natAbs:Nat):Int)=(i:Int):=by rw[s];unfold dst;split<;>omega
  rw[p] at this;exact this
 have B:Z (∀d,Calls prog 134 #[.int .i64 (e-(b:Int))] d λh k=>h=.returned (.int .i64 f)/\k=d):=λd=>by
  have:=uY (e-(b:Int)) d O O
  have p:(((e-(b:Int)).natAbs:Nat):Int)=(f:Int):=by rw[t];unfold dst;split<;>omega
  rw[p] at this;exact this
 have C:Z (∀d,Calls prog 134 #[.int .i64 (e-(c:Int))] d λh k=>h=.returned (.int .i64 g)/\k=d):=λd=>by
  have:=uY (e-(c:Int)) d O O
  have p:(((e-(c:Int)).natAbs:Nat):Int)=(g:Int):=by rw[u];unfold dst;split<;>omega
  rw[p] at this;exact this
 have F : -1000<=e:=O;have G:e<=1000:=O;have H:=z.symm;clear y s t u z;go_enter func112,ntmps112;go_wp2_with fail;refine(A.o _).mono ?_;rintro h q ⟨rfl,D⟩;subst q;go_wp2_with fail;refine(B.o _).mono ?_;rintro h q ⟨rfl,D⟩;subst q;go_wp2_with fail;refine(C.o _).mono ?_;rintro h q ⟨rfl,D⟩;subst q;clear A B C H F G;have j:=m.o;by_cases n:i<=f
 .have J:(i:Int)<=(f:Int):=O
  by_cases r:i<=g
  .have K:(i:Int)<=(g:Int):=O
   rw[I ⟨n,r⟩] at j;subst j;clear n r m;go_wp2;go_ret;exact⟨rfl,rfl⟩
  .have K:¬(i:Int)<=(g:Int):=O
   rw[N (λv=>r v.2)] at j;by_cases l:f<=g
   .exfalso;omega
   .have E:¬(f:Int)<=(g:Int):=O
    rw[N l] at j;subst j;clear n r l m;go_wp2;go_ret;exact⟨rfl,rfl⟩
 .have J:¬(i:Int)<=(f:Int):=O
  rw[N (λv=>n v.1)] at j;by_cases l:f<=g
  .have E:(f:Int)<=(g:Int):=O
   rw[I l] at j;subst j;clear n l m;go_wp2;go_ret;exact⟨rfl,rfl⟩
  .have E:¬(f:Int)<=(g:Int):=O
   rw[N l] at j;subst j;clear n l m;go_wp2;go_ret;exact⟨rfl,rfl⟩
structure dS (w:World) (g n:Nat) (x:Nat->Nat):Prop where
 cell:∀j,j<n->w.cell? ⟨g,j,none⟩=some (.int .i64 (x j))
 lt:∀j,j<n->x j<256
theorem E7(t r m n D E i st:Nat)x up w(o:dS w r n x)(g:dS w m n up)(z:i<n)(P:1<=st)(Q:st<=100)(R:n<=100000)(S:t<=4):Calls prog 72 #[.int .i64 t,.slice (some ⟨r,0,none⟩) n D,.slice (some ⟨m,0,none⟩) n E,.int .i64 i,.int .i64 st] w λh s=>h=.returned (.int .i64 (gss t (if st<=i then x (i-st) else 0) (up i) (if st<=i then up (i-st) else 0):Int))/\s=w:=by
 obtain⟨b,e⟩:∃b,b=(if st<=i then x (i-st) else 0):=⟨_,rfl⟩;obtain⟨d,f⟩:∃d,d=(if st<=i then up (i-st) else 0):=⟨_,rfl⟩;obtain⟨c,j⟩:∃c,c=up i:=⟨_,rfl⟩;rw[<-e,<-f,<-j];have T:w.cell? ⟨m,i,none⟩=some (.int .i64 c):=by rw[j];exact g.cell i z
 have F:c<256:=by rw[j];exact g.lt i z
 have G:b<256:=by rw[e];split;exact o.lt _ O;omega
 have H:d<256:=by rw[f];split;exact g.lt _ O;omega
 have A:Z (∀p,Calls prog 112 #[.int .i64 b,.int .i64 c,.int .i64 d] p λh s=>h=.returned (.int .i64 (near b c d))/\s=p):=λp=>BW b c d p G F H
 have k:Z (gss t b c d=if t=1 then b else if t=2 then c else if t=3 then(b+c)/2 else if t=4 then near b c d else 0):=rfl;generalize near b c d=U at *;obtain⟨B,u⟩:∃B,B=gss t b c d:=⟨_,rfl⟩;rw[<-u] at k ⊢;have V:(0:Int)<=(i:Int):=O;have W:(i:Int)<(n:Int):=O;by_cases q:st<=i
 .have J:(st:Int)<=(i:Int):=O
  rw[I q] at e f;have K:w.cell? ⟨r,i-st,none⟩=some (.int .i64 b):=by rw[e];exact o.cell _ O
  have L:w.cell? ⟨m,i-st,none⟩=some (.int .i64 d):=by rw[f];exact g.cell _ O
  obtain⟨l,C⟩:∃l,l=i-st:=⟨_,rfl⟩;rw[<-C] at K L;have X:(i:Int)-(st:Int)=(l:Int):=O;have Y:(0:Int)<=(l:Int):=O;have a0:(l:Int)<(n:Int):=O;clear e j f u o g q C;have v:t=0\/t=1\/t=2\/t=3\/t=4:=O;have a:=k.o;clear k;rcases v with rfl|rfl|rfl|rfl|rfl
  .rw[N Xh,N Xh,N Xh,N Xh] at a
   subst a;go_enter func72,ntmps72;go_wp2;go_ret;exact⟨rfl,rfl⟩
  .rw[I rfl] at a
   subst a;go_enter func72,ntmps72;go_wp2;go_ret;exact⟨rfl,rfl⟩
  .rw[N Xh,I rfl] at a
   subst a;go_enter func72,ntmps72;go_wp2;go_ret;exact⟨rfl,rfl⟩
  .rw[N Xh,N Xh,I rfl] at a
   go_enter func72,ntmps72;go_wp2;go_ret;exact⟨aj O,rfl⟩
  .rw[N Xh,N Xh,N Xh,I rfl] at a
   subst a;go_enter func72,ntmps72;go_wp2_with fail;refine(A.o _).mono ?_;rintro h y ⟨rfl,M⟩;subst y;go_wp2;go_ret;exact⟨rfl,rfl⟩
 .have J:¬(st:Int)<=(i:Int):=O
  rw[N q] at e f;subst e;subst f;clear j u o g q;have v:t=0\/t=1\/t=2\/t=3\/t=4:=O;have a:=k.o;clear k;rcases v with rfl|rfl|rfl|rfl|rfl
  .rw[N Xh,N Xh,N Xh,N Xh] at a
   subst a;go_enter func72,ntmps72;go_wp2;go_ret;exact⟨rfl,rfl⟩
  .rw[I rfl] at a
   subst a;go_enter func72,ntmps72;go_wp2;go_ret;exact⟨rfl,rfl⟩
  .rw[N Xh,I rfl] at a
   subst a;go_enter func72,ntmps72;go_wp2;go_ret;exact⟨rfl,rfl⟩
  .rw[N Xh,N Xh,I rfl] at a
   go_enter func72,ntmps72;go_wp2;go_ret;exact⟨aj O,rfl⟩
  .rw[N Xh,N Xh,N Xh,I rfl] at a
   subst a;go_enter func72,ntmps72;go_wp2_with fail;refine(A.o _).mono ?_;rintro h y ⟨rfl,M⟩;subst y;go_wp2;go_ret;exact⟨rfl,rfl⟩
theorem zI g n c k D x w(d:dS w g n x)(s:okD D)(p:(k+1)*D<=8*n)(V:n<=100000):Calls prog 73 #[.slice (some ⟨g,0,none⟩) n c,.int .i64 k,.int .i64 D] w λH J=>H=.returned (.int .i64 (cU D x k))/\∃K,J=w.drewN K:=by
 rw[YO,Zi] at p;by_cases t:D=16
 .subst t
  have l:cU 16 x k=256*x (2*k)+x (2*k+1):=by
   unfold cU;rw[N Xh,show k*16/8=2*k from O]
  have q:=d.cell (2*k) O;have u:=d.cell (2*k+1) O;have L:=d.lt (2*k) O;have W:=d.lt (2*k+1) O;rw[l];generalize x (2*k)=f at *;generalize x (2*k+1)=X at *;obtain⟨a,m⟩:∃a,a=2*k:=⟨_,rfl⟩;obtain⟨o,v⟩:∃o,o=a+1:=⟨_,rfl⟩;rw[<-m] at q u;rw[<-v] at u;have M:(2:Int)*(k:Int)=(a:Int):=O;have P:(a:Int)+1=(o:Int):=O;have Q:(0:Int)<=(a:Int):=O;have R:(a:Int)<(n:Int):=O;have Y:(0:Int)<=(o:Int):=O;have a0:(o:Int)<(n:Int):=O;clear d l m v;go_enter func73,ntmps73;go_wp2_with fail;go_quiet (fail);go_wp2;go_ret;exact⟨aj O,_,rfl⟩
 .have y:D=1\/D=2\/D=4\/D=8:=by unfold okD at s;omega
  have a1:((D:Int)==16)=false:=Xa;have z:D<16:=O;have l:cU D x k=lI (x (k*D/8)) (k*D%8) D:=by unfold cU;rw[I z]
  rw[l];obtain⟨b,r⟩:∃b,b=k*D:=⟨_,rfl⟩;rw[<-r] at p ⊢;have a2:b<=800000:=O;have q:=d.cell (b/8) O;have L:=d.lt (b/8) O;generalize x (b/8)=f at *;have A:b%8+D<=8:=by rcases y with rfl|rfl|rfl|rfl<;>omega
  obtain⟨a,m⟩:∃a,a=b/8:=⟨_,rfl⟩;rw[<-m] at q;obtain⟨e,B⟩:∃e,e=b%8:=⟨_,rfl⟩;rw[<-B] at A ⊢;have a3:(k:Int)*(D:Int)=(b:Int):=by rw[r,Yv]
  have M:(b:Int)/8=(a:Int):=O;have P:(b:Int)%8=(e:Int):=O;have Q:(0:Int)<=(a:Int):=O;have R:(a:Int)<(n:Int):=O;obtain⟨h,C⟩:∃h,h=8-e-D:=⟨_,rfl⟩;have S:Z (lI f e D=f/2^h%2^D):=by show lI f e D=_;unfold lI;rw[C]
  generalize lI f e D=a4 at *;have a5:(8:Int)-(D:Int)-(e:Int)=(h:Int):=O;have a6:h<=7:=O;clear d l m B C r;have T:D<=8:=O;have a7:1<=D:=O;have E:2^D<=2^8:=XH O T;have G:1<=2^D:=Nat.one_le_two_pow;obtain⟨i,j⟩:∃i,i=2^D:=⟨_,rfl⟩;have a8:(2:Int)^D=(i:Int):=by rw[j];simp
  have a9:1<=i:=by rw[j];exact G
  have b0:i<=256:=by rw[j];exact E
  replace j:Z (i=2^D):=j;clear y z t s p A E G;go_enter func73,ntmps73;go_wp2;go_ret;refine⟨aj ?_,0,rfl⟩;have U:(f:Int)/2^h=((f/2^h:Nat):Int):=Xi;rw[U,XU (Int.natCast_nonneg _),S.o,<-j.o];exact(Yo _ _).symm
theorem BQ g n c k D x w(d:dS w g n x)(e:okD D)(f:(k+1)*D<=8*n)(h:n<=100000):Calls prog 73 #[.slice (some ⟨g,0,none⟩) n c,.int .i64 k,.int .i64 D] w λa b=>a=.returned (.int .i64 (cU D x k))/\Kept w b:=by
 refine(zI g n c k D x w d e f h).mono ?_;rintro a b ⟨i,j,rfl⟩;exact⟨i,(Kept.refl _).drewN _⟩
theorem IN:(prog.info? 30).map (λi=>(i.zero,i.size,i.bytes))=some (some (.slice none 0 0),1,24):=Xk
theorem pP h:∀(rs:List (Nat×Nat)) (a k p n:Nat),rs[k]? = some (p,n)->(gh h rs a)[k*5]? = some (.int .i64 p)/\(gh h rs a)[k*5+1]? = some (.int .i64 n)/\(gh h rs a)[k*5+2]? = some (.int .i64 ((a+aN h (rs.take k):Nat):Int))/\(gh h rs a)[k*5+3]? = some (.int .i64 (bd h p))/\(gh h rs a)[k*5+4]? = some (.int .i64 (aC h p))
 | [],a,k,p,n,b=>by simp at b
 | x::rs,a,0,p,n,b=>by
  simp at b;subst b;exact⟨rfl,rfl,by simp[gh,aN],rfl,rfl⟩
 | x::rs,a,k+1,p,n,b=>by
  have c:=pP h rs (a+(1+aC h x.1)) k p n (by simpa using b);have g:(k+1)*5=k*5+5:=O;have i:aN h ((x::rs).take (k+1))=1+aC h x.1+aN h (rs.take k):=by rw[List.take_succ_cons,aN]
  have d:∀e,(gh h (x::rs) a)[k*5+5+e]? = (gh h rs (a+(1+aC h x.1)))[k*5+e]? := λe=>by
   rw[gh,XP Xf]
   congr 1
   simp;omega
  rw[g,i];have f:=d 0;rw[X5,X5] at f;rw[f,d 1,d 2,d 3,d 4];refine⟨c.1,c.2.1,?_,c.2.2.2.1,c.2.2.2.2⟩;rw[c.2.2.1]
  congr 3
  omega
structure Ln where
 g:Nat
 n:Nat
 x:Nat->Nat
def lnV(a:Ln):Value := .slice (some ⟨a.g,0,none⟩) a.n a.n
structure lM (w3 W:World) (mb:Nat) (lv fv:Value) (ls:List Ln):Prop where
 c3:W.cell? ⟨mb,3,none⟩=some lv
 c4:W.cell? ⟨mb,4,none⟩=some fv
 c5:W.cell? ⟨mb,5,none⟩=some (.int .i64 0)
 c6:W.cell? ⟨mb,6,none⟩=some (.int .i64 0)
 c02:∀j,j<3->W.cell? ⟨mb,j,none⟩=w3.cell? ⟨mb,j,none⟩
 fz:∀j,W.frozen? ⟨mb,j,none⟩=false
 fr:Fr1 mb w3 W
 lt:mb<w3.heap.size
 own:W.ownsRow w3.heap.size 30 1 lv ls.length (ls.map lnV)
 fil:∃fs,W.ownsRow w3.heap.size 3 1 fv ls.length fs
 ln:∀a∈ls,dS W a.g a.n a.x/\w3.heap.size<=a.g/\a.g<W.heap.size/\lv.ownBlock≠some a.g/\fv.ownBlock≠some a.g
 dis:∀g,lv.ownBlock=some g->fv.ownBlock≠some g
theorem dS.same{w w' g n x}(h:dS w g n x)(e:w'.heap[g]? = w.heap[g]?):dS w' g n x:=⟨λa b=>(XK (w:=w) e).trans (h.cell a b),h.lt⟩
theorem dS.kept{w w' g n x}(h:dS w g n x)(a:0<n)(k:Kept w w'):dS w' g n x:=h.same (k.block g (B _ _ (h.cell 0 a)))
theorem lM.kept{w3 W W' mb lv fv ls}(h:lM w3 W mb lv fv ls)(k:Kept W W'):lM w3 W' mb lv fv ls:=by
 have c:=B _ _ h.c3;obtain⟨f,g⟩:=h.fil;have b:∀a,W'.cell? ⟨mb,a,none⟩=W.cell? ⟨mb,a,none⟩:=λa=>k.cell (p:=⟨mb,a,none⟩) c
 refine⟨(b 3).trans h.c3,(b 4).trans h.c4,(b 5).trans h.c5,(b 6).trans h.c6,λa i=>(b a).trans (h.c02 a i),λa=>(k.frozen (p:=⟨mb,a,none⟩) c).trans (h.fz a),h.fr.kept k,h.lt,bO h.own k,⟨f,bO g k⟩,λd j => ?_,h.dis⟩;obtain⟨l,m,e,n⟩:=h.ln d j;exact⟨l.same (k.block d.g e),m,Xq e k.size,n⟩
theorem lM.line{w3 W W' mb lv lv' fv ls a}(h:lM w3 W mb lv fv ls)(v:dS W a.g a.n a.x)(x:w3.heap.size<=a.g)(y:a.g<W.heap.size)(z:lv.ownBlock≠some a.g)(A:fv.ownBlock≠some a.g)(f:W.grownBy W' lv.ownBlock)(l:W'.ownsRow w3.heap.size 30 1 lv' (ls.length+1) (ls.map lnV++[lnV a]))(m:∀i,lv'.ownBlock=some i->lv.ownBlock=some i\/W.heap.size<=i):∃j,(W'.setCell ⟨mb,3,none⟩ lv').ownsRow w3.heap.size 3 1 fv ls.length j/\(∀d,lv'.ownBlock=some d->fv.ownBlock≠some d) /\
   (W'.setCell ⟨mb,3,none⟩ lv').ownsRow w3.heap.size 30 1 lv' (ls++[a]).length ((ls++[a]).map lnV)/\Fr1 mb w3 (W'.setCell ⟨mb,3,none⟩ lv') /\
   (∀c,c≠3->(W'.setCell ⟨mb,3,none⟩ lv').cell? ⟨mb,c,none⟩=W.cell? ⟨mb,c,none⟩)/\(W'.setCell ⟨mb,3,none⟩ lv').cell? ⟨mb,3,none⟩=some lv'/\(∀c,(W'.setCell ⟨mb,3,none⟩ lv').frozen? ⟨mb,c,none⟩=false) /\
   (∀b∈ls++[a],dS (W'.setCell ⟨mb,3,none⟩ lv') b.g b.n b.x/\w3.heap.size<=b.g/\b.g<(W'.setCell ⟨mb,3,none⟩ lv').heap.size/\lv'.ownBlock≠some b.g/\fv.ownBlock≠some b.g):=by
 have C:some mb≠lv.ownBlock:=λe=>by have:=(h.own.lt mb e.symm).1;have:=h.lt;omega
 obtain⟨j,n⟩:=h.fil;have o:=f.block mb (B _ _ h.c3) C;have p:∀c,W'.cell? ⟨mb,c,none⟩=W.cell? ⟨mb,c,none⟩:=λc=>XK (w:=W) o
 have D:∀c,W'.frozen? ⟨mb,c,none⟩=W.frozen? ⟨mb,c,none⟩:=λc=>X2 (w:=W) o
 have k:Fr1 mb W' (W'.setCell ⟨mb,3,none⟩ lv'):=(Fr1.refl _ _).set _ _;have P:=h.lt;have E:=aU l k (λd f e=>by have:=(l.lt d f).1;omega);have q:=n.kept f (by cases F:fv.ownBlock;exact L rfl;exact R (λe=>h.dis _ e.symm F));have G:=aU q k (λd f e=>by have:=(q.lt d f).1;omega);have H:∀d,lv'.ownBlock=some d->fv.ownBlock≠some d:=λd e g=>by
  rcases m d e with i|i
  .exact h.dis d i g
  .have:=(n.lt d g).2;omega
 refine⟨j,G,H,by rw[Zf,Xv];exact E,?_,λc Q => ?_,?_,λc => ?_,λb r => ?_⟩
 .exact Fr1.set (h.fr.grown f (λi I=>R ((h.own.lt i I).1))) _ _
 .rw[aa _ _ _ _ _ O];exact p c
 .exact ai ((p 3).trans h.c3) _
 .exact(Xy _ _ _ _).trans ((D c).trans (h.fz c))
 .have J:dS W b.g b.n b.x/\w3.heap.size<=b.g/\b.g<W.heap.size/\lv.ownBlock≠some b.g/\fv.ownBlock≠some b.g:=by
   rw[XW,Y0] at r;rcases r with g|g
   .exact h.ln b g
   .subst g;exact⟨v,x,y,z,A⟩
  obtain⟨K,M,s,t,N⟩:=J;have u:=Xq s f.size;refine⟨(K.same (f.block b.g s (λe=>t e.symm))).same (k.block b.g u O),M,by simpa[World.setCell] using u,λe => ?_,N⟩;rcases m b.g e with g|g
  .exact t g
  .omega
theorem lM.filt{w3 W W' mb lv fv fv'}{ls g:List Ln}{fs fs'}(y:mb<w3.heap.size)(z:g.length=ls.length+1)(k:W.ownsRow w3.heap.size 3 1 fv ls.length fs)(l:∀d,lv.ownBlock=some d->fv.ownBlock≠some d)(m:W.ownsRow w3.heap.size 30 1 lv g.length (g.map lnV))(A:Fr1 mb w3 W)(n:W.cell? ⟨mb,3,none⟩=some lv)(C:W.cell? ⟨mb,4,none⟩=some fv)(D:W.cell? ⟨mb,5,none⟩=some (.int .i64 0))(E:W.cell? ⟨mb,6,none⟩=some (.int .i64 0))(F:∀a,a<3->W.cell? ⟨mb,a,none⟩=w3.cell? ⟨mb,a,none⟩)(G:∀a,W.frozen? ⟨mb,a,none⟩=false)(H:∀b∈g,dS W b.g b.n b.x/\w3.heap.size<=b.g/\b.g<W.heap.size/\lv.ownBlock≠some b.g/\fv.ownBlock≠some b.g)(e:W.grownBy W' fv.ownBlock)(o:W'.ownsRow w3.heap.size 3 1 fv' (ls.length+1) fs')(p:∀f,fv'.ownBlock=some f->fv.ownBlock=some f\/W.heap.size<=f):lM w3 (W'.setCell ⟨mb,4,none⟩ fv') mb lv fv' g:=by
 have I:some mb≠fv.ownBlock:=λc=>by have:=(k.lt mb c.symm).1;omega
 have q:=e.block mb (B _ _ n) I;have r:∀a,W'.cell? ⟨mb,a,none⟩=W.cell? ⟨mb,a,none⟩:=λa=>XK (w:=W) q
 have J:∀a,W'.frozen? ⟨mb,a,none⟩=W.frozen? ⟨mb,a,none⟩:=λa=>X2 (w:=W) q
 have j:Fr1 mb W' (W'.setCell ⟨mb,4,none⟩ fv'):=(Fr1.refl _ _).set _ _;have h:∀a,a≠4->(W'.setCell ⟨mb,4,none⟩ fv').cell? ⟨mb,a,none⟩=W.cell? ⟨mb,a,none⟩:=λa s=>by rw[aa _ _ _ _ _ O];exact r a
 have K:=aU o j (λd e c=>by have:=(o.lt d e).1;omega);have t:=m.kept e (by cases M:lv.ownBlock;exact L rfl;exact R (λc=>l _ M c.symm));have N:=aU t j (λd e c=>by have:=(t.lt d e).1;omega);refine⟨(h 3 O).trans n,ai ((r 4).trans C) _,(h 5 O).trans D,(h 6 O).trans E,λa s=>(h a O).trans (F a s),λa=>(Xy _ _ _ _).trans ((J a).trans (G a)),Fr1.set (A.grown e (λf P=>R ((k.lt f P).1))) _ _,y,N,⟨fs',by rw[z];exact K⟩,λb Q => ?_,λd c i => ?_⟩
 .obtain⟨S,T,u,U,v⟩:=H b Q
  have x:=Xq u e.size;refine⟨(S.same (e.block b.g u (λc=>v c.symm))).same (j.block b.g x O),T,by simpa[World.setCell] using x,U,λc => ?_⟩;rcases p b.g c with i|i
  .exact v i
  .omega
 .rcases p d i with f|f
  .exact l d c f
  .have:=(m.lt d c).2;omega
def ImR.app(l:List (Nat->Nat)):ImR->ImR
 | .inl (ls,e,p) => .bad (l++ls) e p
 | .inr (.inl ls) => .part (l++ls)
 | .inr (.inr ls) => .full (l++ls)
theorem ImR.app_nil(q:ImR):q.app []=q:=by cases q using ImR.cs<;>rfl
theorem ImR.app_cons l x(q:ImR):(q.cons x).app l=q.app (l++[x]):=by
 cases q using ImR.cs<;>simp[ImR.app,ImR.cons]
def ImR.lines:ImR->List (Nat->Nat)
 | .inl (ls,_,_)=>ls
 | .inr (.inl ls)=>ls
 | .inr (.inr ls)=>ls
def ofE(im:ImR)(dn sm:Bool)(en:Nat):Nat×Nat:=
 match im with
 | .inl (_,e,p)=>(e,p)
 | .inr (.inl _)=>if(dn&&sm)=true then(18,en) else(0,0)
 | .inr (.inr _)=>(0,0)
theorem nF h:∀(n p:Nat),au h n p=[]\/∃q a,q+a+1=p+n/\0<bd h q/\0<dt h q/\au h n p=dg h q 0++au h a (q+1)
 | 0,p=>L rfl
 | n+1,p=>by
  rw[au];by_cases c:0<bd h p/\0<dt h p
  .right
   exact⟨p,n,O,c.1,c.2,by rw[I c.1]⟩
  .have d:(if 0<bd h p then dg h p 0 else[])=[]:=by
    by_cases b:0<bd h p
    .rw[I b]
     unfold dg;rw[show dt h p-0=0 from O];rfl
    .rw[N b]
   rw[d,Ze];rcases nF h n (p+1) with q|⟨q,a,f,e⟩
   .exact L q
   .exact R ⟨q,a,O,e⟩
def Ef(h:Hd)(rs:List (Nat×Nat))(prev:Nat):Prop:=rs=[]\/∃p k n,p+n+1=aq h.L/\k<dt h p/\0<bd h p/\rs=dg h p k++au h n (p+1)/\(0<k->prev=aC h p)
theorem zJ h:Ef h (au h (aq h.L) 0) 0:=by
 rcases nF h (aq h.L) 0 with a|⟨a,b,g,c,d,e⟩
 .exact L a
 .exact R ⟨a,0,b,O,d,c,e,λf=>absurd f O⟩
theorem tV{h rs p k prev}(i:Ef h ((p,k)::rs) prev):Ef h rs (aC h p)/\p<aq h.L/\0<bd h p/\k<dt h p/\(0<k->prev=aC h p):=by
 rcases i with a|⟨b,c,e,j,l,f,g,m⟩
 .cases a
 .have n:dg h b c=(b,c)::dg h b (c+1):=by
   unfold dg;rw[show dt h b-c=dt h b-(c+1)+1 from O,List.range'_succ];rfl
  rw[n,Ye] at g
  injection g with o d
  injection o with q r
  subst q;subst r;refine⟨?_,O,f,l,m⟩;by_cases s:k+1<dt h p
  .exact R ⟨p,k+1,e,j,s,f,d,λ_=>rfl⟩
  .have t:dg h p (k+1)=[]:=by
    unfold dg;rw[show dt h p-(k+1)=0 from O];rfl
   rw[t,Ze] at d;rw[d];rcases nF h e (p+1) with a|⟨a,u,y,v,w,x⟩
   .exact L a
   .exact R ⟨a,0,u,O,w,v,x,λk=>absurd k O⟩
structure lN (w3 W:World) (mb er at':Nat) (ls:List Ln):Prop where
 c3:∃lv,W.cell? ⟨mb,3,none⟩=some lv/\W.ownsRow w3.heap.size 30 1 lv ls.length (ls.map lnV)
 c5:W.cell? ⟨mb,5,none⟩=some (.int .i64 (er:Int))
 c6:W.cell? ⟨mb,6,none⟩=some (.int .i64 (at':Int))
 c02:∀j,j<3->W.cell? ⟨mb,j,none⟩=w3.cell? ⟨mb,j,none⟩
 fz:∀j,W.frozen? ⟨mb,j,none⟩=false
 fr:Fr1 mb w3 W
 lt:mb<w3.heap.size
 ln:∀a∈ls,dS W a.g a.n a.x/\w3.heap.size<=a.g/\a.g<W.heap.size
theorem lM.fin{w3 W mb lv fv ls}(h:lM w3 W mb lv fv ls):lN w3 W mb 0 0 ls:=
 ⟨⟨lv,h.c3,h.own⟩,h.c5,h.c6,h.c02,h.fz,h.fr,h.lt,λa b=>⟨(h.ln a b).1,(h.ln a b).2.1,(h.ln a b).2.2.1⟩⟩
theorem lN.set5{w3 W mb er at' ls}(h:lN w3 W mb er at' ls)(e:Nat):lN w3 (W.setCell ⟨mb,5,none⟩ (.int .i64 e)) mb e at' ls:=by
 have c:Fr1 mb W (W.setCell ⟨mb,5,none⟩ (.int .i64 e)):=(Fr1.refl _ _).set _ _;obtain⟨j,k,d⟩:=h.c3;have q:=h.lt;have b:∀a,a≠5->(W.setCell ⟨mb,5,none⟩ (.int .i64 e)).cell? ⟨mb,a,none⟩=W.cell? ⟨mb,a,none⟩:=λa f=>aa _ _ _ _ _ O
 refine⟨⟨j,(b 3 O).trans k,aU d c (λl m r=>by have:=(d.lt l m).1;omega)⟩,ai h.c5 _,(b 6 O).trans h.c6,λa f=>(b a O).trans (h.c02 a f),λa=>(Xy _ _ _ _).trans (h.fz a),Fr1.set h.fr _ _,h.lt,λg n => ?_⟩;obtain⟨o,p,i⟩:=h.ln g n;exact⟨o.same (c.block g.g i O),p,by simpa[World.setCell] using i⟩
theorem lN.set6{w3 W mb er at' ls}(h:lN w3 W mb er at' ls)(e:Nat):lN w3 (W.setCell ⟨mb,6,none⟩ (.int .i64 e)) mb er e ls:=by
 have c:Fr1 mb W (W.setCell ⟨mb,6,none⟩ (.int .i64 e)):=(Fr1.refl _ _).set _ _;obtain⟨j,k,d⟩:=h.c3;have q:=h.lt;have b:∀a,a≠6->(W.setCell ⟨mb,6,none⟩ (.int .i64 e)).cell? ⟨mb,a,none⟩=W.cell? ⟨mb,a,none⟩:=λa f=>aa _ _ _ _ _ O
 refine⟨⟨j,(b 3 O).trans k,aU d c (λl m r=>by have:=(d.lt l m).1;omega)⟩,(b 5 O).trans h.c5,ai h.c6 _,λa f=>(b a O).trans (h.c02 a f),λa=>(Xy _ _ _ _).trans (h.fz a),Fr1.set h.fr _ _,h.lt,λg n => ?_⟩;obtain⟨o,p,i⟩:=h.ln g n;exact⟨o.same (c.block g.g i O),p,by simpa[World.setCell] using i⟩
theorem lN.kept{w3 W W' mb er at' ls}(h:lN w3 W mb er at' ls)(k:Kept W W'):lN w3 W' mb er at' ls:=by
 obtain⟨g,c,i⟩:=h.c3;have d:=B _ _ c;have b:∀a,W'.cell? ⟨mb,a,none⟩=W.cell? ⟨mb,a,none⟩:=λa=>k.cell (p:=⟨mb,a,none⟩) d
 refine⟨⟨g,(b 3).trans c,bO i k⟩,(b 5).trans h.c5,(b 6).trans h.c6,λa j=>(b a).trans (h.c02 a j),λa=>(k.frozen (p:=⟨mb,a,none⟩) d).trans (h.fz a),h.fr.kept k,h.lt,λe l => ?_⟩;obtain⟨m,n,f⟩:=h.ln e l;exact⟨m.same (k.block e.g f),n,Xq f k.size⟩
def CP(h:Hd)(rows:List (Nat×Nat))(ls:List Ln):Prop:=∀(j:Nat) (a:Ln),ls[j]? = some a->∃p n,rows[j]? = some (p,n)/\a.n=aC h p
structure OfL (h:Hd) (C:Nat) (out:List One) (rows:List (Nat×Nat)) (w3 W:World) (mb k:Nat) (lv fv:Value) (ls:List Ln) (pre rs:List (Nat×Nat)) (prev:Nat) (up:Nat->Nat):Prop where
 img:lM w3 W mb lv fv ls
 split:rows=pre++rs
 len:pre.length=k
 lenl:ls.length=k
 pos:Ef h rs prev
 last:prev≠0->∃a,ls[k-1]? = some a/\0<k/\a.n=prev/\a.x=up
 eq:aH h C rows (λ_=>0) out=(aH h C rs up (out.drop (aN h pre))).app (ls.map Ln.x)
 sz:CP h rows ls
structure OfZ (h:Hd) (C:Nat) (out:List One) (rows:List (Nat×Nat)) (w3 W:World) (mb:Nat) (ls:List Ln) (im:ImR):Prop where
 img:lN w3 W mb 0 0 ls
 eq:aH h C rows (λ_=>0) out=im
 lines:ls.map Ln.x=im.lines
 sz:CP h rows ls
 kind:(∃l,im=.part l/\out.length<aN h rows)\/(∃l,im=.full l/\out.length=aN h rows)\/(∃l,im=.bad l 17 (pAt out (aN h rows))/\aN h rows<out.length)
theorem rV{a:Type}{l:List a}{n}(h:l.length<=n):l.drop n=[]:=Y8.2 h
theorem et l n(h:n<l.length):l.drop n=(vAt l n,pAt l n)::l.drop (n+1):=by
 rw[Yy h]
 congr 1
 unfold vAt pAt;rw[G,Xt h];rfl
theorem OfL.stop{h C out rows w3 W mb k lv fv ls pre prev up}(s:OfL h C out rows w3 W mb k lv fv ls pre [] prev up):∃f,OfZ h C out rows w3 W mb ls f:=by
 have b:rows=pre:=by rw[s.split,XN]
 have a:=s.eq;by_cases g:out.length<=aN h pre
 .rw[rV g,aH] at a
  by_cases i:out.length=aN h pre
  .exact⟨_,s.img.fin,a,by simp[ImR.app,ImR.lines],s.sz,R (L ⟨_,rfl,by rw[b];exact i⟩)⟩
  ·
   exfalso
   have d:=Ak h C pre (λ_=>0) out;rw[b] at a;rw[a] at d;rcases d with⟨e,c,j⟩|⟨e,c,j⟩|⟨e,l,m,c⟩
   .simp[ImR.app] at c
   .omega
   .simp[ImR.app] at c
 .rw[et out _ O,aH] at a
  refine⟨_,s.img.fin,a,by simp[ImR.app,ImR.lines],s.sz,R (R ⟨ls.map Ln.x++[],?_,by rw[b];omega⟩)⟩;rw[b];rfl
theorem OfL.cut{h C out rows w3 W mb k p n lv fv ls pre rs prev up}(s:OfL h C out rows w3 W mb k lv fv ls pre ((p,n)::rs) prev up)W'(a:lN w3 W' mb 0 0 ls)(c:out.length<=aN h pre\/(aN h pre<out.length/\vAt out (aN h pre)<=4/\out.length<=aN h pre+aC h p)):∃a,OfZ h C out rows w3 W' mb ls a:=by
 have b:=s.eq;have f:aN h rows=aN h pre+(1+aC h p+aN h rs):=by rw[s.split,kA,aN]
 rcases c with d|⟨e,g,i⟩
 .rw[rV d,aH] at b
  exact⟨_,a,b,by simp[ImR.app,ImR.lines],s.sz,L ⟨_,rfl,O⟩⟩
 .rw[et out _ e,aH,N (by show ¬4<vAt out (aN h pre);omega),I Xf] at b
  exact⟨_,a,b,by simp[ImR.app,ImR.lines],s.sz,L ⟨_,rfl,O⟩⟩
structure tt (w:World) (fb:Nat) (h:Hd) (palN:Nat):Prop where
 c1:w.cell? ⟨fb,1,none⟩=some (.int .i64 (h.W:Int))
 c2:w.cell? ⟨fb,2,none⟩=some (.int .i64 (h.H:Int))
 c3:w.cell? ⟨fb,3,none⟩=some (.int .i64 (h.D:Int))
 c4:w.cell? ⟨fb,4,none⟩=some (.int .i64 (h.K:Int))
 c5:w.cell? ⟨fb,5,none⟩=some (.int .i64 (h.L:Int))
 c8:∃a c,w.cell? ⟨fb,8,none⟩=some (.slice a palN c)
theorem tt.lt{w fb palN h}(k:tt w fb h palN):fb<w.heap.size:=B _ _ k.c1
theorem tt.same{w w' fb palN h}(k:tt w fb h palN)(q:w'.heap[fb]? = w.heap[fb]?):tt w' fb h palN:=by
 have a:∀b,w'.cell? ⟨fb,b,none⟩=w.cell? ⟨fb,b,none⟩:=λb=>XK (w:=w) q
 obtain⟨c,d,e⟩:=k.c8;exact⟨(a 1).trans k.c1,(a 2).trans k.c2,(a 3).trans k.c3,(a 4).trans k.c4,(a 5).trans k.c5,c,d,(a 8).trans e⟩
theorem tt.kept{w w' fb palN h}(k:tt w fb h palN)(q:Kept w w'):tt w' fb h palN:=k.same (q.block fb k.lt)
structure AU (w:World) (sb:Nat) (ov:Value) (out:List One) (dn sm:Bool) (en:Nat):Prop where
 c0:w.cell? ⟨sb,0,none⟩=some ov
 c3:w.cell? ⟨sb,3,none⟩=some (.bool dn)
 c4:w.cell? ⟨sb,4,none⟩=some (.bool sm)
 c7:w.cell? ⟨sb,7,none⟩=some (.int .i64 (en:Int))
 z:ZAt w ov out
theorem AU.lt{w sb en ov out dn sm}(k:AU w sb ov out dn sm en):sb<w.heap.size:=B _ _ k.c0
theorem AU.kept{w w' sb en ov out dn sm}(k:AU w sb ov out dn sm en)(q:Kept w w'):AU w' sb ov out dn sm en:=by
 have a:∀b,w'.cell? ⟨sb,b,none⟩=w.cell? ⟨sb,b,none⟩:=λb=>q.cell (p:=⟨sb,b,none⟩) k.lt
 exact⟨(a 0).trans k.c0,(a 3).trans k.c3,(a 4).trans k.c4,(a 7).trans k.c7,k.z.fr (S:=λ_=>False) (Fr.of_kept q) (λ_ _ c=>c)⟩
theorem wD h(a:h.H<=16):∀n p,n<=7->(au h n p).length<=200:=by
 have b:∀n p,(au h n p).length<=16*n:=by
  intro n
  induction n with
  | zero=>intro p;exact E _
  | succ n c=>
   intro p;rw[au,Xv]
   have:=c (p+1)
   have d:dt h p<=16:=ed (bK _ _).2.2.2.2.2.1 a
   have:(if 0<bd h p then dg h p 0 else[]).length<=16:=by
    split
    .simp[dg];omega
    .exact X3 _
   omega
 intro n p e
 have:=b n p
 omega
theorem zq h(a:h.W<=16)(b:h.D<=16):∀c:List (Nat×Nat),aN h c<=200*c.length
 | []=>E _
 | x::d=>by
  have e:=zq h a b d;have f:bd h x.1*bo h<=16*64:=XF (ed (bK _ _).2.1 a) (XF (ev _) b)
  have:aC h x.1<=130:=by unfold aC;omega
  rw[aN,Yj];omega
structure OfP (h:Hd) (C:Nat) (w w':World) (fb mb:Nat) (out:List One) (dn sm:Bool) (en:Nat) (ls:List Ln) (im:ImR):Prop where
 iq:aH h C (au h (aq h.L) 0) (λ_=>0) out=im
 lines:ls.map Ln.x=im.lines
 sz:CP h (au h (aq h.L) 0) ls
 fin:∃w3 g rv,lN w3 w' mb (ofE im dn sm en).1 (ofE im dn sm en).2 ls/\w'.cell? ⟨mb,0,none⟩=some (.pointer (some ⟨fb,0,none⟩))/\w'.cell? ⟨mb,1,none⟩=some (.slice (some ⟨g,0,none⟩) (aq h.L) (aq h.L))/\lL w' g h.L/\w.heap.size<=g/\w'.cell? ⟨mb,2,none⟩=some rv/\w'.ownsRow w.heap.size 146 5 rv (au h (aq h.L) 0).length (gh h (au h (aq h.L) 0) 0)
 lo:w.heap.size<=mb
 kept:Kept w w'
