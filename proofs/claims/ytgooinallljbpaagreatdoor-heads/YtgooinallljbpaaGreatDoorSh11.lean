import Derived.Test.YtgooinallljbpaaGreatDoorSh00
import Derived.Test.YtgooinallljbpaaGreatDoorSh02
import Derived.Deep.MidRow
set_option linter.all false
set_option maxRecDepth 100000
set_option maxHeartbeats 0
namespace Go.Proofs.YtgooinallljbpaaGreatDoor
open Go.RowKit Px Tryz
def Rw.ps(r:Rw):Ps:=ah r.hd.L r.pass.toNat
def Rw.px(r:Rw)(i:Nat):Nat:=r.ps.cf+i*r.ps.cs
def Rw.py(r:Rw):Nat:=r.ps.rf+r.line*r.ps.rs
def Rw.pt(r:Rw)(i:Nat):Nat:=r.py*16+r.px i
def dY(q:Rw)(a:Nat)(f:Nat->Nat):Nat->Rw
 | 0=>q
 | k+1=>{dY q a f k with smp:=upd (dY q a f k).smp (4*a+k) (f k)}
def bj(r:Rw):Nat->Rw
 | 0=>r
 | m+1=>{dY (bj r m) (r.pt m) (λk=>cG r (m*chn r.hd.K+k)) (chn r.hd.K) with known:=upd (dY (bj r m) (r.pt m) (λk=>cG r (m*chn r.hd.K+k)) (chn r.hd.K)).known (r.pt m) true}
def lp(q r:Rw):Prop:=q.hd=r.hd/\q.colours=r.colours/\q.pass=r.pass/\q.line=r.line/\q.columns=r.columns/\q.lines=r.lines/\q.size=r.size/\q.taken=r.taken/\q.filter=r.filter/\q.row=r.row/\q.above=r.above
theorem lp.refl r:lp r r:=⟨rfl,rfl,rfl,rfl,rfl,rfl,rfl,rfl,rfl,rfl,rfl⟩
theorem uz{q r}(h:lp q r)a f k:lp (dY q a f k) r:=by
 induction k with
 | zero=>exact h
 | succ k b=>exact b
theorem eI r m:lp (bj r m) r:=by
 induction m with
 | zero=>exact lp.refl r
 | succ m a=>exact uz a _ _ _
theorem lp.smp{q r}(h:lp q r)i:cG q i=cG r i:=by
 obtain⟨a,_,_,_,_,_,_,_,_,b,_⟩:=h;unfold cG;rw[a,b]
theorem lp.ok{q r}(h:lp q r)(k:gE r):gE q:=by
 obtain⟨a,_,_,_,_,_,_,_,b,c,d⟩:=h;exact⟨by rw[a];exact k.W,by rw[a];exact k.H,by rw[a];exact k.D,by rw[a];exact k.K,by rw[a];exact k.L,by rw[b];exact k.filter,by rw[c];exact k.row,by rw[d];exact k.above⟩
structure Eg (r:Rw):Prop where
 px:∀i,i<r.columns->r.px i<16
 py:r.py<16
def Mj(w W:World)(p:Ps)(G:Nat):Prop:=w.heap.size<=G/\G<W.heap.size/\W.cell? ⟨G,0,none⟩=some (.int .i64 (p.cf:Int))/\W.cell? ⟨G,1,none⟩=some (.int .i64 (p.cs:Int))/\W.cell? ⟨G,2,none⟩=some (.int .i64 (p.cb:Int))/\W.cell? ⟨G,3,none⟩=some (.int .i64 (p.rf:Int))/\W.cell? ⟨G,4,none⟩=some (.int .i64 (p.rs:Int))/\W.cell? ⟨G,5,none⟩=some (.int .i64 (p.rb:Int))
theorem zS{w w1 ps}(h:Kept w w1):∃a:Nat,Value.pointer (some ⟨w1.heap.size,0,none⟩)=.pointer (some ⟨a,0,none⟩)/\Kept w (w1.alloc (Obj.cells #[.int .i64 ps.cf,.int .i64 ps.cs,.int .i64 ps.cb,.int .i64 ps.rf,.int .i64 ps.rs,.int .i64 ps.rb] 180))/\Mj w (w1.alloc (Obj.cells #[.int .i64 ps.cf,.int .i64 ps.cs,.int .i64 ps.cb,.int .i64 ps.rf,.int .i64 ps.rs,.int .i64 ps.rb] 180)) ps a:=by
 refine⟨w1.heap.size,rfl,Xw h h.size _,h.size,Xi,?_,?_,?_,?_,?_,?_⟩
 all_goals exact(Xr _ _ _ _ rfl).trans rfl
theorem zR{w w1 ps}(h:Kept w w1)(e:w1.cell? ⟨w.heap.size,0,none⟩=some (.int .i64 0))(i:w1.cell? ⟨w.heap.size,1,none⟩=some (.int .i64 0))(j:w1.cell? ⟨w.heap.size,2,none⟩=some (.int .i64 0))(k:w1.cell? ⟨w.heap.size,3,none⟩=some (.int .i64 0))(l:w1.cell? ⟨w.heap.size,4,none⟩=some (.int .i64 0))(m:w1.cell? ⟨w.heap.size,5,none⟩=some (.int .i64 0)):∃f:Nat,Value.pointer (some ⟨w.heap.size,0,none⟩)=.pointer (some ⟨f,0,none⟩)/\Kept w ((((((w1.setCell ⟨w.heap.size,0,none⟩ (.int .i64 ps.cf)).setCell ⟨w.heap.size,1,none⟩ (.int .i64 ps.cs)).setCell ⟨w.heap.size,2,none⟩ (.int .i64 ps.cb)).setCell ⟨w.heap.size,3,none⟩ (.int .i64 ps.rf)).setCell ⟨w.heap.size,4,none⟩ (.int .i64 ps.rs)).setCell ⟨w.heap.size,5,none⟩ (.int .i64 ps.rb))/\Mj w ((((((w1.setCell ⟨w.heap.size,0,none⟩ (.int .i64 ps.cf)).setCell ⟨w.heap.size,1,none⟩ (.int .i64 ps.cs)).setCell ⟨w.heap.size,2,none⟩ (.int .i64 ps.cb)).setCell ⟨w.heap.size,3,none⟩ (.int .i64 ps.rf)).setCell ⟨w.heap.size,4,none⟩ (.int .i64 ps.rs)).setCell ⟨w.heap.size,5,none⟩ (.int .i64 ps.rb)) ps f:=by
 have a:∀(c:World) (d b:Nat) (g:Value),d≠b->(c.setCell ⟨w.heap.size,d,none⟩ g).cell? ⟨w.heap.size,b,none⟩=c.cell? ⟨w.heap.size,b,none⟩:=λc d b g h=>aa _ _ _ _ _ h
 have n:=B _ _ e;refine⟨w.heap.size,rfl,Y2 (Y2 (Y2 (Y2 (Y2 (Y2 h (E _) _) (E _) _) (E _) _) (E _) _) (E _) _) (E _) _,E _,by simpa[World.setCell] using n,?_,?_,?_,?_,?_,?_⟩
 .rw[a _ 5 0 _ O,a _ 4 0 _ O,a _ 3 0 _ O,a _ 2 0 _ O,a _ 1 0 _ O];exact ai e _
 .rw[a _ 5 1 _ O,a _ 4 1 _ O,a _ 3 1 _ O,a _ 2 1 _ O];exact ai (by rw[a _ 0 1 _ O];exact i) _
 .rw[a _ 5 2 _ O,a _ 4 2 _ O,a _ 3 2 _ O];exact ai (by rw[a _ 1 2 _ O,a _ 0 2 _ O];exact j) _
 .rw[a _ 5 3 _ O,a _ 4 3 _ O];exact ai (by rw[a _ 2 3 _ O,a _ 1 3 _ O,a _ 0 3 _ O];exact k) _
 .rw[a _ 5 4 _ O];exact ai (by rw[a _ 3 4 _ O,a _ 2 4 _ O,a _ 1 4 _ O,a _ 0 4 _ O];exact l) _
 .exact ai (by rw[a _ 4 5 _ O,a _ 3 5 _ O,a _ 2 5 _ O,a _ 1 5 _ O,a _ 0 5 _ O];exact m) _
theorem Mv(T j:Nat)(h:T+j<=1000):IntKind.i64.wrap (IntKind.i64.wrap (T:Int)+(j:Int))=((T+j:Nat):Int):=by
 have b:∀a:Nat,a<=1000->IntKind.i64.wrap (a:Int)=(a:Int):=λa c=>Xd
 rw[b T O,show(T:Int)+(j:Int)=((T+j:Nat):Int) from O,b _ h]
theorem zeroAt{w a:World}(h:Kept (w.alloc (Obj.cells #[.int .i64 0,.int .i64 0,.int .i64 0,.int .i64 0,.int .i64 0,.int .i64 0] 180)).drew a):a.cell? ⟨w.heap.size,0,none⟩=some (.int .i64 0)/\a.cell? ⟨w.heap.size,1,none⟩=some (.int .i64 0)/\a.cell? ⟨w.heap.size,2,none⟩=some (.int .i64 0)/\a.cell? ⟨w.heap.size,3,none⟩=some (.int .i64 0)/\a.cell? ⟨w.heap.size,4,none⟩=some (.int .i64 0)/\a.cell? ⟨w.heap.size,5,none⟩=some (.int .i64 0)/\∀b,a.frozen? ⟨w.heap.size,b,none⟩=false:=by
 have d:w.heap.size<(w.alloc (Obj.cells #[.int .i64 0,.int .i64 0,.int .i64 0,.int .i64 0,.int .i64 0,.int .i64 0] 180)).drew.heap.size:=by show _<(w.alloc _).heap.size;simp
 have c:∀b,a.cell? ⟨w.heap.size,b,none⟩=(#[.int .i64 0,.int .i64 0,.int .i64 0,.int .i64 0,.int .i64 0,.int .i64 0]:Array Value)[b]? := λb=>(h.cell (p:=⟨w.heap.size,b,none⟩) d).trans (Xr _ _ _ _ rfl)
 exact⟨c 0,c 1,c 2,c 3,c 4,c 5,λb=>(h.frozen (p:=⟨w.heap.size,b,none⟩) d).trans (XB _ _ _ _ rfl)⟩
theorem Ad b o n c r w(N:Blk w b n c)(a1:RwV c o r)(h2:o+1549<=n)(P:ts r)(d9:Eg r)(e0:bJ w)(l9:b≠0):Calls prog 189 #[.pointer (some ⟨b,o,none⟩)] w λh t=>h=.returned (.tuple #[])/\eM b o n c (bj r r.columns) w t:=by
 have e1:=N.at (i:=o+4) O a1.hd.L;have a4:=N.at (i:=o+6) O a1.pass;have m0:=P.pass0;have m1:=P.pass7;have a5:r.pass=((r.pass.toNat:Nat):Int):=O;rw[a5] at a4;have a2:Z (∀f:World,Kept w f->Calls prog 117 #[.int .i64 r.hd.L,.int .i64 r.pass.toNat] f λh t=>h=.returned (psV r.ps)/\Kept f t):=λf j=>BV _ _ f P.ok.L O (e0.kept j)
 have h3:Z _:=bK r.hd.L r.pass.toNat;have e2:Z _:=N;have a6:Z _:=a1;have D:Z _:=P;have e3:Z _:=d9;have e4:=N.lt;replace a5:Z _:=a5;generalize a7:r.pass.toNat=e5 at *;replace a7:Z _:=a7;generalize a8:r.hd.L=e6 at *;replace a8:Z _:=a8;obtain⟨g,F⟩:∃h4,h4=r.ps:=⟨_,rfl⟩;rw[<-F] at a2;replace F:Z _:=F;clear N a1 P d9 e0;unfold psV at a2;go_enter func189,ntmps189;go_wp2_with fail;have a9:Z (Kept w (w.alloc (Obj.cells #[.int .i64 0,.int .i64 0,.int .i64 0,.int .i64 0,.int .i64 0,.int .i64 0] 180))):=Xw (Xs _ _) (E _) _;have e7:∀Q,(w.alloc Q).cell? ⟨b,o+4,none⟩=some (.int .i64 e6):=λQ=>(YG _ _ _ e4).trans e1
 have e8:∀Q,(w.alloc Q).cell? ⟨b,o+6,none⟩=some (.int .i64 e5):=λQ=>(YG _ _ _ e4).trans a4
 go_cut [2] from 9 (λR s=>∃l:Nat,R=.pointer (some ⟨l,0,none⟩)/\Kept w s/\Mj w s g l)
 case first=>
  go_region_with (go_at_call 117;refine(a2.o _ (by first|exact(Kept.refl _).drewN 1|exact a9.o.drewN 1)).mono ?_;rintro h m2 ⟨rfl,b0⟩;first|(have h5:=zeroAt b0;obtain⟨h6,h7,h8,h9,i0,i1,m3⟩:=h5;have G:=Kept.trans (a9.o.drewN 1) b0)|(have G:=Kept.trans ((Kept.refl w).drewN 1) b0))
  all_goals
   clear e7 e8;go_wp2_with fail;go_meet
   case rel=>
    first
     | exact zR G h6 h7 h8 h9 i0 i1
     | exact zS G
 case rest=>
  obtain⟨l,rfl,b1,i2⟩:=hcut;clear e1 a4 e7 e8 a2 a9;have a3:Z _:=e2.o.kept b1;have e9:Z (Kept w wc):=b1;obtain⟨m4,B,f0,f1,f2,b2,b3,b4⟩:=i2;have b5:=a3.o.at (i:=o+7) O a6.o.line;have b6:l≠b:=O;obtain⟨i3,i4,i5,i6,i7,i8,i9,j0⟩:=h3.o;have m5:=D.o.line;have b7:g=ah e6 e5:=by rw[F.o];unfold Rw.ps;rw[a8.o,a7.o]
  rw[<-b7] at i3 i4 i5 i6 i7 i8 i9 j0;replace b7:Z _:=b7;have f3:Z (∀(f:World),Calls prog 192 #[.agg #[.int .i64 g.rf,.int .i64 g.rs,.int .i64 g.rb],.int .i64 r.line] f λh t=>h=.returned (.int .i64 r.py)/\Kept f t):=λf=>by
   have:=Dy g.rf g.rs g.rb r.line f O O O
   rw[show r.py=g.rf+r.line*g.rs from by rw[F.o];rfl];exact this
  have j1:Z (∀(f:World) (d:Nat),d<=1000->Calls prog 192 #[.agg #[.int .i64 g.cf,.int .i64 g.cs,.int .i64 g.cb],.int .i64 d] f λh t=>h=.returned (.int .i64 (r.px d))/\Kept f t):=λf d b8=>by
   have:=Dy g.cf g.cs g.cb d f O O b8
   rw[show r.px d=g.cf+d*g.cs from by rw[F.o];rfl];exact this
  clear b1;go_wp2_with fail;go_region_held3 (λs=>s.cell? ⟨l,3,none⟩=some (.int .i64 g.rf)/\s.cell? ⟨l,4,none⟩=some (.int .i64 g.rs)/\s.cell? ⟨l,5,none⟩=some (.int .i64 g.rb)/\s.cell? ⟨b,o+7,none⟩=some (.int .i64 r.line)) (first|exact⟨b2,b3,b4,b5⟩|exact f4.o|go_keep) ((go_at_call 192;refine(f3.o _).mono ?_;rintro h y ⟨rfl,G⟩;have z:=((Kept.refl _).drewN 1).trans G;have f4:Z (y.cell? ⟨l,3,none⟩=some (.int .i64 g.rf)/\y.cell? ⟨l,4,none⟩=some (.int .i64 g.rs)/\y.cell? ⟨l,5,none⟩=some (.int .i64 g.rb)/\y.cell? ⟨b,o+7,none⟩=some (.int .i64 r.line)):=⟨(z.cell (p:=⟨l,3,none⟩) B).trans b2,(z.cell (p:=⟨l,4,none⟩) B).trans b3,(z.cell (p:=⟨l,5,none⟩) B).trans b4,(z.cell (p:=⟨b,o+7,none⟩) a3.o.lt).trans b5⟩))
  have f5:Z _:=a3.o.kept z;have j2:Z (Kept w y):=e9.o.trans z;have b9:Z (y.cell? ⟨l,0,none⟩=some (.int .i64 g.cf)/\y.cell? ⟨l,1,none⟩=some (.int .i64 g.cs)/\y.cell? ⟨l,2,none⟩=some (.int .i64 g.cb)):=⟨(z.cell (p:=⟨l,0,none⟩) B).trans f0,(z.cell (p:=⟨l,1,none⟩) B).trans f1,(z.cell (p:=⟨l,2,none⟩) B).trans f2⟩;have c0:=Xq B z.size;clear f4 G z f0 f1 f2 b2 b3 b4 b5 a3 e9 e2;have f6:=e3.o.py;clear f3;have j3:=f5.o.at (i:=o+3) O a6.o.hd.K;have m6:=D.o.ok.K;go_wp2_with fail;refine(kB r.hd.K _ O).mono ?_;rintro h j4 ⟨rfl,m7⟩;subst j4;have f7:=ev r.hd.K;obtain⟨q,S⟩:∃q,q=chn r.hd.K:=⟨_,rfl⟩;rw[<-S] at f7 ⊢;replace S:Z _:=S;have j5:Z (∀(f:World) (H:Nat),H<16->Calls prog 113 #[.int .i64 H,.int .i64 r.py] f λh t=>h=.returned (.tuple #[.int .i64 ((r.py*16+H:Nat):Int),.bool true])/\t=f):=λf H f8=>by
   have:=yu H r.py f O O
   rw[I ⟨f8,f6⟩,K (⟨f8,f6⟩:H<16/\r.py<16)] at this;exact this
  have m8:=D.o.col;go_wp2_with fail;go_loopg [5] r.columns (λj R s=>∃d:Nat,∃J:Nat->Value,R=.int .i64 d/\d<=r.columns/\j=r.columns-d/\Blk s b n J/\RwV J o (bj r d)/\FrC b o (o+1549) c J/\Fr1 b y s)
  case atStart=>exact⟨0,c,rfl,O,O,f5.o,a6.o,FrC.refl _ _ _ _,Fr.refl _ _⟩
  case round=>
   obtain⟨d,J,rfl,m9,c1,L,M,T,A⟩:=hrel;clear j3;obtain⟨j6,j7,j8,j9,f9,k0⟩:=eI r d;have g0:=L.at (i:=o+8) O M.columns;rw[f9] at g0;have k1:=(A.cell (k:=0) c0 b6).trans b9.o.1;have k2:=(A.cell (k:=1) c0 b6).trans b9.o.2.1;have k3:=(A.cell (k:=2) c0 b6).trans b9.o.2.2;have c2:Z _:=L;have c3:Z _:=M;have c4:Z _:=T;have c5:Z _:=A;clear L M T A j6 j7 j8 j9 f9 k0;replace c1:Z _:=c1;by_cases g1:d<r.columns
   .have k4:(d:Int)<(r.columns:Int):=O
    have k5:=e3.o.px d g1;go_wp2_with fail;refine(j1.o _ d O).mono ?_;rintro h n0 ⟨rfl,c6⟩;have g2:Z _:=c2.o.kept c6;have g3:Z _:=c5.o.kept c6;clear c6 c2 c5 k1 k2 k3 g0;go_wp2_with fail;refine(j5.o _ (r.px d) k5).mono ?_;rintro h k6 ⟨rfl,n1⟩;subst k6;obtain⟨e,c7⟩:∃e,e=r.py*16+r.px d:=⟨_,rfl⟩;rw[<-c7];have k7:=U c7;have n2:e<256:=O;clear c7;have g4:(d+1)*q*r.hd.D<=1024:=by
     have V:=D.o.fit;unfold bo at V;rw[<-S.o,<-Y3] at V;exact Xz (XS _ (XS _ g1)) V
    obtain⟨m,W⟩:∃m,m=d*q:=⟨_,rfl⟩;have n3:(d:Int)*(q:Int)=(m:Int):=by rw[W];simp
    have n4:m<=64:=by rw[W];exact XF (show d<=16 from O) f7
    have k8:Z _:=W;have k9:Z (∀(f:World) (u:Nat->Value) (a:Nat),a<q->Blk f b n u->RwV u o (dY (bj r d) e (λj=>cG r (m+j)) a)->Calls prog 191 #[.pointer (some ⟨b,o,none⟩),.int .i64 ((m+a:Nat):Int)] f λh t=>h=.returned (.int .u16 (cG r (m+a):Int))/\∃v,t=f.drewN v):=λf u a g5 l0 l1=>by
     have c8:=uz (eI r d) e (λj=>cG r (m+j)) a;have g6:(dY (bj r d) e (λj=>cG r (m+j)) a).hd.D=r.hd.D:=by rw[c8.1]
     have g7:(m+a+1)*r.hd.D<=1024:=Xz (XS _ (by rw[W,YO,Zi];omega)) g4;rw[YO,Zi] at g7
     have:=zH b o n (m+a) u _ f l0 l1 h2 (c8.ok D.o.ok) (by rw[g6];exact D.o.dd) (by rw[g6];exact g7) O
     rw[c8.smp] at this;exact this
    clear g4 W;go_wp2_with fail;go_loopg [8] q (λj R s=>∃a:Nat,∃u:Nat->Value,R=.int .i64 a/\a<=q/\j=q-a/\Blk s b n u/\RwV u o (dY (bj r d) e (λj=>cG r (m+j)) a)/\FrC b o (o+1549) c u/\Fr1 b y s)
    case atStart=>exact⟨0,J,rfl,O,O,g2.o,c3.o,c4.o,g3.o⟩
    case round=>
     obtain⟨a,u,rfl,n5,c9,L,M,T,A⟩:=hrel;have C:Z _:=L;have X:Z _:=M;have g8:Z _:=T;have g9:Z _:=A;clear L M T A g2 c3 c4 g3;replace c9:Z _:=c9;by_cases l2:a<q
     .have l3:(a:Int)<(q:Int):=O
      have n6:(a:Int)<4:=O;have n7:(0:Int)<=(a:Int):=O;have l4:(0:Int)<=(e:Int):=O;have l5:(e:Int)<256:=O;have l6:Z (∀f,(∃v,f=wr.drewN v)->Calls prog 191 #[.pointer (some ⟨b,o,none⟩),.int .i64 ((m+a:Nat):Int)] f λh t=>h=.returned (.int .u16 (cG r (m+a):Int))/\∃d0,t=wr.drewN d0):=λf ⟨v,x⟩=>(k9.o f u a l2 (by rw[x];exact C.o.kept ((Kept.refl _).drewN v)) X.o).mono (λh t ⟨V,l7,l8⟩=>⟨V,v+l7,by rw[l8,x,World.drewN_drewN]⟩)
      have d1:=Mv m a O;replace d1:Z _:=d1;have Y:=C.o.at (i:=o+525+(4*e+a)) O (X.o.smp (4*e+a) O);have d2:=C.o.fz (o+525+(4*e+a));have h0:o+525+(4*e+a)=o+525+e*4+a:=O;rw[h0] at Y d2;obtain⟨d3,Y⟩:∃d3,wr.cell? ⟨b,o+525+e*4+a,none⟩=some d3:=⟨_,Y⟩;generalize d4:cG r (m+a)=a0 at *;replace d4:Z _:=d4;go_upto_block 3 with fail
      go_cut [] from 51 to 73 (λs=>∃v,s=(wr.drewN v).setCell ⟨b,o+525+e*4+a,none⟩ (.int .u16 a0))
      case first=>
       go_wp2_with fail;go_region_with (go_at_call 191;rw[d1.o];refine(l6.o _ ⟨1,rfl⟩).mono ?_;rintro h h1 ⟨rfl,d0,x⟩;have n8:h1.cell? ⟨b,o+525+e*4+a,none⟩=some d3:=(by rw[x];exact Y);have n9:h1.frozen? ⟨b,o+525+e*4+a,none⟩=false:=(by rw[x];exact d2);replace x:Z _:=x)
       all_goals
        go_wp2_with fail;go_meet
        case rel=>exact⟨d0,by rw[<-x.o]⟩
      case rest=>
       obtain⟨v,x⟩:=hcut;have d5:Blk wc b n (upd u (o+525+(4*e+a)) (.int .u16 a0)):=by
        rw[x,<-h0];exact(C.o.kept ((Kept.refl _).drewN v)).set O _
       have d6:RwV (upd u (o+525+(4*e+a)) (.int .u16 a0)) o (dY (bj r d) e (λj=>cG r (m+j)) (a+1)):=by
        have:=X.o.set_smp (4*e+a) a0 O
        rw[<-d4.o] at this ⊢;exact this
       have d7:FrC b o (o+1549) c (upd u (o+525+(4*e+a)) (.int .u16 a0)):=g8.o.trans (FrC.upd _ O O);have d8:Fr1 b y wc:=by
        rw[x];exact Fr1.set (Fr1.drewN g9.o v) _ _
       replace d5:Z _:=d5;replace d6:Z _:=d6;replace d7:Z _:=d7;replace d8:Z _:=d8;clear x Y d2;go_wp2_with fail;go_roundg (q-(a+1))
       case measure=>rw[c9.o];omega
       case rel=>exact⟨a+1,_,Xj,O,rfl,d5.o,d6.o,d7.o,d8.o⟩
     .have l3:¬(a:Int)<(q:Int):=O
      have g5:Z (a=q):=by show a=q;omega
      have o0:=C.o.at (i:=o+269+e) O (X.o.known e O);have o1:=C.o.fz (o+269+e);have l4:(0:Int)<=(e:Int):=O;have l5:(e:Int)<256:=O;go_wp2_with fail;go_roundg (r.columns-(d+1))
      case measure=>rw[c1.o];omega
      case rel=>
       refine⟨d+1,upd u (o+269+e) (.bool true),Xj,O,rfl,C.o.set O _,?_,g8.o.trans (FrC.upd _ O O),Fr1.set g9.o _ _⟩
       have:=X.o.set_known e true O
       rw[g5.o] at this;have h:bj r (d+1)={dY (bj r d) e (λj=>cG r (m+j)) q with known:=upd (dY (bj r d) e (λj=>cG r (m+j)) q).known e true}:=by
        rw[k7.o,k8.o,S.o];rfl
       rw[h];exact this
   .have k4:¬(d:Int)<(r.columns:Int):=O
    have b8:d=r.columns:=O;go_wp2_with fail;go_end0
    exact⟨rfl,J,c2.o,by rw[<-b8];exact c3.o,c4.o,Fr.trans' (Fr.of_kept j2.o) c5.o (λj _ v=>v)⟩
def Rw.takeF(r:Rw)(x:Nat):Rw×Nat:=if 4<x then(r,15) else({r with filter:=x},0)
theorem eM.refl{b o n c r w}(a:Blk w b n c)(d:RwV c o r):eM b o n c r w w:=⟨c,a,d,FrC.refl _ _ _ _,Fr.refl _ _⟩
theorem xV(b d n x:Nat)c r w(e:Blk w b n c)(f:RwV c d r)(m:d+1549<=n)(o:x<256):Calls prog 180 #[.pointer (some ⟨b,d,none⟩),.int .u8 x] w λa k=>a=.returned (.int .i64 ((r.takeF x).2:Int))/\eM b d n c (r.takeF x).1 w k:=by
 have p:=e.at (i:=d+12) O f.filter;have q:=e.fz (d+12);have g:Z _:=e;have h:Z _:=f;clear e f;by_cases j:4<x
 .have l:(4:Int)<(x:Int):=O
  have a:r.takeF x=(r,15):=by unfold Rw.takeF;rw[I j]
  rw[a];clear a;go_enter func180,ntmps180;go_wp2;go_ret;exact⟨rfl,eM.refl g.o h.o⟩
 .have l:¬(4:Int)<(x:Int):=O
  have a:r.takeF x=({r with filter:=x},0):=by unfold Rw.takeF;rw[N j]
  rw[a];clear a;go_enter func180,ntmps180;go_wp2;go_ret;exact⟨rfl,_,g.o.set O _,h.o.set_filter x,FrC.upd _ O O,Fr1.set (Fr.refl _ _) _ _⟩
def updL(c:Nat->Value)(k m:Nat)(f:Nat->Value):Nat->Value:=λi=>if k<=i/\i<k+m then f (i-k) else c i
theorem dq{c k m f j}(h:j<m):updL c k m f (k+j)=f j:=by
 unfold updL;rw[I ⟨O,O⟩,show k+j-k=j from O]
theorem db{c k m f i}(h:¬(k<=i/\i<k+m)):updL c k m f i=c i:=N h
theorem aT{P W b o cs}(h:W.there b o cs.length)(d:∀e∈cs,e.oneCell'=true):(storeCells ⟨b,o,none⟩ cs).run P W=.ok () (W.setCells b o cs):=by
 have:=run_storeCells_cells (P:=P) b o cs 0 W (λa c=>by rw[X5];exact(h a c).1) (λa c=>by rw[X5];exact(h a c).2) d
 rw[X5] at this;exact this
theorem Blk.there{w b n c}(h:Blk w b n c){k m}(d:k+m<=n):w.there b k m:=λa e=>⟨by rw[h.cell (k+a) O];rfl,h.fz _⟩
theorem Blk.range{w b n c}(h:Blk w b n c){k m}(e:k+m<=n):w.rangeAt b k ((List.range m).map (λj=>c (k+j))):=λj f a=>by
 rw[XQ] at a;by_cases d:j<m
 .rw[Yp d] at a
  injection a with a
  rw[h.cell (k+j) O,<-a]
 .rw[XX (by rw[List.length_range];omega)] at a
  exact absurd a Xi
theorem size_setCells(w:World)b:∀(a:List Value) (k:Nat) (w:World),(w.setCells b k a).heap.size=w.heap.size
 | [],_,_=>rfl
 | v::r,k,w=>(size_setCells w b r (k+1) _).trans (by simp[World.setCell])
theorem Blk.sets{w b n c}(h:Blk w b n c){k m}(i:k+m<=n){cs}f(l:cs.length=m)(d:∀j,j<m->cs[j]? = some (f j)):Blk (w.setCells b k cs) b n (updL c k m f):=by
 refine⟨λa e => ?_,λa=>by rw[World.frozen?_setCells];exact h.fz a,by rw[size_setCells w];exact h.lt⟩;by_cases g:k<=a/\a<k+m
 .obtain⟨j,rfl⟩:∃j,a=k+j:=⟨a-k,O⟩
  rw[dq O];exact XO w b k cs (h.there O) j _ (d j O)
 .rw[db g,<-h.cell a e]
  exact YS b cs k w ⟨b,a,none⟩ (λ_ _=>by show a<k\/k+cs.length<=a;omega)
theorem Fr1.sets{b x}:∀(c:List Value) (k:Nat) {y:World},Fr1 b x y->Fr1 b x (y.setCells b k c)
 | [],_,_,a=>a
 | v::d,k,_,a=>Fr1.sets d (k+1) (Fr1.set a k v)
theorem FrC.updL{b lo hi k m:Nat}{c:Nat->Value}{f:Nat->Value}(h1:lo<=k)(h2:k+m<=hi):FrC b lo hi c (updL c k m f):=⟨λi q=>db (λe=>q ⟨om,om⟩)⟩
theorem RwV.lay_above{c o r}(h:RwV c o r)f:RwV (updL c (o+141) 128 (λj => .int .u8 (f j))) o {r with above:=f} :=
 h.all_above f (λb a=>dq a) (λb a=>db (λd=>a ⟨d.1,O⟩))
def ao(b o n:Nat)(c:Nat->Value)(s':St)(w w':World):Prop:=∃d,Blk w' b n d/\StV d o s'/\FrC b o (o+3351) c d/\Fr1 b w w'
def St.enter(s:St)(p k:Nat):St:={s with part:=p,wanted:=k,got:=0,number:=0,path:=⟨0,0,0⟩}
theorem ba(b a n p k:Nat)c s w(d:Blk w b n c)(e:StV c a s)(q:a+3351<=n):Calls prog 138 #[.pointer (some ⟨b,a,none⟩),.int .i64 p,.int .u64 k] w λg h=>g=.returned (.tuple #[])/\ao b a n c (s.enter p k) w h:=by
 have r:=d.at (i:=a) O e.part;have t:=d.at (i:=a+1) O e.number;have u:=d.at (i:=a+2) O e.got;have v:=d.at (i:=a+3) O e.wanted;have x:=d.at (i:=a+4) O e.path.bits;have y:=d.at (i:=a+4+1) O e.path.offset;have z:=d.at (i:=a+4+2) O e.path.ahead;have A:=d.fz;have j:Z _:=d;have l:Z _:=e;clear d e;go_enter func138,ntmps138;go_wp2;go_end0
 have f:=(((l.o.set_part p).set_wanted k).set_got 0).set_number 0;refine⟨rfl,_,(((((((j.o.set (k:=a) O (.int .i64 p)).set (k:=a+3) O (.int .u64 k)).set (k:=a+2) O (.int .u64 0)).set (k:=a+1) O (.int .u32 0)).set (k:=a+4) O (.int .i64 0)).set (k:=a+4+1) O (.int .i64 0)).set (k:=a+4+2) O (.int .i64 0)),f.set_path ⟨0,0,0⟩ (((f.path.set_bits 0).set_offset 0).set_ahead 0) (λm o => ?_),?_,?_⟩
 .rw[upd_ne _ _ _ O,upd_ne _ _ _ O,upd_ne _ _ _ O]
  rfl
 .exact⟨λm o=>by rw[upd_ne _ _ _ O,upd_ne _ _ _ O,upd_ne _ _ _ O,upd_ne _ _ _ O,upd_ne _ _ _ O,upd_ne _ _ _ O,upd_ne _ _ _ O]⟩
 .exact Fr1.set (Fr1.set (Fr1.set (Fr1.set (Fr1.set (Fr1.set (Fr1.set (Fr.refl _ _) _ _) _ _) _ _) _ _) _ _) _ _) _ _
theorem pO b o n c s w(a:Blk w b n c)(d:StV c o s)(g:o+3351<=n):Calls prog 84 #[.pointer (some ⟨b,o,none⟩)] w λe f=>e=.returned (.bool (decide (s.part=10)))/\f=w:=by
 have h:=a.at (i:=o) O d.part;clear a d;go_enter func84,ntmps84;go_wp2;go_ret;exact⟨bh (by rw[X4,XI,XL];omega),rfl⟩
def nk(n:Nat):Bool:=decide (n%256%16=8/\n%256/16<=7/\(256*(n%256)+n/256)%31=0/\n/256/32%2=0)
def St.takeHead(s:St)(n:Nat):St×Nat:=if nk n then(({s with window:=256*2^(n%256/16)}:St).enter 1 3,0) else(s,10)
theorem kN(n k:Nat)(h:n<4294967296)(a:k<=31):bits .and .u32 (n:Int) ((2^k-1:Nat):Int)=((n%2^k:Nat):Int):=by
 have d:=XH (n:=2) O a;show IntKind.u32.wrap ((BitVec.ofInt 32 (n:Int) &&& BitVec.ofInt 32 ((2^k-1:Nat):Int)).toNat:Int)=_
 have b:(BitVec.ofInt 32 (n:Int)).toNat=n:=by rw[XT,X0];exact X1 O
 have c:(BitVec.ofInt 32 ((2^k-1:Nat):Int)).toNat=2^k-1:=by rw[XT,X0];exact X1 O
 have:n%2^k<=n:=Zg _ _
 rw[Zn,b,c,Zm,Yq];omega
theorem zo(n:Nat)(h:n<4294967296):bits .and .u32 (n:Int) 255=((n%256:Nat):Int):=kN n 8 h O
theorem lP(n:Nat)(h:n<4294967296):bits .and .u32 (n:Int) 1=((n%2:Nat):Int):=kN n 1 h O
theorem nr(n:Nat)(h:n<4294967296):bits .and .u32 (n:Int) 65535=((n%65536:Nat):Int):=kN n 16 h O
theorem B5 n(h:n<256):n &&& 32=n/32%2*32:=by
 have a:(n &&& 32)%32=0:=by
  have:(n &&& 32)%2^5=(n%2^5) &&& (32%2^5):=Nat.and_mod_two_pow
  rw[show(2^5:Nat)=32 from rfl] at this;rw[this];simp
 have b:(n &&& 32)/32=n/32%2:=by
  have:(n &&& 32)/2^5=(n/2^5) &&& (32/2^5):=Nat.and_div_two_pow
  rw[show(2^5:Nat)=32 from rfl] at this;rw[this];exact nat_mask1 _
 omega
theorem Bl(n:Nat)(h:n<256):bits .and .u32 (n:Int) 32=((n/32%2*32:Nat):Int):=by
 show IntKind.u32.wrap ((BitVec.ofInt 32 (n:Int) &&& BitVec.ofInt 32 32).toNat:Int)=_
 have a:(BitVec.ofInt 32 (n:Int)).toNat=n:=by rw[XT,X0];exact X1 O
 have b:(BitVec.ofInt 32 32).toNat=32:=rfl;rw[Zn,a,b,B5 n h,Yq];omega
theorem BC(b h n v:Nat)c s w(u:Blk w b n c)(A:StV c h s)(L:h+3351<=n)(V:v<65536):Calls prog 159 #[.pointer (some ⟨b,h,none⟩),.int .u32 v] w λE M=>E=.returned (.int .i64 ((s.takeHead v).2:Int))/\ao b h n c (s.takeHead v).1 w M:=by
 have N:=zo v O;have W:=u.at (i:=h+8) O A.window;have X:=u.fz (h+8);have o:Z _:=u;have p:Z _:=A;clear u A;obtain⟨a,q⟩:∃a,a=v%256:=⟨_,rfl⟩;obtain⟨d,B⟩:∃d,d=v/256:=⟨_,rfl⟩;have Y:a<256:=O;have P:d<256:=O;have a0:(v:Int)/256=(d:Int):=O;have Q:=Bl d P;rw[<-q] at N;have x:Z (nk v=decide (a%16=8/\a/16<=7/\(256*a+d)%31=0/\d/32%2=0)):=by
  show nk v=decide (a%16=8/\a/16<=7/\(256*a+d)%31=0/\d/32%2=0)
  unfold nk;rw[q,B]
 obtain⟨e,C⟩:∃e,e=d/32%2*32:=⟨_,rfl⟩;rw[<-C] at Q;have m:e=0\/e=32:=O;have y:Z (e=0↔d/32%2=0):=by show e=0↔d/32%2=0;omega
 have z:Z (s.takeHead v=if nk v then(({s with window:=256*2^(a/16)}:St).enter 1 3,0) else(s,10)):=by
  show s.takeHead v=_
  unfold St.takeHead;rw[q]
 replace q:Z _:=q;replace B:Z _:=B;replace C:Z _:=C;by_cases j:a%16=8/\a/16<=7/\(256*a+d)%31=0/\e=0
 .obtain⟨r,k,t,D⟩:=j
  have F:((a:Int)%16 != 8)=false:=Xc;have G:¬(7:Int)<(a:Int)/16:=O;have H:((256*(a:Int)+(d:Int))%31 != 0)=false:=Xc;subst D;have l:s.takeHead v=(({s with window:=256*2^(a/16)}:St).enter 1 3,0):=by rw[z.o,x.o,K ⟨r,k,t,y.o.1 rfl⟩];rfl
  rw[l];clear l y z x m;have R:2^(a/16)<=2^7:=XH O k;obtain⟨f,I⟩:∃f,f=a/16:=⟨_,rfl⟩;have a1:(a:Int)/16=(f:Int):=O;rw[<-I] at R k ⊢;clear I;go_enter func159,ntmps159;go_wp2_with fail;have S:wrap64 (256*2^f)=((256*2^f:Nat):Int):=by
   have l:(256*2^f:Int)=((256*2^f:Nat):Int):=Xi;rw[l];unfold wrap64;omega
  rw[S];refine(ba b h n 1 3 _ {s with window:=256*2^f} _ (o.o.set O _) (p.o.set_window _) L).mono ?_;rintro E a2 ⟨rfl,T,r,k,t,D⟩;go_wp2_with fail;go_ret;exact⟨rfl,T,r,k,(FrC.upd _ O O).trans t,(Fr1.set (Fr.refl _ _) _ _).trans D⟩
 .have l:s.takeHead v=(s,10):=by
   rw[z.o,x.o,J (λg=>j ⟨g.1,g.2.1,g.2.2.1,y.o.2 g.2.2.2⟩)];rfl
  rw[l];clear l y z x;by_cases r:a%16=8
  .have F:((a:Int)%16 != 8)=false:=by rw[Xx];omega
   by_cases k:a/16<=7
   .have G:¬(7:Int)<(a:Int)/16:=O
    by_cases t:(256*a+d)%31=0
    .have H:((256*(a:Int)+(d:Int))%31 != 0)=false:=by rw[Xx];omega
     have U:e=32:=by
      rcases m with g|g
      .exact absurd ⟨r,k,t,g⟩ j
      .exact g
     subst U;clear j m;go_enter func159,ntmps159;go_wp2;go_ret;exact⟨rfl,c,o.o,p.o,FrC.refl _ _ _ _,Fr.refl _ _⟩
    .have H:((256*(a:Int)+(d:Int))%31 != 0)=true:=by rw[XJ];omega
     clear j m;go_enter func159,ntmps159;go_wp2
     all_goals
      go_ret;exact⟨rfl,c,o.o,p.o,FrC.refl _ _ _ _,Fr.refl _ _⟩
   .have G:(7:Int)<(a:Int)/16:=O
    clear j m;go_enter func159,ntmps159;go_wp2
    all_goals
     go_ret;exact⟨rfl,c,o.o,p.o,FrC.refl _ _ _ _,Fr.refl _ _⟩
  .have F:((a:Int)%16 != 8)=true:=by rw[XJ];omega
   clear j m;go_enter func159,ntmps159;go_wp2
   all_goals
    go_ret;exact⟨rfl,c,o.o,p.o,FrC.refl _ _ _ _,Fr.refl _ _⟩
