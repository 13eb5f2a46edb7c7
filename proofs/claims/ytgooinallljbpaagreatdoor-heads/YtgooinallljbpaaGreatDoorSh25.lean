import Derived.Test.YtgooinallljbpaaGreatDoorSh00
import Derived.Test.YtgooinallljbpaaGreatDoorSh20
set_option linter.all false
set_option maxRecDepth 100000
set_option maxHeartbeats 0
namespace Go.Proofs.YtgooinallljbpaaGreatDoor
open Go.RowKit Px Tryz
theorem tY(b d n x y:Nat)c r w(h:Blk w b n c)(j:RwV c d r)(t:d+1549<=n)(k:x<16)(l:y<16):Calls prog 75 #[.pointer (some ⟨b,d,none⟩),.int .i64 x,.int .i64 y] w λe g=>e=.returned (.bool (r.known (y*16+x)))/\∃p,g=w.drewN p:=by
 have m:Z (∀f,Calls prog 113 #[.int .i64 x,.int .i64 y] f λe g=>e=.returned (.tuple #[.int .i64 ((y*16+x:Nat):Int),.bool true])/\g=f):=λf=>by
  have:=yu x y f O O
  rw[I ⟨k,l⟩,K (⟨k,l⟩:x<16/\y<16)] at this;exact this
 obtain⟨a,o⟩:∃a,a=y*16+x:=⟨_,rfl⟩;rw[<-o] at m ⊢;have q:a<256:=O;have u:=h.at (i:=d+269+a) O (j.known a q);have v:(0:Int)<=(a:Int):=O;have z:(a:Int)<256:=O;generalize r.known a=A at *;clear h j o;go_enter func75,ntmps75;go_wp2_with fail;refine(m.o _).mono ?_;rintro e s ⟨rfl,B⟩;subst s;go_wp2_with fail;go_ret;exact⟨rfl,0,rfl⟩
theorem yg h w(g:1<=h.W)(c:h.W<=16)(i:1<=h.H)(d:h.H<=16):Calls prog 74 #[hdV h] w λe f=>e=.returned (.int .i64 ((h.W*h.H:Nat):Int))/\Kept w f:=by
 unfold hdV;have j:¬(h.W:Int)<1:=O;have k:¬(h.H:Int)<1:=O;obtain⟨a,b⟩:∃a,a=h.W*h.H:=⟨_,rfl⟩;have l:(h.W:Int)*(h.H:Int)=(a:Int):=by rw[b];simp
 have m:a<=256:=by rw[b];exact XF c d
 rw[<-b];clear b;go_enter func74,ntmps74;go_wp2;go_ret;exact⟨rfl,Xw (Xs _ _) (E _) _⟩
theorem IP:∃a,prog.info? 3=some a/\a.zero=some (.int .i64 0)/\a.size=1/\a.bytes=8:=by
 have b:(prog.info? 3).map (λa=>(a.zero,a.size,a.bytes))=some (some (.int .i64 0),1,8):=Xk;cases c:prog.info? 3 with
 | none=>rw[c] at b;simp at b
 | some a=>
  rw[c] at b;simp at b;exact⟨a,rfl,b.1,b.2.1,b.2.2⟩
theorem rC n j(h:j<n):(madeCells #[Value.int .i64 0] n)[j]? = some (.int .i64 0):=by
 unfold madeCells;rw[Array.getElem?_map,Array.getElem?_range,I h];show some (#[Value.int .i64 0][j%1]!)=_
 rw[Nat.mod_one];rfl
theorem rB w(n:Nat)(f:n<=1000000):(Instr.makeSlice 30 (.int .i64 n) (.int .i64 n)).run prog w=.ok (.slice (some ⟨w.heap.size,0,none⟩) n n) (w.alloc (.cells (madeCells #[Value.int .i64 0] n) 3)):=by
 obtain⟨a,b,c,d,e⟩:=IP
 have:=run_make (P:=prog) w 30 3 a (.int .i64 0) underlying30 b c .i64 .i64 n n O O (by rw[e];omega) O
 rw[d,Nat.mul_one,YQ] at this;exact this
theorem Hx b o n c r h w(G:Blk w b n c)(S:RwV c o r)(a6:o+1549<=n)(a7:1<=h.W)(H:h.W<=16)(a8:1<=h.H)(J:h.H<=16):Calls prog 43 #[hdV h,.pointer (some ⟨b,o,none⟩)] w λi v=>∃l,i=.returned (.slice (some ⟨l,0,none⟩) (h.W*h.H) (h.W*h.H))/\w.heap.size<=l/\(∀j,j<h.W*h.H->v.cell? ⟨l,j,none⟩=some (.int .i64 (if r.known (j/h.W*16+j%h.W) then 1 else 0)))/\Kept w v:=by
 have T:Z (∀t,Calls prog 74 #[hdV h] t λi v=>i=.returned (.int .i64 ((h.W*h.H:Nat):Int))/\Kept t v):=λt=>yg h t a7 H a8 J
 obtain⟨d,C⟩:∃d,d=h.W*h.H:=⟨_,rfl⟩;rw[<-C] at T ⊢;have c4:d<=256:=by rw[C];exact XF H J
 have a9:Z _:=C;clear C;unfold hdV at *;go_enter func43,ntmps43;go_wp2_with fail;refine(T.o _).mono ?_;rintro i g ⟨rfl,K⟩;have b0:=rB g d O;have x:Z (Kept w g):=Kept.trans (Xw (Xs _ _) (E _) _) K;have U:g.cell? ⟨w.heap.size,0,none⟩=some (.int .i64 h.W):=(K.cell (p:=⟨w.heap.size,0,none⟩) Xi).trans ((Xr _ _ _ _ rfl).trans rfl);have L:=B _ _ U;have M:Z (Kept g (g.alloc (.cells (madeCells #[Value.int .i64 0] d) 3))):=Xw (Xs _ _) (E _) _;have V:Z (∀j,j<d->(g.alloc (.cells (madeCells #[Value.int .i64 0] d) 3)).cell? ⟨g.heap.size,j,none⟩=some (.int .i64 0)):=λj m=>(Xr _ _ _ _ rfl).trans (rC d j m)
 have W:Z (∀j,(g.alloc (.cells (madeCells #[Value.int .i64 0] d) 3)).frozen? ⟨g.heap.size,j,none⟩=false):=λj=>XB _ _ _ _ rfl
 have b1:Z _:=(G.kept x.o).kept M.o;have b2:Z _:=S;have b3:=(M.o.cell (p:=⟨w.heap.size,0,none⟩) L).trans U;have X:g.heap.size<(g.alloc (.cells (madeCells #[Value.int .i64 0] d) 3)).heap.size:=Xi;have c5:=G.lt;clear G S K;go_wp2_with fail;generalize g.alloc (.cells (madeCells #[Value.int .i64 0] d) 3)=b4 at *;clear b0;obtain⟨l,u⟩:∃l,l=g.heap.size:=⟨_,rfl⟩;rw[<-u] at V W L X ⊢;replace u:Z _:=u;go_loopg [6] d (λP b5 t=>∃a:Nat,P=d-a/\a<=d/\b5=.int .i64 a/\Fr1 l b4 t/\(∀j,t.frozen? ⟨l,j,none⟩=false)/\(∀j,j<d->t.cell? ⟨l,j,none⟩=some (.int .i64 (if j<a/\r.known (j/h.W*16+j%h.W)=true then 1 else 0))))
 case atStart=>exact⟨0,O,O,rfl,Fr.refl _ _,W.o,λj m=>by rw[N];exact V.o j m⟩
 case round=>
  obtain⟨a,D,c6,rfl,Y,a0,a1⟩:=hrel;replace D:Z _:=D;have y:Z _:=Y;have Q:Z _:=a0;have F:Z _:=a1;clear Y a0 a1;have c7:=(y.o.cell (k:=0) (YZ L X) O).trans b3;by_cases a2:a<d
  .have b6:(a:Int)<(d:Int):=O
   obtain⟨q,z⟩:∃q,q=a%h.W:=⟨_,rfl⟩;obtain⟨s,A⟩:∃s,s=a/h.W:=⟨_,rfl⟩;have b7:(a:Int)%(h.W:Int)=(q:Int):=by rw[z];exact(Yo _ _).symm
   have b8:(a:Int)/(h.W:Int)=(s:Int):=by rw[A];exact(YB _ _).symm
   have b9:q<16:=by rw[z];exact Xq (YD _ O) H
   have c0:s<16:=by
    rw[A];refine Xq (YN (by rw[<-a9.o];exact a2)) J
   have c1:b≠l:=by have:=u.o;have:=x.o.size;omega
   have a3:Z (∀e,Calls prog 75 #[.pointer (some ⟨b,o,none⟩),.int .i64 q,.int .i64 s] (wr.drewN e) λi v=>i=.returned (.bool (r.known (s*16+q)))/\∃P,v=(wr.drewN e).drewN P):=λe=>tY b o n q s c r (wr.drewN e) (((b1.o.fr y.o c1)).kept ((Kept.refl _).drewN e)) b2.o a6 b9 c0
   have a4:Z (r.known (a/h.W*16+a%h.W)=r.known (s*16+q)):=by show r.known (a/h.W*16+a%h.W)=_;rw[z,A]
   generalize c2:r.known (s*16+q)=c3 at *;clear c2;replace z:Z _:=z;replace A:Z _:=A;have a5:=F.o a a2;rw[N] at a5;have c8:=Q.o a;have c9:(0:Int)<=(a:Int):=O;have d0:(a:Int).tmod (h.W:Int)=(q:Int):=by rw[XU O];exact b7
   have d1:(a:Int).tdiv (h.W:Int)=(s:Int):=by rw[XZ O];exact b8
   cases c3 with
   | false=>
    go_wp2_with fail;go_quiet ((go_at_call 75;exact Zb (a3.o _)))
    go_wp2_with fail;go_roundg (d-(a+1))
    case measure=>rw[D.o];omega
    case rel=>
     refine⟨a+1,rfl,O,Xj,y.o.kept ((Kept.refl _).drewN _),λj=>Q.o j,λj m => ?_⟩;refine(F.o j m).trans ?_;by_cases i:j=a
     .subst i
      rw[N,N (λe=>by rw[a4.o] at e;exact absurd e.2 Xi)]
     .by_cases f:j<a/\r.known (j/h.W*16+j%h.W)=true
      .rw[I f,I ⟨O,f.2⟩]
      .rw[N f,N (λe=>f ⟨O,e.2⟩)]
   | true=>
    go_wp2_with fail;go_quiet ((go_at_call 75;exact Zb (a3.o _)))
    go_wp2_with fail;go_roundg (d-(a+1))
    case measure=>rw[D.o];omega
    case rel=>
     refine⟨a+1,rfl,O,Xj,Fr1.set (y.o.kept ((Kept.refl _).drewN _)) _ _,λj=>by rw[Xy];exact Q.o j,λj m => ?_⟩;by_cases i:j=a
     .subst i
      rw[I ⟨O,a4.o⟩];exact ai a5 _
     .rw[aa _ _ _ _ _ (λe=>i e.symm)]
      refine(F.o j m).trans ?_;by_cases f:j<a/\r.known (j/h.W*16+j%h.W)=true
      .rw[I f,I ⟨O,f.2⟩]
      .rw[N f,N (λe=>f ⟨O,e.2⟩)]
  .have b6:¬(a:Int)<(d:Int):=O
   have R:a=d:=O;replace R:Z _:=R;go_wp2_with fail;go_ret;refine⟨l,rfl,by have:=u.o;have:=x.o.size;omega,λj m => ?_,?_⟩
   .refine(F.o j m).trans ?_
    by_cases f:r.known (j/h.W*16+j%h.W)=true
    .rw[I ⟨by rw[R.o];exact m,f⟩,I f]
    .rw[N (λe=>f e.2),N f]
   .exact Fr.to_kept (x.o.trans (by rw[u.o] at *;exact M.o)) y.o (λd2 d3 e=>by have:=u.o;have:=x.o.size;omega)
def four(a b c d:Int):Value := .agg #[.int .i64 a,.int .i64 b,.int .i64 c,.int .i64 d]
theorem Oj:(prog.info? 154).map (·.size)=some 4:=Xk
def aS(W:World)(g:Nat)(f:Nat->Int):Prop:=W.cell? ⟨g,0,none⟩=some (.int .i64 (f 0))/\W.cell? ⟨g,1,none⟩=some (.int .i64 (f 1))/\W.cell? ⟨g,2,none⟩=some (.int .i64 (f 2))/\W.cell? ⟨g,3,none⟩=some (.int .i64 (f 3))
theorem aS.fr{W W' g f}{S:Nat->Prop}(h:aS W g f)(k:Fr S W W')(a:¬S g):aS W' g f:=by
 have b:=B _ _ h.1;exact⟨(k.cell b a).trans h.1,(k.cell b a).trans h.2.1,(k.cell b a).trans h.2.2.1,(k.cell b a).trans h.2.2.2⟩
theorem aS.kept{W W' g f}(h:aS W g f)(k:Kept W W'):aS W' g f:=h.fr (S:=λ_=>False) (Fr.of_kept k) (λa=>a)
theorem aS.get{W g f}(h:aS W g f)k(a:k<4):W.cell? ⟨g,k,none⟩=some (.int .i64 (f k)):=by
 match k,a with
 | 0,_=>exact h.1
 | 1,_=>exact h.2.1
 | 2,_=>exact h.2.2.1
 | 3,_=>exact h.2.2.2
theorem aS.of{W g f}(h:∀k,k<4->W.cell? ⟨g,k,none⟩=some (.int .i64 (f k))):aS W g f:=⟨h 0 O,h 1 O,h 2 O,h 3 O⟩
theorem aS.set{W g f f'}(h:aS W g f)k v(d:f' k=v)(e:∀a,a≠k->a<4->f' a=f a):aS (W.setCell ⟨g,k,none⟩ (.int .i64 v)) g f':=aS.of (λa b=>by
 by_cases c:a=k
 .subst c;rw[d];exact ai (h.get a b) _
 .rw[aa _ _ _ _ _ (λi=>c i.symm),e a c b];exact h.get a b)
def aP(a b c d:Int):Nat->Int:=λj=>if j=0 then a else if j=1 then b else if j=2 then c else d
theorem aS.put{W g f}(h:aS W g f)a b c d:aS ((((W.setCell ⟨g,0,none⟩ (.int .i64 a)).setCell ⟨g,1,none⟩ (.int .i64 b)).setCell ⟨g,2,none⟩ (.int .i64 c)).setCell ⟨g,3,none⟩ (.int .i64 d)) g (aP a b c d):=by
 have k:=h.set (f':=λe=>if e=0 then a else f e) 0 a rfl (λe i _=>N i);have l:=k.set (f':=λe=>if e=1 then b else if e=0 then a else f e) 1 b rfl (λe i _=>N i);have j:=(l.set (f':=λe=>if e=2 then c else if e=1 then b else if e=0 then a else f e) 2 c rfl (λe i _=>N i)).set (f':=λe=>if e=3 then d else if e=2 then c else if e=1 then b else if e=0 then a else f e) 3 d rfl (λe i _=>N i);exact⟨j.1,j.2.1,j.2.2.1,j.2.2.2⟩
theorem kX{W g f}(h:aS W g f):(loadVar 154 ⟨g,0,none⟩).run prog W=.ok (four (f 0) (f 1) (f 2) (f 3)) W:=by
 have:=Yw (P:=prog) W g 0 154 [.int .i64 (f 0),.int .i64 (f 1),.int .i64 (f 2),.int .i64 (f 3)] _ (λb c a=>by
  match b with
  | 0=>injection a with a;rw[<-a];exact h.1
  | 1=>injection a with a;rw[<-a];exact h.2.1
  | 2=>injection a with a;rw[<-a];exact h.2.2.1
  | 3=>injection a with a;rw[<-a];exact h.2.2.2
  | b+4=>simp at a) underlying154 rfl Oj
 exact this
theorem BR(b g n x y:Nat)c r w(m:Blk w b n c)(A:RwV c g r)(b2:g+1549<=n)(C:x<16)(D:y<16)(F:∀a,r.smp a<65536):Calls prog 115 #[.pointer (some ⟨b,g,none⟩),.int .i64 x,.int .i64 y] w λj o=>j=.returned (four (r.smp (4*(y*16+x)):Int) (r.smp (4*(y*16+x)+1):Int) (r.smp (4*(y*16+x)+2):Int) (r.smp (4*(y*16+x)+3):Int))/\Kept w o:=by
 have G:Z (∀f,Calls prog 113 #[.int .i64 x,.int .i64 y] f λj o=>j=.returned (.tuple #[.int .i64 ((y*16+x:Nat):Int),.bool true])/\o=f):=λf=>by
  have:=yu x y f O O
  rw[I ⟨C,D⟩,K (⟨C,D⟩:x<16/\y<16)] at this;exact this
 obtain⟨e,H⟩:∃e,e=y*16+x:=⟨_,rfl⟩;rw[<-H] at G ⊢;have b3:e<256:=O;have b4:(0:Int)<=(e:Int):=O;have b5:(e:Int)<256:=O;have a1:Z _:=m;have a2:Z _:=A;have a3:Z _:=F;have b6:=m.lt;clear m A H F;have J:Z (Kept w ((w.alloc (Obj.cells #[.int .i64 0,.int .i64 0,.int .i64 0,.int .i64 0] 154)).alloc (Obj.cells #[.int .i64 0,.int .i64 0,.int .i64 0,.int .i64 0] 154))):=Xw (Xw (Xs _ _) (E _) _) Xi _;have a4:Z (aS ((w.alloc (Obj.cells #[.int .i64 0,.int .i64 0,.int .i64 0,.int .i64 0] 154)).alloc (Obj.cells #[.int .i64 0,.int .i64 0,.int .i64 0,.int .i64 0] 154)) (w.heap.size+1) (λ_=>0)):=by
  refine⟨?_,?_,?_,?_⟩<;>exact(Xr _ _ _ _ Xi).trans rfl
 have q:Z (aS ((w.alloc (Obj.cells #[.int .i64 0,.int .i64 0,.int .i64 0,.int .i64 0] 154)).alloc (Obj.cells #[.int .i64 0,.int .i64 0,.int .i64 0,.int .i64 0] 154)) w.heap.size (λ_=>0)):=by
  refine⟨?_,?_,?_,?_⟩<;>exact(YG _ _ _ Xi).trans ((Xr _ _ _ _ rfl).trans rfl)
 have L:Z (∀a,((w.alloc (Obj.cells #[.int .i64 0,.int .i64 0,.int .i64 0,.int .i64 0] 154)).alloc (Obj.cells #[.int .i64 0,.int .i64 0,.int .i64 0,.int .i64 0] 154)).frozen? ⟨w.heap.size+1,a,none⟩=false/\((w.alloc (Obj.cells #[.int .i64 0,.int .i64 0,.int .i64 0,.int .i64 0] 154)).alloc (Obj.cells #[.int .i64 0,.int .i64 0,.int .i64 0,.int .i64 0] 154)).frozen? ⟨w.heap.size,a,none⟩=false):=λa=>⟨XB _ _ _ _ Xi,(Below.frozen (Xw (Xs _ _) (E _) _) (p:=⟨w.heap.size,a,none⟩) Xi).trans (XB _ _ _ _ rfl)⟩
 go_enter func115,ntmps115;go_wp2_with fail;refine(G.o _).mono ?_;rintro j s ⟨rfl,b7⟩;subst s;go_wp2_with fail;generalize (w.alloc (Obj.cells #[.int .i64 0,.int .i64 0,.int .i64 0,.int .i64 0] 154)).alloc (Obj.cells #[.int .i64 0,.int .i64 0,.int .i64 0,.int .i64 0] 154)=s at *;go_loopg [10] 4 (λa5 a6 f=>∃d:Nat,a5=4-d/\d<=4/\a6=.int .i64 d/\Fr1 (w.heap.size+1) s f/\(∀a,f.frozen? ⟨w.heap.size+1,a,none⟩=false)/\aS f (w.heap.size+1) (λa=>if a<d then(r.smp (4*e+a):Int) else 0))
 case atStart=>exact⟨0,O,O,rfl,Fr.refl _ _,λa=>(L.o a).1,a4.o⟩
 case round=>
  obtain⟨d,t,b8,rfl,M,P,Q⟩:=hrel;replace t:Z _:=t;have h:Z _:=M;have R:Z _:=P;have u:=U Q;clear M P Q;have b9:(0:Int)<=(d:Int):=O;by_cases a7:d<4
  .have a8:(d:Int)<4:=O
   have T:=u.o.get d a7;obtain⟨V,T⟩:∃V,wr.cell? ⟨w.heap.size+1,d,none⟩=some V:=⟨_,T⟩;have c0:=R.o d;have a9:=((a1.o.kept J.o).fr h.o O).at (i:=g+525+(4*e+d)) O (a2.o.smp (4*e+d) O);rw[show g+525+(4*e+d)=g+525+e*4+d from O] at a9;have c1:=a3.o (4*e+d);generalize v:r.smp (4*e+d)=c2 at *;replace v:Z _:=v;go_wp2_with fail;go_roundg (4-(d+1))
   case measure=>rw[t.o];omega
   case rel=>
    refine⟨d+1,rfl,O,Xj,Fr1.set h.o _ _,λa=>by rw[Xy];exact R.o a,u.o.set d _ ?_ ?_⟩
    .show(if d<d+1 then(r.smp (4*e+d):Int) else 0)=_
     rw[I,v.o]
    .intro a c3 _
     show(if a<d+1 then(r.smp (4*e+a):Int) else 0)=if a<d then(r.smp (4*e+a):Int) else 0
     by_cases z:a<d
     .rw[I z,I]
     .rw[N z,N]
  .have a8:¬(d:Int)<4:=O
   have b0:d=4:=O;subst b0;obtain⟨W,X,Y,a0⟩:=u.o;replace W:wr.cell? ⟨w.heap.size+1,0,none⟩=some (.int .i64 (r.smp (4*e):Int)):=W;replace X:wr.cell? ⟨w.heap.size+1,1,none⟩=some (.int .i64 (r.smp (4*e+1):Int)):=X;replace Y:wr.cell? ⟨w.heap.size+1,2,none⟩=some (.int .i64 (r.smp (4*e+2):Int)):=Y;replace a0:wr.cell? ⟨w.heap.size+1,3,none⟩=some (.int .i64 (r.smp (4*e+3):Int)):=a0;have l:=q.o.fr h.o O;obtain⟨c4,c5,c6,c7⟩:=l;have c8:∀a,wr.frozen? ⟨w.heap.size,a,none⟩=false:=λa=>(h.o.frozen (c:=w.heap.size) (k:=a) (B _ _ q.o.1) O).trans (L.o a).2
   have l:=q.o.fr h.o (show ¬(w.heap.size=w.heap.size+1) from O);have b1:Z _:=l.put (r.smp (4*e):Int) (r.smp (4*e+1):Int) (r.smp (4*e+2):Int) (r.smp (4*e+3):Int);clear l;go_wp2_with fail;refine XA (ar rfl _ _ _ _ _ rfl (kX b1.o)) rfl ⟨rfl,?_⟩;exact(((((Fr.to_kept (S:=λa=>a=w.heap.size+1) J.o h.o (λc9 d0 z=>O)).setCell (E _) _).setCell (E _) _).setCell (E _) _).setCell (E _) _)
def bX(D:Nat):Nat:=if D=1 then 65535 else if D=2 then 21845 else if D=4 then 4369 else if D=8 then 257 else 1
theorem KB D:bX D<=65535:=by unfold bX;(repeat' split)<;>omega
theorem Dr(D:Nat)w:Calls prog 136 #[.int .i64 D] w λe f=>e=.returned (.int .i64 (bX D))/\f=w:=by
 have g:D=1\/D=2\/D=4\/D=8\/(D≠1/\D≠2/\D≠4/\D≠8):=O;rcases g with rfl|rfl|rfl|rfl|⟨a,b,c,d⟩
 case' inr.inr.inr.inr=>
  have h:Z (bX D=1):=by show bX D=1;unfold bX;rw[N a,N b,N c,N d]
  have i:((D:Int)==1)=false:=F.2 O;have j:((D:Int)==2)=false:=F.2 O;have k:((D:Int)==4)=false:=F.2 O;have l:((D:Int)==8)=false:=F.2 O;clear a b c d
 all_goals
  go_enter func136,ntmps136;go_wp2;go_ret
  first|exact⟨rfl,rfl⟩|exact⟨aj (by rw[h.o];rfl),rfl⟩
def qc(t:Tl)(i:Nat):Nat->Int:=if i<256 then aP ((t.pal (3*i)*257:Nat):Int) ((t.pal (3*i+1)*257:Nat):Int) ((t.pal (3*i+2)*257:Nat):Int) ((if i<t.clears then t.clear i*257 else 65535:Nat):Int) else λ_=>0
def Eh(w:World)(f:Nat->Int)(e:Ending)(w':World):Prop:=e=.returned (four (f 0) (f 1) (f 2) (f 3))/\Kept w w'
theorem qb{v0 v1 v2 v3 a0 a1 a2 a3}(a:v0=a0)(b:v1=a1)(c:v2=a2)(d:v3=a3):Ending.returned (four (aP v0 v1 v2 v3 0) (aP v0 v1 v2 v3 1) (aP v0 v1 v2 v3 2) (aP v0 v1 v2 v3 3))=.returned (four (aP a0 a1 a2 a3 0) (aP a0 a1 a2 a3 1) (aP a0 a1 a2 a3 2) (aP a0 a1 a2 a3 3)):=by rw[a,b,c,d]
theorem LC(b d n i:Nat)c t w(C:Blk w b n c)(r:TlV c d t)(c0:d+1026<=n)(v:∀f,t.pal f<256)(D:∀f,t.clear f<256):Calls prog 135 #[.pointer (some ⟨b,d,none⟩),.int .i64 i] w λF G=>Eh w (qc t i) F G:=by
 have H:Z (aS (w.alloc (Obj.cells #[.int .i64 0,.int .i64 0,.int .i64 0,.int .i64 0] 154)) w.heap.size (λ_=>0)):=by
  refine⟨?_,?_,?_,?_⟩<;>exact(Xr _ _ _ _ rfl).trans rfl
 have L:Z (Kept w (w.alloc (Obj.cells #[.int .i64 0,.int .i64 0,.int .i64 0,.int .i64 0] 154))):=Xw (Xs _ _) (E _) _;have a4:Z (∀f,(w.alloc (Obj.cells #[.int .i64 0,.int .i64 0,.int .i64 0,.int .i64 0] 154)).frozen? ⟨w.heap.size,f,none⟩=false):=λf=>XB _ _ _ _ rfl
 have c1:¬(i:Int)<0:=O;by_cases a5:256<=i
 .have a6:(256:Int)<=(i:Int):=O
  have M:Z (qc t i=λ_=>0):=by show qc t i=_;unfold qc;rw[N]
  generalize qc t i=a7 at *;clear v D;clear C r;go_enter func135,ntmps135;go_wp2_with fail;exact XA (ar rfl _ _ _ _ _ rfl (kX H.o)) rfl ⟨by rw[M.o],L.o⟩
 .have a6:¬(256:Int)<=(i:Int):=O
  have s:=C.kept L.o;have h:=s.at (i:=d+3*i) O (r.pal (3*i) O);have j:=s.at (i:=d+(3*i+1)) O (r.pal (3*i+1) O);have k:=s.at (i:=d+(3*i+2)) O (r.pal (3*i+2) O);have a8:=s.at (i:=d+768+i) O (r.clear i O);have a9:=s.at (i:=d+1025) O r.clears;obtain⟨g,P⟩:∃x,x=3*i:=⟨_,rfl⟩;obtain⟨m,Q⟩:∃x,x=3*i+1:=⟨_,rfl⟩;obtain⟨o,R⟩:∃x,x=3*i+2:=⟨_,rfl⟩;have c2:3*(i:Int)=(g:Int):=O;have c3:(g:Int)+1=(m:Int):=O;have c4:(g:Int)+2=(o:Int):=O;have c5:(0:Int)<=(g:Int):=O;have c6:(g:Int)<768:=O;have c7:(0:Int)<=(m:Int):=O;have c8:(m:Int)<768:=O;have c9:(0:Int)<=(o:Int):=O;have d0:(o:Int)<768:=O;have d1:(0:Int)<=(i:Int):=O;have d2:(i:Int)<256:=O;have M:Z (qc t i=aP ((t.pal g*257:Nat):Int) ((t.pal m*257:Nat):Int) ((t.pal o*257:Nat):Int) ((if i<t.clears then t.clear i*257 else 65535:Nat):Int)):=by show qc t i=_;unfold qc;rw[I,<-R,<-Q,<-P]
  have d3:=v g;have d4:=v m;have d5:=v o;have d6:=D i;clear v D;generalize qc t i=a7 at *;rw[<-P] at h;rw[<-Q] at j;rw[<-R] at k;generalize t.pal g=b0 at *;generalize t.pal m=b1 at *;generalize t.pal o=b2 at *;generalize t.clear i=S at *;generalize t.clears=l at *;clear P Q R C r s a5;have y:Z (∀e,Calls prog 136 #[.int .i64 8] e λF G=>F=.returned (.int .i64 257)/\G=e):=λe=>Dr 8 e
  go_enter func135,ntmps135;go_upto_region 4 with fail
  generalize w.alloc (Obj.cells #[.int .i64 0,.int .i64 0,.int .i64 0,.int .i64 0] 154)=a at *;go_upto_region 4 with fail
  go_cut [25] from 16 (λb3 e=>b3=.bool (decide (i<l))/\e=a)
  case first=>
   by_cases a0:i<l
   .have b4:(i:Int)<(l:Int):=O
    go_wp2_with fail;go_meet
    case rel=>exact⟨by rw[K a0],rfl⟩
   .have b4:¬(i:Int)<(l:Int):=O
    go_wp2_with fail;go_meet
    case rel=>exact⟨by rw[J a0],rfl⟩
  case rest=>
   obtain⟨b5,d7⟩:=hcut;subst b5;have b6:Z ((if i<l then S*257 else 65535:Nat)=if decide (i<l)=true then S*257 else 65535):=by
    show(if i<l then S*257 else 65535:Nat)=_
    by_cases z:i<l
    .rw[I z,I (K z)]
    .rw[N z,N (by rw[J z];decide)]
   generalize decide (i<l)=b7 at *;subst wc;have T:Z (∀e,Kept a e->e.cell? ⟨b,d+g,none⟩=some (.int .u8 b0)/\e.cell? ⟨b,d+m,none⟩=some (.int .u8 b1)/\e.cell? ⟨b,d+o,none⟩=some (.int .u8 b2)):=λe V=>⟨(V.cell (p:=⟨b,d+g,none⟩) (B _ _ h)).trans h,(V.cell (p:=⟨b,d+m,none⟩) (B _ _ j)).trans j,(V.cell (p:=⟨b,d+o,none⟩) (B _ _ k)).trans k⟩
   have u:Z (Kept a a):=Kept.refl _;cases b7
   case' true=>
    go_wp2_with fail;go_quiet ((go_at_call 136;exact Xu (y.o _)))
    replace u:Z (Kept a (a.drewN nq)):=(Kept.refl _).drewN _;generalize a.drewN nq=q at *
   case' false=>
    obtain⟨q,A⟩:∃q,q=a:=⟨_,rfl⟩;rw[<-A] at u ⊢;replace A:Z _:=A;have b8:Z (Kept a q):=by rw[A.o];exact Kept.refl _
    clear u;have u:Z (Kept a q):=b8.o
   all_goals
    clear h j k a8 a9;obtain⟨h,j,k⟩:=T.o q u.o;go_wp2_with fail;go_quiet ((go_at_call 136;exact Xu (y.o _)))
    have a1:Z (Kept a (q.drewN nq)):=u.o.drewN _;generalize q.drewN nq=W at *;clear h j k;obtain⟨h,j,k⟩:=T.o W a1.o;go_wp2_with fail;go_quiet ((go_at_call 136;exact Xu (y.o _)))
    have a2:Z (Kept a (W.drewN nq)):=a1.o.drewN _;generalize W.drewN nq=X at *;clear h j k;obtain⟨h,j,k⟩:=T.o X a2.o;go_wp2_with fail;go_quiet ((go_at_call 136;exact Xu (y.o _)))
    have Y:Z (Kept a (X.drewN nq)):=a2.o.drewN _;generalize X.drewN nq=b9 at *;have a3:=U (H.o.kept Y.o);have d8:∀f,b9.frozen? ⟨w.heap.size,f,none⟩=false:=λf=>(Y.o.frozen (p:=⟨w.heap.size,f,none⟩) (show w.heap.size<a.heap.size from B a ⟨w.heap.size,0,none⟩ H.o.1)).trans (a4.o f)
    obtain⟨d9,e0,e1,e2⟩:=a3.o;go_wp2_with fail;refine XA (ar rfl _ _ _ _ _ rfl (kX (aS.put a3.o _ _ _ _))) rfl ⟨?_,?_⟩
    .rw[M.o,b6.o]
     refine qb ?_ ?_ ?_ ?_<;>first|omega|(rw[XC];omega)|rfl
    exact(((((L.o.trans Y.o).setCell (E _) _).setCell (E _) _).setCell (E _) _).setCell (E _) _)
def alP(t:Tl)(C:Nat)(s:Nat->Int):Int:=if t.clears=0 then 65535 else if(∀k,k<C->s k=(t.smp k:Int)) then 0 else 65535
theorem AR{t C s}(h:t.clears=0):alP t C s=65535:=I h
theorem Ee{t C s}(h:¬t.clears=0)(k:∀k,k<C->s k=(t.smp k:Int)):alP t C s=0:=by unfold alP;rw[N h,I k]
theorem Ed{t C s}(h:¬t.clears=0)j(a:j<C)(k:s j≠(t.smp j:Int)):alP t C s=65535:=by unfold alP;rw[N h,N (λb=>k (b j a))]
theorem Md b o n c t h s0 s1 s2 s3 w(A:Blk w b n c)(e:TlV c o t)(Q:o+1026<=n)(J:∀d,t.clear d<256)(b7:h.K<=6):Calls prog 137 #[.pointer (some ⟨b,o,none⟩),hdV h,four s0 s1 s2 s3] w λg q=>g=.returned (.int .i64 (alP t (chn h.K) (aP s0 s1 s2 s3)))/\Kept w q:=by
 unfold hdV four;obtain⟨j,m⟩:∃j,j=w.alloc (Obj.cells #[.int .i64 h.W,.int .i64 h.H,.int .i64 h.D,.int .i64 h.K,.int .i64 h.L] 44):=⟨_,rfl⟩;obtain⟨f,r⟩:∃f,f=j.alloc (Obj.cells #[.int .i64 s0,.int .i64 s1,.int .i64 s2,.int .i64 s3] 154):=⟨_,rfl⟩;have R:j.heap.size=w.heap.size+1:=by rw[m];simp
 have K:Kept w j:=by rw[m];exact Xw (Xs _ _) (E _) _
 have C:Kept j f:=by rw[r];exact Xw (Xs _ _) (E _) _
 have s:Z (Kept w f):=K.trans C;have L:f.cell? ⟨w.heap.size,3,none⟩=some (.int .i64 h.K):=by
  rw[C.cell (p:=⟨w.heap.size,3,none⟩) (by show w.heap.size<j.heap.size;omega),m];exact(Xr _ _ _ _ rfl).trans rfl
 have S:Z (aS f (w.heap.size+1) (aP s0 s1 s2 s3)):=by
  rw[r,<-R];refine⟨?_,?_,?_,?_⟩<;>exact(Xr _ _ _ _ rfl).trans rfl
 have b8:=(A.kept s.o).at (i:=o+1025) O e.clears;have T:Z _:=A.kept s.o;have V:Z _:=e;have W:Z _:=J;have M:Z (∀u:World,Calls prog 121 #[.int .i64 h.K] u λg q=>g=.returned (.int .i64 (chn h.K))/\q=u):=λu=>kB _ u O
 have b9:=ev h.K;have X:Z (t.clears=0->alP t (chn h.K) (aP s0 s1 s2 s3)=65535):=AR;have Y:Z (¬t.clears=0->(∀a,a<chn h.K->aP s0 s1 s2 s3 a=(t.smp a:Int))->alP t (chn h.K) (aP s0 s1 s2 s3)=0):=Ee;have a0:Z (¬t.clears=0->∀d,d<chn h.K->aP s0 s1 s2 s3 d≠(t.smp d:Int)->alP t (chn h.K) (aP s0 s1 s2 s3)=65535):=Ed;generalize alP t (chn h.K) (aP s0 s1 s2 s3)=c0 at *;generalize chn h.K=D at *;clear A e J K C;generalize a1:h.K=c1 at *;generalize a2:h.W=c2 at *;generalize a3:h.H=c3 at *;generalize a4:h.D=c4 at *;generalize a5:h.L=c5 at *;clear a1 a2 a3 a4 a5;go_enter func137,ntmps137;go_upto_region 1 with fail
 rw[<-m,<-r];replace m:Z _:=m;replace r:Z _:=r;by_cases k:t.clears=0
 .have a6:((t.clears:Int)==0)=true:=by rw[XI];omega
  generalize t.clears=a7 at *;replace k:Z _:=k;go_wp2_with fail;go_ret;exact⟨by rw[X.o k.o];rfl,s.o⟩
 .have a6:((t.clears:Int)==0)=false:=by rw[F];omega
  generalize t.clears=a7 at *;replace k:Z _:=k;go_wp2_with fail;go_loopg [7] 4 (λG a8 a9=>∃a:Nat,G=4-a/\a<=4/\a8=.int .i64 a/\Kept f a9/\∀d,d<a->aP s0 s1 s2 s3 d=(t.smp d:Int))
  case atStart=>exact⟨0,O,O,rfl,Kept.refl _,λd N=>O⟩
  case round=>
   obtain⟨a,H,c6,rfl,v,x⟩:=hrel;replace x:Z _:=x;replace H:Z _:=H;have y:Z (Kept f wr):=v;have c7:=(v.cell (p:=⟨w.heap.size,3,none⟩) (B _ _ L)).trans L;have b0:=U (S.o.kept v);clear v;by_cases b1:a<D
   .have b2:(a:Int)<(D:Int):=O
    have c8:(a:Int)<4:=O;have c9:(0:Int)<=(a:Int):=O;have d0:=b0.o.get a O;have b3:Z (∀l,Calls prog 129 #[.pointer (some ⟨b,o,none⟩),.int .i64 a] (wr.drewN l) λg q=>g=.returned (.int .i64 (t.smp a))/\∃G,q=(wr.drewN l).drewN G):=λl=>nv b o n a c t (wr.drewN l) ((T.o.kept y.o).kept ((Kept.refl _).drewN l)) V.o Q O W.o
    generalize e:t.smp a=b4 at *;replace e:Z _:=e;generalize z:aP s0 s1 s2 s3 a=b5 at *;replace z:Z _:=z;go_wp2_with fail;refine(M.o _).mono ?_;rintro g I ⟨rfl,b6⟩;subst I;go_wp2_with fail;go_quiet ((go_at_call 129;exact Zb (b3.o _)))
    cases P:(b5 != (b4:Int))
    .go_wp2_with fail
     go_roundg (4-(a+1))
     case measure=>rw[H.o];omega
     case rel=>exact⟨a+1,rfl,O,Xj,y.o.drewN _,λd N=>by
      by_cases l:d=a
      .subst l
       rw[z.o,e.o]
       simpa using P
      .exact x.o d O⟩
    .go_wp2_with fail
     go_ret;exact⟨by rw[a0.o k.o a b1 (by rw[z.o,e.o];simpa using P)];rfl,s.o.trans (y.o.drewN _)⟩
   .have b2:¬(a:Int)<(D:Int):=O
    go_wp2_with fail;refine(M.o _).mono ?_;rintro g I ⟨rfl,b6⟩;subst I;go_wp2_with fail;go_ret;exact⟨by rw[Y.o k.o (λd N=>x.o d O)];rfl,s.o.trans y.o⟩
