import Derived.Test.YtbedkdnphobmlaaGreatDoorProg
import Derived.Test.YtbedkdnphobmlaaGreatDoorUaa00
import Derived.Test.YtbedkdnphobmlaaGreatDoorUaa01
import Derived.Test.YtbedkdnphobmlaaGreatDoorUaa02
import Derived.Test.YtbedkdnphobmlaaGreatDoorUaa04
import Derived.Test.YtbedkdnphobmlaaGreatDoorUaa05
import Derived.Test.YtbedkdnphobmlaaGreatDoorUaa06
import Derived.Test.YtbedkdnphobmlaaGreatDoorUaa07
import Derived.Test.YtbedkdnphobmlaaGreatDoorUaa09
import Derived.Test.YtbedkdnphobmlaaGreatDoorUaa12
import Derived.Test.YtbedkdnphobmlaaGreatDoorUaa13
import Derived.Test.YtbedkdnphobmlaaGreatDoorUaa14
import Derived.Test.YtbedkdnphobmlaaGreatDoorUaa15
import Derived.Test.YtbedkdnphobmlaaGreatDoorUaa16
import Derived.Test.YtbedkdnphobmlaaGreatDoorUaa17
import Derived.Test.YtbedkdnphobmlaaGreatDoorUaa18
import Derived.Test.YtbedkdnphobmlaaGreatDoorUaa19
import Derived.Test.YtbedkdnphobmlaaGreatDoorUaa23
import Derived.Test.YtbedkdnphobmlaaGreatDoorUaa27
import Derived.Test.YtbedkdnphobmlaaGreatDoorUaa33
import Derived.Test.YtbedkdnphobmlaaGreatDoorUaa34
import Derived.Test.YtbedkdnphobmlaaGreatDoorUab00
import Derived.Test.YtbedkdnphobmlaaGreatDoorUac00
import Derived.Test.YtbedkdnphobmlaaGreatDoorUac01
import Derived.Test.YtbedkdnphobmlaaGreatDoorUac02
import Derived.Test.YtbedkdnphobmlaaGreatDoorUad00
import Derived.Test.YtbedkdnphobmlaaGreatDoorUaf00
set_option linter.all false
set_option maxRecDepth 100000
set_option maxHeartbeats 0
namespace Go.Proofs.YtbedkdnphobmlaaGreatDoor
open Go.RowKit Px Tryz
theorem dW{w g o N c f}(h:∀j,j<N->w.cell? ⟨g,o+j,none⟩=some (.int .i64 (f j))):LAt w .i64 (.slice (some ⟨g,o,none⟩) ((List.range N).map f).length c) ((List.range N).map f):=by
 have b:((List.range N).map f).length=N:=by rw[List.length_map,List.length_range]
 refine⟨⟨_,_,rfl⟩,λk l d e a => ?_⟩
 injection d with i _ _
 rw[b] at a;refine⟨g,o,i.symm,?_⟩;rw[h e a,G,XQ,Yp a];rfl
theorem dg.lat{w w' e f}(h:dg w (f 0) (f 1) (f 2) (f 3) e w'):∃a,e=.returned (.slice (some ⟨a,0,none⟩) 4 4)/\(∀b,Kept w' b->LAt b .i64 (.slice (some ⟨a,0,none⟩) ((List.range 4).map f).length 4) ((List.range 4).map f))/\Kept w w':=by
 obtain⟨a,c,_,d,g,i,j,k⟩:=h;refine⟨a,c,λb l=>LAt.kept (dW (λm n => ?_)) l,k⟩
 match m,n with
 | 0,_=>exact d
 | 1,_=>exact g
 | 2,_=>exact i
 | 3,_=>exact j
theorem nM(x wd H K D L P V Z A n n4 gk gp gs:Nat)s5 s6 s7 pp qp xp fp kp cp pc qc xc fc kc cc pal clr pix fl kl cl t(F:Nat->Nat->Int)w(h:Dk w x wd H K D L P V Z pp qp xp fp kp cp pc qc xc fc kc cc pal clr pix fl kl cl)(b9:fN K pal clr t)(a1:n=wd*H)(c0:n4=4*n)(c1:∀a,a<n->∃a2 a3 a4 a5,SmK K pix a a2 a3 a4 a5/\F a=dY t ⟨wd,H,D,K,L⟩ a2 a3 a4 a5)(a7:∀j,j<n->w.cell? ⟨gk,j,none⟩=some (.int .i64 1))(z:∀j,j<n4->w.cell? ⟨gp,j,none⟩=some (.int .i64 (F (j/4) (j%4))))(a8:∀j,j<n4->w.cell? ⟨gs,j,none⟩=some (.int .i64 (F (j/4) (j%4)))):Calls prog 25 #[.pointer (some ⟨x,0,none⟩),.agg #[.int .i64 0,.int .i64 A,.bool true,.int .i64 wd,.int .i64 H,s5,s6,s7,.slice (some ⟨gk,0,none⟩) n n,.slice (some ⟨gp,0,none⟩) n4 n4,.slice (some ⟨gs,0,none⟩) n4 n4]] w λc9 e=>c9=.returned (.bool true)/\Kept w e:=by
 have e6:n<=256:=by rw[a1];exact Xz (XF h.im.w2 h.im.h2) Xh
 have e7:(wd:Int)*(H:Int)=(n:Int):=by rw[a1];simp
 have e8:4*(n:Int)=(n4:Int):=O;have e9:n4<=1024:=O;have q:Kept w (w.alloc (Obj.cells #[.int .i64 0,.int .i64 A,.bool true,.int .i64 wd,.int .i64 H,s5,s6,s7,.slice (some ⟨gk,0,none⟩) n n,.slice (some ⟨gp,0,none⟩) n4 n4,.slice (some ⟨gs,0,none⟩) n4 n4] 50)):=Xw (Xs _ _) (E _) _;have r:∀j C,(#[.int .i64 0,.int .i64 A,.bool true,.int .i64 wd,.int .i64 H,s5,s6,s7,.slice (some ⟨gk,0,none⟩) n n,.slice (some ⟨gp,0,none⟩) n4 n4,.slice (some ⟨gs,0,none⟩) n4 n4]:Array Value)[j]? = some C->(w.alloc (Obj.cells #[.int .i64 0,.int .i64 A,.bool true,.int .i64 wd,.int .i64 H,s5,s6,s7,.slice (some ⟨gk,0,none⟩) n n,.slice (some ⟨gp,0,none⟩) n4 n4,.slice (some ⟨gs,0,none⟩) n4 n4] 50)).cell? ⟨w.heap.size,j,none⟩=some C:=λj C d0=>(Xr _ _ _ _ rfl).trans d0
 have v:ZH0 (∀b,Kept (w.alloc (Obj.cells #[.int .i64 0,.int .i64 A,.bool true,.int .i64 wd,.int .i64 H,s5,s6,s7,.slice (some ⟨gk,0,none⟩) n n,.slice (some ⟨gp,0,none⟩) n4 n4,.slice (some ⟨gs,0,none⟩) n4 n4] 50)) b->(b.cell? ⟨x,0,none⟩=some (.int .i64 wd)/\b.cell? ⟨x,1,none⟩=some (.int .i64 H)/\b.cell? ⟨w.heap.size,0,none⟩=some (.int .i64 0)/\b.cell? ⟨w.heap.size,2,none⟩=some (.bool true)/\b.cell? ⟨w.heap.size,3,none⟩=some (.int .i64 wd)/\b.cell? ⟨w.heap.size,4,none⟩=some (.int .i64 H)/\b.cell? ⟨w.heap.size,8,none⟩=some (.slice (some ⟨gk,0,none⟩) n n)/\b.cell? ⟨w.heap.size,9,none⟩=some (.slice (some ⟨gp,0,none⟩) n4 n4)/\b.cell? ⟨w.heap.size,10,none⟩=some (.slice (some ⟨gs,0,none⟩) n4 n4))):=λb a=>by
  have u:w.heap.size<(w.alloc (Obj.cells #[.int .i64 0,.int .i64 A,.bool true,.int .i64 wd,.int .i64 H,s5,s6,s7,.slice (some ⟨gk,0,none⟩) n n,.slice (some ⟨gp,0,none⟩) n4 n4,.slice (some ⟨gs,0,none⟩) n4 n4] 50)).heap.size:=Xi;have a9:=q.trans a;exact⟨(a9.cell (p:=⟨x,0,none⟩) h.xs).trans h.c0,(a9.cell (p:=⟨x,1,none⟩) h.xs).trans h.c1,(a.cell (p:=⟨w.heap.size,0,none⟩) u).trans (r 0 _ rfl),(a.cell (p:=⟨w.heap.size,2,none⟩) u).trans (r 2 _ rfl),(a.cell (p:=⟨w.heap.size,3,none⟩) u).trans (r 3 _ rfl),(a.cell (p:=⟨w.heap.size,4,none⟩) u).trans (r 4 _ rfl),(a.cell (p:=⟨w.heap.size,8,none⟩) u).trans (r 8 _ rfl),(a.cell (p:=⟨w.heap.size,9,none⟩) u).trans (r 9 _ rfl),(a.cell (p:=⟨w.heap.size,10,none⟩) u).trans (r 10 _ rfl)⟩
 have d1:ZH0 (∀b,Kept w b->∀j,j<n->b.cell? ⟨gk,j,none⟩=some (.int .i64 1)):=λb a j l=>(a.cell (p:=⟨gk,j,none⟩) (B _ _ (a7 j l))).trans (a7 j l)
 have d2:ZH0 (∀b a,Kept w b->a<n->Calls prog 29 #[.pointer (some ⟨x,0,none⟩),.int .i64 a] b λi e=>∃d,i=.returned (.slice (some ⟨d,0,none⟩) 4 4)/\(∀c2,Kept e c2->LAt c2 .i64 (.slice (some ⟨d,0,none⟩) ((List.range 4).map (F a)).length 4) ((List.range 4).map (F a)))/\Kept b e):=λb a s b0=>by
  obtain⟨a2,a3,a4,a5,d3,d4⟩:=c1 a b0;rw[d4];exact(iP x wd H K D L P V Z a a2 a3 a4 a5 pp qp xp fp kp cp pc qc xc fc kc cc pal clr pix fl kl cl t b (h.kept s) b9 O d3).mono (λi e d5=>d5.lat)
 have d6:ZH0 (∀b a d,Kept w b->a<n->LAt b .i64 (.slice (some ⟨d,0,none⟩) ((List.range 4).map (F a)).length 4) ((List.range 4).map (F a))->Calls prog 27 #[.slice (some ⟨gp,4*a,none⟩) 4 (n4-4*a),.slice (some ⟨d,0,none⟩) 4 4] b λi e=>i=.returned (.bool true)/\Kept b e):=λb a d s b0 b1=>by
  have m:((List.range 4).map (F a)).length=4:=rfl;have d7:LAt b .i64 (.slice (some ⟨gp,4*a,none⟩) ((List.range 4).map (F a)).length (n4-4*a)) ((List.range 4).map (F a)):=dW (λj l=>by
   have c3:4*a+j<n4:=O;rw[(s.cell (p:=⟨gp,4*a+j,none⟩) (B _ _ (z _ c3))).trans (z _ c3),show(4*a+j)/4=a from O,show(4*a+j)%4=j from O])
  have:=bY (some ⟨gp,4*a,none⟩) (some ⟨d,0,none⟩) 4 4 (n4-4*a) 4 _ _ b m.symm m.symm d7 b1 (by rw[m];omega) (by rw[m];omega)
  rw[decide_eq_true rfl] at this;exact this
 have d8:ZH0 (∀b,Kept w b->Calls prog 27 #[.slice (some ⟨gp,0,none⟩) n4 n4,.slice (some ⟨gs,0,none⟩) n4 n4] b λi e=>i=.returned (.bool true)/\Kept b e):=λb s=>by
  have m:((List.range n4).map (λj=>F (j/4) (j%4))).length=n4:=by rw[List.length_map,List.length_range]
  have d9:=dW (w:=b) (g:=gp) (o:=0) (N:=n4) (c:=n4) (f:=λj=>F (j/4) (j%4)) (λj l=>by
   rw[XD];exact(s.cell (p:=⟨gp,j,none⟩) (B _ _ (z _ l))).trans (z _ l))
  have e0:=dW (w:=b) (g:=gs) (o:=0) (N:=n4) (c:=n4) (f:=λj=>F (j/4) (j%4)) (λj l=>by
   rw[XD];exact(s.cell (p:=⟨gs,j,none⟩) (B _ _ (a8 _ l))).trans (a8 _ l))
  have:=bY (some ⟨gp,0,none⟩) (some ⟨gs,0,none⟩) n4 n4 n4 n4 _ _ b m.symm m.symm d9 e0 (by rw[m];omega) (by rw[m];omega)
  rw[decide_eq_true rfl] at this;exact this
 replace q:ZH0 _:=q;replace a1:ZH0 _:=a1;replace c0:ZH0 _:=c0;clear a7 z a8 r h b9 c1;go_enter func25,ntmps25;go_upto_region 1 with fail
 generalize (w.alloc (Obj.cells #[.int .i64 0,.int .i64 A,.bool true,.int .i64 wd,.int .i64 H,s5,s6,s7,.slice (some ⟨gk,0,none⟩) n n,.slice (some ⟨gp,0,none⟩) n4 n4,.slice (some ⟨gs,0,none⟩) n4 n4] 50))=k at *;obtain⟨G,I,J,M,Q,R,S,T,U⟩:=v.o k (Kept.refl _);go_quiet (fail);have c4:ZH0 (Kept k (k.drewN nq)):=(Kept.refl _).drewN _;generalize k.drewN nq=b2 at *;obtain⟨G,I,J,M,Q,R,S,T,U⟩:=v.o b2 c4.o;go_wp2_with fail;go_quiet (fail);have c5:ZH0 (Kept k (b2.drewN nq)):=c4.o.drewN _;generalize b2.drewN nq=e1 at *;obtain⟨G,I,J,M,Q,R,S,T,U⟩:=v.o e1 c5.o;go_wp2_with fail;go_loopg [6,7,8] n (λe2 C f0 f1 b=>∃a:Nat,e2=n-a/\a<=n/\C=.int .i64 a/\Kept k b)
 case atStart=>exact⟨0,O,O,rfl,c5.o⟩
 case round=>
  obtain⟨a,b3,b0,rfl,c6⟩:=hrel;replace b3:ZH0 _:=b3;have W:ZH0 (Kept k wr):=c6;clear c6;by_cases b4:a<n
  .have e3:(a:Int)<(n:Int):=O
   have f2:(0:Int)<=(a:Int):=O;obtain⟨y,c7⟩:∃b5,b5=4*a:=⟨_,rfl⟩;obtain⟨a6,e4⟩:∃b5,b5=4*a+4:=⟨_,rfl⟩;have f3:4*(a:Int)=(y:Int):=O;have f4:(y:Int)+4=(a6:Int):=O;have f5:y<=a6:=O;have f6:a6<=n4:=O;have f7:a6-y=4:=O;have e5:ZH0 (∀b d,Kept w b->LAt b .i64 (.slice (some ⟨d,0,none⟩) ((List.range 4).map (F a)).length 4) ((List.range 4).map (F a))->Calls prog 27 #[.slice (some ⟨gp,y,none⟩) 4 (n4-y),.slice (some ⟨d,0,none⟩) 4 4] b λi e=>i=.returned (.bool true)/\Kept b e):=λb d s b1=>by rw[c7];exact d6.o b a d s b4 b1
   clear c7 e4;go_wp2_with fail;refine(d2.o wr a (Kept.trans q.o W.o) b4).mono ?_;rintro i b6 ⟨d,rfl,b7,c8⟩;have b8:ZH0 (Kept k b6):=W.o.trans c8;replace b7:ZH0 _:=b7;clear c8;obtain⟨G,I,J,M,Q,R,S,T,U⟩:=v.o b6 b8.o;go_wp2_with fail;refine(e5.o b6 d (Kept.trans q.o b8.o) (b7.o _ (Kept.refl _))).mono ?_;rintro i X ⟨rfl,Y⟩;have a0:ZH0 (Kept k X):=b8.o.trans Y;clear Y;obtain⟨G,I,J,M,Q,R,S,T,U⟩:=v.o X a0.o;have a9:=d1.o X (Kept.trans q.o a0.o) a b4;go_wp2_with fail;go_roundg (n-(a+1))
   case measure=>rw[b3.o];omega
   case rel=>exact⟨a+1,rfl,O,Xj,a0.o⟩
  .have e3:¬(a:Int)<(n:Int):=O
   obtain⟨G,I,J,M,Q,R,S,T,U⟩:=v.o wr W.o;go_wp2_with fail;refine(d8.o wr (Kept.trans q.o W.o)).mono ?_;rintro i X ⟨rfl,Y⟩;have a0:ZH0 (Kept k X):=W.o.trans Y;clear Y;go_wp2_with fail;go_ret;exact⟨rfl,Kept.trans q.o a0.o⟩
theorem jB:∀x,x<16->∀c,c<16->∃a,a<7/\aX (ae 1 a).cf (ae 1 a).cs (ae 1 a).cb x=(x,true)/\aX (ae 1 a).rf (ae 1 a).rs (ae 1 a).rb c=(c,true)/\∀b,b<7->a<b->((aX (ae 1 b).cf (ae 1 b).cs (ae 1 b).cb x).2&&(aX (ae 1 b).rf (ae 1 b).rs (ae 1 b).rb c).2)=false:=Xl
theorem ed{r t h x y k}:∀n,k<n->(∀j,j<n->k<j->((aX (ae h.L j).cf (ae h.L j).cs (ae h.L j).cb x).2&&(aX (ae h.L j).rf (ae h.L j).rs (ae h.L j).rb y).2)=false)->fB r t h x y n=fB r t h x y (k+1)
 | 0,d,_=>O
 | n+1,d,c=>by
  by_cases e:n=k
  .rw[e]
  .rw[jC (a:=(aX (ae h.L n).cf (ae h.L n).cs (ae h.L n).cb x).1) (b:=(aX (ae h.L n).rf (ae h.L n).rs (ae h.L n).rb y).1) (A:=(aX (ae h.L n).cf (ae h.L n).cs (ae h.L n).cb x).2) (B:=(aX (ae h.L n).rf (ae h.L n).rs (ae h.L n).rb y).2) rfl rfl (by rw[c n O O];rfl)]
   exact ed n O (λj g f=>c j O f)
theorem sj{r t h x y}(o:h.L<=1)(k:x<16)(l:y<16)(d:r.known (y*16+x)=true):shP r t h x y=pxP r t h x y:=by
 unfold shP;by_cases a:h.L=1
 .obtain⟨p,m,e,f,g⟩:=jB x k y l
  rw[<-a] at e f g;have b:av h.L=7:=by unfold av;rw[I a]
  rw[b,ed 7 m g,eO e f d]
 .have b:av h.L=1:=by unfold av;rw[N a]
  have i:ae h.L 0=⟨0,1,1,0,1,1⟩:=by unfold ae;rw[N (λn=>a n.1)]
  have j:∀c,aX 0 1 1 c=(c,true):=λc=>by unfold aX;rw[N,Nat.mod_one];rfl
  rw[b];exact eO (by rw[i];exact j x) (by rw[i];exact j y) d
def aI(s:Rd):Prop:=∀j,s.tl.pal j<256
theorem aI.note{s}(h:aI s):aI s.note:=by
 have a:aI s.note1:=by
  unfold Rd.note1;split
  .exact h
  .split
   .exact h
   .split
    .unfold Rd.begin
     split
     .exact h
     .exact h
    .exact h
 show aI s.note1.note2
 unfold Rd.note2;split
 .exact a
 .exact a
theorem aI.accept{s}(h:aI s):aI s.accept.1:=by
 unfold aI;rw[(fw s).1];exact h
theorem aI.keep{s x}(h:aI s)(c:x<256):aI (s.keep x).1:=by
 unfold Rd.keep;split
 .exact h
 .split
  .intro a
   show upd s.tl.pal s.taken x a<256
   by_cases b:a=s.taken
   .rw[b,upd_same];exact c
   .rw[upd_ne _ _ _ b];exact h a
  .split
   .exact h
   .split
    .unfold Rd.takeStream
     split
     .exact h
     .split
      .exact h
      .exact h
    .exact h
theorem aI.take{s x}(h:aI s)(d:x<256):aI (s.take x).1:=by
 unfold Rd.take;split
 .unfold Rd.takeSign
  split
  .exact h
  .split
   .exact h
   .exact h
 .split
  .unfold Rd.takeLength
   split
   .exact h
   .split
    .exact h
    .exact h
  .split
   .unfold Rd.takeType
    have a:aI (s.typed x):=h;split
    .exact h
    .split
     .exact a
     .split
      .exact a.note
      .exact a.note
   .split
    .have b:=aI.keep (s:=s.summed x) (x:=x) h d
     unfold Rd.takeData;split
     .exact b
     .show aI ((s.summed x).keep x).1.dataEnd
      unfold Rd.dataEnd;split
      .exact b
      .exact b
    .split
     .unfold Rd.takeSum
      have c:=aI.accept (s:=s.num x) h;split
      .exact h
      .split
       .exact h
       .split
        .exact c
        .split
         .exact c
         .exact c
     .exact h
theorem Rn.palI:∀{l:List Nat} {s b:Rd},Rn s l b->(∀x∈l,x<256)->aI s->aI b
 | [],s,b,a,_,k=>by cases a;exact k
 | x::l,s,b,a,c,k=>Rn.palI a.2.2 (λd e=>c d (by simp[e])) (k.take (c x Xi))
theorem jJ:aI rd0:=λ_=>Xp
theorem bm.left{d l m}(h:bm d (l++m)):bm d l:=λb c a e=>by
 have f:=(Yb.1 a).1
 have:=h b c (by rw[XV f];exact a)
 rw[List.take_append_of_le_length O] at this;exact this e
theorem bm.right{d l m}(h:bm d (l++m)):bm (d.feed l) m:=λa b c e=>by
 have:=h (l.length+a) b (by rw[XP O,YT];exact c)
 rw[List.take_length_add_append,dx] at this;exact this e
structure ev (W H D K L:Nat) (pal clr pix:List Int) (b:Rd):Prop where
 part:b.part=5
 hd:b.hd=⟨W,H,D,K,L⟩
 show':cC b
 palI:aI b
 tab:fN K pal clr b.tl
 seen:iZ ⟨W,H,D,K,L⟩ pix b.rw
theorem Bl{W H D K L P V pal clr pix fl kl cl s}(h:dp W H D K L P V pal clr pix fl kl s)(f:cu W H K D pal clr pix)(g:rG L P V fl kl cl):∃a,bm dc0 (aj s)/\dc0.feed (aj s)=⟨a,s.size,0,0⟩/\ev W H D K L pal clr pix a:=by
 obtain⟨a,b,i,j,m,c,k,l⟩:=nJ h f g;have n:=(bM h).2;have e:=aF s;refine⟨a,Rn.ok (d:=dc0) b rfl (by rw[e];show 0+s.size<=_;omega),?_,i,j,⟨c.hd,c.clear,b.smI yp⟩,b.palI (dG s) jJ,k,l⟩;rw[Rn.feed (d:=dc0) b rfl,e];show(⟨a,0+s.size,0,0⟩:Dc)=_
 rw[XD]
theorem zk b n c d w(a:Blk w b n c)(e:DcV c 0 d)(q:5957<=n)(k:d.err=0)(l:d.at1=0)(m:d.file.part=5):Calls prog 23 #[.pointer (some ⟨b,0,none⟩)] w λf g=>f=.returned (.tuple #[.int .i64 0,.int .i64 0])/\Kept w g:=by
 have h:=a.at (i:=5955) O e.err;have j:=a.at (i:=5956) O e.at1;rw[k] at h;rw[l] at j;replace h:w.cell? ⟨b,5955,none⟩=some (.int .i64 0):=h;replace j:w.cell? ⟨b,5956,none⟩=some (.int .i64 0):=j;have o:Z (Calls prog 41 #[.pointer (some ⟨b,0,none⟩)] w λf g=>f=.returned (.bool true)/\g=w):=by
  have:=gi b 0 n c d.file w a e.file O
  rw[K m] at this;exact this
 clear a e;go_enter func23,ntmps23;go_wp2_with fail;refine o.o.mono ?_;rintro f p ⟨rfl,r⟩;subst p;go_wp2_with fail;go_quiet (fail);go_wp2;go_ret2;exact⟨rfl,(Kept.refl _).drewN _⟩
theorem vI{w W g d}(h:DI w W g d)(c:d.err=0)(e:d.at1=0)(f:d.file.part=5):Calls prog 23 #[.pointer (some ⟨g,0,none⟩)] W λa b=>a=.returned (.tuple #[.int .i64 0,.int .i64 0])/\DI w b g d:=by
 obtain⟨i,j,k⟩:=h.ex;refine(zk g 5957 i d W j k (E _) c e f).mono ?_;rintro a b ⟨rfl,l⟩;exact⟨rfl,h.on l⟩
theorem jb{w W g d}(h:DI w W g d)(a:cC d.file)(f:aI d.file)(i:aS w):Calls prog 24 #[.pointer (some ⟨g,0,none⟩)] W λb j=>SnX W d b j:=by
 obtain⟨k,l,c⟩:=h.ex;refine qf g 5957 k d W l c (E _) ?_ f (i.kept h.kept);by_cases e:d.file.hd.W=0
 .exact L e
 .refine R ⟨c.file.rw,c.file.tl,O,O,a.clear,a.sm.1,a.hd.K,O,a.hd.W,?_,a.hd.H,a.hd.L⟩
  rcases a.sm.2 with b|b
  .exact absurd b e
  .exact b
theorem jc(x wd H K D L P V Z A gk gp gs lo:Nat)pp qp xp fp kp cp pc qc xc fc kc cc pal clr pix fl kl cl b w(h:Dk w x wd H K D L P V Z pp qp xp fp kp cp pc qc xc fc kc cc pal clr pix fl kl cl)(e:ev wd H D K L pal clr pix b)(p:bO w lo gk (wd*H) (knP b.rw ⟨wd,H,D,K,L⟩))(q:bO w lo gp (4*(wd*H)) (λj=>pxP b.rw b.tl ⟨wd,H,D,K,L⟩ (j/4%wd) (j/4/wd) (j%4)))(r:bO w lo gs (4*(wd*H)) (λj=>shP b.rw b.tl ⟨wd,H,D,K,L⟩ (j/4%wd) (j/4/wd) (j%4))):Calls prog 25 #[.pointer (some ⟨x,0,none⟩),.agg #[.int .i64 0,.int .i64 A,.bool true,.int .i64 wd,.int .i64 H,.int .i64 K,.int .i64 D,.int .i64 L,.slice (some ⟨gk,0,none⟩) (wd*H) (wd*H),.slice (some ⟨gp,0,none⟩) (4*(wd*H)) (4*(wd*H)),.slice (some ⟨gs,0,none⟩) (4*(wd*H)) (4*(wd*H))]] w λs t=>s=.returned (.bool true)/\Kept w t:=by
 have f:=h.im;have n:∀a,a<wd*H->a%wd<wd/\a/wd<H/\a/wd*wd+a%wd=a:=λa k=>⟨YD _ f.w1,YN k,by rw[Zk];exact Nat.div_add_mod a wd⟩
 have B:=f.w2;have C:=f.h2;refine nM x wd H K D L P V Z A (wd*H) (4*(wd*H)) gk gp gs _ _ _ pp qp xp fp kp cp pc qc xc fc kc cc pal clr pix fl kl cl b.tl (λa=>pxP b.rw b.tl ⟨wd,H,D,K,L⟩ (a%wd) (a/wd)) w h e.tab rfl rfl (λa k => ?_) (λj l => ?_) q.2.2 (λj l => ?_)
 .obtain⟨g,i,o⟩:=n a k
  have d:=e.seen.2 (a%wd) (a/wd) g i;obtain⟨_,_,u⟩:=e.seen.1 (a%wd) (a/wd) O O d;refine⟨_,_,_,_,λc v => ?_,by unfold pxP;rw[I d]⟩;have E:=bI (K:=K);have m:=u c v;replace m:b.rw.smp (4*(a/wd*16+a%wd)+c)=(pix.getD ((a/wd*wd+a%wd)*chan K+c) 0).toNat:=m;rw[o] at m;have y:a*chan K+c<pix.length:=by
   rw[f.pixL]
   have:(a+1)*chan K<=wd*H*chan K:=XS _ k
   rw[YO,Zi] at this;omega
  have F:=fF f _ (az y);have z:(b.rw.smp (4*(a/wd*16+a%wd)+c):Int)=pix.getD (a*chan K+c) 0:=by rw[m];omega
  rw[<-z]
  match c,(show c<4 from O) with
  | 0,_=>rfl
  | 1,_=>rfl
  | 2,_=>rfl
  | 3,_=>rfl
 .obtain⟨g,i,o⟩:=n j l
  have d:=e.seen.2 (j%wd) (j/wd) g i;rw[p.2.2 j l];show some (Value.int .i64 (if b.rw.known (j/wd*16+j%wd)=true then 1 else 0))=_
  rw[I d]
 .obtain⟨g,i,o⟩:=n (j/4) O
  have d:=e.seen.2 (j/4%wd) (j/4/wd) g i;rw[r.2.2 j l];show some (Value.int .i64 (shP b.rw b.tl ⟨wd,H,D,K,L⟩ (j/4%wd) (j/4/wd) (j%4)))=_
  rw[sj h.ch.l O O d]
theorem vM t i j(c:i<=j)(d:j<=t.size):aj t=aj (t.extract 0 i)++(aj (t.extract i j)++aj (t.extract j t.size)):=by
 rw[cM,cM,cM,List.drop_zero,Nat.sub_zero];have a:((aj t).drop j).take (t.size-j)=(aj t).drop j:=X6 (by rw[Yn,aF];omega);have b:(aj t).drop j=((aj t).drop i).drop (j-i):=by rw[YV];congr 1;omega
 rw[a,b,X7,X7]
theorem vx{f d}(a:bm dc0 (aj f))(b:dc0.feed (aj f)=d)i j(g:i<=j)(h:j<=f.size):∃c e,bm dc0 (aj (f.extract 0 i))/\dc0.feed (aj (f.extract 0 i))=c/\bm c (aj (f.extract i j))/\c.feed (aj (f.extract i j))=e/\bm e (aj (f.extract j f.size))/\e.feed (aj (f.extract j f.size))=d:=by
 rw[vM f i j g h] at a b;rw[dx,dx] at b;exact⟨_,_,a.left,rfl,a.right.left,rfl,a.right.right,b⟩
def Ca(e:Ending):Prop:=∃a b:Int,e=.returned (.tuple #[.int .i64 a,.int .i64 b])
theorem lN{w W g d d'}t(h:DI w W g d)(c:bm d (aj t))(e:d.feed (aj t)=d')(f:t.size<=2147483648)(i:bw w):Calls prog 22 #[.pointer (some ⟨g,0,none⟩),.string t] W λa b=>Ca a/\DI w b g d':=by
 have:=fK t h c f i
 rw[e] at this;exact this.mono (λa b ⟨j,k⟩=>⟨⟨_,_,j⟩,k⟩)
def tU(w:World)(wd H K D L N M:Nat)(b:Rd)(e:Ending)(W2:World):Prop:=∃gk gp gs,e=.returned (.agg #[.int .i64 0,.int .i64 0,.bool true,.int .i64 (wd:Int),.int .i64 (H:Int),.int .i64 (K:Int),.int .i64 (D:Int),.int .i64 (L:Int),.slice (some ⟨gk,0,none⟩) N N,.slice (some ⟨gp,0,none⟩) M M,.slice (some ⟨gs,0,none⟩) M M])/\(bO W2 0 gk N (knP b.rw ⟨wd,H,D,K,L⟩)/\bO W2 0 gp M (λj=>pxP b.rw b.tl ⟨wd,H,D,K,L⟩ (j/4%wd) (j/4/wd) (j%4))/\bO W2 0 gs M (λj=>shP b.rw b.tl ⟨wd,H,D,K,L⟩ (j/4%wd) (j/4/wd) (j%4)))/\Kept w W2
theorem uA{w W g n wd H K D L pal clr pix b}(h:DI w W g ⟨b,n,0,0⟩)(a:ev wd H D K L pal clr pix b)(s:1<=wd)(p:aS w):Calls prog 24 #[.pointer (some ⟨g,0,none⟩)] W λo d=>tU W wd H K D L (wd*H) (4*(wd*H)) b o d:=by
 refine(jb h a.show' a.palI p).mono ?_;rintro o d ⟨q,⟨e,_⟩|⟨_,k,l,m,r,f,i,j⟩⟩
 .replace e:b.hd.W=0:=e
  rw[a.hd] at e;exact absurd (show wd=0 from e) O
 .refine⟨k,l,m,?_,⟨?_,?_,?_⟩,q⟩
  .rw[r]
   unfold snW;show Ending.returned (Value.agg #[.int .i64 0,.int .i64 0,.bool (decide ((0:Nat)=0)&&decide (b.part=5)),.int .i64 b.hd.W,.int .i64 b.hd.H,.int .i64 b.hd.K,.int .i64 b.hd.D,.int .i64 b.hd.L,.slice (some ⟨k,0,none⟩) (b.hd.W*b.hd.H) (b.hd.W*b.hd.H),.slice (some ⟨l,0,none⟩) (4*(b.hd.W*b.hd.H)) (4*(b.hd.W*b.hd.H)),.slice (some ⟨m,0,none⟩) (4*(b.hd.W*b.hd.H)) (4*(b.hd.W*b.hd.H))])=_
   rw[a.hd,decide_eq_true a.part];rfl
  .replace f:bO d W.heap.size k (b.hd.W*b.hd.H) (knP b.rw b.hd):=f
   rw[a.hd] at f;exact f.low (X3 _)
  .replace i:bO d W.heap.size l (4*(b.hd.W*b.hd.H)) (λc=>pxP b.rw b.tl b.hd (c/4%b.hd.W) (c/4/b.hd.W) (c%4)):=i
   rw[a.hd] at i;exact i.low (X3 _)
  .replace j:bO d W.heap.size m (4*(b.hd.W*b.hd.H)) (λc=>shP b.rw b.tl b.hd (c/4%b.hd.W) (c/4/b.hd.W) (c%4)):=j
   rw[a.hd] at j;exact j.low (X3 _)
theorem A0 v f H K D L P V Z a b pp qp xp fp kp cp pc qc xc fc kc cc pal clr pix fl kl cl ff w(h:Dk w v f H K D L P V Z pp qp xp fp kp cp pc qc xc fc kc cc pal clr pix fl kl cl)(l1:4<v)(b6:dp f H D K L P V pal clr pix fl kl ff)(b7:w.cell? ⟨v,14,none⟩=some (.string ff))(h6 : -9223372036854775808<=a)(h7:a<9223372036854775808)(h8 : -9223372036854775808<=b)(h9:b<9223372036854775808):Calls prog 11 #[.pointer (some ⟨v,0,none⟩),.int .i64 a,.int .i64 b] w λg R=>g=.returned (.bool true)/\Kept w R:=by
 have i0:0<w.heap.size:=by have:=h.grid.lt;omega
 obtain⟨l2,l3⟩:=bM b6;obtain⟨s,b8,b9,a8⟩:=Bl b6 h.im h.ch;have S:ZH0 (∀e,Kept w e->e.cell? ⟨v,14,none⟩=some (.string ff)):=λe u=>(u.cell (p:=⟨v,14,none⟩) (B _ _ b7)).trans b7
 have N:ZH0 _:=(gJ h.grid);have e9:ZH0 (∀j,Kept w j->Calls prog 21 #[] j λk e=>∃c,k=.returned (.pointer (some ⟨c,0,none⟩))/\DI w e c dc0):=λj u=>jL u i0
 have i1:ZH0 (∀e c,DI w e c dc0->Calls prog 22 #[.pointer (some ⟨c,0,none⟩),.string ff] e λk q=>k=.returned (.tuple #[.int .i64 0,.int .i64 0])/\DI w q c ⟨s,ff.size,0,0⟩):=λe c r=>by
  have:=fK ff r b8 O N.o
  rw[b9] at this;exact this
 have i2:ZH0 (∀e c,DI w e c ⟨s,ff.size,0,0⟩->Calls prog 23 #[.pointer (some ⟨c,0,none⟩)] e λk q=>k=.returned (.tuple #[.int .i64 0,.int .i64 0])/\DI w q c ⟨s,ff.size,0,0⟩):=λe c r=>vI r rfl rfl a8.part
 have c0:ZH0 (∀e c,DI w e c ⟨s,ff.size,0,0⟩->Calls prog 24 #[.pointer (some ⟨c,0,none⟩)] e λk q=>tU e f H K D L (f*H) (4*(f*H)) s k q):=λe c r=>uA r a8 h.im.w1 N.o.grd
 have c1:ZH0 (∀j a9 b0 b1,Kept w j->bO j 0 a9 (f*H) (knP s.rw ⟨f,H,D,K,L⟩)->bO j 0 b0 (4*(f*H)) (λn=>pxP s.rw s.tl ⟨f,H,D,K,L⟩ (n/4%f) (n/4/f) (n%4))->bO j 0 b1 (4*(f*H)) (λn=>shP s.rw s.tl ⟨f,H,D,K,L⟩ (n/4%f) (n/4/f) (n%4))->Calls prog 25 #[.pointer (some ⟨v,0,none⟩),.agg #[.int .i64 0,.int .i64 0,.bool true,.int .i64 f,.int .i64 H,.int .i64 K,.int .i64 D,.int .i64 L,.slice (some ⟨a9,0,none⟩) (f*H) (f*H),.slice (some ⟨b0,0,none⟩) (4*(f*H)) (4*(f*H)),.slice (some ⟨b1,0,none⟩) (4*(f*H)) (4*(f*H))]] j λg R=>g=.returned (.bool true)/\Kept j R):=λj a9 b0 b1 i3 i4 i5 i6=>jc v f H K D L P V Z 0 a9 b0 b1 0 pp qp xp fp kp cp pc qc xc fc kc cc pal clr pix fl kl cl s j (h.kept i3) a8 i4 i5 i6
 have i7:ZH0 (∀m n,m<=n->n<=ff.size->∃E T,(∀e c,DI w e c dc0->Calls prog 22 #[.pointer (some ⟨c,0,none⟩),.string (ff.extract 0 m)] e λk q=>Ca k/\DI w q c E)/\(∀e c,DI w e c E->Calls prog 22 #[.pointer (some ⟨c,0,none⟩),.string ⟨#[]⟩] e λk q=>Ca k/\DI w q c E)/\(∀e c,DI w e c E->Calls prog 22 #[.pointer (some ⟨c,0,none⟩),.string (ff.extract m n)] e λk q=>Ca k/\DI w q c T)/\(∀e c,DI w e c T->Calls prog 22 #[.pointer (some ⟨c,0,none⟩),.string (ff.extract n ff.size)] e λk q=>Ca k/\DI w q c ⟨s,ff.size,0,0⟩)):=λm n c2 i8=>by
  obtain⟨E,T,i9,j0,j1,j2,j3,j4⟩:=vx b8 b9 m n c2 i8;refine⟨E,T,λe c r=>lN _ r i9 j0 (by rw[ByteArray.size_extract];omega) N.o,λe c r=>lN ⟨#[]⟩ r (λu v k => ?_) rfl (by show 0<=2147483648;omega) N.o,λe c r=>lN _ r j1 j2 (by rw[ByteArray.size_extract];omega) N.o,λe c r=>lN _ r j3 j4 (by rw[ByteArray.size_extract];omega) N.o⟩;exact absurd (show([]:List Nat)[u]? = some v from k) Xi
 have f0:ZH0 (∀(j:World) (U:Int) (Q:Nat),-9223372036854775808<=U->U<9223372036854775808->0<Q->Q<1000000000->Calls prog 17 #[.int .i64 U,.int .i64 Q] j λg R=>(∃u:Nat,u<Q/\g=.returned (.int .i64 u))/\R=j):=λj U Q j5 j6 l4 l5=>dO U Q j j5 j6 O O
 obtain⟨x,f1⟩:∃x,x=f*H:=⟨_,rfl⟩;obtain⟨i,f2⟩:∃i,i=4*(f*H):=⟨_,rfl⟩;rw[<-f2,<-f1] at c0 c1;obtain⟨b2,f3⟩:∃W,W=ff.size+1:=⟨_,rfl⟩;have l6:(ff.size:Int)+1=(b2:Int):=O;have f4:0<b2/\b2<1000000000:=O;replace f3:ZH0 _:=f3;clear b8 b9 a8 h b6 f1 f2 b7;go_enter func11,ntmps11;go_wp2_with fail;refine(e9.o w (Kept.refl _)).mono ?_;rintro g f5 ⟨c,rfl,c3⟩;have F:=S.o f5 c3.kept;have f6:ZH0 _:=c3;clear c3;go_wp2_with fail;refine(i1.o f5 c f6.o).mono ?_;rintro g j7 ⟨rfl,f7⟩;have f8:ZH0 _:=f7;clear f7 f6 F;go_wp2_with fail;refine(i2.o j7 c f8.o).mono ?_;rintro g j8 ⟨rfl,f9⟩;have c4:ZH0 _:=f9;clear f9 f8;go_wp2_with fail;refine(c0.o j8 c c4.o).mono ?_;rintro g G ⟨c5,c6,c7,rfl,X,g0⟩;have b3:ZH0 _:=X;have Y:ZH0 (Kept w G):=c4.o.kept.trans g0;clear X g0 c4;obtain⟨l,o⟩:∃l:List Value,l=[.int .i64 0,.int .i64 0,.bool true,.int .i64 f,.int .i64 H,.int .i64 K,.int .i64 D,.int .i64 L,.slice (some ⟨c5,0,none⟩) x x,.slice (some ⟨c6,0,none⟩) i i,.slice (some ⟨c7,0,none⟩) i i]:=⟨_,rfl⟩;have z:l.length=11:=by rw[o];rfl
 have A:∀a0∈l,a0.oneCell'=true:=by
  intro a0 I;rw[o] at I;simp only[Y4,List.not_mem_nil,or_false] at I;rcases I with rfl|rfl|rfl|rfl|rfl|rfl|rfl|rfl|rfl|rfl|rfl<;>rfl
 obtain⟨a1,d,J⟩:=cZ G l z A;unfold snN at a1 d J;have t:ZH0 (Kept G ((G.alloc (Obj.cells #[.int .i64 0,.int .i64 0,.bool false,.int .i64 0,.int .i64 0,.int .i64 0,.int .i64 0,.int .i64 0,.slice none 0 0,.slice none 0 0,.slice none 0 0] 50)).setCells G.heap.size 0 l)):=J;have C:(Value.agg #[.int .i64 0,.int .i64 0,.bool true,.int .i64 f,.int .i64 H,.int .i64 K,.int .i64 D,.int .i64 L,.slice (some ⟨c5,0,none⟩) x x,.slice (some ⟨c6,0,none⟩) i i,.slice (some ⟨c7,0,none⟩) i i])=.agg l.toArray:=by rw[o]
 rw[C];replace C:ZH0 _:=C;replace o:ZH0 _:=o;replace z:ZH0 _:=z;replace A:ZH0 _:=A;replace d:ZH0 _:=d;clear J;go_upto_region 5 with fail
 generalize ((G.alloc (Obj.cells #[.int .i64 0,.int .i64 0,.bool false,.int .i64 0,.int .i64 0,.int .i64 0,.int .i64 0,.int .i64 0,.slice none 0 0,.slice none 0 0,.slice none 0 0] 50)).setCells G.heap.size 0 l)=j9 at *;clear a1;replace d:=d.o;rw[o.o] at d;have c8:=d 0 _ rfl;have c9:=d 1 _ rfl;have F:=d 2 _ rfl;have d0:=d 3 _ rfl;have a2:=d 4 _ rfl;have a3:=d 5 _ rfl;have d1:=d 6 _ rfl;have d2:=d 7 _ rfl;have d3:=d 8 _ rfl;have d4:=d 9 _ rfl;have d5:=d 10 _ rfl;clear d;have b4:ZH0 _:=c1.o j9 c5 c6 c7 (Y.o.trans t.o) (b3.o.1.kept t.o) (b3.o.2.1.kept t.o) (b3.o.2.2.kept t.o);go_wp2_with fail;refine X9 b4.o ?_;rintro g a4 ⟨rfl,g1⟩;have g2:ZH0 (Kept w a4):=(Y.o.trans t.o).trans g1;clear g1 c8 c9 F d0 a2 a3 d1 d2 d3 d4 d5 b4 t b3 C o z A;have k0:=S.o a4 g2.o;go_wp2_with fail;refine(f0.o a4 a b2 h6 h7 f4.1 f4.2).mono ?_;rintro g d6 ⟨⟨m,c2,rfl⟩,k1⟩;subst d6;obtain⟨g3,a5⟩:∃W,W=ff.size-m:=⟨_,rfl⟩;obtain⟨b5,a6⟩:∃W,W=ff.size-m+1:=⟨_,rfl⟩;have l7:(ff.size:Int)-(m:Int)=(g3:Int):=O;have l8:(g3:Int)+1=(b5:Int):=O;have g4:0<b5/\b5<1000000000:=O;replace a5:ZH0 _:=a5;replace a6:ZH0 _:=a6;go_wp2_with fail;refine(f0.o a4 b b5 h8 h9 g4.1 g4.2).mono ?_;rintro g d6 ⟨⟨u,k2,rfl⟩,k1⟩;subst d6;replace a5:=a5.o;replace a6:=a6.o;obtain⟨y,k3⟩:∃y,y=m+u:=⟨_,rfl⟩;have l9:(m:Int)+(u:Int)=(y:Int):=O;have k4:y<=ff.size:=O;have k5:m<=y:=O;have m0:(0:Int)<=(m:Int):=O;have m1:(m:Int)<=(ff.size:Int):=O;have m2:(m:Int)<=(y:Int):=O;have m3:(y:Int)<=(ff.size:Int):=O;have m4:(0:Int)<=(y:Int):=O;obtain⟨E,T,d7,d8,d9,e0⟩:=i7.o m y k5 k4;replace d7:ZH0 _:=d7;replace d8:ZH0 _:=d8;replace d9:ZH0 _:=d9;replace e0:ZH0 _:=e0;clear a5 a6 k3 k2 c2;go_wp2_with fail;refine(e9.o a4 g2.o).mono ?_;rintro g g5 ⟨a7,rfl,e1⟩;have F:=S.o g5 e1.kept;have g6:ZH0 _:=e1;clear e1 k0;go_wp2_with fail;refine(d7.o g5 a7 g6.o).mono ?_;rintro g k6 ⟨⟨m5,m6,rfl⟩,g7⟩;have g8:ZH0 _:=g7;clear g7 g6 F;go_wp2_with fail;refine(d8.o k6 a7 g8.o).mono ?_;rintro g g9 ⟨⟨m7,m8,rfl⟩,e2⟩
 have a2:=S.o g9 e2.kept;have h0:ZH0 _:=e2;clear e2 g8;go_wp2_with fail;refine(d9.o g9 a7 h0.o).mono ?_;rintro g h1 ⟨⟨m9,n0,rfl⟩,e3⟩;have a3:=S.o h1 e3.kept;have h2:ZH0 _:=e3;clear e3 h0 a2;go_wp2_with fail;refine(e0.o h1 a7 h2.o).mono ?_;rintro g k7 ⟨⟨n1,n2,rfl⟩,h3⟩;have e4:ZH0 _:=h3;clear h3 h2 a3;go_wp2_with fail;refine(c0.o k7 a7 e4.o).mono ?_;rintro g M ⟨e5,e6,e7,rfl,X,h4⟩;have e8:ZH0 _:=X;have Y:ZH0 (Kept w M):=e4.o.kept.trans h4;clear X h4 e4;obtain⟨l,o⟩:∃l:List Value,l=[.int .i64 0,.int .i64 0,.bool true,.int .i64 f,.int .i64 H,.int .i64 K,.int .i64 D,.int .i64 L,.slice (some ⟨e5,0,none⟩) x x,.slice (some ⟨e6,0,none⟩) i i,.slice (some ⟨e7,0,none⟩) i i]:=⟨_,rfl⟩;have z:l.length=11:=by rw[o];rfl
 have A:∀a0∈l,a0.oneCell'=true:=by
  intro a0 I;rw[o] at I;simp only[Y4,List.not_mem_nil,or_false] at I;rcases I with rfl|rfl|rfl|rfl|rfl|rfl|rfl|rfl|rfl|rfl|rfl<;>rfl
 obtain⟨a1,d,J⟩:=cZ M l z A;unfold snN at a1 d J;have t:ZH0 (Kept M ((M.alloc (Obj.cells #[.int .i64 0,.int .i64 0,.bool false,.int .i64 0,.int .i64 0,.int .i64 0,.int .i64 0,.int .i64 0,.slice none 0 0,.slice none 0 0,.slice none 0 0] 50)).setCells M.heap.size 0 l)):=J;have C:(Value.agg #[.int .i64 0,.int .i64 0,.bool true,.int .i64 f,.int .i64 H,.int .i64 K,.int .i64 D,.int .i64 L,.slice (some ⟨e5,0,none⟩) x x,.slice (some ⟨e6,0,none⟩) i i,.slice (some ⟨e7,0,none⟩) i i])=.agg l.toArray:=by rw[o]
 rw[C];replace C:ZH0 _:=C;replace o:ZH0 _:=o;replace z:ZH0 _:=z;replace A:ZH0 _:=A;replace d:ZH0 _:=d;clear J;go_upto_region 16 with fail
 generalize ((M.alloc (Obj.cells #[.int .i64 0,.int .i64 0,.bool false,.int .i64 0,.int .i64 0,.int .i64 0,.int .i64 0,.int .i64 0,.slice none 0 0,.slice none 0 0,.slice none 0 0] 50)).setCells M.heap.size 0 l)=k8 at *;clear a1;replace d:=d.o;rw[o.o] at d;have c8:=d 0 _ rfl;have c9:=d 1 _ rfl;have F:=d 2 _ rfl;have d0:=d 3 _ rfl;have a2:=d 4 _ rfl;have a3:=d 5 _ rfl;have d1:=d 6 _ rfl;have d2:=d 7 _ rfl;have d3:=d 8 _ rfl;have d4:=d 9 _ rfl;have d5:=d 10 _ rfl;clear d;have b4:ZH0 _:=c1.o k8 e5 e6 e7 (Y.o.trans t.o) (e8.o.1.kept t.o) (e8.o.2.1.kept t.o) (e8.o.2.2.kept t.o);go_wp2_with fail;refine X9 b4.o ?_;rintro g k9 ⟨rfl,h5⟩;have l0:ZH0 (Kept w k9):=(Y.o.trans t.o).trans h5;clear h5 c8 c9 F d0 a2 a3 d1 d2 d3 d4 d5;go_wp2;go_ret;exact⟨rfl,l0.o⟩
theorem uH a b i j s t u v w(z : -9223372036854775808<=a)(A:a<9223372036854775808)(B : -9223372036854775808<=b)(C:b<9223372036854775808)(l:s.size<9223372036854775808)(m:t.size<9223372036854775808)(n:u.size<9223372036854775808)(o:v.size<9223372036854775808)(D : -9223372036854775808<=i)(E:i<9223372036854775808)(F : -9223372036854775808<=j)(G:j<9223372036854775808)(p:aV w):Calls prog 3 #[.int .i64 a,.string s,.string t,.int .i64 b,.string u,.string v,.int .i64 i,.int .i64 j] w λc f=>c=.returned (.bool true)/\Kept w f:=by
 have H:ZH0 (∀d:World,Calls prog 10 #[.string s,.string t,.string u,.string v] d λc f=>c=.returned (.bool (decide (65536<s.size\/65536<t.size\/65536<u.size\/65536<v.size)))/\f=d):=λd=>fY s t u v d l m n o
 have I:=U (fL a b s t u v w z A B C l m n o p);generalize decide (65536<s.size\/65536<t.size\/65536<u.size\/65536<v.size)=b8 at *;clear p;go_enter func3,ntmps3;go_wp2_with fail;refine I.o.mono ?_;rintro c g ⟨J|⟨_,K,L,M,N,O,P,Q,R,Z,S,T,V,W,X,Y,a0,a1,a2,a3,a4,a5,a6,a7,a8,a9,b0,b1,b2,rfl,b3,b9,q,r,x⟩,e⟩
 .obtain⟨rfl,rfl⟩:=J
  have h:ZH0 (Kept w g):=e;clear e;go_wp2_with fail;refine(H.o _).mono ?_;rintro c k ⟨rfl,c0⟩;subst k;go_wp2;go_ret;exact⟨rfl,h.o⟩
 .have h:ZH0 (Kept w g):=e
  have b4:ZH0 _:=q;have b5:=U r;have b6:ZH0 _:=x;clear e q r x;go_wp2_with fail;refine(A0 K L M N O P Q R Z i j S T V W X Y a0 a1 a2 a3 a4 a5 a6 a7 a8 a9 b0 b1 b2 g b4.o b3 b5.o b6.o D E F G).mono ?_;rintro c k ⟨rfl,y⟩;have b7:ZH0 (Kept w k):=h.o.trans y;clear y;go_wp2;go_ret;exact⟨rfl,b7.o⟩
