import Derived.Test.YtbedkdnphobmlaaGreatDoorProg
import Derived.Test.YtbedkdnphobmlaaGreatDoorUaa00
import Derived.Test.YtbedkdnphobmlaaGreatDoorUaa01
import Derived.Test.YtbedkdnphobmlaaGreatDoorUaa03
import Derived.Test.YtbedkdnphobmlaaGreatDoorUaa04
import Derived.Test.YtbedkdnphobmlaaGreatDoorUaa05
import Derived.Test.YtbedkdnphobmlaaGreatDoorUaa18
import Derived.Test.YtbedkdnphobmlaaGreatDoorUae00
set_option linter.all false
set_option maxRecDepth 100000
set_option maxHeartbeats 0
namespace Go.Proofs.YtbedkdnphobmlaaGreatDoor
open Go.RowKit Px Tryz
theorem Hc b o1 o2 n c r t h w(V:Blk w b n c)(j:et c o1 o2 n r t h)(d2:aS w):Calls prog 58 #[hdV h,.pointer (some ⟨b,o1,none⟩),.pointer (some ⟨b,o2,none⟩)] w λe F=>∃k a6,e=.returned (.slice (some ⟨k,0,none⟩) a6 a6)/\Kept w F:=by
 have W:Z (∀a,Calls prog 87 #[hdV h] a λe F=>e=.returned (.int .i64 ((h.W*h.H:Nat):Int))/\Kept a F):=λa=>jG h a j.W1 j.W2 j.H1 j.H2
 obtain⟨g,L⟩:∃g,g=h.W*h.H:=⟨_,rfl⟩;rw[<-L] at W;have g7:g<=256:=by rw[L];exact XF j.W2 j.H2
 have d3:Z _:=L;obtain⟨f,a7⟩:∃f,f=4*g:=⟨_,rfl⟩;have g8:4*(g:Int)=(f:Int):=O;have d4:Z _:=a7;have g9:f<=1024:=O;have d5:Z _:=j;have d6:Z _:=V;have h0:=V.lt;have a8:=U d2;have h1:=j.W1;have d7:=j.W2;have d8:=j.H2;clear L a7 V j;have X:Z (Kept w (w.alloc (Obj.cells #[.int .i64 h.W,.int .i64 h.H,.int .i64 h.D,.int .i64 h.K,.int .i64 h.L] 71))):=Xw (Xs _ _) (E _) _;have a9:Z (∀a,a=w.alloc (Obj.cells #[.int .i64 h.W,.int .i64 h.H,.int .i64 h.D,.int .i64 h.K,.int .i64 h.L] 71)->(a.cell? ⟨w.heap.size,0,none⟩=some (.int .i64 h.W)/\a.cell? ⟨w.heap.size,1,none⟩=some (.int .i64 h.H)/\a.cell? ⟨w.heap.size,2,none⟩=some (.int .i64 h.D)/\a.cell? ⟨w.heap.size,3,none⟩=some (.int .i64 h.K)/\a.cell? ⟨w.heap.size,4,none⟩=some (.int .i64 h.L))):=λa e=>by
  rw[e];refine⟨?_,?_,?_,?_,?_⟩<;>exact(Xr _ _ _ _ rfl).trans rfl
 unfold hdV at *;go_enter func58,ntmps58;go_wp2_with fail;generalize d9:w.alloc (Obj.cells #[.int .i64 h.W,.int .i64 h.H,.int .i64 h.D,.int .i64 h.K,.int .i64 h.L] 71)=G at *;obtain⟨Y,b0,b1,b2,b3⟩:=a9.o G rfl;have s:=B G ⟨w.heap.size,0,none⟩ Y;have e0:Z (∀a,Kept G a->(a.cell? ⟨w.heap.size,0,none⟩=some (.int .i64 h.W)/\a.cell? ⟨w.heap.size,1,none⟩=some (.int .i64 h.H)/\a.cell? ⟨w.heap.size,2,none⟩=some (.int .i64 h.D)/\a.cell? ⟨w.heap.size,3,none⟩=some (.int .i64 h.K)/\a.cell? ⟨w.heap.size,4,none⟩=some (.int .i64 h.L))):=λa d=>⟨(d.cell (p:=⟨w.heap.size,0,none⟩) s).trans Y,(d.cell (p:=⟨w.heap.size,1,none⟩) s).trans b0,(d.cell (p:=⟨w.heap.size,2,none⟩) s).trans b1,(d.cell (p:=⟨w.heap.size,3,none⟩) s).trans b2,(d.cell (p:=⟨w.heap.size,4,none⟩) s).trans b3⟩
 clear a9 Y b0 b1 b2 b3 d9;refine(W.o _).mono ?_;rintro e l ⟨rfl,a0⟩;have e1:=gn l f O;have b4:Z (Kept G l):=a0;have b5:=Xq s a0.size;have b6:Z (Kept l (l.alloc (.cells (madeCells #[Value.int .i64 0] f) 3))):=Xw (Xs _ _) (E _) _;have b7:Z (eJ (l.alloc (.cells (madeCells #[Value.int .i64 0] f) 3)) l.heap.size f):=⟨λi e2=>⟨0,(Xr _ _ _ _ rfl).trans (gq f i e2)⟩,λi=>XB _ _ _ _ rfl⟩;have a1:l.heap.size<(l.alloc (.cells (madeCells #[Value.int .i64 0] f) 3)).heap.size:=Xi;clear a0;go_wp2_with fail;generalize l.alloc (.cells (madeCells #[Value.int .i64 0] f) 3)=M at *;clear e1;obtain⟨k,N⟩:∃k,k=l.heap.size:=⟨_,rfl⟩;rw[<-N] at b7 b5 a1 ⊢;replace N:Z _:=N;have P:Z (Kept G M):=b4.o.trans (by rw[N.o] at *;exact b6.o);have b8:=b5;clear b4 b6;go_loopg [8] g (λe3 e4 a=>∃d:Nat,e3=g-d/\d<=g/\e4=.int .i64 d/\Fr1 k M a/\eJ a k f)
 case atStart=>exact⟨0,O,O,rfl,Fr.refl _ _,b7.o⟩
 case round=>
  obtain⟨d,a2,h2,rfl,u,b9⟩:=hrel;replace a2:Z _:=a2;have c0:Z _:=u;have e5:=U b9;have v:∀i,wr.cell? ⟨w.heap.size,i,none⟩=M.cell? ⟨w.heap.size,i,none⟩:=λi=>u.cell (YZ b8 a1) O
  obtain⟨c1,c2,c3,c4,c5⟩:=e0.o M P.o;have c6:=(v 0).trans c1;have c7:=(v 1).trans c2;have c8:=(v 2).trans c3;have c9:=(v 3).trans c4;have d0:=(v 4).trans c5;have a3:=Xq a1 u.size;have x:=YZ b8 a3;have e6:Z _:=(d6.o.kept (X.o.trans P.o)).fr u O;have e7:Z (aS wr):=(a8.o.kept (X.o.trans P.o)).fr u (by have:=B _ _ (a8.o 0 O);show ¬(_=k);omega);clear u b9 c1 c2 c3 c4 c5 v;have h3:¬(h.W=0):=O;go_wp2_with fail;refine(W.o _).mono ?_;rintro e Q ⟨rfl,m⟩;have H:Z (Kept wr Q):=m;have e8:=(m.cell (p:=⟨w.heap.size,0,none⟩) x).trans c6;have e9:=(m.cell (p:=⟨w.heap.size,1,none⟩) x).trans c7;have f0:=(m.cell (p:=⟨w.heap.size,2,none⟩) x).trans c8;have f1:=(m.cell (p:=⟨w.heap.size,3,none⟩) x).trans c9;have f2:=(m.cell (p:=⟨w.heap.size,4,none⟩) x).trans d0;have y:=Xq x m.size;have f3:=Xq a3 m.size;clear m c6 c7 c8 c9 d0;by_cases f4:d<g
  .have f5:(d:Int)<(g:Int):=O
   obtain⟨q,R⟩:∃q,q=d%h.W:=⟨_,rfl⟩;obtain⟨o,T⟩:∃o,o=d/h.W:=⟨_,rfl⟩;have f6:(d:Int)%(h.W:Int)=(q:Int):=by rw[R];exact(Yo _ _).symm
   have f7:(d:Int)/(h.W:Int)=(o:Int):=by rw[T];exact(YB _ _).symm
   have f8:q<16:=by rw[R];exact Xq (YD _ O) d7
   have f9:o<16:=by
    rw[T];exact Xq (YN (by rw[<-d3.o];exact f4)) d8
   have h4:(d:Int).tmod (h.W:Int)=(q:Int):=by rw[XU O];exact f6
   have h5:(d:Int).tdiv (h.W:Int)=(o:Int):=by rw[XZ O];exact f7
   have h6:IntKind.i64.wrap (o:Int)=(o:Int):=Xd;replace R:Z _:=R;replace T:Z _:=T;have g0:Z (∀a,Kept Q a->Calls prog 91 #[.agg #[.int .i64 h.W,.int .i64 h.H,.int .i64 h.D,.int .i64 h.K,.int .i64 h.L],.pointer (some ⟨b,o1,none⟩),.pointer (some ⟨b,o2,none⟩),.int .i64 q,.int .i64 o] a λe F=>∃z A C D:Int,e=.returned (.agg #[.int .i64 z,.int .i64 A,.int .i64 C,.int .i64 D])/\Kept a F):=λa I=>CQ b o1 o2 n q o c r t h a (e6.o.kept (H.o.trans I)) d5.o f8 f9 (e7.o.kept (H.o.trans I))
   have a4:Z (∀a,Kept Q a->(a.cell? ⟨w.heap.size,0,none⟩=some (.int .i64 h.W)/\a.cell? ⟨w.heap.size,1,none⟩=some (.int .i64 h.H)/\a.cell? ⟨w.heap.size,2,none⟩=some (.int .i64 h.D)/\a.cell? ⟨w.heap.size,3,none⟩=some (.int .i64 h.K)/\a.cell? ⟨w.heap.size,4,none⟩=some (.int .i64 h.L))):=λa d=>⟨(d.cell (p:=⟨w.heap.size,0,none⟩) y).trans e8,(d.cell (p:=⟨w.heap.size,1,none⟩) y).trans e9,(d.cell (p:=⟨w.heap.size,2,none⟩) y).trans f0,(d.cell (p:=⟨w.heap.size,3,none⟩) y).trans f1,(d.cell (p:=⟨w.heap.size,4,none⟩) y).trans f2⟩
   have g1:Z (∀J a,Kept Q J->Fr1 k J a->(a.cell? ⟨w.heap.size,0,none⟩=some (.int .i64 h.W)/\a.cell? ⟨w.heap.size,1,none⟩=some (.int .i64 h.H)/\a.cell? ⟨w.heap.size,2,none⟩=some (.int .i64 h.D)/\a.cell? ⟨w.heap.size,3,none⟩=some (.int .i64 h.K)/\a.cell? ⟨w.heap.size,4,none⟩=some (.int .i64 h.L))):=λJ a d g2=>by
    obtain⟨z,A,C,D,g3⟩:=a4.o J d;have e:∀i,a.cell? ⟨w.heap.size,i,none⟩=J.cell? ⟨w.heap.size,i,none⟩:=λi=>g2.cell (Xq y d.size) O
    exact⟨(e 0).trans z,(e 1).trans A,(e 2).trans C,(e 3).trans D,(e 4).trans g3⟩
   go_wp2_with fail;go_region_held3 (λa=>a.cell? ⟨w.heap.size,0,none⟩=some (.int .i64 h.W)/\a.cell? ⟨w.heap.size,1,none⟩=some (.int .i64 h.H)/\a.cell? ⟨w.heap.size,2,none⟩=some (.int .i64 h.D)/\a.cell? ⟨w.heap.size,3,none⟩=some (.int .i64 h.K)/\a.cell? ⟨w.heap.size,4,none⟩=some (.int .i64 h.L)) (first|exact a4.o _ ((Kept.refl _).drewN 1)|exact g1.o _ _ K a5|exact a4.o _ K|go_keep) ((first|(go_at_call 91;refine(g0.o _ ((Kept.refl _).drewN 1)).mono ?_;rintro e h7 ⟨z,A,C,D,rfl,g4⟩;have K:=((Kept.refl _).drewN 1).trans g4)|(go_at_call 89;refine((λa z A C D I=>ER k f d z A C D a (e5.o.kept (H.o.trans I) a3) (Xq f3 I.size) (by have:=d4.o;omega) O) _ _ _ _ _ K).mono ?_;rintro e h8 ⟨rfl,d1,a5⟩)))
   have g5:=U d1;have g6:Z _:=(c0.o.kept (H.o.trans K)).trans a5;clear d1 a5 K;go_wp2_with fail;go_roundg (g-(d+1))
   case measure=>rw[a2.o];omega
   case rel=>exact⟨d+1,rfl,O,Xj,g6.o,g5.o⟩
  .have f5:¬(d:Int)<(g:Int):=O
   go_wp2_with fail;go_ret;refine⟨k,f,rfl,?_⟩;exact Fr.to_kept (S:=λi=>i=k) (X.o.trans P.o) (c0.o.kept H.o) (λh9 i0 i1=>O)
def hdS(W:World)(b o:Nat)(h:Hd):Prop:=W.cell? ⟨b,o,none⟩=some (.int .i64 (h.W:Int))/\W.cell? ⟨b,o+1,none⟩=some (.int .i64 (h.H:Int))/\W.cell? ⟨b,o+2,none⟩=some (.int .i64 (h.D:Int))/\W.cell? ⟨b,o+3,none⟩=some (.int .i64 (h.K:Int))/\W.cell? ⟨b,o+4,none⟩=some (.int .i64 (h.L:Int))
theorem gI{W b o n c h}(a:Blk W b n c)(d:HdV c o h)(e:o+5<=n):hdS W b o h:=⟨a.at O d.W,a.at O d.H,a.at O d.D,a.at O d.K,a.at O d.L⟩
def Ix(w:World)(r:Rw)(h:Hd)(e:Ending)(w':World):Prop:=∃g,e=.returned (.slice (some ⟨g,0,none⟩) (h.W*h.H) (h.W*h.H))/\w.heap.size<=g/\g<w'.heap.size/\(∀j,j<h.W*h.H->w'.cell? ⟨g,j,none⟩=some (.int .i64 (if r.known (j/h.W*16+j%h.W) then 1 else 0)))
def Jh(e:Ending):Prop:=∃g N,e=.returned (.slice (some ⟨g,0,none⟩) N N)
theorem kI b o n c s w(i:Blk w b n c)(j:RdV c o s)(z:o+5954<=n)(p:1<=s.hd.W)(t:s.hd.W<=16)(q:1<=s.hd.H)(u:s.hd.H<=16):Calls prog 43 #[.pointer (some ⟨b,o,none⟩)] w λf e=>Ix w s.rw s.hd f e/\Kept w e:=by
 have k:Z (∀a,Kept w a->hdS a b (o+6) s.hd):=λa l=>gI (i.kept l) j.hd O
 have v:Z (∀a,Kept w a->Calls prog 56 #[.agg #[.int .i64 s.hd.W,.int .i64 s.hd.H,.int .i64 s.hd.D,.int .i64 s.hd.K,.int .i64 s.hd.L],.pointer (some ⟨b,o+4401,none⟩)] a λf e=>∃d,f=.returned (.slice (some ⟨d,0,none⟩) (s.hd.W*s.hd.H) (s.hd.W*s.hd.H))/\a.heap.size<=d/\(∀g,g<s.hd.W*s.hd.H->e.cell? ⟨d,g,none⟩=some (.int .i64 (if s.rw.known (g/s.hd.W*16+g%s.hd.W) then 1 else 0)))/\Kept a e):=λa l=>sC b (o+4401) n c s.rw s.hd a (i.kept l) j.rw O p t q u
 clear i j;unfold hdS at k;go_enter func43,ntmps43;go_wp2_with fail;go_region_held3 (λa=>a.cell? ⟨b,o+6,none⟩=some (.int .i64 s.hd.W)/\a.cell? ⟨b,o+6+1,none⟩=some (.int .i64 s.hd.H)/\a.cell? ⟨b,o+6+2,none⟩=some (.int .i64 s.hd.D)/\a.cell? ⟨b,o+6+3,none⟩=some (.int .i64 s.hd.K)/\a.cell? ⟨b,o+6+4,none⟩=some (.int .i64 s.hd.L)) (first|exact k.o _ ((Kept.refl _).drewN 1)|exact k.o _ r|go_keep) ((go_at_call 56;refine(v.o _ ((Kept.refl _).drewN 1)).mono ?_;rintro f x ⟨d,rfl,m,h,y⟩;have r:=((Kept.refl _).drewN 1).trans y))
 replace h:Z _:=h;replace m:Z _:=m;go_wp2_with fail;go_ret;exact⟨⟨d,rfl,m.o,B x ⟨d,0,none⟩ (h.o 0 (Nat.mul_pos p q)),h.o⟩,r⟩
theorem C6 b o n c s w(f:Blk w b n c)(k:RdV c o s)(r:o+5954<=n)(l:et c (o+4401) (o+24) n s.rw s.tl s.hd):Calls prog 44 #[.pointer (some ⟨b,o,none⟩)] w λd g=>Jh d/\Kept w g:=by
 have h:Z (∀a,Kept w a->hdS a b (o+6) s.hd):=λa i=>gI (f.kept i) k.hd O
 have p:Z (∀a,Kept w a->Calls prog 57 #[.agg #[.int .i64 s.hd.W,.int .i64 s.hd.H,.int .i64 s.hd.D,.int .i64 s.hd.K,.int .i64 s.hd.L],.pointer (some ⟨b,o+4401,none⟩),.pointer (some ⟨b,o+24,none⟩)] a λd g=>∃j e,d=.returned (.slice (some ⟨j,0,none⟩) e e)/\Kept a g):=λa i=>IU b (o+4401) (o+24) n c s.rw s.tl s.hd a (f.kept i) l
 clear f k l;unfold hdS at h;go_enter func44,ntmps44;go_wp2_with fail;go_region_held3 (λa=>a.cell? ⟨b,o+6,none⟩=some (.int .i64 s.hd.W)/\a.cell? ⟨b,o+6+1,none⟩=some (.int .i64 s.hd.H)/\a.cell? ⟨b,o+6+2,none⟩=some (.int .i64 s.hd.D)/\a.cell? ⟨b,o+6+3,none⟩=some (.int .i64 s.hd.K)/\a.cell? ⟨b,o+6+4,none⟩=some (.int .i64 s.hd.L)) (first|exact h.o _ ((Kept.refl _).drewN 1)|exact h.o _ m|go_keep) ((go_at_call 57;refine(p.o _ ((Kept.refl _).drewN 1)).mono ?_;rintro d t ⟨j,e,rfl,q⟩;have m:=((Kept.refl _).drewN 1).trans q))
 go_wp2_with fail;go_ret;exact⟨⟨j,e,rfl⟩,m⟩
theorem Ae b o n c s w(g:Blk w b n c)(k:RdV c o s)(t:o+5954<=n)(l:et c (o+4401) (o+24) n s.rw s.tl s.hd)(m:aS w):Calls prog 45 #[.pointer (some ⟨b,o,none⟩)] w λd h=>Jh d/\Kept w h:=by
 have i:Z (∀a,Kept w a->hdS a b (o+6) s.hd):=λa e=>gI (g.kept e) k.hd O
 have q:Z (∀a,Kept w a->Calls prog 58 #[.agg #[.int .i64 s.hd.W,.int .i64 s.hd.H,.int .i64 s.hd.D,.int .i64 s.hd.K,.int .i64 s.hd.L],.pointer (some ⟨b,o+4401,none⟩),.pointer (some ⟨b,o+24,none⟩)] a λd h=>∃j f,d=.returned (.slice (some ⟨j,0,none⟩) f f)/\Kept a h):=λa e=>Hc b (o+4401) (o+24) n c s.rw s.tl s.hd a (g.kept e) l (m.kept e)
 clear g k l m;unfold hdS at i;go_enter func45,ntmps45;go_wp2_with fail;go_region_held3 (λa=>a.cell? ⟨b,o+6,none⟩=some (.int .i64 s.hd.W)/\a.cell? ⟨b,o+6+1,none⟩=some (.int .i64 s.hd.H)/\a.cell? ⟨b,o+6+2,none⟩=some (.int .i64 s.hd.D)/\a.cell? ⟨b,o+6+3,none⟩=some (.int .i64 s.hd.K)/\a.cell? ⟨b,o+6+4,none⟩=some (.int .i64 s.hd.L)) (first|exact i.o _ ((Kept.refl _).drewN 1)|exact i.o _ p|go_keep) ((go_at_call 58;refine(q.o _ ((Kept.refl _).drewN 1)).mono ?_;rintro d u ⟨j,f,rfl,r⟩;have p:=((Kept.refl _).drewN 1).trans r))
 go_wp2_with fail;go_ret;exact⟨⟨j,f,rfl⟩,p⟩
theorem info5:(prog.info? 71).map (·.size)=some 5:=Xk
theorem gi b o n c s w(a:Blk w b n c)(d:RdV c o s)(g:o+5954<=n):Calls prog 41 #[.pointer (some ⟨b,o,none⟩)] w λe f=>e=.returned (.bool (decide (s.part=5)))/\f=w:=by
 have h:=a.at (i:=o) O d.part;clear a d;go_enter func41,ntmps41;go_wp2;go_ret;exact⟨bz (by rw[X4,XI,XL];omega),rfl⟩
theorem mM b o n c s w(a:Blk w b n c)(d:RdV c o s)(h:o+5954<=n):Calls prog 42 #[.pointer (some ⟨b,o,none⟩)] w λe f=>e=.returned (.agg #[.int .i64 s.hd.W,.int .i64 s.hd.H,.int .i64 s.hd.D,.int .i64 s.hd.K,.int .i64 s.hd.L])/\Kept w f:=by
 have g:Z (Kept w (w.alloc (Obj.cells #[.int .i64 0,.int .i64 0,.int .i64 0,.int .i64 0,.int .i64 0] 71))):=Xw (Xs _ _) (E _) _;obtain⟨i,j,k,l,m⟩:=gI (a.kept g.o) d.hd O;clear a d;go_enter func42,ntmps42;go_wp2;refine XA (v := .agg #[.int .i64 s.hd.W,.int .i64 s.hd.H,.int .i64 s.hd.D,.int .i64 s.hd.K,.int .i64 s.hd.L]) (ah rfl _ _ w.heap.size 0 _ rfl ?_) rfl ?_
 .refine run_loadVar_row _ _ 71 71 _ (0,0) _ ?_ underlying71 rfl info5
  exact heap_alloc_new _ _
 .exact⟨rfl,Xw (Xs _ _) (E _) _⟩
def snZ:Array Value:=#[.int .i64 0,.int .i64 0,.bool false,.int .i64 0,.int .i64 0,.int .i64 0,.int .i64 0,.int .i64 0,.slice none 0 0,.slice none 0 0,.slice none 0 0]
theorem nr:(prog.info? 50).map (·.size)=some 11:=Xk
def SnD(d:Dc)(w1:World)(g:Nat)(W:World):Prop:=∃cc,Blk W g 11 cc/\(∀i,i<11->(cc i).oneCell'=true)/\Kept w1 W/\cc 0=.int .i64 (d.err:Int)/\cc 1=.int .i64 (d.at1:Int)
def SnE(d:Dc)(DN:Bool)(w1:World)(g:Nat)(W:World):Prop:=∃cc,Blk W g 11 cc/\(∀i,i<11->(cc i).oneCell'=true)/\Kept w1 W/\cc 0=.int .i64 (d.err:Int)/\cc 1=.int .i64 (d.at1:Int)/\cc 2=.bool DN
theorem SnE.kept{d DN w1 W g}(h:SnE d DN w1 g W):Kept w1 W:=by
 obtain⟨_,_,_,a,_⟩:=h;exact a
theorem SnE.on{d DN w1 W W' g}(h:SnE d DN w1 g W)(k:Kept W W'):SnE d DN w1 g W':=by
 obtain⟨a,b,c,e,f⟩:=h;exact⟨a,b.kept k,c,e.trans k,f⟩
theorem SnE.set{d DN w1 W g k}(h:SnE d DN w1 g W)(c:w1.heap.size<=g)(e:k<11)(q:2<k)v(f:v.oneCell'=true):SnE d DN w1 g (W.setCell ⟨g,k,none⟩ v):=by
 obtain⟨r,i,j,l,m,n,o⟩:=h;refine⟨_,i.set e v,λa p => ?_,l.setCell c v,by rw[upd_ne _ _ _ O];exact m,by rw[upd_ne _ _ _ O];exact n,by rw[upd_ne _ _ _ O];exact o⟩;by_cases b:a=k
 .subst b;rw[upd_same];exact f
 .rw[upd_ne _ _ _ b];exact j a p
theorem SnD.done{d DN w1 W g}(h:SnD d w1 g W)(e:w1.heap.size<=g)v(a:v=.bool DN):SnE d DN w1 g (W.setCell ⟨g,2,none⟩ v):=by
 obtain⟨o,f,i,j,l,m⟩:=h;refine⟨_,f.set (k:=2) O v,λb n => ?_,j.setCell e v,by rw[upd_ne _ _ _ O];exact l,by rw[upd_ne _ _ _ O];exact m,by rw[upd_same];exact a⟩;by_cases c:b=2
 .subst c;rw[upd_same,a];rfl
 .rw[upd_ne _ _ _ c];exact i b n
theorem zW b n c d w(a0:Blk w b n c)(b8:DcV c 0 d)(k4:5957<=n)(e8:d.file.hd.W=0\/et c 4401 24 n d.file.rw d.file.tl d.file.hd)(e9:aS w):Calls prog 24 #[.pointer (some ⟨b,0,none⟩)] w λD h2=>∃a:List Value,D=.returned (.agg a.toArray)/\a.length=11/\(∀s∈a,s.oneCell'=true)/\a[0]? = some (.int .i64 d.err)/\a[1]? = some (.int .i64 d.at1)/\a[2]? = some (.bool (decide (d.err=0)&&decide (d.file.part=5)))/\Kept w h2:=by
 have d4:=a0.lt;have a1:=a0.at (i:=5955) O b8.err;have f0:=a0.at (i:=5956) O b8.at1;have h3:Z _:=a0;have Q:Z _:=b8;have h4:Z _:=e8;obtain⟨r,R⟩:∃r,r=(decide (d.err=0)&&decide (d.file.part=5)):=⟨_,rfl⟩;rw[<-R];replace R:Z _:=R;have h5:=U e9;have G:Z (Kept w (w.alloc (Obj.cells snZ 50))):=Xw (Xs _ _) (E _) _;have d5:Z (Blk (w.alloc (Obj.cells snZ 50)) w.heap.size 11 (λx=>snZ.getD x undef)):=Blk.new w snZ _ 11 rfl;clear a0 b8 e8 e9;unfold snZ at G d5;go_enter func24,ntmps24;go_upto_region 3 with fail
 generalize w.alloc (Obj.cells #[.int .i64 0,.int .i64 0,.bool false,.int .i64 0,.int .i64 0,.int .i64 0,.int .i64 0,.int .i64 0,.slice none 0 0,.slice none 0 0,.slice none 0 0] 50)=g at *;have a2:=(G.o.cell (p:=⟨b,5955,none⟩) d4).trans a1;have a3:=(G.o.cell (p:=⟨b,5956,none⟩) d4).trans f0;have f1:=Xq d4 G.o.size;replace a2:g.cell? ⟨b,5955,none⟩=some (.int .i64 d.err):=a2;replace a3:g.cell? ⟨b,5956,none⟩=some (.int .i64 d.at1):=a3;clear a1 f0;have a4:Z (∀j,Kept g j->(j.cell? ⟨b,5955,none⟩=some (.int .i64 d.err)/\j.cell? ⟨b,5956,none⟩=some (.int .i64 d.at1))):=λj T=>⟨(T.cell (p:=⟨b,5955,none⟩) f1).trans a2,(T.cell (p:=⟨b,5956,none⟩) f1).trans a3⟩
 go_region_held3 (λj=>j.cell? ⟨b,5955,none⟩=some (.int .i64 d.err)/\j.cell? ⟨b,5956,none⟩=some (.int .i64 d.at1)) (first|exact⟨a2,a3⟩|exact a4.o _ (Xw ((Kept.refl _).drewN 1) Xi _)|go_keep) (fail)
 have f2:Z (Blk (g.alloc (Obj.cells #[.int .i64 d.err,.int .i64 d.at1,.bool false,.int .i64 0,.int .i64 0,.int .i64 0,.int .i64 0,.int .i64 0,.slice none 0 0,.slice none 0 0,.slice none 0 0] 50)).drew g.heap.size 11 (λx=>(#[.int .i64 d.err,.int .i64 d.at1,.bool false,.int .i64 0,.int .i64 0,.int .i64 0,.int .i64 0,.int .i64 0,.slice none 0 0,.slice none 0 0,.slice none 0 0]:Array Value).getD x undef)):=(Blk.new g _ _ 11 rfl).kept ((Kept.refl _).drewN 1);have f3:Z (∀x,x<11->((#[.int .i64 d.err,.int .i64 d.at1,.bool false,.int .i64 0,.int .i64 0,.int .i64 0,.int .i64 0,.int .i64 0,.slice none 0 0,.slice none 0 0,.slice none 0 0]:Array Value).getD x undef).oneCell'=true):=λx z=>by
  match x,z with
  | 0,_=>rfl
  | 1,_=>rfl
  | 2,_=>rfl
  | 3,_=>rfl
  | 4,_=>rfl
  | 5,_=>rfl
  | 6,_=>rfl
  | 7,_=>rfl
  | 8,_=>rfl
  | 9,_=>rfl
  | 10,_=>rfl
 have d6:Z (SnD d g g.heap.size (g.alloc (Obj.cells #[.int .i64 d.err,.int .i64 d.at1,.bool false,.int .i64 0,.int .i64 0,.int .i64 0,.int .i64 0,.int .i64 0,.slice none 0 0,.slice none 0 0,.slice none 0 0] 50)).drew):=⟨_,f2.o,f3.o,(Kept.drewN (Xw (Xs _ _) (E _) _) 1),rfl,rfl⟩;clear f2 f3 a4 a2 a3;generalize (g.alloc (Obj.cells #[.int .i64 d.err,.int .i64 d.at1,.bool false,.int .i64 0,.int .i64 0,.int .i64 0,.int .i64 0,.int .i64 0,.slice none 0 0,.slice none 0 0,.slice none 0 0] 50)).drew=V at *;obtain⟨e,W⟩:∃a5,a5=g.heap.size:=⟨_,rfl⟩;rw[<-W] at d6 ⊢;replace W:Z _:=W;have X:Z (∀j,Kept g j->Blk j b n c):=λj T=>(h3.o.kept G.o).kept T
 have h6:Z (∀j,Kept g j->aS j):=λj T=>(h5.o.kept G.o).kept T
 go_upto_region 4 with fail
 go_cut [] from 17 (λj=>SnE d r g e j)
 case first=>
  obtain⟨t,b9,f4,c0,f5,f6⟩:=d6.o;have f7:Z _:=f5;have a4:Z _:=f6;clear f5 f6;have a1:=(X.o V c0).at (i:=5955) O Q.o.err;replace a1:V.cell? ⟨b,5955,none⟩=some (.int .i64 d.err):=a1;obtain⟨y,k5⟩:∃y,V.cell? ⟨e,2,none⟩=some y:=⟨_,b9.cell 2 O⟩;have k6:=b9.fz 2;have f8:Z _:=b9;have f9:Z _:=f4;have g0:Z (Kept g V):=c0;have h7:=U (gi b 0 n c d.file V (X.o V c0) Q.o.file O);clear b9 f4 c0;have h8:Z (d.err=0->r=decide (d.file.part=5)):=λL=>by rw[R.o,K L];rfl
  have h9:Z (d.err≠0->r=false):=λL=>by rw[R.o,J L];rfl
  clear R;generalize decide (d.file.part=5)=k7 at *;by_cases c1:d.err=0
  .have i0:((d.err:Int)==0)=true:=by rw[XI];omega
   have a6:Z _:=h8.o c1;replace c1:Z _:=c1;go_wp2_with fail;refine h7.o.mono ?_;rintro D i1 ⟨rfl,k8⟩;subst i1;go_wp2_with fail
   all_goals
    go_meet
    case rel=>exact SnD.done ⟨t,f8.o,f9.o,g0.o,f7.o,a4.o⟩ (by rw[W.o];exact E _) _ (by first|(rw[a6.o];done)|(rw[a6.o];rfl)|(have:=a6.o;simp_all))
  .have i0:((d.err:Int)==0)=false:=by rw[F];omega
   have a6:Z _:=h9.o c1;go_wp2_with fail;go_meet
   case rel=>exact SnD.done ⟨t,f8.o,f9.o,g0.o,f7.o,a4.o⟩ (by rw[W.o];exact E _) _ (by rw[a6.o])
 case rest=>
  have a7:=U hcut;clear hcut d6;go_wp2_with fail;refine(mM b 0 n c d.file wc (X.o wc a7.o.kept) Q.o.file O).mono ?_;rintro D H ⟨rfl,c2⟩;have a8:Z (SnE d r g e (H.alloc (Obj.cells #[.int .i64 d.file.hd.W,.int .i64 d.file.hd.H,.int .i64 d.file.hd.D,.int .i64 d.file.hd.K,.int .i64 d.file.hd.L] 71))):=(a7.o.on c2).on (Xw (Xs _ _) (E _) _);have A:Z (∀f s,(#[Value.int .i64 d.file.hd.W,.int .i64 d.file.hd.H,.int .i64 d.file.hd.D,.int .i64 d.file.hd.K,.int .i64 d.file.hd.L]:Array Value)[f]? = some s->(H.alloc (Obj.cells #[.int .i64 d.file.hd.W,.int .i64 d.file.hd.H,.int .i64 d.file.hd.D,.int .i64 d.file.hd.K,.int .i64 d.file.hd.L] 71)).cell? ⟨H.heap.size,f,none⟩=some s):=λf s M=>(Xr _ _ _ _ rfl).trans M
  have g1:e<H.heap.size:=by
   obtain⟨t,h,_⟩:=a7.o;exact Xq h.lt c2.size
  by_cases d7:d.file.hd.W=0
  .have g2:((d.file.hd.W:Int)==0)=true:=by rw[XI];omega
   replace d7:Z _:=d7;clear c2 a7;go_upto_region 6 with fail
   generalize H.alloc (Obj.cells #[.int .i64 d.file.hd.W,.int .i64 d.file.hd.H,.int .i64 d.file.hd.D,.int .i64 d.file.hd.K,.int .i64 d.file.hd.L] 71)=q at *;obtain⟨i2,a9⟩:∃a5,a5=H.heap.size:=⟨_,rfl⟩;rw[<-a9] at A g1 ⊢;clear a9;have g3:=A.o 0 _ rfl;obtain⟨o,b0,b1,N,b2,b3,b4⟩:=a8.o;obtain⟨a,l⟩:∃a,a=(List.range 11).map o:=⟨_,rfl⟩;have u:a.length=11:=by rw[l];exact bA o 11
   have B:∀s∈a,s.oneCell'=true:=by
    intro s M;rw[l,YP] at M;obtain⟨f,b5,rfl⟩:=M;exact b1 f (Yi.1 b5)
   have d8:Z (q.rangeAt e 0 a):=by
    show q.rangeAt e 0 a
    have:=b0.range (k:=0) (m:=11) O
    rw[l];rw[show(λf=>o (0+f))=o from funext (λf=>by rw[XD])] at this;exact this
   have d9:Z (a[0]? = some (.int .i64 d.err)):=by show a[0]? = _;rw[l,cg o 11 0 O,b2]
   have h:Z (a[1]? = some (.int .i64 d.at1)):=by show a[1]? = _;rw[l,cg o 11 1 O,b3]
   have e0:Z (a[2]? = some (.bool r)):=by show a[2]? = _;rw[l,cg o 11 2 O,b4]
   have z:Z ((prog.info? 50).map (·.size)=some a.length):=by show _=_;rw[u];exact nr
   have b6:=d5.o.kept N;have b7:Z (q.there w.heap.size 0 a.length):=by show q.there _ 0 a.length;rw[u];exact b6.there O
   have i3:(storeCells ⟨w.heap.size,0,none⟩ a).run prog q=.ok () (q.setCells w.heap.size 0 a):=aM b7.o B;have e1:Z _:=
    Yw _ _ _ _ a _ (XO _ _ _ _ b7.o) underlying50 rfl z.o
   have e2:Z (Fr1 w.heap.size q (q.setCells w.heap.size 0 a)):=Fr1.sets _ _ (Fr.refl _ _);have e3:Z (Kept w (q.setCells w.heap.size 0 a)):=Fr.to_kept (S:=λf=>f=w.heap.size) (G.o.trans N) e2.o (λx z D=>O);replace l:Z _:=l;replace u:Z _:=u;replace B:Z _:=B;clear b0 b1 b6 b2 b3 b4;clear N;go_upto_region 7 with fail
   go_step;refine wpList_load_mid rfl 50 _ rfl e 0 rfl a _ d8.o underlying50 rfl z.o ?_;go_wp2;exact XA (v := .agg a.toArray) (ah rfl _ _ _ _ _ rfl e1.o) rfl ⟨a,rfl,u.o,B.o,d9.o,h.o,e0.o,e3.o⟩
  have P:Z (et c 4401 24 n d.file.rw d.file.tl d.file.hd):=by rcases h4.o with L|L;exact absurd L d7;exact L
  have g2:((d.file.hd.W:Int)==0)=false:=by have:=P.o.W1;rw[F];omega
  clear c2 a7;go_upto_region 6 with fail
  generalize H.alloc (Obj.cells #[.int .i64 d.file.hd.W,.int .i64 d.file.hd.H,.int .i64 d.file.hd.D,.int .i64 d.file.hd.K,.int .i64 d.file.hd.L] 71)=q at *;obtain⟨i2,a9⟩:∃a5,a5=H.heap.size:=⟨_,rfl⟩;rw[<-a9] at A g1 ⊢;clear a9;have g3:=A.o 0 _ rfl;have i4:=A.o 1 _ rfl;have i5:=A.o 2 _ rfl;have i6:=A.o 3 _ rfl;have i7:=A.o 4 _ rfl;have Y:Z (∀f,f<11->(∃y,q.cell? ⟨e,f,none⟩=some y)):=by
   obtain⟨t,h,_⟩:=a8.o;exact λf b5=>⟨_,h.cell f b5⟩
  have i8:∀f,q.frozen? ⟨e,f,none⟩=false:=by
   obtain⟨t,h,_⟩:=a8.o;exact h.fz
  obtain⟨k9,i9⟩:=Y.o 3 O;obtain⟨l0,j0⟩:=Y.o 4 O;obtain⟨l1,j1⟩:=Y.o 5 O;obtain⟨l2,j2⟩:=Y.o 6 O;obtain⟨l3,j3⟩:=Y.o 7 O;have I:g.heap.size<=e:=by rw[W.o];exact E _
  have e4:Z (SnE d r g e (((((q.setCell ⟨e,3,none⟩ (.int .i64 d.file.hd.W)).setCell ⟨e,4,none⟩ (.int .i64 d.file.hd.H)).setCell ⟨e,5,none⟩ (.int .i64 d.file.hd.K)).setCell ⟨e,6,none⟩ (.int .i64 d.file.hd.D)).setCell ⟨e,7,none⟩ (.int .i64 d.file.hd.L))):=((((a8.o.set I O O _ rfl).set I O O _ rfl).set I O O _ rfl).set I O O _ rfl).set I O O _ rfl;go_wp2_with fail;generalize ((((q.setCell ⟨e,3,none⟩ (.int .i64 d.file.hd.W)).setCell ⟨e,4,none⟩ (.int .i64 d.file.hd.H)).setCell ⟨e,5,none⟩ (.int .i64 d.file.hd.K)).setCell ⟨e,6,none⟩ (.int .i64 d.file.hd.D)).setCell ⟨e,7,none⟩ (.int .i64 d.file.hd.L)=g4 at *;clear g3 i4 i5 i6 i7 i9 j0 j1 j2 j3 Y i8 a8 A g2;refine(kI b 0 n c d.file g4 (X.o g4 e4.o.kept) Q.o.file O P.o.W1 P.o.W2 P.o.H1 P.o.H2).mono ?_;rintro D c3 ⟨⟨g5,rfl,j4,j5,j6⟩,g6⟩;have c4:=U (e4.o.on g6);obtain⟨l4,j7⟩:∃y,c3.cell? ⟨e,8,none⟩=some y:=by
   obtain⟨t,h,_⟩:=c4.o;exact⟨_,h.cell 8 O⟩
  have j8:∀f,c3.frozen? ⟨e,f,none⟩=false:=by
   obtain⟨t,h,_⟩:=c4.o;exact h.fz
  have c5:Z (SnE d r g e (c3.setCell ⟨e,8,none⟩ (.slice (some ⟨g5,0,none⟩) (d.file.hd.W*d.file.hd.H) (d.file.hd.W*d.file.hd.H)))):=c4.o.set I O O _ rfl;obtain⟨c6,e5⟩:∃c6,c6=d.file.hd.W*d.file.hd.H:=⟨_,rfl⟩;rw[<-e5] at c5 ⊢;replace e5:Z _:=e5;clear j4 j5 j6 g6 e4;go_wp2_with fail;generalize c3.setCell ⟨e,8,none⟩ (.slice (some ⟨g5,0,none⟩) c6 c6)=g7 at *;clear j7 j8 c4;refine(C6 b 0 n c d.file g7 (X.o g7 c5.o.kept) Q.o.file O P.o).mono ?_;rintro D c7 ⟨⟨g8,c8,rfl⟩,g9⟩;have c9:=U (c5.o.on g9);obtain⟨l5,j9⟩:∃y,c7.cell? ⟨e,9,none⟩=some y:=by
   obtain⟨t,h,_⟩:=c9.o;exact⟨_,h.cell 9 O⟩
  have k0:∀f,c7.frozen? ⟨e,f,none⟩=false:=by
   obtain⟨t,h,_⟩:=c9.o;exact h.fz
  have e6:Z (SnE d r g e (c7.setCell ⟨e,9,none⟩ (.slice (some ⟨g8,0,none⟩) c8 c8))):=c9.o.set I O O _ rfl;clear g9 c5;go_wp2_with fail;generalize c7.setCell ⟨e,9,none⟩ (.slice (some ⟨g8,0,none⟩) c8 c8)=d0 at *;clear j9 k0 c9;have e7:Z (Kept g d0):=e6.o.kept;refine(Ae b 0 n c d.file d0 (X.o d0 e7.o) Q.o.file O P.o (h6.o d0 e7.o)).mono ?_;rintro D d1 ⟨⟨h0,d2,rfl⟩,h1⟩;have d3:=U (e6.o.on h1);obtain⟨l6,k1⟩:∃y,d1.cell? ⟨e,10,none⟩=some y:=by
   obtain⟨t,h,_⟩:=d3.o;exact⟨_,h.cell 10 O⟩
  have k2:∀f,d1.frozen? ⟨e,f,none⟩=false:=by
   obtain⟨t,h,_⟩:=d3.o;exact h.fz
  have k3:Z (SnE d r g e (d1.setCell ⟨e,10,none⟩ (.slice (some ⟨h0,0,none⟩) d2 d2))):=d3.o.set I O O _ rfl;clear h1 e6 e7;go_upto_region 16 with fail
  generalize d1.setCell ⟨e,10,none⟩ (.slice (some ⟨h0,0,none⟩) d2 d2)=C at *;clear k1 k2 d3;obtain⟨o,b0,b1,N,b2,b3,b4⟩:=k3.o;obtain⟨a,l⟩:∃a,a=(List.range 11).map o:=⟨_,rfl⟩;have u:a.length=11:=by rw[l];exact bA o 11
  have B:∀s∈a,s.oneCell'=true:=by
   intro s M;rw[l,YP] at M;obtain⟨f,b5,rfl⟩:=M;exact b1 f (Yi.1 b5)
  have d8:Z (C.rangeAt e 0 a):=by
   show C.rangeAt e 0 a
   have:=b0.range (k:=0) (m:=11) O
   rw[l];rw[show(λf=>o (0+f))=o from funext (λf=>by rw[XD])] at this;exact this
  have d9:Z (a[0]? = some (.int .i64 d.err)):=by show a[0]? = _;rw[l,cg o 11 0 O,b2]
  have h:Z (a[1]? = some (.int .i64 d.at1)):=by show a[1]? = _;rw[l,cg o 11 1 O,b3]
  have e0:Z (a[2]? = some (.bool r)):=by show a[2]? = _;rw[l,cg o 11 2 O,b4]
  have z:Z ((prog.info? 50).map (·.size)=some a.length):=by show _=_;rw[u];exact nr
  have b6:=d5.o.kept N;have b7:Z (C.there w.heap.size 0 a.length):=by show C.there _ 0 a.length;rw[u];exact b6.there O
  have i3:(storeCells ⟨w.heap.size,0,none⟩ a).run prog C=.ok () (C.setCells w.heap.size 0 a):=aM b7.o B;have e1:Z _:=
   Yw _ _ _ _ a _ (XO _ _ _ _ b7.o) underlying50 rfl z.o
  have e2:Z (Fr1 w.heap.size C (C.setCells w.heap.size 0 a)):=Fr1.sets _ _ (Fr.refl _ _);have e3:Z (Kept w (C.setCells w.heap.size 0 a)):=Fr.to_kept (S:=λf=>f=w.heap.size) (G.o.trans N) e2.o (λx z D=>O);replace l:Z _:=l;replace u:Z _:=u;replace B:Z _:=B;clear b0 b1 b6 b2 b3 b4;clear N;go_step;refine wpList_load_mid rfl 50 _ rfl e 0 rfl a _ d8.o underlying50 rfl z.o ?_;go_wp2;exact XA (v := .agg a.toArray) (ah rfl _ _ _ _ _ rfl e1.o) rfl ⟨a,rfl,u.o,B.o,d9.o,h.o,e0.o,e3.o⟩
