import Derived.Test.YtgooinallljbpaaGreatDoorSh00
import Derived.Test.YtgooinallljbpaaGreatDoorSh25
import Derived.Test.YtgooinallljbpaaGreatDoorSh26
set_option linter.all false
set_option maxRecDepth 100000
set_option maxHeartbeats 0
namespace Go.Proofs.YtgooinallljbpaaGreatDoor
open Go.RowKit Px Tryz
def kT(t:Tl)(h:Hd)(s0 s1 s2 s3:Nat):Nat->Int:=
 if h.K=3 then qc t s0
 else if h.K=0 then aP ((s0*bX h.D:Nat):Int) ((s0*bX h.D:Nat):Int) ((s0*bX h.D:Nat):Int) (alP t (chn h.K) (aP s0 s1 s2 s3))
 else if h.K=4 then aP ((s0*bX h.D:Nat):Int) ((s0*bX h.D:Nat):Int) ((s0*bX h.D:Nat):Int) ((s1*bX h.D:Nat):Int)
 else if h.K=2 then aP ((s0*bX h.D:Nat):Int) ((s1*bX h.D:Nat):Int) ((s2*bX h.D:Nat):Int) (alP t (chn h.K) (aP s0 s1 s2 s3))
 else aP ((s0*bX h.D:Nat):Int) ((s1*bX h.D:Nat):Int) ((s2*bX h.D:Nat):Int) ((s3*bX h.D:Nat):Int)
theorem Jp{t h s0 s1 s2 s3}(k:h.K=3):kT t h s0 s1 s2 s3=qc t s0:=I k
theorem Jr{t h s0 s1 s2 s3}(k:h.K=0):kT t h s0 s1 s2 s3=aP ((s0*bX h.D:Nat):Int) ((s0*bX h.D:Nat):Int) ((s0*bX h.D:Nat):Int) (alP t (chn h.K) (aP s0 s1 s2 s3)):=by unfold kT;rw[N,I k]
theorem Jo{t h s0 s1 s2 s3}(k:h.K=4):kT t h s0 s1 s2 s3=aP ((s0*bX h.D:Nat):Int) ((s0*bX h.D:Nat):Int) ((s0*bX h.D:Nat):Int) ((s1*bX h.D:Nat):Int):=by unfold kT;rw[N,N,I k]
theorem Jq{t h s0 s1 s2 s3}(k:h.K=2):kT t h s0 s1 s2 s3=aP ((s0*bX h.D:Nat):Int) ((s1*bX h.D:Nat):Int) ((s2*bX h.D:Nat):Int) (alP t (chn h.K) (aP s0 s1 s2 s3)):=by unfold kT;rw[N,N,N,I k]
theorem Jn{t h s0 s1 s2 s3}(a:h.K≠3)(b:h.K≠0)(c:h.K≠4)(d:h.K≠2):kT t h s0 s1 s2 s3=aP ((s0*bX h.D:Nat):Int) ((s1*bX h.D:Nat):Int) ((s2*bX h.D:Nat):Int) ((s3*bX h.D:Nat):Int):=by unfold kT;rw[N a,N b,N c,N d]
theorem EF{s0 a b c:Nat}(d:s0<65536)(e:a<65536)(f:b<65536)(g:c<65536)k:∃m:Nat,aP (s0:Int) a b c k=(m:Int)/\m<65536:=by
 unfold aP;split
 .exact⟨s0,rfl,d⟩
 .split
  .exact⟨a,rfl,e⟩
  .split
   .exact⟨b,rfl,f⟩
   .exact⟨c,rfl,g⟩
theorem aS.setDrew{W g f f'}(h:aS W g f)k v(b:f' k=v)(c:∀a,a≠k->a<4->f' a=f a):aS (W.setCell ⟨g,k,none⟩ (.int .i64 v)).drew g f':=(h.set k v b c).kept ((Kept.refl _).drewN 1)
theorem Jm b o n c t h(s0 e f g:Nat)w(b5:Blk w b n c)(d3:TlV c o t)(d4:o+1026<=n)(d5:∀i,t.pal i<256)(d6:∀i,t.clear i<256)(g3:h.K<=6)(d7:s0<65536)(d8:e<65536)(d9:f<65536)(e0:g<65536):Calls prog 114 #[.pointer (some ⟨b,o,none⟩),hdV h,four s0 e f g] w λu Q=>Eh w (kT t h s0 e f g) u Q:=by
 have g4:Z _:=EF d7 d8 d9 e0;have b6:Z (h.K=3->kT t h s0 e f g=qc t s0):=Jp;have g5:Z (h.K=0->kT t h s0 e f g=_):=Jr;have g6:Z (h.K=4->kT t h s0 e f g=_):=Jo;have g7:Z (h.K=2->kT t h s0 e f g=_):=Jq;have g8:Z (h.K≠3->h.K≠0->h.K≠4->h.K≠2->kT t h s0 e f g=_):=Jn;generalize kT t h s0 e f g=l3 at *;have g9:Z _:=d5;clear d7 d8 d9 e0 d5;obtain⟨y,C⟩:∃y,y=w.alloc (Obj.cells #[.int .i64 h.W,.int .i64 h.H,.int .i64 h.D,.int .i64 h.K,.int .i64 h.L] 44):=⟨_,rfl⟩;obtain⟨x,D⟩:∃x,x=y.alloc (Obj.cells #[.int .i64 s0,.int .i64 e,.int .i64 f,.int .i64 g] 154):=⟨_,rfl⟩;obtain⟨l,G⟩:∃l,l=x.alloc (Obj.cells #[.int .i64 0,.int .i64 0,.int .i64 0,.int .i64 0] 154):=⟨_,rfl⟩;have e1:y.heap.size=w.heap.size+1:=by rw[C];simp
 have e2:x.heap.size=w.heap.size+2:=by rw[D];simp[e1]
 have e3:Kept w y:=by rw[C];exact Xw (Xs _ _) (E _) _
 have b7:Kept y x:=by rw[D];exact Xw (Xs _ _) (E _) _
 have Y:Kept x l:=by rw[G];exact Xw (Xs _ _) (E _) _
 have H:∀i R,(#[Value.int .i64 h.W,.int .i64 h.H,.int .i64 h.D,.int .i64 h.K,.int .i64 h.L]:Array Value)[i]? = some R->l.cell? ⟨w.heap.size,i,none⟩=some R:=λi R h0=>by
  rw[Y.cell (p:=⟨w.heap.size,i,none⟩) (by show w.heap.size<x.heap.size;omega),b7.cell (p:=⟨w.heap.size,i,none⟩) (by show w.heap.size<y.heap.size;omega),C];exact(Xr _ _ _ _ rfl).trans h0
 have e4:aS x (w.heap.size+1) (aP s0 e f g):=by
  rw[D,<-e1];refine⟨?_,?_,?_,?_⟩<;>exact(Xr _ _ _ _ rfl).trans rfl
 have e5:aS l (w.heap.size+2) (λ_=>0):=by
  rw[G,<-e2];refine⟨?_,?_,?_,?_⟩<;>exact(Xr _ _ _ _ rfl).trans rfl
 have z:Z (ClA w l h s0 e f g):=⟨(e3.trans b7).trans Y,H 2 _ rfl,H 3 _ rfl,H 0 _ rfl,H 1 _ rfl,H 4 _ rfl,e4.kept Y,⟨_,e5⟩,λi=>by rw[G,<-e2];exact XB _ _ _ _ rfl⟩;have b8:Z _:=b5.kept z.o.K;have e6:Z _:=d3;have e7:Z _:=d6;have l4:=b5.lt;clear b5 d3 d6 e3 b7 Y H e4 e5;unfold hdV four;go_enter func114,ntmps114;go_upto_region 1 with fail
 rw[<-C,<-D,<-G];replace C:Z _:=C;replace D:Z _:=D;replace G:Z _:=G;have J:=z.o.Kd;by_cases K:h.K=3
 .have S:l.cell? ⟨w.heap.size+1,0,none⟩=some (.int .i64 s0):=z.o.S.1
  have h1:=U (LC b o n s0 c t l b8.o e6.o d4 g9.o e7.o);have e8:((h.K:Int)==3)=true:=Xg;replace K:Z _:=K;replace b6:Z _:=b6.o K.o;generalize qc t s0=l5 at *;go_wp2_with fail;refine h1.o.mono ?_;rintro u l6 ⟨rfl,a0⟩;have a1:Z _:=z.o.kept a0;obtain⟨k,b9⟩:=a1.o.R;obtain⟨l7,l8,l9,m0⟩:=b9;have h2:=a1.o.Z;unfold four;go_wp2_with fail;exact XA (ar rfl _ _ _ _ _ rfl (kX (a1.o.done _ _ _ _).1)) rfl ⟨by rw[b6.o];rfl,(a1.o.done _ _ _ _).2⟩
 .have e8:((h.K:Int)==3)=false:=by rw[F];omega
  have h3:Z (ClA w (l.alloc (Obj.cells #[.int .i64 0,.int .i64 0,.int .i64 0,.int .i64 0] 154)) h s0 e f g):=z.o.kept (Xw (Xs _ _) (E _) _);have h4:Z (aS (l.alloc (Obj.cells #[.int .i64 0,.int .i64 0,.int .i64 0,.int .i64 0] 154)) l.heap.size (λ_=>0)):=by
   refine⟨?_,?_,?_,?_⟩<;>exact(Xr _ _ _ _ rfl).trans rfl
  have h5:Z (∀i,(l.alloc (Obj.cells #[.int .i64 0,.int .i64 0,.int .i64 0,.int .i64 0] 154)).frozen? ⟨l.heap.size,i,none⟩=false):=λi=>XB _ _ _ _ rfl
  have h6:Z (Blk (l.alloc (Obj.cells #[.int .i64 0,.int .i64 0,.int .i64 0,.int .i64 0] 154)) b n c):=b8.o.kept (Xw (Xs _ _) (E _) _);have h7:w.heap.size+2<l.heap.size:=by
   obtain⟨k,b9⟩:=z.o.R;exact B l ⟨w.heap.size+2,0,none⟩ b9.1
  go_wp2_with fail;generalize l.alloc (Obj.cells #[.int .i64 0,.int .i64 0,.int .i64 0,.int .i64 0] 154)=h8 at *;generalize l.heap.size=j at *;clear J z b8;go_loopg [8] 4 (λh9 R a=>∃d:Nat,h9=4-d/\d<=4/\R=.int .i64 d/\Fr1 j h8 a/\(∀i,a.frozen? ⟨j,i,none⟩=false)/\aS a j (λi=>if i<d then aP (s0:Int) e f g i*(bX h.D:Int) else 0))
  case atStart=>exact⟨0,O,O,rfl,Fr.refl _ _,h5.o,h4.o⟩
  case round=>
   obtain⟨d,c0,c1,rfl,a2,e9,f0⟩:=hrel;replace c0:Z _:=c0;have i0:Z _:=a2;have f1:Z _:=e9;have a3:=U f0;have m:Z _:=h3.o.fr a2 h7;have i1:Z _:=h6.o.fr a2 O;clear a2 e9 f0;by_cases f2:d<4
   .have i2:(d:Int)<4:=O
    have m1:(0:Int)<=(d:Int):=O;have f3:=a3.o.get d f2;obtain⟨f4,f3⟩:∃f4,wr.cell? ⟨j,d,none⟩=some f4:=⟨_,f3⟩;have m2:=f1.o d;have c2:=m.o.S.get d f2;have f5:=m.o.D;obtain⟨c3,a4,m3⟩:=g4.o d;rw[a4] at c2;replace a4:Z _:=a4;obtain⟨L,T⟩:∃L,L=bX h.D:=⟨_,rfl⟩;have i3:L<=65535:=by rw[T];exact KB _
    obtain⟨a5,a6⟩:∃a5,a5=c3*L:=⟨_,rfl⟩;have i4:(c3:Int)*(L:Int)=(a5:Int):=by rw[a6];exact(Yv _ _).symm
    have m4:a5<=65535*65535:=by rw[a6];exact XF O i3
    have i5:Z (∀a,Calls prog 136 #[.int .i64 h.D] a λu Q=>u=.returned (.int .i64 L)/\Q=a):=λa=>by rw[T];exact Dr h.D a
    replace T:Z _:=T;replace a6:Z _:=a6;go_wp2_with fail;go_region_held3 (λa=>a.cell? ⟨w.heap.size+1,d,none⟩=some (.int .i64 c3)/\a.cell? ⟨w.heap.size,2,none⟩=some (.int .i64 h.D)) (first|exact⟨c2,f5⟩|exact⟨(aO _ _ _ _ O).trans c2,(aO _ _ _ _ O).trans f5⟩|go_keep) ((go_at_call 136;refine(i5.o _).mono ?_;rintro u m5 ⟨rfl,rfl⟩))
    go_wp2_with fail;go_roundg (4-(d+1))
    case measure=>rw[c0.o];omega
    case rel=>
     refine⟨d+1,rfl,O,Xj,Fr1.drewN (Fr1.set i0.o _ _) 1,λi=>by show(wr.setCell _ _).frozen? _=false;rw[Xy];exact f1.o i,a3.o.setDrew d _ ?_ ?_⟩
     .show(if d<d+1 then aP (s0:Int) e f g d*(bX h.D:Int) else 0)=_
      rw[I,a4.o,<-T.o,i4]
     .intro i m6 _
      show(if i<d+1 then aP (s0:Int) e f g i*(bX h.D:Int) else 0)=if i<d then aP (s0:Int) e f g i*(bX h.D:Int) else 0
      by_cases f6:i<d
      .rw[I f6,I]
      .rw[N f6,N]
   .have i2:¬(d:Int)<4:=O
    have J:=m.o.Kd;have M:Z (∀a,Kept wr a->Calls prog 137 #[.pointer (some ⟨b,o,none⟩),.agg #[.int .i64 h.W,.int .i64 h.H,.int .i64 h.D,.int .i64 h.K,.int .i64 h.L],.agg #[.int .i64 s0,.int .i64 e,.int .i64 f,.int .i64 g]] a λu Q=>u=.returned (.int .i64 (alP t (chn h.K) (aP s0 e f g)))/\Kept a Q):=λa i6=>Md b o n c t h s0 e f g a (i1.o.kept i6) e6.o d4 e7.o g3
    have i7:d=4:=O;subst i7;obtain⟨k,s,V,a7,c4,i8⟩:∃k:Nat->Int,k 0=((s0*bX h.D:Nat):Int)/\k 1=((e*bX h.D:Nat):Int)/\k 2=((f*bX h.D:Nat):Int)/\k 3=((g*bX h.D:Nat):Int)/\aS wr j k:=⟨_,(Yv _ _).symm,(Yv _ _).symm,(Yv _ _).symm,(Yv _ _).symm,a3.o⟩;replace s:Z _:=s;replace V:Z _:=V;replace a7:Z _:=a7;replace c4:Z _:=c4;clear a3;obtain⟨f7,i9,j0,m7⟩:=i8;obtain⟨S,c5,c6,c7⟩:=m.o.S;replace S:wr.cell? ⟨w.heap.size+1,0,none⟩=some (.int .i64 s0):=S;replace c5:wr.cell? ⟨w.heap.size+1,1,none⟩=some (.int .i64 e):=c5;replace c6:wr.cell? ⟨w.heap.size+1,2,none⟩=some (.int .i64 f):=c6;replace c7:wr.cell? ⟨w.heap.size+1,3,none⟩=some (.int .i64 g):=c7;have f8:=m.o.cW;have c8:=B wr ⟨j,0,none⟩ f7;have W:=B wr ⟨w.heap.size,0,none⟩ f8;have a8:=B wr ⟨w.heap.size+1,0,none⟩ S;have v:Z (∀a,Kept wr a->(a.cell? ⟨j,0,none⟩=some (.int .i64 (k 0))/\a.cell? ⟨j,1,none⟩=some (.int .i64 (k 1))/\a.cell? ⟨j,2,none⟩=some (.int .i64 (k 2))/\a.cell? ⟨w.heap.size,0,none⟩=some (.int .i64 h.W)/\a.cell? ⟨w.heap.size,1,none⟩=some (.int .i64 h.H)/\a.cell? ⟨w.heap.size,2,none⟩=some (.int .i64 h.D)/\a.cell? ⟨w.heap.size,3,none⟩=some (.int .i64 h.K)/\a.cell? ⟨w.heap.size,4,none⟩=some (.int .i64 h.L)/\a.cell? ⟨w.heap.size+1,0,none⟩=some (.int .i64 s0)/\a.cell? ⟨w.heap.size+1,1,none⟩=some (.int .i64 e)/\a.cell? ⟨w.heap.size+1,2,none⟩=some (.int .i64 f)/\a.cell? ⟨w.heap.size+1,3,none⟩=some (.int .i64 g))):=λa d=>⟨(d.cell (p:=⟨j,0,none⟩) c8).trans f7,(d.cell (p:=⟨j,1,none⟩) c8).trans i9,(d.cell (p:=⟨j,2,none⟩) c8).trans j0,(d.cell (p:=⟨w.heap.size,0,none⟩) W).trans f8,(d.cell (p:=⟨w.heap.size,1,none⟩) W).trans m.o.cH,(d.cell (p:=⟨w.heap.size,2,none⟩) W).trans m.o.D,(d.cell (p:=⟨w.heap.size,3,none⟩) W).trans J,(d.cell (p:=⟨w.heap.size,4,none⟩) W).trans m.o.cL,(d.cell (p:=⟨w.heap.size+1,0,none⟩) a8).trans S,(d.cell (p:=⟨w.heap.size+1,1,none⟩) a8).trans c5,(d.cell (p:=⟨w.heap.size+1,2,none⟩) a8).trans c6,(d.cell (p:=⟨w.heap.size+1,3,none⟩) a8).trans c7⟩
    have c9:j≠w.heap.size+2:=O;have X:w.heap.size≠w.heap.size+2:=O;have a9:w.heap.size+1≠w.heap.size+2:=O;have P:Z (∀(b0:World) (f9 g0 g1 g2:Value) (a:World),Kept wr b0->a=((((b0.setCell ⟨w.heap.size+2,0,none⟩ f9).setCell ⟨w.heap.size+2,1,none⟩ g0).setCell ⟨w.heap.size+2,2,none⟩ g1).setCell ⟨w.heap.size+2,3,none⟩ g2)->(a.cell? ⟨j,0,none⟩=some (.int .i64 (k 0))/\a.cell? ⟨j,1,none⟩=some (.int .i64 (k 1))/\a.cell? ⟨j,2,none⟩=some (.int .i64 (k 2))/\a.cell? ⟨w.heap.size,0,none⟩=some (.int .i64 h.W)/\a.cell? ⟨w.heap.size,1,none⟩=some (.int .i64 h.H)/\a.cell? ⟨w.heap.size,2,none⟩=some (.int .i64 h.D)/\a.cell? ⟨w.heap.size,3,none⟩=some (.int .i64 h.K)/\a.cell? ⟨w.heap.size,4,none⟩=some (.int .i64 h.L)/\a.cell? ⟨w.heap.size+1,0,none⟩=some (.int .i64 s0)/\a.cell? ⟨w.heap.size+1,1,none⟩=some (.int .i64 e)/\a.cell? ⟨w.heap.size+1,2,none⟩=some (.int .i64 f)/\a.cell? ⟨w.heap.size+1,3,none⟩=some (.int .i64 g))):=λb0 f9 g0 g1 g2 a d j1=>by
     obtain⟨j2,j3,j4,j5,j6,j7,j8,j9,k0,k1,k2,k3⟩:=v.o b0 d;subst j1;exact⟨(aZ _ c9 _ _ _ _ _).trans j2,(aZ _ c9 _ _ _ _ _).trans j3,(aZ _ c9 _ _ _ _ _).trans j4,(aZ _ X _ _ _ _ _).trans j5,(aZ _ X _ _ _ _ _).trans j6,(aZ _ X _ _ _ _ _).trans j7,(aZ _ X _ _ _ _ _).trans j8,(aZ _ X _ _ _ _ _).trans j9,(aZ _ a9 _ _ _ _ _).trans k0,(aZ _ a9 _ _ _ _ _).trans k1,(aZ _ a9 _ _ _ _ _).trans k2,(aZ _ a9 _ _ _ _ _).trans k3⟩
    obtain⟨m8,k4⟩:=m.o.R;obtain⟨b1,b2,b3,b4⟩:=k4;have h2:=m.o.Z;have k5:h.K=0\/h.K=4\/h.K=2\/(h.K≠0/\h.K≠4/\h.K≠2):=O;clear e8;replace K:Z _:=K;generalize alP t (chn h.K) (aP s0 e f g)=m9 at *;rcases k5 with r|r|r|⟨r,c1,a0⟩
    .have d0:Z _:=r
     rw[r] at J v P M;clear r;go_wp2_with fail;go_region_held3 (λa=>a.cell? ⟨j,0,none⟩=some (.int .i64 (k 0))/\a.cell? ⟨j,1,none⟩=some (.int .i64 (k 1))/\a.cell? ⟨j,2,none⟩=some (.int .i64 (k 2))/\a.cell? ⟨w.heap.size,0,none⟩=some (.int .i64 h.W)/\a.cell? ⟨w.heap.size,1,none⟩=some (.int .i64 h.H)/\a.cell? ⟨w.heap.size,2,none⟩=some (.int .i64 h.D)/\a.cell? ⟨w.heap.size,3,none⟩=some (.int .i64 0)/\a.cell? ⟨w.heap.size,4,none⟩=some (.int .i64 h.L)/\a.cell? ⟨w.heap.size+1,0,none⟩=some (.int .i64 s0)/\a.cell? ⟨w.heap.size+1,1,none⟩=some (.int .i64 e)/\a.cell? ⟨w.heap.size+1,2,none⟩=some (.int .i64 f)/\a.cell? ⟨w.heap.size+1,3,none⟩=some (.int .i64 g)) (first|exact v.o _ ((Kept.refl _).drewN 1)|exact P.o _ _ _ _ _ _ q rfl|exact v.o _ q|go_keep) ((go_at_call 137;refine(M.o _ ((Kept.refl _).drewN 1)).mono ?_;rintro u k6 ⟨rfl,d1⟩;have q:=((Kept.refl _).drewN 1).trans d1;have A:Z _:=m.o.kept q;have k7:=(q.cell (p:=⟨w.heap.size+2,0,none⟩) (B _ _ b1)).trans b1;have k8:=(q.cell (p:=⟨w.heap.size+2,1,none⟩) (B _ _ b2)).trans b2;have k9:=(q.cell (p:=⟨w.heap.size+2,2,none⟩) (B _ _ b3)).trans b3;have l0:=(q.cell (p:=⟨w.heap.size+2,3,none⟩) (B _ _ b4)).trans b4;have l1:=A.o.Z))
     go_wp2_with fail;exact XA (ar rfl _ _ _ _ _ rfl (kX (A.o.done _ _ _ _).1)) rfl ⟨by rw[g5.o d0.o];exact qb s.o s.o s.o rfl,(A.o.done _ _ _ _).2⟩
    .have l2:Z _:=r
     rw[r] at J;clear r v P M;go_wp2_with fail;exact XA (ar rfl _ _ _ _ _ rfl (kX (m.o.done _ _ _ _).1)) rfl ⟨by rw[g6.o l2.o];exact qb s.o s.o s.o V.o,(m.o.done _ _ _ _).2⟩
    .have d0:Z _:=r
     rw[r] at J v P M;clear r;go_wp2_with fail;go_region_held3 (λa=>a.cell? ⟨j,0,none⟩=some (.int .i64 (k 0))/\a.cell? ⟨j,1,none⟩=some (.int .i64 (k 1))/\a.cell? ⟨j,2,none⟩=some (.int .i64 (k 2))/\a.cell? ⟨w.heap.size,0,none⟩=some (.int .i64 h.W)/\a.cell? ⟨w.heap.size,1,none⟩=some (.int .i64 h.H)/\a.cell? ⟨w.heap.size,2,none⟩=some (.int .i64 h.D)/\a.cell? ⟨w.heap.size,3,none⟩=some (.int .i64 2)/\a.cell? ⟨w.heap.size,4,none⟩=some (.int .i64 h.L)/\a.cell? ⟨w.heap.size+1,0,none⟩=some (.int .i64 s0)/\a.cell? ⟨w.heap.size+1,1,none⟩=some (.int .i64 e)/\a.cell? ⟨w.heap.size+1,2,none⟩=some (.int .i64 f)/\a.cell? ⟨w.heap.size+1,3,none⟩=some (.int .i64 g)) (first|exact v.o _ ((Kept.refl _).drewN 1)|exact P.o _ _ _ _ _ _ q rfl|exact v.o _ q|go_keep) ((go_at_call 137;refine(M.o _ ((Kept.refl _).drewN 1)).mono ?_;rintro u k6 ⟨rfl,d1⟩;have q:=((Kept.refl _).drewN 1).trans d1;have A:Z _:=m.o.kept q;have k7:=(q.cell (p:=⟨w.heap.size+2,0,none⟩) (B _ _ b1)).trans b1;have k8:=(q.cell (p:=⟨w.heap.size+2,1,none⟩) (B _ _ b2)).trans b2;have k9:=(q.cell (p:=⟨w.heap.size+2,2,none⟩) (B _ _ b3)).trans b3;have l0:=(q.cell (p:=⟨w.heap.size+2,3,none⟩) (B _ _ b4)).trans b4;have l1:=A.o.Z))
     go_wp2_with fail;exact XA (ar rfl _ _ _ _ _ rfl (kX (A.o.done _ _ _ _).1)) rfl ⟨by rw[g7.o d0.o];exact qb s.o V.o a7.o rfl,(A.o.done _ _ _ _).2⟩
    .have n0:((h.K:Int)==0)=false:=by rw[F];omega
     have n1:((h.K:Int)==4)=false:=Xa;have n2:((h.K:Int)==2)=false:=Xa;have d2:Z (h.K≠0/\h.K≠4/\h.K≠2):=⟨r,c1,a0⟩;clear r c1 a0 v P M;go_wp2_with fail;exact XA (ar rfl _ _ _ _ _ rfl (kX (m.o.done _ _ _ _).1)) rfl ⟨by rw[g8.o K.o d2.o.1 d2.o.2.1 d2.o.2.2];exact qb s.o V.o a7.o c4.o,(m.o.done _ _ _ _).2⟩
def pxP(r:Rw)(t:Tl)(h:Hd)(x y:Nat):Nat->Int:=if r.known (y*16+x) then kT t h (r.smp (4*(y*16+x))) (r.smp (4*(y*16+x)+1)) (r.smp (4*(y*16+x)+2)) (r.smp (4*(y*16+x)+3)) else λ_=>0
theorem Dz(b o F n x y:Nat)c r t h w(a0:Blk w b n c)(G:qs c o F n r t h)(a1:∀d,t.pal d<256)(a2:x<16)(a3:y<16):Calls prog 77 #[hdV h,.pointer (some ⟨b,o,none⟩),.pointer (some ⟨b,F,none⟩),.int .i64 x,.int .i64 y] w λf k=>Eh w (pxP r t h x y) f k:=by
 have b9:Z (r.known (y*16+x)=false->pxP r t h x y=λ_=>0):=λH=>by unfold pxP;rw[H,N Xh]
 have J:Z (r.known (y*16+x)=true->pxP r t h x y=kT t h (r.smp (4*(y*16+x))) (r.smp (4*(y*16+x)+1)) (r.smp (4*(y*16+x)+2)) (r.smp (4*(y*16+x)+3))):=λH=>by unfold pxP;rw[I H]
 generalize pxP r t h x y=K at *;have c0:Z _:=a1;clear a1;obtain⟨l,q⟩:∃l,l=w.alloc (Obj.cells #[.int .i64 h.W,.int .i64 h.H,.int .i64 h.D,.int .i64 h.K,.int .i64 h.L] 44):=⟨_,rfl⟩;obtain⟨e,s⟩:∃e,e=l.alloc (Obj.cells #[.int .i64 0,.int .i64 0,.int .i64 0,.int .i64 0] 154):=⟨_,rfl⟩;have a4:l.heap.size=w.heap.size+1:=by rw[q];simp
 have a5:Kept w l:=by rw[q];exact Xw (Xs _ _) (E _) _
 have Q:Kept l e:=by rw[s];exact Xw (Xs _ _) (E _) _
 have R:Z (Kept w e):=a5.trans Q;have u:∀d S,(#[Value.int .i64 h.W,.int .i64 h.H,.int .i64 h.D,.int .i64 h.K,.int .i64 h.L]:Array Value)[d]? = some S->e.cell? ⟨w.heap.size,d,none⟩=some S:=λd S c1=>by
  rw[Q.cell (p:=⟨w.heap.size,d,none⟩) (by show w.heap.size<l.heap.size;omega),q];exact(Xr _ _ _ _ rfl).trans c1
 have a6:Z (aS e (w.heap.size+1) (λ_=>0)):=by
  rw[s,<-a4];refine⟨?_,?_,?_,?_⟩<;>exact(Xr _ _ _ _ rfl).trans rfl
 have c2:Z (∀d,e.frozen? ⟨w.heap.size+1,d,none⟩=false):=λd=>by rw[s,<-a4];exact XB _ _ _ _ rfl
 have T:Z _:=a0.kept R.o;have g:Z _:=G;have V:=u 0 _ rfl;have a7:=u 1 _ rfl;have a8:=u 2 _ rfl;have a9:=u 3 _ rfl;have b0:=u 4 _ rfl;have b1:Z (Calls prog 75 #[.pointer (some ⟨b,o,none⟩),.int .i64 x,.int .i64 y] e λf k=>f=.returned (.bool (r.known (y*16+x)))/\Kept e k):=(tY b o n x y c r e T.o G.V G.n1 a2 a3).mono (λf k ⟨c3,H,c4⟩=>⟨c3,by rw[c4];exact(Kept.refl _).drewN _⟩);clear a0 G u a5 Q;unfold hdV;go_enter func77,ntmps77;go_upto_region 1 with fail
 rw[<-q,<-s];replace q:Z _:=q;replace s:Z _:=s;go_wp2_with fail;refine b1.o.mono ?_;rintro f m ⟨rfl,j⟩;have W:Z (Kept e m):=j;have b2:Z _:=T.o.kept j;have X:=U (a6.o.kept j);have v:=B e ⟨w.heap.size,0,none⟩ V;have b3:=B e ⟨w.heap.size+1,0,none⟩ a6.o.1;have c5:∀d,m.frozen? ⟨w.heap.size+1,d,none⟩=false:=λd=>(j.frozen (p:=⟨w.heap.size+1,d,none⟩) b3).trans (c2.o d)
 have b4:=(j.cell (p:=⟨w.heap.size,0,none⟩) v).trans V;have c6:=(j.cell (p:=⟨w.heap.size,1,none⟩) v).trans a7;have c7:=(j.cell (p:=⟨w.heap.size,2,none⟩) v).trans a8;have c8:=(j.cell (p:=⟨w.heap.size,3,none⟩) v).trans a9;have c9:=(j.cell (p:=⟨w.heap.size,4,none⟩) v).trans b0;clear b1 V a7 a8 a9 b0 j T;obtain⟨e2,e3,e4,e5⟩:=X.o;cases L:r.known (y*16+x) with
 | false=>
  replace L:Z _:=L;go_wp2_with fail;exact XA (ar rfl _ _ _ _ _ rfl (kX (X.o.put 0 0 0 0))) rfl ⟨by rw[b9.o L.o];rfl,((((R.o.trans W.o).setCell (XG _ _) _).setCell (XG _ _) _).setCell (XG _ _) _).setCell (XG _ _) _⟩
 | true=>
  replace J:Z _:=J.o L;have d0:Z (∀a,Kept m a->Calls prog 115 #[.pointer (some ⟨b,o,none⟩),.int .i64 x,.int .i64 y] a λf k=>f=.returned (.agg #[.int .i64 (r.smp (4*(y*16+x)):Int),.int .i64 (r.smp (4*(y*16+x)+1):Int),.int .i64 (r.smp (4*(y*16+x)+2):Int),.int .i64 (r.smp (4*(y*16+x)+3):Int)])/\Kept a k):=λa i=>BR b o n x y c r a (b2.o.kept i) g.o.V g.o.n1 a2 a3 g.o.sm
  have d1:Z (∀a,Kept m a->Calls prog 114 #[.pointer (some ⟨b,F,none⟩),.agg #[.int .i64 h.W,.int .i64 h.H,.int .i64 h.D,.int .i64 h.K,.int .i64 h.L],.agg #[.int .i64 (r.smp (4*(y*16+x)):Int),.int .i64 (r.smp (4*(y*16+x)+1):Int),.int .i64 (r.smp (4*(y*16+x)+2):Int),.int .i64 (r.smp (4*(y*16+x)+3):Int)]] a λf k=>f=.returned (.agg #[.int .i64 (K 0),.int .i64 (K 1),.int .i64 (K 2),.int .i64 (K 3)])/\Kept a k):=λa i=>by
   rw[J.o];exact Jm b F n c t h _ _ _ _ a (b2.o.kept i) g.o.T g.o.n2 c0.o g.o.cl g.o.K (g.o.sm _) (g.o.sm _) (g.o.sm _) (g.o.sm _)
  clear J;generalize r.smp (4*(y*16+x))=e6 at *;generalize r.smp (4*(y*16+x)+1)=e7 at *;generalize r.smp (4*(y*16+x)+2)=e8 at *;generalize r.smp (4*(y*16+x)+3)=e9 at *;have z:=B m ⟨w.heap.size,0,none⟩ b4;have M:Z (∀a,Kept m a->(a.cell? ⟨w.heap.size,0,none⟩=some (.int .i64 h.W)/\a.cell? ⟨w.heap.size,1,none⟩=some (.int .i64 h.H)/\a.cell? ⟨w.heap.size,2,none⟩=some (.int .i64 h.D)/\a.cell? ⟨w.heap.size,3,none⟩=some (.int .i64 h.K)/\a.cell? ⟨w.heap.size,4,none⟩=some (.int .i64 h.L))):=λa i=>⟨(i.cell (p:=⟨w.heap.size,0,none⟩) z).trans b4,(i.cell (p:=⟨w.heap.size,1,none⟩) z).trans c6,(i.cell (p:=⟨w.heap.size,2,none⟩) z).trans c7,(i.cell (p:=⟨w.heap.size,3,none⟩) z).trans c8,(i.cell (p:=⟨w.heap.size,4,none⟩) z).trans c9⟩
  have A:w.heap.size≠w.heap.size+1:=O;have d2:Z (∀(P:World) (b5 b6 b7 b8:Value) (a:World),Kept m P->a=((((P.setCell ⟨w.heap.size+1,0,none⟩ b5).setCell ⟨w.heap.size+1,1,none⟩ b6).setCell ⟨w.heap.size+1,2,none⟩ b7).setCell ⟨w.heap.size+1,3,none⟩ b8)->(a.cell? ⟨w.heap.size,0,none⟩=some (.int .i64 h.W)/\a.cell? ⟨w.heap.size,1,none⟩=some (.int .i64 h.H)/\a.cell? ⟨w.heap.size,2,none⟩=some (.int .i64 h.D)/\a.cell? ⟨w.heap.size,3,none⟩=some (.int .i64 h.K)/\a.cell? ⟨w.heap.size,4,none⟩=some (.int .i64 h.L))):=λP b5 b6 b7 b8 a i d3=>by
   obtain⟨d4,d5,d6,d7,d8⟩:=M.o P i;subst d3;exact⟨(aZ _ A _ _ _ _ _).trans d4,(aZ _ A _ _ _ _ _).trans d5,(aZ _ A _ _ _ _ _).trans d6,(aZ _ A _ _ _ _ _).trans d7,(aZ _ A _ _ _ _ _).trans d8⟩
  go_wp2_with fail;go_region_held3 (λa=>a.cell? ⟨w.heap.size,0,none⟩=some (.int .i64 h.W)/\a.cell? ⟨w.heap.size,1,none⟩=some (.int .i64 h.H)/\a.cell? ⟨w.heap.size,2,none⟩=some (.int .i64 h.D)/\a.cell? ⟨w.heap.size,3,none⟩=some (.int .i64 h.K)/\a.cell? ⟨w.heap.size,4,none⟩=some (.int .i64 h.L)) (first|exact M.o _ ((Kept.refl _).drewN 1)|exact d2.o _ _ _ _ _ _ C rfl|exact M.o _ C|exact M.o _ Y|go_keep) ((first|(go_at_call 115;refine(d0.o _ ((Kept.refl _).drewN 1)).mono ?_;rintro f f0 ⟨rfl,d9⟩;have Y:=((Kept.refl _).drewN 1).trans d9)|(go_at_call 114;refine(d1.o _ Y).mono ?_;rintro f e0 ⟨rfl,e1⟩;have C:=Y.trans e1;have D:=U (X.o.kept C);have f1:=D.o.1;have f2:=D.o.2.1;have f3:=D.o.2.2.1;have f4:=D.o.2.2.2;have f5:∀d,e0.frozen? ⟨w.heap.size+1,d,none⟩=false:=λd=>(C.frozen (p:=⟨w.heap.size+1,d,none⟩) (Xq b3 W.o.size)).trans (c5 d))))
  go_wp2_with fail;exact XA (ar rfl _ _ _ _ _ rfl (kX (D.o.put _ _ _ _))) rfl ⟨rfl,((((R.o.trans (W.o.trans C)).setCell (XG _ _) _).setCell (XG _ _) _).setCell (XG _ _) _).setCell (XG _ _) _⟩
def cX(W:World)(g N:Nat)(f:Nat->Int):Prop:=(∀j,j<N->W.cell? ⟨g,j,none⟩=some (.int .i64 (f j)))/\∀j,W.frozen? ⟨g,j,none⟩=false
theorem cX.set{W g N f f'}(h:cX W g N f)k v(d:f' k=v)(e:∀a,a≠k->a<N->f' a=f a):cX (W.setCell ⟨g,k,none⟩ (.int .i64 v)) g N f':=by
 refine⟨λa b => ?_,λa=>by rw[Xy];exact h.2 a⟩;by_cases c:a=k
 .subst c;rw[d];exact ai (h.1 a b) _
 .rw[aa _ _ _ _ _ (λi=>c i.symm),e a c b];exact h.1 a b
theorem cX.kept{W W' g N f}(h:cX W g N f)(k:Kept W W')(b:g<W.heap.size):cX W' g N f:=
 ⟨λa c=>(k.cell (p:=⟨g,a,none⟩) b).trans (h.1 a c),λa=>(k.frozen (p:=⟨g,a,none⟩) b).trans (h.2 a)⟩
theorem cX.congr{W g N f f'}(h:cX W g N f)(e:∀a,a<N->f' a=f a):cX W g N f':=⟨λa b=>by rw[e a b];exact h.1 a b,h.2⟩
theorem Hw g N i a0 a1 a2 a3 f w(n:cX w g N f)(u:g<w.heap.size)(F:4*i+3<N)(G:N<=100000):Calls prog 76 #[.slice (some ⟨g,0,none⟩) N N,.int .i64 i,.agg #[.int .i64 a0,.int .i64 a1,.int .i64 a2,.int .i64 a3]] w λh o=>h=.returned (.tuple #[])/\cX o g N (λj=>if j/4=i then aP a0 a1 a2 a3 (j%4) else f j)/\Fr1 g w o:=by
 have p:Z (Kept w (w.alloc (Obj.cells #[.int .i64 a0,.int .i64 a1,.int .i64 a2,.int .i64 a3] 154))):=Xw (Xs _ _) (E _) _;have v:=U (n.kept p.o u);have x:Z (aS (w.alloc (Obj.cells #[.int .i64 a0,.int .i64 a1,.int .i64 a2,.int .i64 a3] 154)) w.heap.size (aP a0 a1 a2 a3)):=by
  refine⟨?_,?_,?_,?_⟩<;>exact(Xr _ _ _ _ rfl).trans rfl
 clear n;go_enter func76,ntmps76;go_wp2_with fail;generalize w.alloc (Obj.cells #[.int .i64 a0,.int .i64 a1,.int .i64 a2,.int .i64 a3] 154)=y at *;go_loopg [6] 4 (λz A q=>∃a:Nat,z=4-a/\a<=4/\A=.int .i64 a/\Fr1 g y q/\cX q g N (λj=>if j/4=i/\j%4<a then aP a0 a1 a2 a3 (j%4) else f j))
 case atStart=>exact⟨0,O,O,rfl,Fr.refl _ _,v.o.congr (λj _=>if_neg O)⟩
 case round=>
  obtain⟨a,k,H,rfl,l,r⟩:=hrel;replace k:Z _:=k;have s:Z _:=l;have d:=U r;have B:=U (x.o.fr l O);clear l r;by_cases C:a<4
  .have D:(a:Int)<4:=O
   have J:(0:Int)<=(a:Int):=O;obtain⟨b,e⟩:∃b,b=4*i+a:=⟨_,rfl⟩;have K:4*(i:Int)+(a:Int)=(b:Int):=O;have L:(b:Int)<(N:Int):=O;have M:(0:Int)<=(b:Int):=O;have P:=B.o.get a C;obtain⟨t,Q⟩:∃t,wr.cell? ⟨g,b,none⟩=some (.int .i64 t):=⟨_,d.o.1 b O⟩;have R:=d.o.2 b;generalize m:aP a0 a1 a2 a3 a=S at *;replace m:Z _:=m;replace e:Z _:=e;go_wp2_with fail;go_roundg (4-(a+1))
   case measure=>rw[k.o];omega
   case rel=>
    refine⟨a+1,rfl,O,Xj,Fr1.set s.o _ _,d.o.set _ _ ?_ ?_⟩
    .show(if b/4=i/\b%4<a+1 then aP a0 a1 a2 a3 (b%4) else f b)=_
     have:=e.o
     rw[I,show b%4=a from O,m.o]
    .intro j T _
     show(if j/4=i/\j%4<a+1 then aP a0 a1 a2 a3 (j%4) else f j)=if j/4=i/\j%4<a then aP a0 a1 a2 a3 (j%4) else f j
     have:=e.o
     by_cases c:j/4=i/\j%4<a
     .rw[I c,I]
     .rw[if_neg c,if_neg O]
  .have D:¬(a:Int)<4:=O
   go_wp2_with fail;go_end0
   exact⟨rfl,d.o.congr (λj _=>by
    have:j%4<4:=YD _ O
    by_cases c:j/4=i
    .rw[I c,I ⟨c,O⟩]
    .rw[if_neg c,if_neg (λh=>c h.1)]),Fr.trans' (Fr.of_kept p.o) s.o (λ_ _ c=>c)⟩
def Gt(w:World)(f:Nat->Nat->Int)(h:Hd)(e:Ending)(w':World):Prop:=∃g,e=.returned (.slice (some ⟨g,0,none⟩) (4*(h.W*h.H)) (4*(h.W*h.H)))/\w.heap.size<=g/\g<w'.heap.size/\(∀j,j<4*(h.W*h.H)->w'.cell? ⟨g,j,none⟩=some (.int .i64 (f (j/4) (j%4))))/\Kept w w'
theorem Od b o1 o2 n c r t h w(a0:Blk w b n c)(k:qs c o1 o2 n r t h)(b5:∀d,t.pal d<256):Calls prog 44 #[hdV h,.pointer (some ⟨b,o1,none⟩),.pointer (some ⟨b,o2,none⟩)] w λf A=>Gt w (λi=>pxP r t h (i%h.W) (i/h.W)) h f A:=by
 have e4:Z _:=b5;clear b5;have a1:Z (∀a,Calls prog 74 #[hdV h] a λf A=>f=.returned (.int .i64 ((h.W*h.H:Nat):Int))/\Kept a A):=λa=>yg h a k.W1 k.W2 k.H1 k.H2
 obtain⟨j,L⟩:∃j,j=h.W*h.H:=⟨_,rfl⟩;rw[<-L] at a1;have h4:j<=256:=by rw[L];exact XF k.W2 k.H2
 have a2:Z _:=L;obtain⟨g,b6⟩:∃g,g=4*j:=⟨_,rfl⟩;have h5:4*(j:Int)=(g:Int):=O;have M:Z _:=b6;have h6:g<=1024:=O;have e5:Z _:=k;have e6:Z _:=a0;have h7:=a0.lt;have h8:=k.W1;have e7:=k.W2;have e8:=k.H2;clear L b6 a0 k;have b7:Z (Kept w (w.alloc (Obj.cells #[.int .i64 h.W,.int .i64 h.H,.int .i64 h.D,.int .i64 h.K,.int .i64 h.L] 44))):=Xw (Xs _ _) (E _) _;have b8:Z (∀a,a=w.alloc (Obj.cells #[.int .i64 h.W,.int .i64 h.H,.int .i64 h.D,.int .i64 h.K,.int .i64 h.L] 44)->(a.cell? ⟨w.heap.size,0,none⟩=some (.int .i64 h.W)/\a.cell? ⟨w.heap.size,1,none⟩=some (.int .i64 h.H)/\a.cell? ⟨w.heap.size,2,none⟩=some (.int .i64 h.D)/\a.cell? ⟨w.heap.size,3,none⟩=some (.int .i64 h.K)/\a.cell? ⟨w.heap.size,4,none⟩=some (.int .i64 h.L))):=λa f=>by
  rw[f];refine⟨?_,?_,?_,?_,?_⟩<;>exact(Xr _ _ _ _ rfl).trans rfl
 unfold hdV at *;go_enter func44,ntmps44;go_wp2_with fail;generalize e9:w.alloc (Obj.cells #[.int .i64 h.W,.int .i64 h.H,.int .i64 h.D,.int .i64 h.K,.int .i64 h.L] 44)=C at *;obtain⟨a3,b9,c0,c1,c2⟩:=b8.o C rfl;have u:=B C ⟨w.heap.size,0,none⟩ a3;have f0:Z (∀a,Kept C a->(a.cell? ⟨w.heap.size,0,none⟩=some (.int .i64 h.W)/\a.cell? ⟨w.heap.size,1,none⟩=some (.int .i64 h.H)/\a.cell? ⟨w.heap.size,2,none⟩=some (.int .i64 h.D)/\a.cell? ⟨w.heap.size,3,none⟩=some (.int .i64 h.K)/\a.cell? ⟨w.heap.size,4,none⟩=some (.int .i64 h.L))):=λa e=>⟨(e.cell (p:=⟨w.heap.size,0,none⟩) u).trans a3,(e.cell (p:=⟨w.heap.size,1,none⟩) u).trans b9,(e.cell (p:=⟨w.heap.size,2,none⟩) u).trans c0,(e.cell (p:=⟨w.heap.size,3,none⟩) u).trans c1,(e.cell (p:=⟨w.heap.size,4,none⟩) u).trans c2⟩
 clear b8 a3 b9 c0 c1 c2 e9;refine(a1.o _).mono ?_;rintro f l ⟨rfl,a4⟩;have f1:=rB l g O;have c3:Z (Kept C l):=a4;have c4:=Xq u a4.size;have c5:Z (Kept l (l.alloc (.cells (madeCells #[Value.int .i64 0] g) 3))):=Xw (Xs _ _) (E _) _;have c6:Z (cX (l.alloc (.cells (madeCells #[Value.int .i64 0] g) 3)) l.heap.size g (λ_=>0)):=⟨λd P=>(Xr _ _ _ _ rfl).trans (rC g d P),λd=>XB _ _ _ _ rfl⟩;have a5:l.heap.size<(l.alloc (.cells (madeCells #[Value.int .i64 0] g) 3)).heap.size:=Xi;clear a4;go_wp2_with fail;generalize l.alloc (.cells (madeCells #[Value.int .i64 0] g) 3)=Q at *;clear f1;obtain⟨m,R⟩:∃m,m=l.heap.size:=⟨_,rfl⟩;rw[<-R] at c6 c4 a5 ⊢;replace R:Z _:=R;have a6:Z (Kept C Q):=c3.o.trans (by rw[R.o] at *;exact c5.o);have c7:=c4;clear c3 c5;go_loopg [8] j (λa7 f2 a=>∃e:Nat,a7=j-e/\e<=j/\f2=.int .i64 e/\Fr1 m Q a/\cX a m g (λd=>if d/4<e then pxP r t h (d/4%h.W) (d/4/h.W) (d%4) else 0))
 case atStart=>exact⟨0,O,O,rfl,Fr.refl _ _,c6.o.congr (λd _=>N)⟩
 case round=>
  obtain⟨e,a8,h9,rfl,D,c8⟩:=hrel;replace a8:Z _:=a8;have c9:Z _:=D;have d0:=U c8;have v:∀d,wr.cell? ⟨w.heap.size,d,none⟩=Q.cell? ⟨w.heap.size,d,none⟩:=λd=>D.cell (YZ c7 a5) O
  obtain⟨d1,d2,d3,d4,d5⟩:=f0.o Q a6.o;have d6:=(v 0).trans d1;have d7:=(v 1).trans d2;have d8:=(v 2).trans d3;have d9:=(v 3).trans d4;have e0:=(v 4).trans d5;have T:=Xq a5 D.size;have x:=YZ c7 T;have f3:Z _:=(e6.o.kept (b7.o.trans a6.o)).fr D O;clear D c8 d1 d2 d3 d4 d5 v;have i0:¬(h.W=0):=O;go_wp2_with fail;refine(a1.o _).mono ?_;rintro f V ⟨rfl,q⟩;have F:Z (Kept wr V):=q;have f4:=(q.cell (p:=⟨w.heap.size,0,none⟩) x).trans d6;have f5:=(q.cell (p:=⟨w.heap.size,1,none⟩) x).trans d7;have f6:=(q.cell (p:=⟨w.heap.size,2,none⟩) x).trans d8;have f7:=(q.cell (p:=⟨w.heap.size,3,none⟩) x).trans d9;have f8:=(q.cell (p:=⟨w.heap.size,4,none⟩) x).trans e0;have y:=Xq x q.size;have e1:=Xq T q.size;clear q d6 d7 d8 d9 e0;by_cases f9:e<j
  .have g0:(e:Int)<(j:Int):=O
   obtain⟨s,G⟩:∃s,s=e%h.W:=⟨_,rfl⟩;obtain⟨o,H⟩:∃o,o=e/h.W:=⟨_,rfl⟩;have g1:(e:Int)%(h.W:Int)=(s:Int):=by rw[G];exact(Yo _ _).symm
   have g2:(e:Int)/(h.W:Int)=(o:Int):=by rw[H];exact(YB _ _).symm
   have g3:s<16:=by rw[G];exact Xq (YD _ O) e7
   have g4:o<16:=by
    rw[H];exact Xq (YN (by rw[<-a2.o];exact f9)) e8
   have i1:(e:Int).tmod (h.W:Int)=(s:Int):=by rw[XU O];exact g1
   have i2:(e:Int).tdiv (h.W:Int)=(o:Int):=by rw[XZ O];exact g2
   have i3:IntKind.i64.wrap (o:Int)=(o:Int):=Xd;replace G:Z _:=G;replace H:Z _:=H;obtain⟨z,W⟩:∃z,z=pxP r t h s o:=⟨_,rfl⟩;have g5:Z (∀a,Kept V a->Calls prog 77 #[.agg #[.int .i64 h.W,.int .i64 h.H,.int .i64 h.D,.int .i64 h.K,.int .i64 h.L],.pointer (some ⟨b,o1,none⟩),.pointer (some ⟨b,o2,none⟩),.int .i64 s,.int .i64 o] a λf A=>f=.returned (.agg #[.int .i64 (z 0),.int .i64 (z 1),.int .i64 (z 2),.int .i64 (z 3)])/\Kept a A):=λa X=>by rw[W];exact Dz b o1 o2 n s o c r t h a (f3.o.kept (F.o.trans X)) e5.o e4.o g3 g4
   replace W:Z _:=W;have a9:Z (∀a,Kept V a->(a.cell? ⟨w.heap.size,0,none⟩=some (.int .i64 h.W)/\a.cell? ⟨w.heap.size,1,none⟩=some (.int .i64 h.H)/\a.cell? ⟨w.heap.size,2,none⟩=some (.int .i64 h.D)/\a.cell? ⟨w.heap.size,3,none⟩=some (.int .i64 h.K)/\a.cell? ⟨w.heap.size,4,none⟩=some (.int .i64 h.L))):=λa e=>⟨(e.cell (p:=⟨w.heap.size,0,none⟩) y).trans f4,(e.cell (p:=⟨w.heap.size,1,none⟩) y).trans f5,(e.cell (p:=⟨w.heap.size,2,none⟩) y).trans f6,(e.cell (p:=⟨w.heap.size,3,none⟩) y).trans f7,(e.cell (p:=⟨w.heap.size,4,none⟩) y).trans f8⟩
   have g6:Z (∀J a,Kept V J->Fr1 m J a->(a.cell? ⟨w.heap.size,0,none⟩=some (.int .i64 h.W)/\a.cell? ⟨w.heap.size,1,none⟩=some (.int .i64 h.H)/\a.cell? ⟨w.heap.size,2,none⟩=some (.int .i64 h.D)/\a.cell? ⟨w.heap.size,3,none⟩=some (.int .i64 h.K)/\a.cell? ⟨w.heap.size,4,none⟩=some (.int .i64 h.L))):=λJ a e g7=>by
    obtain⟨b0,b1,b2,b3,g8⟩:=a9.o J e;have f:∀d,a.cell? ⟨w.heap.size,d,none⟩=J.cell? ⟨w.heap.size,d,none⟩:=λd=>g7.cell (Xq y e.size) O
    exact⟨(f 0).trans b0,(f 1).trans b1,(f 2).trans b2,(f 3).trans b3,(f 4).trans g8⟩
   go_wp2_with fail;go_region_held3 (λa=>a.cell? ⟨w.heap.size,0,none⟩=some (.int .i64 h.W)/\a.cell? ⟨w.heap.size,1,none⟩=some (.int .i64 h.H)/\a.cell? ⟨w.heap.size,2,none⟩=some (.int .i64 h.D)/\a.cell? ⟨w.heap.size,3,none⟩=some (.int .i64 h.K)/\a.cell? ⟨w.heap.size,4,none⟩=some (.int .i64 h.L)) (first|exact a9.o _ ((Kept.refl _).drewN 1)|exact g6.o _ _ K b4|exact a9.o _ K|go_keep) ((first|(go_at_call 77;refine(g5.o _ ((Kept.refl _).drewN 1)).mono ?_;rintro f i4 ⟨rfl,g9⟩;have K:=((Kept.refl _).drewN 1).trans g9)|(go_at_call 76;refine((λa b0 b1 b2 b3 X=>Hw m g e b0 b1 b2 b3 _ a (d0.o.kept (F.o.trans X) T) (Xq e1 X.size) (by have:=M.o;omega) O) _ _ _ _ _ K).mono ?_;rintro f h0 ⟨rfl,e2,b4⟩)))
   have h1:Z (cX h0 m g (λd=>if d/4<e+1 then pxP r t h (d/4%h.W) (d/4/h.W) (d%4) else 0)):=e2.congr (λd _=>by
    by_cases Y:d/4=e
    .rw[I Y,I,Y,<-G.o,<-H.o,<-W.o]
     have h2:d%4<4:=YD _ O;generalize d%4=a7 at *
     match a7,h2 with
     | 0,_=>rfl
     | 1,_=>rfl
     | 2,_=>rfl
     | 3,_=>rfl
    .rw[N Y]
     by_cases e3:d/4<e
     .rw[I e3,I]
     .rw[N e3,N])
   have h3:Z _:=(c9.o.kept (F.o.trans K)).trans b4;clear e2 b4 K;go_wp2_with fail;go_roundg (j-(e+1))
   case measure=>rw[a8.o];omega
   case rel=>exact⟨e+1,rfl,O,Xj,h3.o,h1.o⟩
  .have g0:¬(e:Int)<(j:Int):=O
   go_wp2_with fail;go_ret;refine⟨m,by rw[<-a2.o,<-M.o];rfl,O,Xq e1 (E _),λd P => ?_,?_⟩
   .rw[<-a2.o,<-M.o] at P
    rw[F.o.cell (p:=⟨m,d,none⟩) T,d0.o.1 d P]
    have:=M.o
    show some (Value.int .i64 (if d/4<e then pxP r t h (d/4%h.W) (d/4/h.W) (d%4) else 0))=_
    rw[I]
   .exact Fr.to_kept (S:=λd=>d=m) (b7.o.trans a6.o) (c9.o.kept F.o) (λi i5 Y=>O)
def cJ(f s q p:Nat):Nat×Bool:=if p<f then(0,false) else(p-(p-f)%s,decide ((p-f)%s<q))
theorem DB{f s q p}(h:p<16):(cJ f s q p).1<16:=by unfold cJ;split<;>(show _<_)<;>omega
def rp(r:Rw)(t:Tl)(h:Hd)(x y:Nat):Nat->Nat->Int
 | 0=>λ_=>0
 | k+1=>
  let p:=ah h.L k
  let a:=cJ p.cf p.cs p.cb x
  let b:=cJ p.rf p.rs p.rb y
  if a.2&&b.2&&r.known (b.1*16+a.1) then pxP r t h a.1 b.1 else rp r t h x y k
def shP(r:Rw)(t:Tl)(h:Hd)(x y:Nat):Nat->Int:=rp r t h x y (aq h.L)
theorem Kz{r t h x y k a b A B}(c:cJ (ah h.L k).cf (ah h.L k).cs (ah h.L k).cb x=(a,A))(d:cJ (ah h.L k).rf (ah h.L k).rs (ah h.L k).rb y=(b,B))(q:(A&&B&&r.known (b*16+a))=false):rp r t h x y (k+1)=rp r t h x y k:=by
 show(if _ then _ else _)=_
 rw[c,d];show(if(A&&B&&r.known (b*16+a))=true then _ else _)=_
 rw[q,N Xh]
theorem Ha{r t h x y k a b}(c:cJ (ah h.L k).cf (ah h.L k).cs (ah h.L k).cb x=(a,true))(d:cJ (ah h.L k).rf (ah h.L k).rs (ah h.L k).rb y=(b,true))(q:r.known (b*16+a)=true):rp r t h x y (k+1)=pxP r t h a b:=by
 show(if _ then _ else _)=_
 rw[c,d];show(if(true&&true&&r.known (b*16+a))=true then _ else _)=_
 rw[q,I Xh]
theorem zW(f s q p:Nat)w(u:f<=8)(v:1<=s)(x:s<=8)(y:p<16):Calls prog 118 #[.agg #[.int .i64 f,.int .i64 s,.int .i64 q],.int .i64 p] w λl m=>l=.returned (.tuple #[.int .i64 ((cJ f s q p).1:Int),.bool (cJ f s q p).2])/\Kept w m:=by
 have z:¬(s:Int)<1:=O;have A:¬(s=0):=O;have h:Z (∀i,Kept w (w.alloc i)):=λi=>Xw (Xs _ _) (E _) _
 have n:Z (p<f->cJ f s q p=(0,false)):=λc=>I c
 have g:Z (¬p<f->cJ f s q p=(p-(p-f)%s,decide ((p-f)%s<q))):=λc=>N c
 generalize cJ f s q p=o at *;by_cases c:p<f
 .have r:(p:Int)<(f:Int):=O
  go_enter func118,ntmps118;go_wp2;go_ret2;exact⟨by rw[n.o c];rfl,h.o _⟩
 .have r:¬(p:Int)<(f:Int):=O
  obtain⟨b,j⟩:∃b,b=p-f:=⟨_,rfl⟩;have B:(p:Int)-(f:Int)=(b:Int):=O;obtain⟨a,e⟩:∃a,a=b%s:=⟨_,rfl⟩;have t:(b:Int)%(s:Int)=(a:Int):=by rw[e];exact(Yo _ _).symm
  have C:(b:Int).tmod (s:Int)=(a:Int):=by rw[XU O];exact t
  have D:a<=b:=by rw[e];exact Zg _ _
  obtain⟨d,k⟩:∃d,d=p-a:=⟨_,rfl⟩;have F:(p:Int)-(a:Int)=(d:Int):=O;have G:d<16:=O;replace g:Z (o=(d,decide (a<q))):=(g.o c).trans (by rw[<-j,<-e,<-k]);clear e j k;go_enter func118,ntmps118;go_wp2_with fail;go_quiet (fail);go_wp2_with fail;go_ret2;exact⟨by rw[g.o];first|rfl|(congr 4;rw[X4,XL,XL];omega),(h.o _).drewN _⟩
theorem Ku(b o1 o2 n x y:Nat)(c:Nat->Value)(r:Rw)(t:Tl)(h:Hd)(w:World)(hB:Blk w b n c)(hp:qs c o1 o2 n r t h)(hpal:∀j,t.pal j<256)(hx:x<16)(hy:y<16)(hG:bJ w):Calls prog 78 #[hdV h,.pointer (some ⟨b,o1,none⟩),.pointer (some ⟨b,o2,none⟩),.int .i64 x,.int .i64 y] w λe w'=>Eh w (shP r t h x y) e w':=by
 have HPl:Z (∀j,t.pal j<256):=hpal;have ES:Z (shP r t h x y=rp r t h x y (aq h.L)):=rfl;have E0:Z (rp r t h x y 0=λ_=>0):=rfl;have EN:Z (∀k a b A B,cJ (ah h.L k).cf (ah h.L k).cs (ah h.L k).cb x=(a,A)->cJ (ah h.L k).rf (ah h.L k).rs (ah h.L k).rb y=(b,B)->(A&&B&&r.known (b*16+a))=false->rp r t h x y (k+1)=rp r t h x y k):=λk a b A B e1 e2 q=>Kz e1 e2 q
 have EY:Z (∀k a b,cJ (ah h.L k).cf (ah h.L k).cs (ah h.L k).cb x=(a,true)->cJ (ah h.L k).rf (ah h.L k).rs (ah h.L k).rb y=(b,true)->r.known (b*16+a)=true->rp r t h x y (k+1)=pxP r t h a b):=λk a b e1 e2 q=>Ha e1 e2 q
 generalize shP r t h x y=SH at *;generalize rp r t h x y=SG at *;clear hpal;obtain⟨wa,hwa⟩:∃wa,wa=w.alloc (Obj.cells #[.int .i64 h.W,.int .i64 h.H,.int .i64 h.D,.int .i64 h.K,.int .i64 h.L] 44):=⟨_,rfl⟩;obtain⟨wb,hwb⟩:∃wb,wb=wa.alloc (Obj.cells #[.int .i64 0,.int .i64 0,.int .i64 0,.int .i64 0] 154):=⟨_,rfl⟩;have hsa:wa.heap.size=w.heap.size+1:=by rw[hwa];simp
 have Ka:Kept w wa:=by rw[hwa];exact Xw (Xs _ _) (E _) _
 have Kb:Kept wa wb:=by rw[hwb];exact Xw (Xs _ _) (E _) _
 have K0:Z (Kept w wb):=Ka.trans Kb;have hcell:∀j v,(#[Value.int .i64 h.W,.int .i64 h.H,.int .i64 h.D,.int .i64 h.K,.int .i64 h.L]:Array Value)[j]? = some v->wb.cell? ⟨w.heap.size,j,none⟩=some v:=λj v hv=>by
  rw[Kb.cell (p:=⟨w.heap.size,j,none⟩) (by show w.heap.size<wa.heap.size;omega),hwa];exact(Xr _ _ _ _ rfl).trans hv
 have R4:Z (aS wb (w.heap.size+1) (λ_=>0)):=by
  rw[hwb,<-hsa];refine⟨?_,?_,?_,?_⟩<;>exact(Xr _ _ _ _ rfl).trans rfl
 have Z4:Z (∀j,wb.frozen? ⟨w.heap.size+1,j,none⟩=false):=λj=>by rw[hwb,<-hsa];exact XB _ _ _ _ rfl
 have HB:Z (Blk wb b n c):=hB.kept K0.o;have HG:Z (bJ wb):=hG.kept K0.o;have HP:Z (qs c o1 o2 n r t h):=hp;have p0:=hcell 0 _ rfl;have p1:=hcell 1 _ rfl;have p2:=hcell 2 _ rfl;have p3:=hcell 3 _ rfl;have p4:=hcell 4 _ rfl;have hs0:w.heap.size<wb.heap.size:=World.block_lt_of_cell? wb ⟨w.heap.size,0,none⟩ p0;have hs1:w.heap.size+1<wb.heap.size:=World.block_lt_of_cell? wb ⟨w.heap.size+1,0,none⟩ R4.o.1;have HH:Z (∀W,Kept wb W->(W.cell? ⟨w.heap.size,0,none⟩=some (.int .i64 h.W)/\W.cell? ⟨w.heap.size,1,none⟩=some (.int .i64 h.H)/\W.cell? ⟨w.heap.size,2,none⟩=some (.int .i64 h.D)/\W.cell? ⟨w.heap.size,3,none⟩=some (.int .i64 h.K)/\W.cell? ⟨w.heap.size,4,none⟩=some (.int .i64 h.L))):=λW k=>⟨(k.cell (p:=⟨w.heap.size,0,none⟩) hs0).trans p0,(k.cell (p:=⟨w.heap.size,1,none⟩) hs0).trans p1,(k.cell (p:=⟨w.heap.size,2,none⟩) hs0).trans p2,(k.cell (p:=⟨w.heap.size,3,none⟩) hs0).trans p3,(k.cell (p:=⟨w.heap.size,4,none⟩) hs0).trans p4⟩
 have HL:Z (h.L<=1):=hp.L;have FC:Z (∀W':World,Calls prog 116 #[.int .i64 h.L] W' λe w'=>e=.returned (.int .i64 (aq h.L))/\w'=W'):=λW'=>yO _ W'
 obtain⟨CN,hCN⟩:∃CN,CN=aq h.L:=⟨_,rfl⟩;rw[<-hCN] at FC ES;have hCN7:CN<=7:=by rw[hCN];unfold aq;split<;>omega
 clear hCN hB hp hcell Ka Kb hG p0 p1 p2 p3;unfold hdV;go_enter func78,ntmps78;go_upto_region 1 with fail
 rw[<-hwa,<-hwb];replace hwa:Z _:=hwa;replace hwb:Z _:=hwb;go_wp2_with fail;refine(FC.o _).mono ?_;rintro e w2 ⟨rfl,hw2⟩;subst w2;go_wp2_with fail;go_loopg [11,12,13,14,15,16] CN (λm v zd xq tx rL tw W=>m<=CN/\v=.int .i64 ((m:Int)-1)/\SH=SG m/\Kept wb W)
 case atStart=>exact⟨E _,rfl,ES.o,Kept.refl _⟩
 case round=>
  obtain⟨hgC,rfl,hSG,hkw⟩:=hrel;replace hSG:Z _:=hSG;have HKW:Z (Kept wb wr):=hkw;obtain⟨d0,d1,d2,d3,d4⟩:=HH.o wr hkw;clear hkw;by_cases hz:gk=0
  .have hz':¬(0:Int)<=(gk:Int)-1:=O
   have R2:Z (aS wr (w.heap.size+1) (λ_=>0)):=R4.o.kept HKW.o;obtain⟨r0,r1,r2,r3⟩:=R2.o;have zr:∀j,wr.frozen? ⟨w.heap.size+1,j,none⟩=false:=λj=>(HKW.o.frozen (p:=⟨w.heap.size+1,j,none⟩) hs1).trans (Z4.o j)
   replace hz:Z _:=hz;go_wp2_with fail;exact XA (ar rfl _ _ _ _ _ rfl (kX (R2.o.put 0 0 0 0))) rfl ⟨by rw[hSG.o,hz.o,E0.o];rfl,((((K0.o.trans HKW.o).setCell (XG _ _) _).setCell (XG _ _) _).setCell (XG _ _) _).setCell (XG _ _) _⟩
  .obtain⟨K,hK⟩:∃K,gk=K+1:=⟨gk-1,O⟩
   have eK:(gk:Int)-1=(K:Int):=O;have k0:(0:Int)<=(K:Int):=O;rw[eK];have FO:Z (Calls prog 117 #[.int .i64 h.L,.int .i64 K] wr λe w'=>e=.returned (psV (ah h.L K))/\Kept wr w'):=BV h.L K wr HL.o O (HG.o.kept HKW.o);have HOk:Z _:=bK h.L K;obtain⟨ps,hps⟩:∃p,p=ah h.L K:=⟨_,rfl⟩;rw[<-hps] at FO HOk;replace hps:Z _:=hps;clear hz;replace hK:Z _:=hK;unfold psV at FO;obtain⟨q1,q2,q3,q4,q5,q6,q7,q8⟩:=HOk.o;go_wp2_with fail;refine FO.o.mono ?_;rintro e w3 ⟨rfl,hk3⟩;have K3:Z (Kept wb w3):=HKW.o.trans hk3;have K4:Z (Kept wb (w3.alloc (Obj.cells #[.int .i64 ps.cf,.int .i64 ps.cs,.int .i64 ps.cb,.int .i64 ps.rf,.int .i64 ps.rs,.int .i64 ps.rb] 180))):=K3.o.trans (Xw (Xs _ _) (E _) _);have C4:Z (∀W,Kept (w3.alloc (Obj.cells #[.int .i64 ps.cf,.int .i64 ps.cs,.int .i64 ps.cb,.int .i64 ps.rf,.int .i64 ps.rs,.int .i64 ps.rb] 180)) W->(W.cell? ⟨w3.heap.size,0,none⟩=some (.int .i64 ps.cf)/\W.cell? ⟨w3.heap.size,1,none⟩=some (.int .i64 ps.cs)/\W.cell? ⟨w3.heap.size,2,none⟩=some (.int .i64 ps.cb)/\W.cell? ⟨w3.heap.size,3,none⟩=some (.int .i64 ps.rf)/\W.cell? ⟨w3.heap.size,4,none⟩=some (.int .i64 ps.rs)/\W.cell? ⟨w3.heap.size,5,none⟩=some (.int .i64 ps.rb))):=λW k=>by
    refine⟨?_,?_,?_,?_,?_,?_⟩
    .exact(k.cell (p:=⟨w3.heap.size,0,none⟩) Xi).trans ((Xr _ _ _ _ rfl).trans rfl)
    .exact(k.cell (p:=⟨w3.heap.size,1,none⟩) Xi).trans ((Xr _ _ _ _ rfl).trans rfl)
    .exact(k.cell (p:=⟨w3.heap.size,2,none⟩) Xi).trans ((Xr _ _ _ _ rfl).trans rfl)
    .exact(k.cell (p:=⟨w3.heap.size,3,none⟩) Xi).trans ((Xr _ _ _ _ rfl).trans rfl)
    .exact(k.cell (p:=⟨w3.heap.size,4,none⟩) Xi).trans ((Xr _ _ _ _ rfl).trans rfl)
    .exact(k.cell (p:=⟨w3.heap.size,5,none⟩) Xi).trans ((Xr _ _ _ _ rfl).trans rfl)
   clear hk3 FO d0 d1 d2 d3 d4;go_upto_region 5 with fail
   generalize w3.alloc (Obj.cells #[.int .i64 ps.cf,.int .i64 ps.cs,.int .i64 ps.cb,.int .i64 ps.rf,.int .i64 ps.rs,.int .i64 ps.rb] 180)=w4 at *;generalize w3.heap.size=G at *;obtain⟨m0,m1,m2,m3,m4,m5⟩:=C4.o w4 (Kept.refl _);have FOx:Z (∀W,Calls prog 118 #[.agg #[.int .i64 ps.cf,.int .i64 ps.cs,.int .i64 ps.cb],.int .i64 x] W λe w'=>e=.returned (.tuple #[.int .i64 ((cJ ps.cf ps.cs ps.cb x).1:Int),.bool (cJ ps.cf ps.cs ps.cb x).2])/\Kept W w'):=λW=>zW _ _ _ _ W O q2 q3 hx
   have FOy:Z (∀W,Calls prog 118 #[.agg #[.int .i64 ps.rf,.int .i64 ps.rs,.int .i64 ps.rb],.int .i64 y] W λe w'=>e=.returned (.tuple #[.int .i64 ((cJ ps.rf ps.rs ps.rb y).1:Int),.bool (cJ ps.rf ps.rs ps.rb y).2])/\Kept W w'):=λW=>zW _ _ _ _ W O q6 q7 hy
   have hmx:=DB (f:=ps.cf) (s:=ps.cs) (q:=ps.cb) hx;have hmy:=DB (f:=ps.rf) (s:=ps.rs) (q:=ps.rb) hy;replace EN:Z (∀a b A B,cJ ps.cf ps.cs ps.cb x=(a,A)->cJ ps.rf ps.rs ps.rb y=(b,B)->(A&&B&&r.known (b*16+a))=false->SG gk=SG K):=λa b A B e1 e2 q=>by rw[hK.o];rw[hps.o] at e1 e2;exact EN.o K a b A B e1 e2 q
   replace EY:Z (∀a b,cJ ps.cf ps.cs ps.cb x=(a,true)->cJ ps.rf ps.rs ps.rb y=(b,true)->r.known (b*16+a)=true->SG gk=pxP r t h a b):=λa b e1 e2 q=>by rw[hK.o];rw[hps.o] at e1 e2;exact EY.o K a b e1 e2 q
   obtain⟨⟨mx,Bx⟩,hox⟩:∃o,cJ ps.cf ps.cs ps.cb x=o:=⟨_,rfl⟩;obtain⟨⟨my,By⟩,hoy⟩:∃o,cJ ps.rf ps.rs ps.rb y=o:=⟨_,rfl⟩;rw[hox] at FOx hmx;rw[hoy] at FOy hmy;replace hmx:mx<16:=hmx;replace hmy:my<16:=hmy;replace hox:Z _:=hox;replace hoy:Z _:=hoy;go_wp2_with fail;refine(FOx.o _).mono ?_;rintro e w5 ⟨rfl,hk5⟩;have K5:Z (Kept wb w5):=K4.o.trans hk5;obtain⟨m0',m1',m2',m3',m4',m5'⟩:=C4.o w5 hk5;clear m0 m1 m2 m3 m4 m5 hk5;go_wp2_with fail;refine(FOy.o _).mono ?_;rintro e w6 ⟨rfl,hk6⟩;have K6:Z (Kept wb w6):=K5.o.trans hk6;clear m0' m1' m2' m3' m4' m5' hk6 FOx FOy;have FK:Z (Calls prog 75 #[.pointer (some ⟨b,o1,none⟩),.int .i64 mx,.int .i64 my] w6 λe w'=>e=.returned (.bool (r.known (my*16+mx)))/\Kept w6 w'):=(tY b o1 n mx my c r w6 (HB.o.kept K6.o) HP.o.V HP.o.n1 hmx hmy).mono (λe w' ⟨q1,q,q2⟩=>⟨q1,by rw[q2];exact(Kept.refl _).drewN _⟩);cases Bx with
   | false=>
    go_wp2_with fail;go_roundg K
    case measure=>rw[hK.o];omega
    case rel=>exact⟨by have:=hK.o;omega,Xj,hSG.o.trans (EN.o _ _ _ _ hox.o hoy.o Xi),K6.o⟩
   | true=>
    cases By with
    | false=>
     go_wp2_with fail;go_roundg K
     case measure=>rw[hK.o];omega
     case rel=>exact⟨by have:=hK.o;omega,Xj,hSG.o.trans (EN.o _ _ _ _ hox.o hoy.o Xi),K6.o⟩
    | true=>
     go_wp2_with fail;refine FK.o.mono ?_;rintro e w7 ⟨rfl,hk7⟩;have K7:Z (Kept wb w7):=K6.o.trans hk7;clear hk7 FK;cases hkn:r.known (my*16+mx) with
     | false=>
      replace hkn:Z _:=hkn;go_wp2_with fail;go_roundg K
      case measure=>rw[hK.o];omega
      case rel=>exact⟨by have:=hK.o;omega,Xj,hSG.o.trans (EN.o _ _ _ _ hox.o hoy.o (by rw[hkn.o];rfl)),K7.o⟩
     | true=>
      obtain⟨d0,d1,d2,d3,d4⟩:=HH.o w7 K7.o;have FP:Z (Calls prog 77 #[.agg #[.int .i64 h.W,.int .i64 h.H,.int .i64 h.D,.int .i64 h.K,.int .i64 h.L],.pointer (some ⟨b,o1,none⟩),.pointer (some ⟨b,o2,none⟩),.int .i64 mx,.int .i64 my] w7 λe w'=>e=.returned (.agg #[.int .i64 (SH 0),.int .i64 (SH 1),.int .i64 (SH 2),.int .i64 (SH 3)])/\Kept w7 w'):=by
       rw[hSG.o,EY.o _ _ hox.o hoy.o hkn];exact Dz b o1 o2 n mx my c r t h w7 (HB.o.kept K7.o) HP.o HPl.o hmx hmy
      clear hkn;go_wp2_with fail;refine FP.o.mono ?_;rintro e w8 ⟨rfl,hk8⟩;have K8:Z (Kept wb w8):=K7.o.trans hk8;have R8:Z (aS w8 (w.heap.size+1) (λ_=>0)):=R4.o.kept K8.o;obtain⟨r0,r1,r2,r3⟩:=R8.o;have zr:∀j,w8.frozen? ⟨w.heap.size+1,j,none⟩=false:=λj=>(K8.o.frozen (p:=⟨w.heap.size+1,j,none⟩) hs1).trans (Z4.o j)
      go_wp2_with fail;exact XA (ar rfl _ _ _ _ _ rfl (kX (R8.o.put _ _ _ _))) rfl ⟨rfl,((((K0.o.trans K8.o).setCell (XG _ _) _).setCell (XG _ _) _).setCell (XG _ _) _).setCell (XG _ _) _⟩
