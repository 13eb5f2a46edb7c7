import Derived.Test.YtbedkdnphobmlaaGreatDoorProg
import Derived.Test.YtbedkdnphobmlaaGreatDoorUaa00
import Derived.Test.YtbedkdnphobmlaaGreatDoorUaa01
import Derived.Test.YtbedkdnphobmlaaGreatDoorUaa03
import Derived.Test.YtbedkdnphobmlaaGreatDoorUaa04
import Derived.Test.YtbedkdnphobmlaaGreatDoorUaa05
import Derived.Test.YtbedkdnphobmlaaGreatDoorUaa16
import Derived.Test.YtbedkdnphobmlaaGreatDoorUaa18
set_option linter.all false
set_option maxRecDepth 100000
set_option maxHeartbeats 0
namespace Go.Proofs.YtbedkdnphobmlaaGreatDoor
open Go.RowKit Px Tryz
def aY(D:Nat):Nat:=if D=1 then 65535 else if D=2 then 21845 else if D=4 then 4369 else if D=8 then 257 else 1
theorem jF(D:Nat)w:Calls prog 154 #[.int .i64 D] w λe f=>e=.returned (.int .i64 (aY D))/\f=w:=by
 have g:D=1\/D=2\/D=4\/D=8\/(D≠1/\D≠2/\D≠4/\D≠8):=O;rcases g with rfl|rfl|rfl|rfl|⟨a,b,c,d⟩
 case' inr.inr.inr.inr=>
  have h:Z (aY D=1):=by show aY D=1;unfold aY;rw[N a,N b,N c,N d]
  have i:((D:Int)==1)=false:=F.2 O;have j:((D:Int)==2)=false:=F.2 O;have k:((D:Int)==4)=false:=F.2 O;have l:((D:Int)==8)=false:=F.2 O;clear a b c d
 all_goals
  go_enter func154,ntmps154;go_wp2;go_ret
  first|exact⟨rfl,rfl⟩|exact⟨an (by rw[h.o];rfl),rfl⟩
def lX(w:World)(e:Ending)(w':World):Prop:=∃a b c d:Int,e=.returned (four a b c d)/\Kept w w'
theorem D3(b d n i:Nat)c t w(y:Blk w b n c)(l:TlV c d t)(a8:d+1026<=n):Calls prog 153 #[.pointer (some ⟨b,d,none⟩),.int .i64 i] w λz A=>lX w z A:=by
 have C:Z (aD (w.alloc (Obj.cells #[.int .i64 0,.int .i64 0,.int .i64 0,.int .i64 0] 138)) w.heap.size (λ_=>0)):=by
  refine⟨?_,?_,?_,?_⟩<;>exact(Xr _ _ _ _ rfl).trans rfl
 have D:Z (Kept w (w.alloc (Obj.cells #[.int .i64 0,.int .i64 0,.int .i64 0,.int .i64 0] 138))):=Xw (Xs _ _) (E _) _;have S:Z (∀m,(w.alloc (Obj.cells #[.int .i64 0,.int .i64 0,.int .i64 0,.int .i64 0] 138)).frozen? ⟨w.heap.size,m,none⟩=false):=λm=>XB _ _ _ _ rfl
 have a9:¬(i:Int)<0:=O;by_cases T:256<=i
 .have V:(256:Int)<=(i:Int):=O
  clear y l;go_enter func153,ntmps153;go_wp2_with fail;exact XA (ah rfl _ _ _ _ _ rfl (dt C.o)) rfl ⟨0,0,0,0,rfl,D.o⟩
 .have V:¬(256:Int)<=(i:Int):=O
  have o:=y.kept D.o;have f:=o.at (i:=d+3*i) O (l.pal (3*i) O);have g:=o.at (i:=d+(3*i+1)) O (l.pal (3*i+1) O);have h:=o.at (i:=d+(3*i+2)) O (l.pal (3*i+2) O);have W:=o.at (i:=d+768+i) O (l.clear i O);have X:=o.at (i:=d+1025) O l.clears;obtain⟨j,L⟩:∃u,u=3*i:=⟨_,rfl⟩;obtain⟨q,M⟩:∃u,u=3*i+1:=⟨_,rfl⟩;obtain⟨r,N⟩:∃u,u=3*i+2:=⟨_,rfl⟩;have b0:3*(i:Int)=(j:Int):=O;have b1:(j:Int)+1=(q:Int):=O;have b2:(j:Int)+2=(r:Int):=O;have b3:(0:Int)<=(j:Int):=O;have b4:(j:Int)<768:=O;have b5:(0:Int)<=(q:Int):=O;have b6:(q:Int)<768:=O;have b7:(0:Int)<=(r:Int):=O;have b8:(r:Int)<768:=O;have b9:(0:Int)<=(i:Int):=O;have c0:(i:Int)<256:=O;rw[<-L] at f;rw[<-M] at g;rw[<-N] at h;generalize t.pal j=Y at *;generalize t.pal q=a0 at *;generalize t.pal r=a1 at *;generalize t.clear i=c1 at *;generalize t.clears=F at *;clear L M N y l o T;have v:Z (∀e,Calls prog 154 #[.int .i64 8] e λz A=>z=.returned (.int .i64 257)/\A=e):=λe=>jF 8 e
  go_enter func153,ntmps153;go_upto_region 4 with fail
  generalize w.alloc (Obj.cells #[.int .i64 0,.int .i64 0,.int .i64 0,.int .i64 0] 138)=a at *;go_upto_region 4 with fail
  go_cut [25] from 16 (λa2 e=>(∃a3:Bool,a2=.bool a3)/\e=a)
  case first=>
   by_cases c2:i<F
   .have a4:(i:Int)<(F:Int):=O
    go_wp2_with fail;go_meet
    case rel=>exact⟨⟨_,rfl⟩,rfl⟩
   .have a4:¬(i:Int)<(F:Int):=O
    go_wp2_with fail;go_meet
    case rel=>exact⟨⟨_,rfl⟩,rfl⟩
  case rest=>
   obtain⟨⟨a5,rfl⟩,c3⟩:=hcut;subst wc;have G:Z (∀e,Kept a e->e.cell? ⟨b,d+j,none⟩=some (.int .u8 Y)/\e.cell? ⟨b,d+q,none⟩=some (.int .u8 a0)/\e.cell? ⟨b,d+r,none⟩=some (.int .u8 a1)):=λe H=>⟨(H.cell (p:=⟨b,d+j,none⟩) (B _ _ f)).trans f,(H.cell (p:=⟨b,d+q,none⟩) (B _ _ g)).trans g,(H.cell (p:=⟨b,d+r,none⟩) (B _ _ h)).trans h⟩
   have s:Z (Kept a a):=Kept.refl _;cases a5
   case' true=>
    go_wp2_with fail;go_quiet ((go_at_call 154;exact Xu (v.o _)))
    replace s:Z (Kept a (a.drewN nq)):=(Kept.refl _).drewN _;generalize a.drewN nq=k at *
   case' false=>
    obtain⟨k,x⟩:∃k,k=a:=⟨_,rfl⟩;rw[<-x] at s ⊢;replace x:Z _:=x;have a6:Z (Kept a k):=by rw[x.o];exact Kept.refl _
    clear s;have s:Z (Kept a k):=a6.o
   all_goals
    clear f g h W X;obtain⟨f,g,h⟩:=G.o k s.o;go_wp2_with fail;go_quiet ((go_at_call 154;exact Xu (v.o _)))
    have P:Z (Kept a (k.drewN nq)):=s.o.drewN _;generalize k.drewN nq=I at *;clear f g h;obtain⟨f,g,h⟩:=G.o I P.o;go_wp2_with fail;go_quiet ((go_at_call 154;exact Xu (v.o _)))
    have Q:Z (Kept a (I.drewN nq)):=P.o.drewN _;generalize I.drewN nq=J at *;clear f g h;obtain⟨f,g,h⟩:=G.o J Q.o;go_wp2_with fail;go_quiet ((go_at_call 154;exact Xu (v.o _)))
    have K:Z (Kept a (J.drewN nq)):=Q.o.drewN _;generalize J.drewN nq=a7 at *;have R:=U (C.o.kept K.o);have c4:∀m,a7.frozen? ⟨w.heap.size,m,none⟩=false:=λm=>(K.o.frozen (p:=⟨w.heap.size,m,none⟩) (show w.heap.size<a.heap.size from B a ⟨w.heap.size,0,none⟩ C.o.1)).trans (S.o m)
    obtain⟨c5,c6,c7,c8⟩:=R.o;go_wp2_with fail;refine XA (ah rfl _ _ _ _ _ rfl (dt (aD.put R.o _ _ _ _))) rfl ⟨_,_,_,_,rfl,?_⟩;exact(((((D.o.trans K.o).setCell (E _) _).setCell (E _) _).setCell (E _) _).setCell (E _) _)
theorem Ew b o n c t h s0 s1 s2 s3 w(u:Blk w b n c)(v:TlV c o t)(K:o+1026<=n)(G:∀L,t.clear L<256)(b0:h.K<=6):Calls prog 155 #[.pointer (some ⟨b,o,none⟩),hdV h,four s0 s1 s2 s3] w λe j=>(∃M:Int,e=.returned (.int .i64 M))/\Kept w j:=by
 unfold hdV four;obtain⟨f,g⟩:∃f,f=w.alloc (Obj.cells #[.int .i64 h.W,.int .i64 h.H,.int .i64 h.D,.int .i64 h.K,.int .i64 h.L] 71):=⟨_,rfl⟩;obtain⟨d,k⟩:∃d,d=f.alloc (Obj.cells #[.int .i64 s0,.int .i64 s1,.int .i64 s2,.int .i64 s3] 138):=⟨_,rfl⟩;have N:f.heap.size=w.heap.size+1:=by rw[g];simp
 have H:Kept w f:=by rw[g];exact Xw (Xs _ _) (E _) _
 have x:Kept f d:=by rw[k];exact Xw (Xs _ _) (E _) _
 have l:Z (Kept w d):=H.trans x;have I:d.cell? ⟨w.heap.size,3,none⟩=some (.int .i64 h.K):=by
  rw[x.cell (p:=⟨w.heap.size,3,none⟩) (by show w.heap.size<f.heap.size;omega),g];exact(Xr _ _ _ _ rfl).trans rfl
 have P:Z (aD d (w.heap.size+1) (aG s0 s1 s2 s3)):=by
  rw[k,<-N];refine⟨?_,?_,?_,?_⟩<;>exact(Xr _ _ _ _ rfl).trans rfl
 have b1:=(u.kept l.o).at (i:=o+1025) O v.clears;have Q:Z _:=u.kept l.o;have R:Z _:=v;have S:Z _:=G;have J:Z (∀q:World,Calls prog 93 #[.int .i64 h.K] q λe j=>e=.returned (.int .i64 (chn h.K))/\j=q):=λq=>fj _ q O
 have b2:=gN h.K;generalize chn h.K=y at *;clear u v G H x;generalize T:h.K=b3 at *;generalize V:h.W=b4 at *;generalize W:h.H=b5 at *;generalize X:h.D=b6 at *;generalize Y:h.L=b7 at *;clear T V W X Y;go_enter func155,ntmps155;go_upto_region 1 with fail
 rw[<-g,<-k];replace g:Z _:=g;replace k:Z _:=k;by_cases z:t.clears=0
 .have a0:((t.clears:Int)==0)=true:=by rw[XI];omega
  generalize t.clears=a1 at *;replace z:Z _:=z;go_wp2_with fail;go_ret;exact⟨⟨_,rfl⟩,l.o⟩
 .have a0:((t.clears:Int)==0)=false:=by rw[F];omega
  generalize t.clears=a1 at *;clear z;go_wp2_with fail;go_loopg [7] 4 (λA a2 a3=>∃a:Nat,A=4-a/\a<=4/\a2=.int .i64 a/\Kept d a3)
  case atStart=>exact⟨0,O,O,rfl,Kept.refl _⟩
  case round=>
   obtain⟨a,C,b8,rfl,r⟩:=hrel;replace C:Z _:=C;have s:Z (Kept d wr):=r;have b9:=(r.cell (p:=⟨w.heap.size,3,none⟩) (B _ _ I)).trans I;have a4:=U (P.o.kept r);clear r;by_cases c0:a<y
   .have a5:(a:Int)<(y:Int):=O
    have c1:(a:Int)<4:=O;have c2:(0:Int)<=(a:Int):=O;have c3:=a4.o.get a O;have a6:Z (∀m,Calls prog 152 #[.pointer (some ⟨b,o,none⟩),.int .i64 a] (wr.drewN m) λe j=>e=.returned (.int .i64 (t.smp a))/\∃A,j=(wr.drewN m).drewN A):=λm=>gd b o n a c t (wr.drewN m) ((Q.o.kept s.o).kept ((Kept.refl _).drewN m)) R.o K O S.o
    generalize t.smp a=a7 at *;generalize aG s0 s1 s2 s3 a=a8 at *;go_wp2_with fail;refine(J.o _).mono ?_;rintro e D ⟨rfl,a9⟩;subst D;go_wp2_with fail;go_quiet ((go_at_call 152;exact Zb (a6.o _)))
    cases c4:(a8 != (a7:Int))
    .go_wp2_with fail
     go_roundg (4-(a+1))
     case measure=>rw[C.o];omega
     case rel=>exact⟨a+1,rfl,O,Xj,s.o.drewN _⟩
    .go_wp2_with fail
     go_ret;exact⟨⟨_,rfl⟩,l.o.trans (s.o.drewN _)⟩
   .have a5:¬(a:Int)<(y:Int):=O
    go_wp2_with fail;refine(J.o _).mono ?_;rintro e D ⟨rfl,a9⟩;subst D;go_wp2_with fail;go_ret;exact⟨⟨_,rfl⟩,l.o.trans s.o⟩
structure ClA (w W:World) (h:Hd) (s0 s1 s2 s3:Int):Prop where
 K:Kept w W
 D:W.cell? ⟨w.heap.size,2,none⟩=some (.int .i64 (h.D:Int))
 Kd:W.cell? ⟨w.heap.size,3,none⟩=some (.int .i64 (h.K:Int))
 cW:W.cell? ⟨w.heap.size,0,none⟩=some (.int .i64 (h.W:Int))
 cH:W.cell? ⟨w.heap.size,1,none⟩=some (.int .i64 (h.H:Int))
 cL:W.cell? ⟨w.heap.size,4,none⟩=some (.int .i64 (h.L:Int))
 S:aD W (w.heap.size+1) (aG s0 s1 s2 s3)
 R:∃f,aD W (w.heap.size+2) f
 Z:∀j,W.frozen? ⟨w.heap.size+2,j,none⟩=false
theorem ClA.kept{w W W' h s0 s1 s2 s3}(a:ClA w W h s0 s1 s2 s3)(k:Kept W W'):ClA w W' h s0 s1 s2 s3:=by
 have b:=B W ⟨w.heap.size,0,none⟩ a.cW;obtain⟨e,c⟩:=a.R;have f:=B W ⟨w.heap.size+2,0,none⟩ c.1;exact⟨a.K.trans k,(k.cell (p:=⟨w.heap.size,2,none⟩) b).trans a.D,(k.cell (p:=⟨w.heap.size,3,none⟩) b).trans a.Kd,(k.cell (p:=⟨w.heap.size,0,none⟩) b).trans a.cW,(k.cell (p:=⟨w.heap.size,1,none⟩) b).trans a.cH,(k.cell (p:=⟨w.heap.size,4,none⟩) b).trans a.cL,a.S.kept k,⟨e,c.kept k⟩,λd=>(k.frozen (p:=⟨w.heap.size+2,d,none⟩) f).trans (a.Z d)⟩
theorem ClA.fr{w W W' h s0 s1 s2 s3 g}(a:ClA w W h s0 s1 s2 s3)(k:Fr1 g W W')(i:w.heap.size+2<g):ClA w W' h s0 s1 s2 s3:=by
 have b:w.heap.size<W.heap.size:=B W ⟨w.heap.size,0,none⟩ a.cW;obtain⟨d,c⟩:=a.R;have e:w.heap.size+2<W.heap.size:=B W ⟨w.heap.size+2,0,none⟩ c.1;exact⟨Fr.to_kept a.K k (λj l m=>O),(k.cell b O).trans a.D,(k.cell b O).trans a.Kd,(k.cell b O).trans a.cW,(k.cell b O).trans a.cH,(k.cell b O).trans a.cL,a.S.fr k O,⟨d,c.fr k O⟩,λf=>(k.frozen e O).trans (a.Z f)⟩
theorem ClA.done{w W h s0 s1 s2 s3}(a:ClA w W h s0 s1 s2 s3)x0 x1 x2 x3:aD ((((W.setCell ⟨w.heap.size+2,0,none⟩ (.int .i64 x0)).setCell ⟨w.heap.size+2,1,none⟩ (.int .i64 x1)).setCell ⟨w.heap.size+2,2,none⟩ (.int .i64 x2)).setCell ⟨w.heap.size+2,3,none⟩ (.int .i64 x3)) (w.heap.size+2) (aG x0 x1 x2 x3)/\Kept w ((((W.setCell ⟨w.heap.size+2,0,none⟩ (.int .i64 x0)).setCell ⟨w.heap.size+2,1,none⟩ (.int .i64 x1)).setCell ⟨w.heap.size+2,2,none⟩ (.int .i64 x2)).setCell ⟨w.heap.size+2,3,none⟩ (.int .i64 x3)):=by
 obtain⟨c,b⟩:=a.R;exact⟨b.put x0 x1 x2 x3,(((a.K.setCell (XG _ _) _).setCell (XG _ _) _).setCell (XG _ _) _).setCell (XG _ _) _⟩
theorem aD.setAny{W g f}(h:aD W g f)k v:∃b,aD (W.setCell ⟨g,k,none⟩ (.int .i64 v)).drew g b:=⟨λa=>if a=k then v else f a,(h.set k v (I rfl) (λa c _=>N c)).kept ((Kept.refl _).drewN 1)⟩
theorem au(W:World){g q}(h:q≠g)j x0 x1 x2 x3:((((W.setCell ⟨g,0,none⟩ x0).setCell ⟨g,1,none⟩ x1).setCell ⟨g,2,none⟩ x2).setCell ⟨g,3,none⟩ x3).cell? ⟨q,j,none⟩=W.cell? ⟨q,j,none⟩:=by
 rw[aE _ _ _ _ h,aE _ _ _ _ h,aE _ _ _ _ h,aE _ _ _ _ h]
theorem BJ b o n c t h(s0:Nat)s1 s2 s3 w(a2:Blk w b n c)(b7:TlV c o t)(b8:o+1026<=n)(b9:∀j,t.clear j<256)(e2:h.K<=6):Calls prog 126 #[.pointer (some ⟨b,o,none⟩),hdV h,four s0 s1 s2 s3] w λr a3=>lX w r a3:=by
 obtain⟨s,x⟩:∃s,s=w.alloc (Obj.cells #[.int .i64 h.W,.int .i64 h.H,.int .i64 h.D,.int .i64 h.K,.int .i64 h.L] 71):=⟨_,rfl⟩;obtain⟨q,y⟩:∃q,q=s.alloc (Obj.cells #[.int .i64 s0,.int .i64 s1,.int .i64 s2,.int .i64 s3] 138):=⟨_,rfl⟩;obtain⟨f,z⟩:∃f,f=q.alloc (Obj.cells #[.int .i64 0,.int .i64 0,.int .i64 0,.int .i64 0] 138):=⟨_,rfl⟩;have c0:s.heap.size=w.heap.size+1:=by rw[x];simp
 have c1:q.heap.size=w.heap.size+2:=by rw[y];simp[c0]
 have c2:Kept w s:=by rw[x];exact Xw (Xs _ _) (E _) _
 have a4:Kept s q:=by rw[y];exact Xw (Xs _ _) (E _) _
 have Q:Kept q f:=by rw[z];exact Xw (Xs _ _) (E _) _
 have A:∀j H,(#[Value.int .i64 h.W,.int .i64 h.H,.int .i64 h.D,.int .i64 h.K,.int .i64 h.L]:Array Value)[j]? = some H->f.cell? ⟨w.heap.size,j,none⟩=some H:=λj H e3=>by
  rw[Q.cell (p:=⟨w.heap.size,j,none⟩) (by show w.heap.size<q.heap.size;omega),a4.cell (p:=⟨w.heap.size,j,none⟩) (by show w.heap.size<s.heap.size;omega),x];exact(Xr _ _ _ _ rfl).trans e3
 have c3:aD q (w.heap.size+1) (aG s0 s1 s2 s3):=by
  rw[y,<-c0];refine⟨?_,?_,?_,?_⟩<;>exact(Xr _ _ _ _ rfl).trans rfl
 have c4:aD f (w.heap.size+2) (λ_=>0):=by
  rw[z,<-c1];refine⟨?_,?_,?_,?_⟩<;>exact(Xr _ _ _ _ rfl).trans rfl
 have u:Z (ClA w f h s0 s1 s2 s3):=⟨(c2.trans a4).trans Q,A 2 _ rfl,A 3 _ rfl,A 0 _ rfl,A 1 _ rfl,A 4 _ rfl,c3.kept Q,⟨_,c4⟩,λj=>by rw[z,<-c1];exact XB _ _ _ _ rfl⟩;have a5:Z _:=a2.kept u.o.K;have c5:Z _:=b7;have e4:Z _:=b9;have i0:=a2.lt;clear a2 b7 b9 c2 a4 Q A c3 c4;unfold hdV four;go_enter func126,ntmps126;go_upto_region 1 with fail
 rw[<-x,<-y,<-z];replace x:Z _:=x;replace y:Z _:=y;replace z:Z _:=z;have C:=u.o.Kd;by_cases a6:h.K=3
 .have I:f.cell? ⟨w.heap.size+1,0,none⟩=some (.int .i64 s0):=u.o.S.1
  have c6:((h.K:Int)==3)=true:=Xg;replace a6:Z _:=a6;go_wp2_with fail;refine(D3 b o n s0 c t f a5.o c5.o b8).mono ?_;rintro r i1 ⟨J,K,L,M,rfl,a7⟩;have R:Z _:=u.o.kept a7;obtain⟨g,a8⟩:=R.o.R;obtain⟨i2,i3,i4,i5⟩:=a8;have e5:=R.o.Z;unfold four;go_wp2_with fail;exact XA (ah rfl _ _ _ _ _ rfl (dt (R.o.done J K L M).1)) rfl ⟨J,K,L,M,rfl,(R.o.done J K L M).2⟩
 .have c6:((h.K:Int)==3)=false:=by rw[F];omega
  have e6:Z (ClA w (f.alloc (Obj.cells #[.int .i64 0,.int .i64 0,.int .i64 0,.int .i64 0] 138)) h s0 s1 s2 s3):=u.o.kept (Xw (Xs _ _) (E _) _);have e7:Z (aD (f.alloc (Obj.cells #[.int .i64 0,.int .i64 0,.int .i64 0,.int .i64 0] 138)) f.heap.size (λ_=>0)):=by
   refine⟨?_,?_,?_,?_⟩<;>exact(Xr _ _ _ _ rfl).trans rfl
  have e8:Z (∀j,(f.alloc (Obj.cells #[.int .i64 0,.int .i64 0,.int .i64 0,.int .i64 0] 138)).frozen? ⟨f.heap.size,j,none⟩=false):=λj=>XB _ _ _ _ rfl
  have e9:Z (Blk (f.alloc (Obj.cells #[.int .i64 0,.int .i64 0,.int .i64 0,.int .i64 0] 138)) b n c):=a5.o.kept (Xw (Xs _ _) (E _) _);have f0:w.heap.size+2<f.heap.size:=by
   obtain⟨g,a8⟩:=u.o.R;exact B f ⟨w.heap.size+2,0,none⟩ a8.1
  go_wp2_with fail;generalize f.alloc (Obj.cells #[.int .i64 0,.int .i64 0,.int .i64 0,.int .i64 0] 138)=f1 at *;generalize f.heap.size=e at *;clear C u a5;go_loopg [8] 4 (λf2 H a=>∃d:Nat,f2=4-d/\d<=4/\H=.int .i64 d/\Fr1 e f1 a/\(∀j,a.frozen? ⟨e,j,none⟩=false)/\∃g,aD a e g)
  case atStart=>exact⟨0,O,O,rfl,Fr.refl _ _,e8.o,_,e7.o⟩
  case round=>
   obtain⟨d,a9,c7,rfl,S,c8,g,c9⟩:=hrel;replace a9:Z _:=a9;have f3:Z _:=S;have d0:Z _:=c8;have b0:=U c9;have i:Z _:=e6.o.fr S f0;have f4:Z _:=e9.o.fr S O;clear S c8 c9;by_cases d1:d<4
   .have f5:(d:Int)<4:=O
    have i6:(0:Int)<=(d:Int):=O;have d2:=b0.o.get d d1;obtain⟨d3,d2⟩:∃d3,wr.cell? ⟨e,d,none⟩=some d3:=⟨_,d2⟩;have i7:=d0.o d;have d4:=i.o.S.get d d1;have d5:=i.o.D;generalize aG (s0:Int) s1 s2 s3 d=f6 at *;go_wp2_with fail;go_region_held3 (λa=>a.cell? ⟨w.heap.size+1,d,none⟩=some (.int .i64 f6)/\a.cell? ⟨w.heap.size,2,none⟩=some (.int .i64 h.D)) (first|exact⟨d4,d5⟩|exact⟨(aE _ _ _ _ O).trans d4,(aE _ _ _ _ O).trans d5⟩|go_keep) ((go_at_call 154;refine((λa=>jF h.D a) _).mono ?_;rintro r i8 ⟨rfl,rfl⟩))
    go_wp2_with fail;go_roundg (4-(d+1))
    case measure=>rw[a9.o];omega
    case rel=>
     refine⟨d+1,rfl,O,Xj,Fr1.drewN (Fr1.set f3.o _ _) 1,λj=>by show(wr.setCell _ _).frozen? _=false;rw[Xy];exact d0.o j,b0.o.setAny d _⟩
   .have f5:¬(d:Int)<4:=O
    have C:=i.o.Kd;have D:Z (∀a,Kept wr a->Calls prog 155 #[.pointer (some ⟨b,o,none⟩),.agg #[.int .i64 h.W,.int .i64 h.H,.int .i64 h.D,.int .i64 h.K,.int .i64 h.L],.agg #[.int .i64 s0,.int .i64 s1,.int .i64 s2,.int .i64 s3]] a λr a3=>(∃f7:Int,r=.returned (.int .i64 f7))/\Kept a a3):=λa f8=>Ew b o n c t h s0 s1 s2 s3 a (f4.o.kept f8) c5.o b8 e4.o e2
    obtain⟨d6,f9,g0,i9⟩:=b0.o;obtain⟨I,b1,b2,b3⟩:=i.o.S;replace I:wr.cell? ⟨w.heap.size+1,0,none⟩=some (.int .i64 s0):=I;replace b1:wr.cell? ⟨w.heap.size+1,1,none⟩=some (.int .i64 s1):=b1;replace b2:wr.cell? ⟨w.heap.size+1,2,none⟩=some (.int .i64 s2):=b2;replace b3:wr.cell? ⟨w.heap.size+1,3,none⟩=some (.int .i64 s3):=b3;have d7:=i.o.cW;have b4:=B wr ⟨e,0,none⟩ d6;have N:=B wr ⟨w.heap.size,0,none⟩ d7;have T:=B wr ⟨w.heap.size+1,0,none⟩ I;have m:Z (∀a,Kept wr a->(a.cell? ⟨e,0,none⟩=some (.int .i64 (g 0))/\a.cell? ⟨e,1,none⟩=some (.int .i64 (g 1))/\a.cell? ⟨e,2,none⟩=some (.int .i64 (g 2))/\a.cell? ⟨w.heap.size,0,none⟩=some (.int .i64 h.W)/\a.cell? ⟨w.heap.size,1,none⟩=some (.int .i64 h.H)/\a.cell? ⟨w.heap.size,2,none⟩=some (.int .i64 h.D)/\a.cell? ⟨w.heap.size,3,none⟩=some (.int .i64 h.K)/\a.cell? ⟨w.heap.size,4,none⟩=some (.int .i64 h.L)/\a.cell? ⟨w.heap.size+1,0,none⟩=some (.int .i64 s0)/\a.cell? ⟨w.heap.size+1,1,none⟩=some (.int .i64 s1)/\a.cell? ⟨w.heap.size+1,2,none⟩=some (.int .i64 s2)/\a.cell? ⟨w.heap.size+1,3,none⟩=some (.int .i64 s3))):=λa d=>⟨(d.cell (p:=⟨e,0,none⟩) b4).trans d6,(d.cell (p:=⟨e,1,none⟩) b4).trans f9,(d.cell (p:=⟨e,2,none⟩) b4).trans g0,(d.cell (p:=⟨w.heap.size,0,none⟩) N).trans d7,(d.cell (p:=⟨w.heap.size,1,none⟩) N).trans i.o.cH,(d.cell (p:=⟨w.heap.size,2,none⟩) N).trans i.o.D,(d.cell (p:=⟨w.heap.size,3,none⟩) N).trans C,(d.cell (p:=⟨w.heap.size,4,none⟩) N).trans i.o.cL,(d.cell (p:=⟨w.heap.size+1,0,none⟩) T).trans I,(d.cell (p:=⟨w.heap.size+1,1,none⟩) T).trans b1,(d.cell (p:=⟨w.heap.size+1,2,none⟩) T).trans b2,(d.cell (p:=⟨w.heap.size+1,3,none⟩) T).trans b3⟩
    have b5:e≠w.heap.size+2:=O;have P:w.heap.size≠w.heap.size+2:=O;have V:w.heap.size+1≠w.heap.size+2:=O;have G:Z (∀(W:World) (d8 d9 e0 e1:Value) (a:World),Kept wr W->a=((((W.setCell ⟨w.heap.size+2,0,none⟩ d8).setCell ⟨w.heap.size+2,1,none⟩ d9).setCell ⟨w.heap.size+2,2,none⟩ e0).setCell ⟨w.heap.size+2,3,none⟩ e1)->(a.cell? ⟨e,0,none⟩=some (.int .i64 (g 0))/\a.cell? ⟨e,1,none⟩=some (.int .i64 (g 1))/\a.cell? ⟨e,2,none⟩=some (.int .i64 (g 2))/\a.cell? ⟨w.heap.size,0,none⟩=some (.int .i64 h.W)/\a.cell? ⟨w.heap.size,1,none⟩=some (.int .i64 h.H)/\a.cell? ⟨w.heap.size,2,none⟩=some (.int .i64 h.D)/\a.cell? ⟨w.heap.size,3,none⟩=some (.int .i64 h.K)/\a.cell? ⟨w.heap.size,4,none⟩=some (.int .i64 h.L)/\a.cell? ⟨w.heap.size+1,0,none⟩=some (.int .i64 s0)/\a.cell? ⟨w.heap.size+1,1,none⟩=some (.int .i64 s1)/\a.cell? ⟨w.heap.size+1,2,none⟩=some (.int .i64 s2)/\a.cell? ⟨w.heap.size+1,3,none⟩=some (.int .i64 s3))):=λW d8 d9 e0 e1 a d g1=>by
     obtain⟨J,K,L,M,g2,g3,g4,g5,g6,g7,g8,g9⟩:=m.o W d;subst g1;exact⟨(au _ b5 _ _ _ _ _).trans J,(au _ b5 _ _ _ _ _).trans K,(au _ b5 _ _ _ _ _).trans L,(au _ P _ _ _ _ _).trans M,(au _ P _ _ _ _ _).trans g2,(au _ P _ _ _ _ _).trans g3,(au _ P _ _ _ _ _).trans g4,(au _ P _ _ _ _ _).trans g5,(au _ V _ _ _ _ _).trans g6,(au _ V _ _ _ _ _).trans g7,(au _ V _ _ _ _ _).trans g8,(au _ V _ _ _ _ _).trans g9⟩
    obtain⟨j0,h0⟩:=i.o.R;obtain⟨X,Y,a0,a1⟩:=h0;have e5:=i.o.Z;have h1:h.K=0\/h.K=4\/h.K=2\/(h.K≠0/\h.K≠4/\h.K≠2):=O;clear a6 c6;rcases h1 with l|l|l|⟨l,c7,a7⟩
    .have h2:Z _:=l
     rw[l] at C m G D;clear l;go_wp2_with fail;go_region_held3 (λa=>a.cell? ⟨e,0,none⟩=some (.int .i64 (g 0))/\a.cell? ⟨e,1,none⟩=some (.int .i64 (g 1))/\a.cell? ⟨e,2,none⟩=some (.int .i64 (g 2))/\a.cell? ⟨w.heap.size,0,none⟩=some (.int .i64 h.W)/\a.cell? ⟨w.heap.size,1,none⟩=some (.int .i64 h.H)/\a.cell? ⟨w.heap.size,2,none⟩=some (.int .i64 h.D)/\a.cell? ⟨w.heap.size,3,none⟩=some (.int .i64 0)/\a.cell? ⟨w.heap.size,4,none⟩=some (.int .i64 h.L)/\a.cell? ⟨w.heap.size+1,0,none⟩=some (.int .i64 s0)/\a.cell? ⟨w.heap.size+1,1,none⟩=some (.int .i64 s1)/\a.cell? ⟨w.heap.size+1,2,none⟩=some (.int .i64 s2)/\a.cell? ⟨w.heap.size+1,3,none⟩=some (.int .i64 s3)) (first|exact m.o _ ((Kept.refl _).drewN 1)|exact G.o _ _ _ _ _ _ k rfl|exact m.o _ k|go_keep) ((go_at_call 155;refine(D.o _ ((Kept.refl _).drewN 1)).mono ?_;rintro r h3 ⟨⟨h4,rfl⟩,b6⟩;have k:=((Kept.refl _).drewN 1).trans b6;have v:Z _:=i.o.kept k;have h5:=(k.cell (p:=⟨w.heap.size+2,0,none⟩) (B _ _ X)).trans X;have h6:=(k.cell (p:=⟨w.heap.size+2,1,none⟩) (B _ _ Y)).trans Y;have h7:=(k.cell (p:=⟨w.heap.size+2,2,none⟩) (B _ _ a0)).trans a0;have h8:=(k.cell (p:=⟨w.heap.size+2,3,none⟩) (B _ _ a1)).trans a1;have h9:=v.o.Z))
     go_wp2_with fail;exact XA (ah rfl _ _ _ _ _ rfl (dt (v.o.done _ _ _ _).1)) rfl ⟨_,_,_,_,rfl,(v.o.done _ _ _ _).2⟩
    .rw[l] at C
     clear l m G D;go_wp2_with fail;exact XA (ah rfl _ _ _ _ _ rfl (dt (i.o.done _ _ _ _).1)) rfl ⟨_,_,_,_,rfl,(i.o.done _ _ _ _).2⟩
    .have h2:Z _:=l
     rw[l] at C m G D;clear l;go_wp2_with fail;go_region_held3 (λa=>a.cell? ⟨e,0,none⟩=some (.int .i64 (g 0))/\a.cell? ⟨e,1,none⟩=some (.int .i64 (g 1))/\a.cell? ⟨e,2,none⟩=some (.int .i64 (g 2))/\a.cell? ⟨w.heap.size,0,none⟩=some (.int .i64 h.W)/\a.cell? ⟨w.heap.size,1,none⟩=some (.int .i64 h.H)/\a.cell? ⟨w.heap.size,2,none⟩=some (.int .i64 h.D)/\a.cell? ⟨w.heap.size,3,none⟩=some (.int .i64 2)/\a.cell? ⟨w.heap.size,4,none⟩=some (.int .i64 h.L)/\a.cell? ⟨w.heap.size+1,0,none⟩=some (.int .i64 s0)/\a.cell? ⟨w.heap.size+1,1,none⟩=some (.int .i64 s1)/\a.cell? ⟨w.heap.size+1,2,none⟩=some (.int .i64 s2)/\a.cell? ⟨w.heap.size+1,3,none⟩=some (.int .i64 s3)) (first|exact m.o _ ((Kept.refl _).drewN 1)|exact G.o _ _ _ _ _ _ k rfl|exact m.o _ k|go_keep) ((go_at_call 155;refine(D.o _ ((Kept.refl _).drewN 1)).mono ?_;rintro r h3 ⟨⟨h4,rfl⟩,b6⟩;have k:=((Kept.refl _).drewN 1).trans b6;have v:Z _:=i.o.kept k;have h5:=(k.cell (p:=⟨w.heap.size+2,0,none⟩) (B _ _ X)).trans X;have h6:=(k.cell (p:=⟨w.heap.size+2,1,none⟩) (B _ _ Y)).trans Y;have h7:=(k.cell (p:=⟨w.heap.size+2,2,none⟩) (B _ _ a0)).trans a0;have h8:=(k.cell (p:=⟨w.heap.size+2,3,none⟩) (B _ _ a1)).trans a1;have h9:=v.o.Z))
     go_wp2_with fail;exact XA (ah rfl _ _ _ _ _ rfl (dt (v.o.done _ _ _ _).1)) rfl ⟨_,_,_,_,rfl,(v.o.done _ _ _ _).2⟩
    .have j1:((h.K:Int)==0)=false:=by rw[F];omega
     have j2:((h.K:Int)==4)=false:=Xa;have j3:((h.K:Int)==2)=false:=Xa;clear l c7 a7 m G D;go_wp2_with fail;exact XA (ah rfl _ _ _ _ _ rfl (dt (i.o.done _ _ _ _).1)) rfl ⟨_,_,_,_,rfl,(i.o.done _ _ _ _).2⟩
structure et (c:Nat->Value) (o1 o2 n:Nat) (r:Rw) (t:Tl) (h:Hd):Prop where
 V:RwV c o1 r
 T:TlV c o2 t
 n1:o1+1549<=n
 n2:o2+1026<=n
 cl:∀j,t.clear j<256
 sm:∀j,r.smp j<65536
 K:h.K<=6
 W1:1<=h.W
 W2:h.W<=16
 H1:1<=h.H
 H2:h.H<=16
 L:h.L<=1
theorem wL(b o J n x y:Nat)c r t h w(X:Blk w b n c)(K:et c o J n r t h)(Y:x<16)(a0:y<16):Calls prog 90 #[hdV h,.pointer (some ⟨b,o,none⟩),.pointer (some ⟨b,J,none⟩),.int .i64 x,.int .i64 y] w λf j=>lX w f j:=by
 obtain⟨k,q⟩:∃k,k=w.alloc (Obj.cells #[.int .i64 h.W,.int .i64 h.H,.int .i64 h.D,.int .i64 h.K,.int .i64 h.L] 71):=⟨_,rfl⟩;obtain⟨e,s⟩:∃e,e=k.alloc (Obj.cells #[.int .i64 0,.int .i64 0,.int .i64 0,.int .i64 0] 138):=⟨_,rfl⟩;have a1:k.heap.size=w.heap.size+1:=by rw[q];simp
 have a2:Kept w k:=by rw[q];exact Xw (Xs _ _) (E _) _
 have N:Kept k e:=by rw[s];exact Xw (Xs _ _) (E _) _
 have P:Z (Kept w e):=a2.trans N;have u:∀d Q,(#[Value.int .i64 h.W,.int .i64 h.H,.int .i64 h.D,.int .i64 h.K,.int .i64 h.L]:Array Value)[d]? = some Q->e.cell? ⟨w.heap.size,d,none⟩=some Q:=λd Q b6=>by
  rw[N.cell (p:=⟨w.heap.size,d,none⟩) (by show w.heap.size<k.heap.size;omega),q];exact(Xr _ _ _ _ rfl).trans b6
 have a3:Z (aD e (w.heap.size+1) (λ_=>0)):=by
  rw[s,<-a1];refine⟨?_,?_,?_,?_⟩<;>exact(Xr _ _ _ _ rfl).trans rfl
 have b7:Z (∀d,e.frozen? ⟨w.heap.size+1,d,none⟩=false):=λd=>by rw[s,<-a1];exact XB _ _ _ _ rfl
 have R:Z _:=X.kept P.o;have l:Z _:=K;have S:=u 0 _ rfl;have a4:=u 1 _ rfl;have a5:=u 2 _ rfl;have a6:=u 3 _ rfl;have a7:=u 4 _ rfl;have a8:Z (Calls prog 88 #[.pointer (some ⟨b,o,none⟩),.int .i64 x,.int .i64 y] e λf j=>f=.returned (.bool (r.known (y*16+x)))/\Kept e j):=(hO b o n x y c r e R.o K.V K.n1 Y a0).mono (λf j ⟨b8,d3,b9⟩=>⟨b8,by rw[b9];exact(Kept.refl _).drewN _⟩);clear X K u a2 N;unfold hdV;go_enter func90,ntmps90;go_upto_region 1 with fail
 rw[<-q,<-s];replace q:Z _:=q;replace s:Z _:=s;go_wp2_with fail;refine a8.o.mono ?_;rintro f m ⟨rfl,i⟩;have T:Z (Kept e m):=i;have a9:Z _:=R.o.kept i;have V:=U (a3.o.kept i);have D:=B e ⟨w.heap.size,0,none⟩ S;have b0:=B e ⟨w.heap.size+1,0,none⟩ a3.o.1;have c0:∀d,m.frozen? ⟨w.heap.size+1,d,none⟩=false:=λd=>(i.frozen (p:=⟨w.heap.size+1,d,none⟩) b0).trans (b7.o d)
 have b1:=(i.cell (p:=⟨w.heap.size,0,none⟩) D).trans S;have c1:=(i.cell (p:=⟨w.heap.size,1,none⟩) D).trans a4;have c2:=(i.cell (p:=⟨w.heap.size,2,none⟩) D).trans a5;have c3:=(i.cell (p:=⟨w.heap.size,3,none⟩) D).trans a6;have c4:=(i.cell (p:=⟨w.heap.size,4,none⟩) D).trans a7;clear a8 S a4 a5 a6 a7 i R;obtain⟨d4,d5,d6,d7⟩:=V.o;cases d8:r.known (y*16+x) with
 | false=>
  go_wp2_with fail;exact XA (ah rfl _ _ _ _ _ rfl (dt (V.o.put 0 0 0 0))) rfl ⟨0,0,0,0,rfl,((((P.o.trans T.o).setCell (XG _ _) _).setCell (XG _ _) _).setCell (XG _ _) _).setCell (XG _ _) _⟩
 | true=>
  have c5:Z (∀a,Kept m a->Calls prog 127 #[.pointer (some ⟨b,o,none⟩),.int .i64 x,.int .i64 y] a λf j=>f=.returned (.agg #[.int .i64 (r.smp (4*(y*16+x)):Int),.int .i64 (r.smp (4*(y*16+x)+1):Int),.int .i64 (r.smp (4*(y*16+x)+2):Int),.int .i64 (r.smp (4*(y*16+x)+3):Int)])/\Kept a j):=λa g=>mK b o n x y c r a (a9.o.kept g) l.o.V l.o.n1 Y a0 l.o.sm
  have c6:Z (∀a,Kept m a->Calls prog 126 #[.pointer (some ⟨b,J,none⟩),.agg #[.int .i64 h.W,.int .i64 h.H,.int .i64 h.D,.int .i64 h.K,.int .i64 h.L],.agg #[.int .i64 (r.smp (4*(y*16+x)):Int),.int .i64 (r.smp (4*(y*16+x)+1):Int),.int .i64 (r.smp (4*(y*16+x)+2):Int),.int .i64 (r.smp (4*(y*16+x)+3):Int)]] a λf j=>∃v z A C:Int,f=.returned (.agg #[.int .i64 v,.int .i64 z,.int .i64 A,.int .i64 C])/\Kept a j):=λa g=>BJ b J n c t h _ _ _ _ a (a9.o.kept g) l.o.T l.o.n2 l.o.cl l.o.K
  generalize r.smp (4*(y*16+x))=d9 at *;generalize r.smp (4*(y*16+x)+1)=e0 at *;generalize r.smp (4*(y*16+x)+2)=e1 at *;generalize r.smp (4*(y*16+x)+3)=e2 at *;have F:=B m ⟨w.heap.size,0,none⟩ b1;have L:Z (∀a,Kept m a->(a.cell? ⟨w.heap.size,0,none⟩=some (.int .i64 h.W)/\a.cell? ⟨w.heap.size,1,none⟩=some (.int .i64 h.H)/\a.cell? ⟨w.heap.size,2,none⟩=some (.int .i64 h.D)/\a.cell? ⟨w.heap.size,3,none⟩=some (.int .i64 h.K)/\a.cell? ⟨w.heap.size,4,none⟩=some (.int .i64 h.L))):=λa g=>⟨(g.cell (p:=⟨w.heap.size,0,none⟩) F).trans b1,(g.cell (p:=⟨w.heap.size,1,none⟩) F).trans c1,(g.cell (p:=⟨w.heap.size,2,none⟩) F).trans c2,(g.cell (p:=⟨w.heap.size,3,none⟩) F).trans c3,(g.cell (p:=⟨w.heap.size,4,none⟩) F).trans c4⟩
  have G:w.heap.size≠w.heap.size+1:=O;have c7:Z (∀(M:World) (b2 b3 b4 b5:Value) (a:World),Kept m M->a=((((M.setCell ⟨w.heap.size+1,0,none⟩ b2).setCell ⟨w.heap.size+1,1,none⟩ b3).setCell ⟨w.heap.size+1,2,none⟩ b4).setCell ⟨w.heap.size+1,3,none⟩ b5)->(a.cell? ⟨w.heap.size,0,none⟩=some (.int .i64 h.W)/\a.cell? ⟨w.heap.size,1,none⟩=some (.int .i64 h.H)/\a.cell? ⟨w.heap.size,2,none⟩=some (.int .i64 h.D)/\a.cell? ⟨w.heap.size,3,none⟩=some (.int .i64 h.K)/\a.cell? ⟨w.heap.size,4,none⟩=some (.int .i64 h.L))):=λM b2 b3 b4 b5 a g c8=>by
   obtain⟨v,z,A,C,c9⟩:=L.o M g;subst c8;exact⟨(au _ G _ _ _ _ _).trans v,(au _ G _ _ _ _ _).trans z,(au _ G _ _ _ _ _).trans A,(au _ G _ _ _ _ _).trans C,(au _ G _ _ _ _ _).trans c9⟩
  go_wp2_with fail;go_region_held3 (λa=>a.cell? ⟨w.heap.size,0,none⟩=some (.int .i64 h.W)/\a.cell? ⟨w.heap.size,1,none⟩=some (.int .i64 h.H)/\a.cell? ⟨w.heap.size,2,none⟩=some (.int .i64 h.D)/\a.cell? ⟨w.heap.size,3,none⟩=some (.int .i64 h.K)/\a.cell? ⟨w.heap.size,4,none⟩=some (.int .i64 h.L)) (first|exact L.o _ ((Kept.refl _).drewN 1)|exact c7.o _ _ _ _ _ _ H rfl|exact L.o _ H|exact L.o _ W|go_keep) ((first|(go_at_call 127;refine(c5.o _ ((Kept.refl _).drewN 1)).mono ?_;rintro f e3 ⟨rfl,d0⟩;have W:=((Kept.refl _).drewN 1).trans d0)|(go_at_call 126;refine(c6.o _ W).mono ?_;rintro f d1 ⟨v,z,A,C,rfl,d2⟩;have H:=W.trans d2;have I:=U (V.o.kept H);have e4:=I.o.1;have e5:=I.o.2.1;have e6:=I.o.2.2.1;have e7:=I.o.2.2.2;have e8:∀d,d1.frozen? ⟨w.heap.size+1,d,none⟩=false:=λd=>(H.frozen (p:=⟨w.heap.size+1,d,none⟩) (Xq b0 T.o.size)).trans (c0 d))))
  go_wp2_with fail;exact XA (ah rfl _ _ _ _ _ rfl (dt (I.o.put v z A C))) rfl ⟨v,z,A,C,rfl,((((P.o.trans (T.o.trans H)).setCell (XG _ _) _).setCell (XG _ _) _).setCell (XG _ _) _).setCell (XG _ _) _⟩
def eJ(W:World)(g N:Nat):Prop:=(∀j,j<N->∃z:Int,W.cell? ⟨g,j,none⟩=some (.int .i64 z))/\∀j,W.frozen? ⟨g,j,none⟩=false
theorem eJ.set{W g N}(h:eJ W g N)k v:eJ (W.setCell ⟨g,k,none⟩ (.int .i64 v)) g N:=by
 refine⟨λa d => ?_,λa=>by rw[Xy];exact h.2 a⟩;obtain⟨e,b⟩:=h.1 a d;by_cases c:a=k
 .subst c;exact⟨v,af b _⟩
 .exact⟨e,(aa _ _ _ _ _ (λf=>c f.symm)).trans b⟩
theorem eJ.kept{W W' g N}(h:eJ W g N)(k:Kept W W')(b:g<W.heap.size):eJ W' g N:=by
 refine⟨λa c => ?_,λa=>(k.frozen (p:=⟨g,a,none⟩) b).trans (h.2 a)⟩;obtain⟨d,e⟩:=h.1 a c;exact⟨d,(k.cell (p:=⟨g,a,none⟩) b).trans e⟩
theorem ER g N i a0 a1 a2 a3 w(f:eJ w g N)(n:g<w.heap.size)(A:4*i+3<N)(B:N<=100000):Calls prog 89 #[.slice (some ⟨g,0,none⟩) N N,.int .i64 i,.agg #[.int .i64 a0,.int .i64 a1,.int .i64 a2,.int .i64 a3]] w λo h=>o=.returned (.tuple #[])/\eJ h g N/\Fr1 g w h:=by
 have j:Z (Kept w (w.alloc (Obj.cells #[.int .i64 a0,.int .i64 a1,.int .i64 a2,.int .i64 a3] 138))):=Xw (Xs _ _) (E _) _;have p:=U (f.kept j.o n);have q:Z (aD (w.alloc (Obj.cells #[.int .i64 a0,.int .i64 a1,.int .i64 a2,.int .i64 a3] 138)) w.heap.size (aG a0 a1 a2 a3)):=by
  refine⟨?_,?_,?_,?_⟩<;>exact(Xr _ _ _ _ rfl).trans rfl
 clear f;go_enter func89,ntmps89;go_wp2_with fail;generalize w.alloc (Obj.cells #[.int .i64 a0,.int .i64 a1,.int .i64 a2,.int .i64 a3] 138)=r at *;go_loopg [6] 4 (λs t k=>∃a:Nat,s=4-a/\a<=4/\t=.int .i64 a/\Fr1 g r k/\eJ k g N)
 case atStart=>exact⟨0,O,O,rfl,Fr.refl _ _,p.o⟩
 case round=>
  obtain⟨a,d,C,rfl,e,l⟩:=hrel;replace d:Z _:=d;have m:Z _:=e;have c:=U l;have u:=U (q.o.fr e O);clear e l;by_cases v:a<4
  .have x:(a:Int)<4:=O
   have D:(0:Int)<=(a:Int):=O;obtain⟨b,y⟩:∃b,b=4*i+a:=⟨_,rfl⟩;have F:4*(i:Int)+(a:Int)=(b:Int):=O;have G:(b:Int)<(N:Int):=O;have H:(0:Int)<=(b:Int):=O;have I:=u.o.get a v;obtain⟨J,K⟩:=c.o.1 b O;have L:=c.o.2 b;generalize aG a0 a1 a2 a3 a=M at *;clear y;go_wp2_with fail;go_roundg (4-(a+1))
   case measure=>rw[d.o];omega
   case rel=>exact⟨a+1,rfl,O,Xj,Fr1.set m.o _ _,c.o.set _ _⟩
  .have x:¬(a:Int)<4:=O
   go_wp2_with fail;go_end0
   exact⟨rfl,c.o,Fr.trans' (Fr.of_kept j.o) m.o (λ_ _ z=>z)⟩
theorem IU b o1 o2 n c r t h w(T:Blk w b n c)(j:et c o1 o2 n r t h):Calls prog 57 #[hdV h,.pointer (some ⟨b,o1,none⟩),.pointer (some ⟨b,o2,none⟩)] w λe D=>∃k a5,e=.returned (.slice (some ⟨k,0,none⟩) a5 a5)/\Kept w D:=by
 have V:Z (∀a,Calls prog 87 #[hdV h] a λe D=>e=.returned (.int .i64 ((h.W*h.H:Nat):Int))/\Kept a D):=λa=>jG h a j.W1 j.W2 j.H1 j.H2
 obtain⟨g,J⟩:∃g,g=h.W*h.H:=⟨_,rfl⟩;rw[<-J] at V;have g4:g<=256:=by rw[J];exact XF j.W2 j.H2
 have d1:Z _:=J;obtain⟨f,a6⟩:∃f,f=4*g:=⟨_,rfl⟩;have g5:4*(g:Int)=(f:Int):=O;have d2:Z _:=a6;have g6:f<=1024:=O;have d3:Z _:=j;have d4:Z _:=T;have g7:=T.lt;have g8:=j.W1;have d5:=j.W2;have d6:=j.H2;clear J a6 T j;have a7:Z (Kept w (w.alloc (Obj.cells #[.int .i64 h.W,.int .i64 h.H,.int .i64 h.D,.int .i64 h.K,.int .i64 h.L] 71))):=Xw (Xs _ _) (E _) _;have a8:Z (∀a,a=w.alloc (Obj.cells #[.int .i64 h.W,.int .i64 h.H,.int .i64 h.D,.int .i64 h.K,.int .i64 h.L] 71)->(a.cell? ⟨w.heap.size,0,none⟩=some (.int .i64 h.W)/\a.cell? ⟨w.heap.size,1,none⟩=some (.int .i64 h.H)/\a.cell? ⟨w.heap.size,2,none⟩=some (.int .i64 h.D)/\a.cell? ⟨w.heap.size,3,none⟩=some (.int .i64 h.K)/\a.cell? ⟨w.heap.size,4,none⟩=some (.int .i64 h.L))):=λa e=>by
  rw[e];refine⟨?_,?_,?_,?_,?_⟩<;>exact(Xr _ _ _ _ rfl).trans rfl
 unfold hdV at *;go_enter func57,ntmps57;go_wp2_with fail;generalize d7:w.alloc (Obj.cells #[.int .i64 h.W,.int .i64 h.H,.int .i64 h.D,.int .i64 h.K,.int .i64 h.L] 71)=F at *;obtain⟨W,a9,b0,b1,b2⟩:=a8.o F rfl;have s:=B F ⟨w.heap.size,0,none⟩ W;have d8:Z (∀a,Kept F a->(a.cell? ⟨w.heap.size,0,none⟩=some (.int .i64 h.W)/\a.cell? ⟨w.heap.size,1,none⟩=some (.int .i64 h.H)/\a.cell? ⟨w.heap.size,2,none⟩=some (.int .i64 h.D)/\a.cell? ⟨w.heap.size,3,none⟩=some (.int .i64 h.K)/\a.cell? ⟨w.heap.size,4,none⟩=some (.int .i64 h.L))):=λa d=>⟨(d.cell (p:=⟨w.heap.size,0,none⟩) s).trans W,(d.cell (p:=⟨w.heap.size,1,none⟩) s).trans a9,(d.cell (p:=⟨w.heap.size,2,none⟩) s).trans b0,(d.cell (p:=⟨w.heap.size,3,none⟩) s).trans b1,(d.cell (p:=⟨w.heap.size,4,none⟩) s).trans b2⟩
 clear a8 W a9 b0 b1 b2 d7;refine(V.o _).mono ?_;rintro e l ⟨rfl,X⟩;have d9:=gn l f O;have b3:Z (Kept F l):=X;have b4:=Xq s X.size;have b5:Z (Kept l (l.alloc (.cells (madeCells #[Value.int .i64 0] f) 3))):=Xw (Xs _ _) (E _) _;have b6:Z (eJ (l.alloc (.cells (madeCells #[Value.int .i64 0] f) 3)) l.heap.size f):=⟨λi e0=>⟨0,(Xr _ _ _ _ rfl).trans (gq f i e0)⟩,λi=>XB _ _ _ _ rfl⟩;have Y:l.heap.size<(l.alloc (.cells (madeCells #[Value.int .i64 0] f) 3)).heap.size:=Xi;clear X;go_wp2_with fail;generalize l.alloc (.cells (madeCells #[Value.int .i64 0] f) 3)=K at *;clear d9;obtain⟨k,L⟩:∃k,k=l.heap.size:=⟨_,rfl⟩;rw[<-L] at b6 b4 Y ⊢;replace L:Z _:=L;have a0:Z (Kept F K):=b3.o.trans (by rw[L.o] at *;exact b5.o);have b7:=b4;clear b3 b5;go_loopg [8] g (λe1 e2 a=>∃d:Nat,e1=g-d/\d<=g/\e2=.int .i64 d/\Fr1 k K a/\eJ a k f)
 case atStart=>exact⟨0,O,O,rfl,Fr.refl _ _,b6.o⟩
 case round=>
  obtain⟨d,a1,g9,rfl,G,b8⟩:=hrel;replace a1:Z _:=a1;have b9:Z _:=G;have e3:=U b8;have u:∀i,wr.cell? ⟨w.heap.size,i,none⟩=K.cell? ⟨w.heap.size,i,none⟩:=λi=>G.cell (YZ b7 Y) O
  obtain⟨c0,c1,c2,c3,c4⟩:=d8.o K a0.o;have c5:=(u 0).trans c0;have c6:=(u 1).trans c1;have c7:=(u 2).trans c2;have c8:=(u 3).trans c3;have c9:=(u 4).trans c4;have a2:=Xq Y G.size;have v:=YZ b7 a2;have e4:Z _:=(d4.o.kept (a7.o.trans a0.o)).fr G O;clear G b8 c0 c1 c2 c3 c4 u;have h0:¬(h.W=0):=O;go_wp2_with fail;refine(V.o _).mono ?_;rintro e M ⟨rfl,m⟩;have N:Z (Kept wr M):=m;have e5:=(m.cell (p:=⟨w.heap.size,0,none⟩) v).trans c5;have e6:=(m.cell (p:=⟨w.heap.size,1,none⟩) v).trans c6;have e7:=(m.cell (p:=⟨w.heap.size,2,none⟩) v).trans c7;have e8:=(m.cell (p:=⟨w.heap.size,3,none⟩) v).trans c8;have e9:=(m.cell (p:=⟨w.heap.size,4,none⟩) v).trans c9;have x:=Xq v m.size;have f0:=Xq a2 m.size;clear m c5 c6 c7 c8 c9;by_cases f1:d<g
  .have f2:(d:Int)<(g:Int):=O
   obtain⟨q,P⟩:∃q,q=d%h.W:=⟨_,rfl⟩;obtain⟨o,Q⟩:∃o,o=d/h.W:=⟨_,rfl⟩;have f3:(d:Int)%(h.W:Int)=(q:Int):=by rw[P];exact(Yo _ _).symm
   have f4:(d:Int)/(h.W:Int)=(o:Int):=by rw[Q];exact(YB _ _).symm
   have f5:q<16:=by rw[P];exact Xq (YD _ O) d5
   have f6:o<16:=by
    rw[Q];exact Xq (YN (by rw[<-d1.o];exact f1)) d6
   have h1:(d:Int).tmod (h.W:Int)=(q:Int):=by rw[XU O];exact f3
   have h2:(d:Int).tdiv (h.W:Int)=(o:Int):=by rw[XZ O];exact f4
   have h3:IntKind.i64.wrap (o:Int)=(o:Int):=Xd;replace P:Z _:=P;replace Q:Z _:=Q;have f7:Z (∀a,Kept M a->Calls prog 90 #[.agg #[.int .i64 h.W,.int .i64 h.H,.int .i64 h.D,.int .i64 h.K,.int .i64 h.L],.pointer (some ⟨b,o1,none⟩),.pointer (some ⟨b,o2,none⟩),.int .i64 q,.int .i64 o] a λe D=>∃y z A C:Int,e=.returned (.agg #[.int .i64 y,.int .i64 z,.int .i64 A,.int .i64 C])/\Kept a D):=λa R=>wL b o1 o2 n q o c r t h a (e4.o.kept (N.o.trans R)) d3.o f5 f6
   have a3:Z (∀a,Kept M a->(a.cell? ⟨w.heap.size,0,none⟩=some (.int .i64 h.W)/\a.cell? ⟨w.heap.size,1,none⟩=some (.int .i64 h.H)/\a.cell? ⟨w.heap.size,2,none⟩=some (.int .i64 h.D)/\a.cell? ⟨w.heap.size,3,none⟩=some (.int .i64 h.K)/\a.cell? ⟨w.heap.size,4,none⟩=some (.int .i64 h.L))):=λa d=>⟨(d.cell (p:=⟨w.heap.size,0,none⟩) x).trans e5,(d.cell (p:=⟨w.heap.size,1,none⟩) x).trans e6,(d.cell (p:=⟨w.heap.size,2,none⟩) x).trans e7,(d.cell (p:=⟨w.heap.size,3,none⟩) x).trans e8,(d.cell (p:=⟨w.heap.size,4,none⟩) x).trans e9⟩
   have f8:Z (∀H a,Kept M H->Fr1 k H a->(a.cell? ⟨w.heap.size,0,none⟩=some (.int .i64 h.W)/\a.cell? ⟨w.heap.size,1,none⟩=some (.int .i64 h.H)/\a.cell? ⟨w.heap.size,2,none⟩=some (.int .i64 h.D)/\a.cell? ⟨w.heap.size,3,none⟩=some (.int .i64 h.K)/\a.cell? ⟨w.heap.size,4,none⟩=some (.int .i64 h.L))):=λH a d f9=>by
    obtain⟨y,z,A,C,g0⟩:=a3.o H d;have e:∀i,a.cell? ⟨w.heap.size,i,none⟩=H.cell? ⟨w.heap.size,i,none⟩:=λi=>f9.cell (Xq x d.size) O
    exact⟨(e 0).trans y,(e 1).trans z,(e 2).trans A,(e 3).trans C,(e 4).trans g0⟩
   go_wp2_with fail;go_region_held3 (λa=>a.cell? ⟨w.heap.size,0,none⟩=some (.int .i64 h.W)/\a.cell? ⟨w.heap.size,1,none⟩=some (.int .i64 h.H)/\a.cell? ⟨w.heap.size,2,none⟩=some (.int .i64 h.D)/\a.cell? ⟨w.heap.size,3,none⟩=some (.int .i64 h.K)/\a.cell? ⟨w.heap.size,4,none⟩=some (.int .i64 h.L)) (first|exact a3.o _ ((Kept.refl _).drewN 1)|exact f8.o _ _ I a4|exact a3.o _ I|go_keep) ((first|(go_at_call 90;refine(f7.o _ ((Kept.refl _).drewN 1)).mono ?_;rintro e h4 ⟨y,z,A,C,rfl,g1⟩;have I:=((Kept.refl _).drewN 1).trans g1)|(go_at_call 89;refine((λa y z A C R=>ER k f d y z A C a (e3.o.kept (N.o.trans R) a2) (Xq f0 R.size) (by have:=d2.o;omega) O) _ _ _ _ _ I).mono ?_;rintro e h5 ⟨rfl,d0,a4⟩)))
   have g2:=U d0;have g3:Z _:=(b9.o.kept (N.o.trans I)).trans a4;clear d0 a4 I;go_wp2_with fail;go_roundg (g-(d+1))
   case measure=>rw[a1.o];omega
   case rel=>exact⟨d+1,rfl,O,Xj,g3.o,g2.o⟩
  .have f2:¬(d:Int)<(g:Int):=O
   go_wp2_with fail;go_ret;refine⟨k,f,rfl,?_⟩;exact Fr.to_kept (S:=λi=>i=k) (a7.o.trans a0.o) (b9.o.kept N.o) (λh6 h7 h8=>O)
def Ce(e:Ending):Prop:=∃(m:Nat) (B:Bool),e=.returned (.tuple #[.int .i64 (m:Int),.bool B])/\m<16
theorem sE(f s q p:Nat)w(o:f<=8)(r:1<=s)(t:s<=8)(u:p<16):Calls prog 128 #[.agg #[.int .i64 f,.int .i64 s,.int .i64 q],.int .i64 p] w λh i=>Ce h/\Kept w i:=by
 have v:¬(s:Int)<1:=O;have x:¬(s=0):=O;have e:Z (∀g,Kept w (w.alloc g)):=λg=>Xw (Xs _ _) (E _) _
 by_cases y:p<f
 .have j:(p:Int)<(f:Int):=O
  go_enter func128,ntmps128;go_wp2;go_ret2;exact⟨⟨0,false,rfl,O⟩,e.o _⟩
 .have j:¬(p:Int)<(f:Int):=O
  obtain⟨a,k⟩:∃a,a=p-f:=⟨_,rfl⟩;have z:(p:Int)-(f:Int)=(a:Int):=O;obtain⟨b,d⟩:∃b,b=a%s:=⟨_,rfl⟩;have l:(a:Int)%(s:Int)=(b:Int):=by rw[d];exact(Yo _ _).symm
  have A:(a:Int).tmod (s:Int)=(b:Int):=by rw[XU O];exact l
  have B:b<=a:=by rw[d];exact Zg _ _
  obtain⟨c,m⟩:∃c,c=p-b:=⟨_,rfl⟩;have C:(p:Int)-(b:Int)=(c:Int):=O;have n:c<16:=O;clear d k m;go_enter func128,ntmps128;go_wp2_with fail;go_quiet (fail);go_wp2_with fail;go_ret2;exact⟨⟨c,_,rfl,n⟩,(e.o _).drewN _⟩
theorem CQ(b o1 o2 n x y:Nat)(c:Nat->Value)(r:Rw)(t:Tl)(h:Hd)(w:World)(hB:Blk w b n c)(hp:et c o1 o2 n r t h)(hx:x<16)(hy:y<16)(hG:aS w):Calls prog 91 #[hdV h,.pointer (some ⟨b,o1,none⟩),.pointer (some ⟨b,o2,none⟩),.int .i64 x,.int .i64 y] w λe w'=>lX w e w':=by
 obtain⟨wa,hwa⟩:∃wa,wa=w.alloc (Obj.cells #[.int .i64 h.W,.int .i64 h.H,.int .i64 h.D,.int .i64 h.K,.int .i64 h.L] 71):=⟨_,rfl⟩;obtain⟨wb,hwb⟩:∃wb,wb=wa.alloc (Obj.cells #[.int .i64 0,.int .i64 0,.int .i64 0,.int .i64 0] 138):=⟨_,rfl⟩;have hsa:wa.heap.size=w.heap.size+1:=by rw[hwa];simp
 have Ka:Kept w wa:=by rw[hwa];exact Xw (Xs _ _) (E _) _
 have Kb:Kept wa wb:=by rw[hwb];exact Xw (Xs _ _) (E _) _
 have K0:Z (Kept w wb):=Ka.trans Kb;have hcell:∀j v,(#[Value.int .i64 h.W,.int .i64 h.H,.int .i64 h.D,.int .i64 h.K,.int .i64 h.L]:Array Value)[j]? = some v->wb.cell? ⟨w.heap.size,j,none⟩=some v:=λj v hv=>by
  rw[Kb.cell (p:=⟨w.heap.size,j,none⟩) (by show w.heap.size<wa.heap.size;omega),hwa];exact(Xr _ _ _ _ rfl).trans hv
 have R4:Z (aD wb (w.heap.size+1) (λ_=>0)):=by
  rw[hwb,<-hsa];refine⟨?_,?_,?_,?_⟩<;>exact(Xr _ _ _ _ rfl).trans rfl
 have Z4:Z (∀j,wb.frozen? ⟨w.heap.size+1,j,none⟩=false):=λj=>by rw[hwb,<-hsa];exact XB _ _ _ _ rfl
 have HB:Z (Blk wb b n c):=hB.kept K0.o;have HG:Z (aS wb):=hG.kept K0.o;have HP:Z (et c o1 o2 n r t h):=hp;have p0:=hcell 0 _ rfl;have p1:=hcell 1 _ rfl;have p2:=hcell 2 _ rfl;have p3:=hcell 3 _ rfl;have p4:=hcell 4 _ rfl;have hs0:w.heap.size<wb.heap.size:=B wb ⟨w.heap.size,0,none⟩ p0;have hs1:w.heap.size+1<wb.heap.size:=B wb ⟨w.heap.size+1,0,none⟩ R4.o.1;have HH:Z (∀W,Kept wb W->(W.cell? ⟨w.heap.size,0,none⟩=some (.int .i64 h.W)/\W.cell? ⟨w.heap.size,1,none⟩=some (.int .i64 h.H)/\W.cell? ⟨w.heap.size,2,none⟩=some (.int .i64 h.D)/\W.cell? ⟨w.heap.size,3,none⟩=some (.int .i64 h.K)/\W.cell? ⟨w.heap.size,4,none⟩=some (.int .i64 h.L))):=λW k=>⟨(k.cell (p:=⟨w.heap.size,0,none⟩) hs0).trans p0,(k.cell (p:=⟨w.heap.size,1,none⟩) hs0).trans p1,(k.cell (p:=⟨w.heap.size,2,none⟩) hs0).trans p2,(k.cell (p:=⟨w.heap.size,3,none⟩) hs0).trans p3,(k.cell (p:=⟨w.heap.size,4,none⟩) hs0).trans p4⟩
 have HL:Z (h.L<=1):=hp.L;have FC:Z (∀W':World,Calls prog 94 #[.int .i64 h.L] W' λe w'=>e=.returned (.int .i64 (av h.L))/\w'=W'):=λW'=>lS _ W'
 obtain⟨CN,hCN⟩:∃CN,CN=av h.L:=⟨_,rfl⟩;rw[<-hCN] at FC;have hCN7:CN<=7:=by rw[hCN];unfold av;split<;>omega
 clear hCN hB hp hcell Ka Kb hG p0 p1 p2 p3;unfold hdV;go_enter func91,ntmps91;go_upto_region 1 with fail
 rw[<-hwa,<-hwb];replace hwa:Z _:=hwa;replace hwb:Z _:=hwb;go_wp2_with fail;refine(FC.o _).mono ?_;rintro e w2 ⟨rfl,hw2⟩;subst w2;go_wp2_with fail;go_loopg [11,12,13,14,15,16] CN (λm v Ll Lk Lj Li Lh W=>m<=CN/\v=.int .i64 ((m:Int)-1)/\Kept wb W)
 case atStart=>exact⟨E _,rfl,Kept.refl _⟩
 case round=>
  obtain⟨hgC,rfl,hkw⟩:=hrel;have HKW:Z (Kept wb wr):=hkw;obtain⟨d0,d1,d2,d3,d4⟩:=HH.o wr hkw;clear hkw;by_cases hz:gk=0
  .have hz':¬(0:Int)<=(gk:Int)-1:=O
   have R2:Z (aD wr (w.heap.size+1) (λ_=>0)):=R4.o.kept HKW.o;obtain⟨r0,r1,r2,r3⟩:=R2.o;have zr:∀j,wr.frozen? ⟨w.heap.size+1,j,none⟩=false:=λj=>(HKW.o.frozen (p:=⟨w.heap.size+1,j,none⟩) hs1).trans (Z4.o j)
   replace hz:Z _:=hz;go_wp2_with fail;exact XA (ah rfl _ _ _ _ _ rfl (dt (R2.o.put 0 0 0 0))) rfl ⟨0,0,0,0,rfl,((((K0.o.trans HKW.o).setCell (XG _ _) _).setCell (XG _ _) _).setCell (XG _ _) _).setCell (XG _ _) _⟩
  .obtain⟨K,hK⟩:∃K,gk=K+1:=⟨gk-1,O⟩
   have eK:(gk:Int)-1=(K:Int):=O;have k0:(0:Int)<=(K:Int):=O;rw[eK];have FO:Z (Calls prog 95 #[.int .i64 h.L,.int .i64 K] wr λe w'=>e=.returned (psV (ae h.L K))/\Kept wr w'):=mP h.L K wr HL.o O (HG.o.kept HKW.o);have HOk:Z _:=cr h.L K;obtain⟨ps,hps⟩:∃p,p=ae h.L K:=⟨_,rfl⟩;rw[<-hps] at FO HOk;clear hps hz;replace hK:Z _:=hK;unfold psV at FO;obtain⟨q1,q2,q3,q4,q5,q6,q7,q8⟩:=HOk.o;go_wp2_with fail;refine FO.o.mono ?_;rintro e w3 ⟨rfl,hk3⟩;have K3:Z (Kept wb w3):=HKW.o.trans hk3;have K4:Z (Kept wb (w3.alloc (Obj.cells #[.int .i64 ps.cf,.int .i64 ps.cs,.int .i64 ps.cb,.int .i64 ps.rf,.int .i64 ps.rs,.int .i64 ps.rb] 146))):=K3.o.trans (Xw (Xs _ _) (E _) _);have C4:Z (∀W,Kept (w3.alloc (Obj.cells #[.int .i64 ps.cf,.int .i64 ps.cs,.int .i64 ps.cb,.int .i64 ps.rf,.int .i64 ps.rs,.int .i64 ps.rb] 146)) W->(W.cell? ⟨w3.heap.size,0,none⟩=some (.int .i64 ps.cf)/\W.cell? ⟨w3.heap.size,1,none⟩=some (.int .i64 ps.cs)/\W.cell? ⟨w3.heap.size,2,none⟩=some (.int .i64 ps.cb)/\W.cell? ⟨w3.heap.size,3,none⟩=some (.int .i64 ps.rf)/\W.cell? ⟨w3.heap.size,4,none⟩=some (.int .i64 ps.rs)/\W.cell? ⟨w3.heap.size,5,none⟩=some (.int .i64 ps.rb))):=λW k=>by
    refine⟨?_,?_,?_,?_,?_,?_⟩
    .exact(k.cell (p:=⟨w3.heap.size,0,none⟩) Xi).trans ((Xr _ _ _ _ rfl).trans rfl)
    .exact(k.cell (p:=⟨w3.heap.size,1,none⟩) Xi).trans ((Xr _ _ _ _ rfl).trans rfl)
    .exact(k.cell (p:=⟨w3.heap.size,2,none⟩) Xi).trans ((Xr _ _ _ _ rfl).trans rfl)
    .exact(k.cell (p:=⟨w3.heap.size,3,none⟩) Xi).trans ((Xr _ _ _ _ rfl).trans rfl)
    .exact(k.cell (p:=⟨w3.heap.size,4,none⟩) Xi).trans ((Xr _ _ _ _ rfl).trans rfl)
    .exact(k.cell (p:=⟨w3.heap.size,5,none⟩) Xi).trans ((Xr _ _ _ _ rfl).trans rfl)
   clear hk3 FO d0 d1 d2 d3 d4;go_upto_region 5 with fail
   generalize w3.alloc (Obj.cells #[.int .i64 ps.cf,.int .i64 ps.cs,.int .i64 ps.cb,.int .i64 ps.rf,.int .i64 ps.rs,.int .i64 ps.rb] 146)=w4 at *;generalize w3.heap.size=G at *;obtain⟨m0,m1,m2,m3,m4,m5⟩:=C4.o w4 (Kept.refl _);have FOx:Z (∀W,Calls prog 128 #[.agg #[.int .i64 ps.cf,.int .i64 ps.cs,.int .i64 ps.cb],.int .i64 x] W λe w'=>Ce e/\Kept W w'):=λW=>sE _ _ _ _ W O q2 q3 hx
   have FOy:Z (∀W,Calls prog 128 #[.agg #[.int .i64 ps.rf,.int .i64 ps.rs,.int .i64 ps.rb],.int .i64 y] W λe w'=>Ce e/\Kept W w'):=λW=>sE _ _ _ _ W O q6 q7 hy
   go_wp2_with fail;refine(FOx.o _).mono ?_;rintro e w5 ⟨⟨mx,Bx,rfl,hmx⟩,hk5⟩;have K5:Z (Kept wb w5):=K4.o.trans hk5;obtain⟨m0',m1',m2',m3',m4',m5'⟩:=C4.o w5 hk5;clear m0 m1 m2 m3 m4 m5 hk5;go_wp2_with fail;refine(FOy.o _).mono ?_;rintro e w6 ⟨⟨my,By,rfl,hmy⟩,hk6⟩;have K6:Z (Kept wb w6):=K5.o.trans hk6;clear m0' m1' m2' m3' m4' m5' hk6 FOx FOy;have FK:Z (Calls prog 88 #[.pointer (some ⟨b,o1,none⟩),.int .i64 mx,.int .i64 my] w6 λe w'=>e=.returned (.bool (r.known (my*16+mx)))/\Kept w6 w'):=(hO b o1 n mx my c r w6 (HB.o.kept K6.o) HP.o.V HP.o.n1 hmx hmy).mono (λe w' ⟨q1,q,q2⟩=>⟨q1,by rw[q2];exact(Kept.refl _).drewN _⟩);cases Bx with
   | false=>
    go_wp2_with fail;go_roundg K
    case measure=>rw[hK.o];omega
    case rel=>exact⟨by have:=hK.o;omega,Xj,K6.o⟩
   | true=>
    cases By with
    | false=>
     go_wp2_with fail;go_roundg K
     case measure=>rw[hK.o];omega
     case rel=>exact⟨by have:=hK.o;omega,Xj,K6.o⟩
    | true=>
     go_wp2_with fail;refine FK.o.mono ?_;rintro e w7 ⟨rfl,hk7⟩;have K7:Z (Kept wb w7):=K6.o.trans hk7;clear hk7 FK;cases hkn:r.known (my*16+mx) with
     | false=>
      go_wp2_with fail;go_roundg K
      case measure=>rw[hK.o];omega
      case rel=>exact⟨by have:=hK.o;omega,Xj,K7.o⟩
     | true=>
      obtain⟨d0,d1,d2,d3,d4⟩:=HH.o w7 K7.o;have FP:Z (Calls prog 90 #[.agg #[.int .i64 h.W,.int .i64 h.H,.int .i64 h.D,.int .i64 h.K,.int .i64 h.L],.pointer (some ⟨b,o1,none⟩),.pointer (some ⟨b,o2,none⟩),.int .i64 mx,.int .i64 my] w7 λe w'=>∃a0 a1 a2 a3:Int,e=.returned (.agg #[.int .i64 a0,.int .i64 a1,.int .i64 a2,.int .i64 a3])/\Kept w7 w'):=wL b o1 o2 n mx my c r t h w7 (HB.o.kept K7.o) HP.o hmx hmy;clear hkn;go_wp2_with fail;refine FP.o.mono ?_;rintro e w8 ⟨a0,a1,a2,a3,rfl,hk8⟩;have K8:Z (Kept wb w8):=K7.o.trans hk8;have R8:Z (aD w8 (w.heap.size+1) (λ_=>0)):=R4.o.kept K8.o;obtain⟨r0,r1,r2,r3⟩:=R8.o;have zr:∀j,w8.frozen? ⟨w.heap.size+1,j,none⟩=false:=λj=>(K8.o.frozen (p:=⟨w.heap.size+1,j,none⟩) hs1).trans (Z4.o j)
      go_wp2_with fail;exact XA (ah rfl _ _ _ _ _ rfl (dt (R8.o.put a0 a1 a2 a3))) rfl ⟨a0,a1,a2,a3,rfl,((((K0.o.trans K8.o).setCell (XG _ _) _).setCell (XG _ _) _).setCell (XG _ _) _).setCell (XG _ _) _⟩
