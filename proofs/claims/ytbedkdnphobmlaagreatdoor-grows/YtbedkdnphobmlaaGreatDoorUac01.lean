import Derived.Test.YtbedkdnphobmlaaGreatDoorProg
import Derived.Test.YtbedkdnphobmlaaGreatDoorUaa00
import Derived.Test.YtbedkdnphobmlaaGreatDoorUaa01
import Derived.Test.YtbedkdnphobmlaaGreatDoorUaa03
import Derived.Test.YtbedkdnphobmlaaGreatDoorUaa04
import Derived.Test.YtbedkdnphobmlaaGreatDoorUaa05
import Derived.Test.YtbedkdnphobmlaaGreatDoorUaa16
import Derived.Test.YtbedkdnphobmlaaGreatDoorUaa18
import Derived.Test.YtbedkdnphobmlaaGreatDoorUac00
set_option linter.all false
set_option maxRecDepth 100000
set_option maxHeartbeats 0
namespace Go.Proofs.YtbedkdnphobmlaaGreatDoor
open Go.RowKit Px Tryz
theorem ga{a b:List Int}(h:a.length=b.length)(k:∀c,c<a.length->a.getD c 0=b.getD c 0):a=b:=by
 apply List.ext_getElem h;intro e d f
 have:=k e d
 rw[G,G,Xt d,Xt f] at this;exact this
theorem bY p j n g pc qc a b w(y:n=a.length)(z:g=b.length)(A:LAt w .i64 (.slice p a.length pc) a)(B:LAt w .i64 (.slice j b.length qc) b)(F:a.length<=100000)(G:b.length<=100000):Calls prog 27 #[.slice p n pc,.slice j g qc] w λk H=>k=.returned (.bool (decide (a=b)))/\Kept w H:=by
 have I:Z (∀f,Kept w f->∀e,e<n->∃h i,p=some ⟨h,i,none⟩/\f.cell? ⟨h,i+e,none⟩=some (.int .i64 (a.getD e 0))):=λf c e L=>(A.kept c).cellAt e O
 have M:Z (∀f,Kept w f->∀e,e<g->∃h i,j=some ⟨h,i,none⟩/\f.cell? ⟨h,i+e,none⟩=some (.int .i64 (b.getD e 0))):=λf c e L=>(B.kept c).cellAt e O
 have s:Z (n≠g->decide (a=b)=false):=λm=>J (λk=>m (by rw[y,z,k]))
 have N:Z (∀d,a.getD d 0≠b.getD d 0->decide (a=b)=false):=λd m=>J (λk=>m (by rw[k]))
 have t:Z (n=g->(∀d,d<n->a.getD d 0=b.getD d 0)->decide (a=b)=true):=λm c=>K (ga O (λd u=>c d O))
 generalize decide (a=b)=U at *;have V:n<=100000:=O;have W:g<=100000:=O;clear A B y z F G;by_cases v:n=g
 .subst v
  replace t:Z _:=t.o rfl;go_enter func27,ntmps27;go_wp2_with fail;go_loopg [5] n (λP Q f=>∃c:Nat,P=n-c/\c<=n/\Q=.int .i64 c/\Kept w f/\∀d,d<c->a.getD d 0=b.getD d 0)
  case atStart=>exact⟨0,O,O,rfl,Kept.refl _,λd u=>O⟩
  case round=>
   obtain⟨c,x,X,rfl,C,o⟩:=hrel;replace x:Z _:=x;have l:Z (Kept w wr):=C;replace o:Z _:=o;clear C;by_cases D:c<n
   .have R:(c:Int)<(n:Int):=O
    have Y:(0:Int)<=(c:Int):=O;obtain⟨h,i,rfl,a0⟩:=I.o wr l.o c D;obtain⟨a1,a2,rfl,a3⟩:=M.o wr l.o c D;generalize q:a.getD c 0=S at *;generalize r:b.getD c 0=T at *;replace q:Z _:=q;replace r:Z _:=r;go_wp2_with fail;go_quiet (fail);cases E:(S != T)
    .go_wp2_with fail
     go_roundg (n-(c+1))
     case measure=>rw[x.o];omega
     case rel=>exact⟨c+1,rfl,O,Xj,l.o.drewN _,λd u=>by
      by_cases j:d=c
      .subst j
       rw[q.o,r.o]
       simpa using E
      .exact o.o d O⟩
    .go_wp2_with fail
     go_ret;exact⟨by rw[N.o c (by rw[q.o,r.o];simpa using E)];rfl,l.o.drewN _⟩
   .have R:¬(c:Int)<(n:Int):=O
    go_wp2_with fail;go_ret;exact⟨by rw[t.o (λd u=>o.o d O)];rfl,l.o⟩
 .have a4:((n:Int)!=(g:Int))=true:=by rw[XJ];omega
  replace s:Z _:=s.o v;clear v;go_enter func27,ntmps27;go_wp2_with fail;go_ret;exact⟨by rw[s.o];rfl,Kept.refl _⟩
def gU(t:Tl)(i:Nat):Nat->Int:=if i<256 then aG ((t.pal (3*i)*257:Nat):Int) ((t.pal (3*i+1)*257:Nat):Int) ((t.pal (3*i+2)*257:Nat):Int) ((if i<t.clears then t.clear i*257 else 65535:Nat):Int) else λ_=>0
def ya(w:World)(f:Nat->Int)(e:Ending)(w':World):Prop:=e=.returned (four (f 0) (f 1) (f 2) (f 3))/\Kept w w'
theorem jS{v0 v1 v2 v3 a0 a1 a2 a3}(a:v0=a0)(b:v1=a1)(c:v2=a2)(d:v3=a3):Ending.returned (four (aG v0 v1 v2 v3 0) (aG v0 v1 v2 v3 1) (aG v0 v1 v2 v3 2) (aG v0 v1 v2 v3 3))=.returned (four (aG a0 a1 a2 a3 0) (aG a0 a1 a2 a3 1) (aG a0 a1 a2 a3 2) (aG a0 a1 a2 a3 3)):=by rw[a,b,c,d]
theorem D2(b d n i:Nat)c t w(C:Blk w b n c)(r:TlV c d t)(c0:d+1026<=n)(v:∀f,t.pal f<256)(D:∀f,t.clear f<256):Calls prog 153 #[.pointer (some ⟨b,d,none⟩),.int .i64 i] w λF G=>ya w (gU t i) F G:=by
 have H:Z (aD (w.alloc (Obj.cells #[.int .i64 0,.int .i64 0,.int .i64 0,.int .i64 0] 138)) w.heap.size (λ_=>0)):=by
  refine⟨?_,?_,?_,?_⟩<;>exact(Xr _ _ _ _ rfl).trans rfl
 have L:Z (Kept w (w.alloc (Obj.cells #[.int .i64 0,.int .i64 0,.int .i64 0,.int .i64 0] 138))):=Xw (Xs _ _) (E _) _;have a4:Z (∀f,(w.alloc (Obj.cells #[.int .i64 0,.int .i64 0,.int .i64 0,.int .i64 0] 138)).frozen? ⟨w.heap.size,f,none⟩=false):=λf=>XB _ _ _ _ rfl
 have c1:¬(i:Int)<0:=O;by_cases a5:256<=i
 .have a6:(256:Int)<=(i:Int):=O
  have M:Z (gU t i=λ_=>0):=by show gU t i=_;unfold gU;rw[N]
  generalize gU t i=a7 at *;clear v D;clear C r;go_enter func153,ntmps153;go_wp2_with fail;exact XA (ah rfl _ _ _ _ _ rfl (dt H.o)) rfl ⟨by rw[M.o],L.o⟩
 .have a6:¬(256:Int)<=(i:Int):=O
  have s:=C.kept L.o;have h:=s.at (i:=d+3*i) O (r.pal (3*i) O);have j:=s.at (i:=d+(3*i+1)) O (r.pal (3*i+1) O);have k:=s.at (i:=d+(3*i+2)) O (r.pal (3*i+2) O);have a8:=s.at (i:=d+768+i) O (r.clear i O);have a9:=s.at (i:=d+1025) O r.clears;obtain⟨g,P⟩:∃x,x=3*i:=⟨_,rfl⟩;obtain⟨m,Q⟩:∃x,x=3*i+1:=⟨_,rfl⟩;obtain⟨o,R⟩:∃x,x=3*i+2:=⟨_,rfl⟩;have c2:3*(i:Int)=(g:Int):=O;have c3:(g:Int)+1=(m:Int):=O;have c4:(g:Int)+2=(o:Int):=O;have c5:(0:Int)<=(g:Int):=O;have c6:(g:Int)<768:=O;have c7:(0:Int)<=(m:Int):=O;have c8:(m:Int)<768:=O;have c9:(0:Int)<=(o:Int):=O;have d0:(o:Int)<768:=O;have d1:(0:Int)<=(i:Int):=O;have d2:(i:Int)<256:=O;have M:Z (gU t i=aG ((t.pal g*257:Nat):Int) ((t.pal m*257:Nat):Int) ((t.pal o*257:Nat):Int) ((if i<t.clears then t.clear i*257 else 65535:Nat):Int)):=by show gU t i=_;unfold gU;rw[I,<-R,<-Q,<-P]
  have d3:=v g;have d4:=v m;have d5:=v o;have d6:=D i;clear v D;generalize gU t i=a7 at *;rw[<-P] at h;rw[<-Q] at j;rw[<-R] at k;generalize t.pal g=b0 at *;generalize t.pal m=b1 at *;generalize t.pal o=b2 at *;generalize t.clear i=S at *;generalize t.clears=l at *;clear P Q R C r s a5;have y:Z (∀e,Calls prog 154 #[.int .i64 8] e λF G=>F=.returned (.int .i64 257)/\G=e):=λe=>jF 8 e
  go_enter func153,ntmps153;go_upto_region 4 with fail
  generalize w.alloc (Obj.cells #[.int .i64 0,.int .i64 0,.int .i64 0,.int .i64 0] 138)=a at *;go_upto_region 4 with fail
  go_cut [25] from 16 (λb3 e=>b3=.bool (decide (i<l))/\e=a)
  case first=>
   by_cases a0:i<l
   .have b4:(i:Int)<(l:Int):=O
    go_wp2_with fail;go_meet
    case rel=>exact⟨by rw[K a0],rfl⟩
   .have b4:¬(i:Int)<(l:Int):=O
    go_wp2_with fail;go_meet
    case rel=>exact⟨by rw[J a0],rfl⟩
  case rest=>
   obtain⟨b5,d7⟩:=hcut;subst b5;have b6:Z ((if i<l then S*257 else 65535:Nat)=if decide (i<l)=true then S*257 else 65535):=by
    show(if i<l then S*257 else 65535:Nat)=_
    by_cases z:i<l
    .rw[I z,I (K z)]
    .rw[N z,N (by rw[J z];decide)]
   generalize decide (i<l)=b7 at *;subst wc;have T:Z (∀e,Kept a e->e.cell? ⟨b,d+g,none⟩=some (.int .u8 b0)/\e.cell? ⟨b,d+m,none⟩=some (.int .u8 b1)/\e.cell? ⟨b,d+o,none⟩=some (.int .u8 b2)):=λe V=>⟨(V.cell (p:=⟨b,d+g,none⟩) (B _ _ h)).trans h,(V.cell (p:=⟨b,d+m,none⟩) (B _ _ j)).trans j,(V.cell (p:=⟨b,d+o,none⟩) (B _ _ k)).trans k⟩
   have u:Z (Kept a a):=Kept.refl _;cases b7
   case' true=>
    go_wp2_with fail;go_quiet ((go_at_call 154;exact Xu (y.o _)))
    replace u:Z (Kept a (a.drewN nq)):=(Kept.refl _).drewN _;generalize a.drewN nq=q at *
   case' false=>
    obtain⟨q,A⟩:∃q,q=a:=⟨_,rfl⟩;rw[<-A] at u ⊢;replace A:Z _:=A;have b8:Z (Kept a q):=by rw[A.o];exact Kept.refl _
    clear u;have u:Z (Kept a q):=b8.o
   all_goals
    clear h j k a8 a9;obtain⟨h,j,k⟩:=T.o q u.o;go_wp2_with fail;go_quiet ((go_at_call 154;exact Xu (y.o _)))
    have a1:Z (Kept a (q.drewN nq)):=u.o.drewN _;generalize q.drewN nq=W at *;clear h j k;obtain⟨h,j,k⟩:=T.o W a1.o;go_wp2_with fail;go_quiet ((go_at_call 154;exact Xu (y.o _)))
    have a2:Z (Kept a (W.drewN nq)):=a1.o.drewN _;generalize W.drewN nq=X at *;clear h j k;obtain⟨h,j,k⟩:=T.o X a2.o;go_wp2_with fail;go_quiet ((go_at_call 154;exact Xu (y.o _)))
    have Y:Z (Kept a (X.drewN nq)):=a2.o.drewN _;generalize X.drewN nq=b9 at *;have a3:=U (H.o.kept Y.o);have d8:∀f,b9.frozen? ⟨w.heap.size,f,none⟩=false:=λf=>(Y.o.frozen (p:=⟨w.heap.size,f,none⟩) (show w.heap.size<a.heap.size from B a ⟨w.heap.size,0,none⟩ H.o.1)).trans (a4.o f)
    obtain⟨d9,e0,e1,e2⟩:=a3.o;go_wp2_with fail;refine XA (ah rfl _ _ _ _ _ rfl (dt (aD.put a3.o _ _ _ _))) rfl ⟨?_,?_⟩
    .rw[M.o,b6.o]
     refine jS ?_ ?_ ?_ ?_<;>first|omega|(rw[XC];omega)|rfl
    exact(((((L.o.trans Y.o).setCell (E _) _).setCell (E _) _).setCell (E _) _).setCell (E _) _)
def alP(t:Tl)(C:Nat)(s:Nat->Int):Int:=if t.clears=0 then 65535 else if(∀k,k<C->s k=(t.smp k:Int)) then 0 else 65535
theorem oj{t C s}(h:t.clears=0):alP t C s=65535:=I h
theorem rC{t C s}(h:¬t.clears=0)(k:∀k,k<C->s k=(t.smp k:Int)):alP t C s=0:=by unfold alP;rw[N h,I k]
theorem rB{t C s}(h:¬t.clears=0)j(a:j<C)(k:s j≠(t.smp j:Int)):alP t C s=65535:=by unfold alP;rw[N h,N (λb=>k (b j a))]
theorem Ev b o n c t h s0 s1 s2 s3 w(A:Blk w b n c)(e:TlV c o t)(Q:o+1026<=n)(J:∀d,t.clear d<256)(b7:h.K<=6):Calls prog 155 #[.pointer (some ⟨b,o,none⟩),hdV h,four s0 s1 s2 s3] w λg q=>g=.returned (.int .i64 (alP t (chn h.K) (aG s0 s1 s2 s3)))/\Kept w q:=by
 unfold hdV four;obtain⟨j,m⟩:∃j,j=w.alloc (Obj.cells #[.int .i64 h.W,.int .i64 h.H,.int .i64 h.D,.int .i64 h.K,.int .i64 h.L] 71):=⟨_,rfl⟩;obtain⟨f,r⟩:∃f,f=j.alloc (Obj.cells #[.int .i64 s0,.int .i64 s1,.int .i64 s2,.int .i64 s3] 138):=⟨_,rfl⟩;have R:j.heap.size=w.heap.size+1:=by rw[m];simp
 have K:Kept w j:=by rw[m];exact Xw (Xs _ _) (E _) _
 have C:Kept j f:=by rw[r];exact Xw (Xs _ _) (E _) _
 have s:Z (Kept w f):=K.trans C;have L:f.cell? ⟨w.heap.size,3,none⟩=some (.int .i64 h.K):=by
  rw[C.cell (p:=⟨w.heap.size,3,none⟩) (by show w.heap.size<j.heap.size;omega),m];exact(Xr _ _ _ _ rfl).trans rfl
 have S:Z (aD f (w.heap.size+1) (aG s0 s1 s2 s3)):=by
  rw[r,<-R];refine⟨?_,?_,?_,?_⟩<;>exact(Xr _ _ _ _ rfl).trans rfl
 have b8:=(A.kept s.o).at (i:=o+1025) O e.clears;have T:Z _:=A.kept s.o;have V:Z _:=e;have W:Z _:=J;have M:Z (∀u:World,Calls prog 93 #[.int .i64 h.K] u λg q=>g=.returned (.int .i64 (chn h.K))/\q=u):=λu=>fj _ u O
 have b9:=gN h.K;have X:Z (t.clears=0->alP t (chn h.K) (aG s0 s1 s2 s3)=65535):=oj;have Y:Z (¬t.clears=0->(∀a,a<chn h.K->aG s0 s1 s2 s3 a=(t.smp a:Int))->alP t (chn h.K) (aG s0 s1 s2 s3)=0):=rC;have a0:Z (¬t.clears=0->∀d,d<chn h.K->aG s0 s1 s2 s3 d≠(t.smp d:Int)->alP t (chn h.K) (aG s0 s1 s2 s3)=65535):=rB;generalize alP t (chn h.K) (aG s0 s1 s2 s3)=c0 at *;generalize chn h.K=D at *;clear A e J K C;generalize a1:h.K=c1 at *;generalize a2:h.W=c2 at *;generalize a3:h.H=c3 at *;generalize a4:h.D=c4 at *;generalize a5:h.L=c5 at *;clear a1 a2 a3 a4 a5;go_enter func155,ntmps155;go_upto_region 1 with fail
 rw[<-m,<-r];replace m:Z _:=m;replace r:Z _:=r;by_cases k:t.clears=0
 .have a6:((t.clears:Int)==0)=true:=by rw[XI];omega
  generalize t.clears=a7 at *;replace k:Z _:=k;go_wp2_with fail;go_ret;exact⟨by rw[X.o k.o];rfl,s.o⟩
 .have a6:((t.clears:Int)==0)=false:=by rw[F];omega
  generalize t.clears=a7 at *;replace k:Z _:=k;go_wp2_with fail;go_loopg [7] 4 (λG a8 a9=>∃a:Nat,G=4-a/\a<=4/\a8=.int .i64 a/\Kept f a9/\∀d,d<a->aG s0 s1 s2 s3 d=(t.smp d:Int))
  case atStart=>exact⟨0,O,O,rfl,Kept.refl _,λd N=>O⟩
  case round=>
   obtain⟨a,H,c6,rfl,v,x⟩:=hrel;replace x:Z _:=x;replace H:Z _:=H;have y:Z (Kept f wr):=v;have c7:=(v.cell (p:=⟨w.heap.size,3,none⟩) (B _ _ L)).trans L;have b0:=U (S.o.kept v);clear v;by_cases b1:a<D
   .have b2:(a:Int)<(D:Int):=O
    have c8:(a:Int)<4:=O;have c9:(0:Int)<=(a:Int):=O;have d0:=b0.o.get a O;have b3:Z (∀l,Calls prog 152 #[.pointer (some ⟨b,o,none⟩),.int .i64 a] (wr.drewN l) λg q=>g=.returned (.int .i64 (t.smp a))/\∃G,q=(wr.drewN l).drewN G):=λl=>gd b o n a c t (wr.drewN l) ((T.o.kept y.o).kept ((Kept.refl _).drewN l)) V.o Q O W.o
    generalize e:t.smp a=b4 at *;replace e:Z _:=e;generalize z:aG s0 s1 s2 s3 a=b5 at *;replace z:Z _:=z;go_wp2_with fail;refine(M.o _).mono ?_;rintro g I ⟨rfl,b6⟩;subst I;go_wp2_with fail;go_quiet ((go_at_call 152;exact Zb (b3.o _)))
    cases P:(b5 != (b4:Int))
    .go_wp2_with fail
     go_roundg (4-(a+1))
     case measure=>rw[H.o];omega
     case rel=>exact⟨a+1,rfl,O,Xj,y.o.drewN _,λd N=>by
      by_cases l:d=a
      .subst l
       rw[z.o,e.o]
       simpa using P
      .exact x.o d O⟩
    .go_wp2_with fail
     go_ret;exact⟨by rw[a0.o k.o a b1 (by rw[z.o,e.o];simpa using P)];rfl,s.o.trans (y.o.drewN _)⟩
   .have b2:¬(a:Int)<(D:Int):=O
    go_wp2_with fail;refine(M.o _).mono ?_;rintro g I ⟨rfl,b6⟩;subst I;go_wp2_with fail;go_ret;exact⟨by rw[Y.o k.o (λd N=>x.o d O)];rfl,s.o.trans y.o⟩
def dY(t:Tl)(h:Hd)(s0 s1 s2 s3:Nat):Nat->Int:=
 if h.K=3 then gU t s0
 else if h.K=0 then aG ((s0*aY h.D:Nat):Int) ((s0*aY h.D:Nat):Int) ((s0*aY h.D:Nat):Int) (alP t (chn h.K) (aG s0 s1 s2 s3))
 else if h.K=4 then aG ((s0*aY h.D:Nat):Int) ((s0*aY h.D:Nat):Int) ((s0*aY h.D:Nat):Int) ((s1*aY h.D:Nat):Int)
 else if h.K=2 then aG ((s0*aY h.D:Nat):Int) ((s1*aY h.D:Nat):Int) ((s2*aY h.D:Nat):Int) (alP t (chn h.K) (aG s0 s1 s2 s3))
 else aG ((s0*aY h.D:Nat):Int) ((s1*aY h.D:Nat):Int) ((s2*aY h.D:Nat):Int) ((s3*aY h.D:Nat):Int)
theorem rn{t h s0 s1 s2 s3}(k:h.K=3):dY t h s0 s1 s2 s3=gU t s0:=I k
theorem rq{t h s0 s1 s2 s3}(k:h.K=0):dY t h s0 s1 s2 s3=aG ((s0*aY h.D:Nat):Int) ((s0*aY h.D:Nat):Int) ((s0*aY h.D:Nat):Int) (alP t (chn h.K) (aG s0 s1 s2 s3)):=by unfold dY;rw[N,I k]
theorem rm{t h s0 s1 s2 s3}(k:h.K=4):dY t h s0 s1 s2 s3=aG ((s0*aY h.D:Nat):Int) ((s0*aY h.D:Nat):Int) ((s0*aY h.D:Nat):Int) ((s1*aY h.D:Nat):Int):=by unfold dY;rw[N,N,I k]
theorem rp{t h s0 s1 s2 s3}(k:h.K=2):dY t h s0 s1 s2 s3=aG ((s0*aY h.D:Nat):Int) ((s1*aY h.D:Nat):Int) ((s2*aY h.D:Nat):Int) (alP t (chn h.K) (aG s0 s1 s2 s3)):=by unfold dY;rw[N,N,N,I k]
theorem rl{t h s0 s1 s2 s3}(a:h.K≠3)(b:h.K≠0)(c:h.K≠4)(d:h.K≠2):dY t h s0 s1 s2 s3=aG ((s0*aY h.D:Nat):Int) ((s1*aY h.D:Nat):Int) ((s2*aY h.D:Nat):Int) ((s3*aY h.D:Nat):Int):=by unfold dY;rw[N a,N b,N c,N d]
theorem yA{s0 a b c:Nat}(d:s0<65536)(e:a<65536)(f:b<65536)(g:c<65536)k:∃m:Nat,aG (s0:Int) a b c k=(m:Int)/\m<65536:=by
 unfold aG;split
 .exact⟨s0,rfl,d⟩
 .split
  .exact⟨a,rfl,e⟩
  .split
   .exact⟨b,rfl,f⟩
   .exact⟨c,rfl,g⟩
theorem aD.setDrew{W g f f'}(h:aD W g f)k v(b:f' k=v)(c:∀a,a≠k->a<4->f' a=f a):aD (W.setCell ⟨g,k,none⟩ (.int .i64 v)).drew g f':=(h.set k v b c).kept ((Kept.refl _).drewN 1)
theorem BI b o n c t h(s0 e f g:Nat)w(b5:Blk w b n c)(d3:TlV c o t)(d4:o+1026<=n)(d5:∀i,t.pal i<256)(d6:∀i,t.clear i<256)(g3:h.K<=6)(d7:s0<65536)(d8:e<65536)(d9:f<65536)(e0:g<65536):Calls prog 126 #[.pointer (some ⟨b,o,none⟩),hdV h,four s0 e f g] w λu Q=>ya w (dY t h s0 e f g) u Q:=by
 have g4:Z _:=yA d7 d8 d9 e0;have b6:Z (h.K=3->dY t h s0 e f g=gU t s0):=rn;have g5:Z (h.K=0->dY t h s0 e f g=_):=rq;have g6:Z (h.K=4->dY t h s0 e f g=_):=rm;have g7:Z (h.K=2->dY t h s0 e f g=_):=rp;have g8:Z (h.K≠3->h.K≠0->h.K≠4->h.K≠2->dY t h s0 e f g=_):=rl;generalize dY t h s0 e f g=l3 at *;have g9:Z _:=d5;clear d7 d8 d9 e0 d5;obtain⟨y,C⟩:∃y,y=w.alloc (Obj.cells #[.int .i64 h.W,.int .i64 h.H,.int .i64 h.D,.int .i64 h.K,.int .i64 h.L] 71):=⟨_,rfl⟩;obtain⟨x,D⟩:∃x,x=y.alloc (Obj.cells #[.int .i64 s0,.int .i64 e,.int .i64 f,.int .i64 g] 138):=⟨_,rfl⟩;obtain⟨l,G⟩:∃l,l=x.alloc (Obj.cells #[.int .i64 0,.int .i64 0,.int .i64 0,.int .i64 0] 138):=⟨_,rfl⟩;have e1:y.heap.size=w.heap.size+1:=by rw[C];simp
 have e2:x.heap.size=w.heap.size+2:=by rw[D];simp[e1]
 have e3:Kept w y:=by rw[C];exact Xw (Xs _ _) (E _) _
 have b7:Kept y x:=by rw[D];exact Xw (Xs _ _) (E _) _
 have Y:Kept x l:=by rw[G];exact Xw (Xs _ _) (E _) _
 have H:∀i R,(#[Value.int .i64 h.W,.int .i64 h.H,.int .i64 h.D,.int .i64 h.K,.int .i64 h.L]:Array Value)[i]? = some R->l.cell? ⟨w.heap.size,i,none⟩=some R:=λi R h0=>by
  rw[Y.cell (p:=⟨w.heap.size,i,none⟩) (by show w.heap.size<x.heap.size;omega),b7.cell (p:=⟨w.heap.size,i,none⟩) (by show w.heap.size<y.heap.size;omega),C];exact(Xr _ _ _ _ rfl).trans h0
 have e4:aD x (w.heap.size+1) (aG s0 e f g):=by
  rw[D,<-e1];refine⟨?_,?_,?_,?_⟩<;>exact(Xr _ _ _ _ rfl).trans rfl
 have e5:aD l (w.heap.size+2) (λ_=>0):=by
  rw[G,<-e2];refine⟨?_,?_,?_,?_⟩<;>exact(Xr _ _ _ _ rfl).trans rfl
 have z:Z (ClA w l h s0 e f g):=⟨(e3.trans b7).trans Y,H 2 _ rfl,H 3 _ rfl,H 0 _ rfl,H 1 _ rfl,H 4 _ rfl,e4.kept Y,⟨_,e5⟩,λi=>by rw[G,<-e2];exact XB _ _ _ _ rfl⟩;have b8:Z _:=b5.kept z.o.K;have e6:Z _:=d3;have e7:Z _:=d6;have l4:=b5.lt;clear b5 d3 d6 e3 b7 Y H e4 e5;unfold hdV four;go_enter func126,ntmps126;go_upto_region 1 with fail
 rw[<-C,<-D,<-G];replace C:Z _:=C;replace D:Z _:=D;replace G:Z _:=G;have J:=z.o.Kd;by_cases K:h.K=3
 .have S:l.cell? ⟨w.heap.size+1,0,none⟩=some (.int .i64 s0):=z.o.S.1
  have h1:=U (D2 b o n s0 c t l b8.o e6.o d4 g9.o e7.o);have e8:((h.K:Int)==3)=true:=Xg;replace K:Z _:=K;replace b6:Z _:=b6.o K.o;generalize gU t s0=l5 at *;go_wp2_with fail;refine h1.o.mono ?_;rintro u l6 ⟨rfl,a0⟩;have a1:Z _:=z.o.kept a0;obtain⟨k,b9⟩:=a1.o.R;obtain⟨l7,l8,l9,m0⟩:=b9;have h2:=a1.o.Z;unfold four;go_wp2_with fail;exact XA (ah rfl _ _ _ _ _ rfl (dt (a1.o.done _ _ _ _).1)) rfl ⟨by rw[b6.o];rfl,(a1.o.done _ _ _ _).2⟩
 .have e8:((h.K:Int)==3)=false:=by rw[F];omega
  have h3:Z (ClA w (l.alloc (Obj.cells #[.int .i64 0,.int .i64 0,.int .i64 0,.int .i64 0] 138)) h s0 e f g):=z.o.kept (Xw (Xs _ _) (E _) _);have h4:Z (aD (l.alloc (Obj.cells #[.int .i64 0,.int .i64 0,.int .i64 0,.int .i64 0] 138)) l.heap.size (λ_=>0)):=by
   refine⟨?_,?_,?_,?_⟩<;>exact(Xr _ _ _ _ rfl).trans rfl
  have h5:Z (∀i,(l.alloc (Obj.cells #[.int .i64 0,.int .i64 0,.int .i64 0,.int .i64 0] 138)).frozen? ⟨l.heap.size,i,none⟩=false):=λi=>XB _ _ _ _ rfl
  have h6:Z (Blk (l.alloc (Obj.cells #[.int .i64 0,.int .i64 0,.int .i64 0,.int .i64 0] 138)) b n c):=b8.o.kept (Xw (Xs _ _) (E _) _);have h7:w.heap.size+2<l.heap.size:=by
   obtain⟨k,b9⟩:=z.o.R;exact B l ⟨w.heap.size+2,0,none⟩ b9.1
  go_wp2_with fail;generalize l.alloc (Obj.cells #[.int .i64 0,.int .i64 0,.int .i64 0,.int .i64 0] 138)=h8 at *;generalize l.heap.size=j at *;clear J z b8;go_loopg [8] 4 (λh9 R a=>∃d:Nat,h9=4-d/\d<=4/\R=.int .i64 d/\Fr1 j h8 a/\(∀i,a.frozen? ⟨j,i,none⟩=false)/\aD a j (λi=>if i<d then aG (s0:Int) e f g i*(aY h.D:Int) else 0))
  case atStart=>exact⟨0,O,O,rfl,Fr.refl _ _,h5.o,h4.o⟩
  case round=>
   obtain⟨d,c0,c1,rfl,a2,e9,f0⟩:=hrel;replace c0:Z _:=c0;have i0:Z _:=a2;have f1:Z _:=e9;have a3:=U f0;have m:Z _:=h3.o.fr a2 h7;have i1:Z _:=h6.o.fr a2 O;clear a2 e9 f0;by_cases f2:d<4
   .have i2:(d:Int)<4:=O
    have m1:(0:Int)<=(d:Int):=O;have f3:=a3.o.get d f2;obtain⟨f4,f3⟩:∃f4,wr.cell? ⟨j,d,none⟩=some f4:=⟨_,f3⟩;have m2:=f1.o d;have c2:=m.o.S.get d f2;have f5:=m.o.D;obtain⟨c3,a4,m3⟩:=g4.o d;rw[a4] at c2;replace a4:Z _:=a4;obtain⟨L,T⟩:∃L,L=aY h.D:=⟨_,rfl⟩;have i3:L<=65535:=by rw[T];exact CV _
    obtain⟨a5,a6⟩:∃a5,a5=c3*L:=⟨_,rfl⟩;have i4:(c3:Int)*(L:Int)=(a5:Int):=by rw[a6];exact(Yv _ _).symm
    have m4:a5<=65535*65535:=by rw[a6];exact XF O i3
    have i5:Z (∀a,Calls prog 154 #[.int .i64 h.D] a λu Q=>u=.returned (.int .i64 L)/\Q=a):=λa=>by rw[T];exact jF h.D a
    replace T:Z _:=T;replace a6:Z _:=a6;go_wp2_with fail;go_region_held3 (λa=>a.cell? ⟨w.heap.size+1,d,none⟩=some (.int .i64 c3)/\a.cell? ⟨w.heap.size,2,none⟩=some (.int .i64 h.D)) (first|exact⟨c2,f5⟩|exact⟨(aE _ _ _ _ O).trans c2,(aE _ _ _ _ O).trans f5⟩|go_keep) ((go_at_call 154;refine(i5.o _).mono ?_;rintro u m5 ⟨rfl,rfl⟩))
    go_wp2_with fail;go_roundg (4-(d+1))
    case measure=>rw[c0.o];omega
    case rel=>
     refine⟨d+1,rfl,O,Xj,Fr1.drewN (Fr1.set i0.o _ _) 1,λi=>by show(wr.setCell _ _).frozen? _=false;rw[Xy];exact f1.o i,a3.o.setDrew d _ ?_ ?_⟩
     .show(if d<d+1 then aG (s0:Int) e f g d*(aY h.D:Int) else 0)=_
      rw[I,a4.o,<-T.o,i4]
     .intro i m6 _
      show(if i<d+1 then aG (s0:Int) e f g i*(aY h.D:Int) else 0)=if i<d then aG (s0:Int) e f g i*(aY h.D:Int) else 0
      by_cases f6:i<d
      .rw[I f6,I]
      .rw[N f6,N]
   .have i2:¬(d:Int)<4:=O
    have J:=m.o.Kd;have M:Z (∀a,Kept wr a->Calls prog 155 #[.pointer (some ⟨b,o,none⟩),.agg #[.int .i64 h.W,.int .i64 h.H,.int .i64 h.D,.int .i64 h.K,.int .i64 h.L],.agg #[.int .i64 s0,.int .i64 e,.int .i64 f,.int .i64 g]] a λu Q=>u=.returned (.int .i64 (alP t (chn h.K) (aG s0 e f g)))/\Kept a Q):=λa i6=>Ev b o n c t h s0 e f g a (i1.o.kept i6) e6.o d4 e7.o g3
    have i7:d=4:=O;subst i7;obtain⟨k,s,V,a7,c4,i8⟩:∃k:Nat->Int,k 0=((s0*aY h.D:Nat):Int)/\k 1=((e*aY h.D:Nat):Int)/\k 2=((f*aY h.D:Nat):Int)/\k 3=((g*aY h.D:Nat):Int)/\aD wr j k:=⟨_,(Yv _ _).symm,(Yv _ _).symm,(Yv _ _).symm,(Yv _ _).symm,a3.o⟩;replace s:Z _:=s;replace V:Z _:=V;replace a7:Z _:=a7;replace c4:Z _:=c4;clear a3;obtain⟨f7,i9,j0,m7⟩:=i8;obtain⟨S,c5,c6,c7⟩:=m.o.S;replace S:wr.cell? ⟨w.heap.size+1,0,none⟩=some (.int .i64 s0):=S;replace c5:wr.cell? ⟨w.heap.size+1,1,none⟩=some (.int .i64 e):=c5;replace c6:wr.cell? ⟨w.heap.size+1,2,none⟩=some (.int .i64 f):=c6;replace c7:wr.cell? ⟨w.heap.size+1,3,none⟩=some (.int .i64 g):=c7;have f8:=m.o.cW;have c8:=B wr ⟨j,0,none⟩ f7;have W:=B wr ⟨w.heap.size,0,none⟩ f8;have a8:=B wr ⟨w.heap.size+1,0,none⟩ S;have v:Z (∀a,Kept wr a->(a.cell? ⟨j,0,none⟩=some (.int .i64 (k 0))/\a.cell? ⟨j,1,none⟩=some (.int .i64 (k 1))/\a.cell? ⟨j,2,none⟩=some (.int .i64 (k 2))/\a.cell? ⟨w.heap.size,0,none⟩=some (.int .i64 h.W)/\a.cell? ⟨w.heap.size,1,none⟩=some (.int .i64 h.H)/\a.cell? ⟨w.heap.size,2,none⟩=some (.int .i64 h.D)/\a.cell? ⟨w.heap.size,3,none⟩=some (.int .i64 h.K)/\a.cell? ⟨w.heap.size,4,none⟩=some (.int .i64 h.L)/\a.cell? ⟨w.heap.size+1,0,none⟩=some (.int .i64 s0)/\a.cell? ⟨w.heap.size+1,1,none⟩=some (.int .i64 e)/\a.cell? ⟨w.heap.size+1,2,none⟩=some (.int .i64 f)/\a.cell? ⟨w.heap.size+1,3,none⟩=some (.int .i64 g))):=λa d=>⟨(d.cell (p:=⟨j,0,none⟩) c8).trans f7,(d.cell (p:=⟨j,1,none⟩) c8).trans i9,(d.cell (p:=⟨j,2,none⟩) c8).trans j0,(d.cell (p:=⟨w.heap.size,0,none⟩) W).trans f8,(d.cell (p:=⟨w.heap.size,1,none⟩) W).trans m.o.cH,(d.cell (p:=⟨w.heap.size,2,none⟩) W).trans m.o.D,(d.cell (p:=⟨w.heap.size,3,none⟩) W).trans J,(d.cell (p:=⟨w.heap.size,4,none⟩) W).trans m.o.cL,(d.cell (p:=⟨w.heap.size+1,0,none⟩) a8).trans S,(d.cell (p:=⟨w.heap.size+1,1,none⟩) a8).trans c5,(d.cell (p:=⟨w.heap.size+1,2,none⟩) a8).trans c6,(d.cell (p:=⟨w.heap.size+1,3,none⟩) a8).trans c7⟩
    have c9:j≠w.heap.size+2:=O;have X:w.heap.size≠w.heap.size+2:=O;have a9:w.heap.size+1≠w.heap.size+2:=O;have P:Z (∀(b0:World) (f9 g0 g1 g2:Value) (a:World),Kept wr b0->a=((((b0.setCell ⟨w.heap.size+2,0,none⟩ f9).setCell ⟨w.heap.size+2,1,none⟩ g0).setCell ⟨w.heap.size+2,2,none⟩ g1).setCell ⟨w.heap.size+2,3,none⟩ g2)->(a.cell? ⟨j,0,none⟩=some (.int .i64 (k 0))/\a.cell? ⟨j,1,none⟩=some (.int .i64 (k 1))/\a.cell? ⟨j,2,none⟩=some (.int .i64 (k 2))/\a.cell? ⟨w.heap.size,0,none⟩=some (.int .i64 h.W)/\a.cell? ⟨w.heap.size,1,none⟩=some (.int .i64 h.H)/\a.cell? ⟨w.heap.size,2,none⟩=some (.int .i64 h.D)/\a.cell? ⟨w.heap.size,3,none⟩=some (.int .i64 h.K)/\a.cell? ⟨w.heap.size,4,none⟩=some (.int .i64 h.L)/\a.cell? ⟨w.heap.size+1,0,none⟩=some (.int .i64 s0)/\a.cell? ⟨w.heap.size+1,1,none⟩=some (.int .i64 e)/\a.cell? ⟨w.heap.size+1,2,none⟩=some (.int .i64 f)/\a.cell? ⟨w.heap.size+1,3,none⟩=some (.int .i64 g))):=λb0 f9 g0 g1 g2 a d j1=>by
     obtain⟨j2,j3,j4,j5,j6,j7,j8,j9,k0,k1,k2,k3⟩:=v.o b0 d;subst j1;exact⟨(au _ c9 _ _ _ _ _).trans j2,(au _ c9 _ _ _ _ _).trans j3,(au _ c9 _ _ _ _ _).trans j4,(au _ X _ _ _ _ _).trans j5,(au _ X _ _ _ _ _).trans j6,(au _ X _ _ _ _ _).trans j7,(au _ X _ _ _ _ _).trans j8,(au _ X _ _ _ _ _).trans j9,(au _ a9 _ _ _ _ _).trans k0,(au _ a9 _ _ _ _ _).trans k1,(au _ a9 _ _ _ _ _).trans k2,(au _ a9 _ _ _ _ _).trans k3⟩
    obtain⟨m8,k4⟩:=m.o.R;obtain⟨b1,b2,b3,b4⟩:=k4;have h2:=m.o.Z;have k5:h.K=0\/h.K=4\/h.K=2\/(h.K≠0/\h.K≠4/\h.K≠2):=O;clear e8;replace K:Z _:=K;generalize alP t (chn h.K) (aG s0 e f g)=m9 at *;rcases k5 with r|r|r|⟨r,c1,a0⟩
    .have d0:Z _:=r
     rw[r] at J v P M;clear r;go_wp2_with fail;go_region_held3 (λa=>a.cell? ⟨j,0,none⟩=some (.int .i64 (k 0))/\a.cell? ⟨j,1,none⟩=some (.int .i64 (k 1))/\a.cell? ⟨j,2,none⟩=some (.int .i64 (k 2))/\a.cell? ⟨w.heap.size,0,none⟩=some (.int .i64 h.W)/\a.cell? ⟨w.heap.size,1,none⟩=some (.int .i64 h.H)/\a.cell? ⟨w.heap.size,2,none⟩=some (.int .i64 h.D)/\a.cell? ⟨w.heap.size,3,none⟩=some (.int .i64 0)/\a.cell? ⟨w.heap.size,4,none⟩=some (.int .i64 h.L)/\a.cell? ⟨w.heap.size+1,0,none⟩=some (.int .i64 s0)/\a.cell? ⟨w.heap.size+1,1,none⟩=some (.int .i64 e)/\a.cell? ⟨w.heap.size+1,2,none⟩=some (.int .i64 f)/\a.cell? ⟨w.heap.size+1,3,none⟩=some (.int .i64 g)) (first|exact v.o _ ((Kept.refl _).drewN 1)|exact P.o _ _ _ _ _ _ q rfl|exact v.o _ q|go_keep) ((go_at_call 155;refine(M.o _ ((Kept.refl _).drewN 1)).mono ?_;rintro u k6 ⟨rfl,d1⟩;have q:=((Kept.refl _).drewN 1).trans d1;have A:Z _:=m.o.kept q;have k7:=(q.cell (p:=⟨w.heap.size+2,0,none⟩) (B _ _ b1)).trans b1;have k8:=(q.cell (p:=⟨w.heap.size+2,1,none⟩) (B _ _ b2)).trans b2;have k9:=(q.cell (p:=⟨w.heap.size+2,2,none⟩) (B _ _ b3)).trans b3;have l0:=(q.cell (p:=⟨w.heap.size+2,3,none⟩) (B _ _ b4)).trans b4;have l1:=A.o.Z))
     go_wp2_with fail;exact XA (ah rfl _ _ _ _ _ rfl (dt (A.o.done _ _ _ _).1)) rfl ⟨by rw[g5.o d0.o];exact jS s.o s.o s.o rfl,(A.o.done _ _ _ _).2⟩
    .have l2:Z _:=r
     rw[r] at J;clear r v P M;go_wp2_with fail;exact XA (ah rfl _ _ _ _ _ rfl (dt (m.o.done _ _ _ _).1)) rfl ⟨by rw[g6.o l2.o];exact jS s.o s.o s.o V.o,(m.o.done _ _ _ _).2⟩
    .have d0:Z _:=r
     rw[r] at J v P M;clear r;go_wp2_with fail;go_region_held3 (λa=>a.cell? ⟨j,0,none⟩=some (.int .i64 (k 0))/\a.cell? ⟨j,1,none⟩=some (.int .i64 (k 1))/\a.cell? ⟨j,2,none⟩=some (.int .i64 (k 2))/\a.cell? ⟨w.heap.size,0,none⟩=some (.int .i64 h.W)/\a.cell? ⟨w.heap.size,1,none⟩=some (.int .i64 h.H)/\a.cell? ⟨w.heap.size,2,none⟩=some (.int .i64 h.D)/\a.cell? ⟨w.heap.size,3,none⟩=some (.int .i64 2)/\a.cell? ⟨w.heap.size,4,none⟩=some (.int .i64 h.L)/\a.cell? ⟨w.heap.size+1,0,none⟩=some (.int .i64 s0)/\a.cell? ⟨w.heap.size+1,1,none⟩=some (.int .i64 e)/\a.cell? ⟨w.heap.size+1,2,none⟩=some (.int .i64 f)/\a.cell? ⟨w.heap.size+1,3,none⟩=some (.int .i64 g)) (first|exact v.o _ ((Kept.refl _).drewN 1)|exact P.o _ _ _ _ _ _ q rfl|exact v.o _ q|go_keep) ((go_at_call 155;refine(M.o _ ((Kept.refl _).drewN 1)).mono ?_;rintro u k6 ⟨rfl,d1⟩;have q:=((Kept.refl _).drewN 1).trans d1;have A:Z _:=m.o.kept q;have k7:=(q.cell (p:=⟨w.heap.size+2,0,none⟩) (B _ _ b1)).trans b1;have k8:=(q.cell (p:=⟨w.heap.size+2,1,none⟩) (B _ _ b2)).trans b2;have k9:=(q.cell (p:=⟨w.heap.size+2,2,none⟩) (B _ _ b3)).trans b3;have l0:=(q.cell (p:=⟨w.heap.size+2,3,none⟩) (B _ _ b4)).trans b4;have l1:=A.o.Z))
     go_wp2_with fail;exact XA (ah rfl _ _ _ _ _ rfl (dt (A.o.done _ _ _ _).1)) rfl ⟨by rw[g7.o d0.o];exact jS s.o V.o a7.o rfl,(A.o.done _ _ _ _).2⟩
    .have n0:((h.K:Int)==0)=false:=by rw[F];omega
     have n1:((h.K:Int)==4)=false:=Xa;have n2:((h.K:Int)==2)=false:=Xa;have d2:Z (h.K≠0/\h.K≠4/\h.K≠2):=⟨r,c1,a0⟩;clear r c1 a0 v P M;go_wp2_with fail;exact XA (ah rfl _ _ _ _ _ rfl (dt (m.o.done _ _ _ _).1)) rfl ⟨by rw[g8.o K.o d2.o.1 d2.o.2.1 d2.o.2.2];exact jS s.o V.o a7.o c4.o,(m.o.done _ _ _ _).2⟩
def pxP(r:Rw)(t:Tl)(h:Hd)(x y:Nat):Nat->Int:=if r.known (y*16+x) then dY t h (r.smp (4*(y*16+x))) (r.smp (4*(y*16+x)+1)) (r.smp (4*(y*16+x)+2)) (r.smp (4*(y*16+x)+3)) else λ_=>0
theorem wK(b o F n x y:Nat)c r t h w(a0:Blk w b n c)(G:et c o F n r t h)(a1:∀d,t.pal d<256)(a2:x<16)(a3:y<16):Calls prog 90 #[hdV h,.pointer (some ⟨b,o,none⟩),.pointer (some ⟨b,F,none⟩),.int .i64 x,.int .i64 y] w λf k=>ya w (pxP r t h x y) f k:=by
 have b9:Z (r.known (y*16+x)=false->pxP r t h x y=λ_=>0):=λH=>by unfold pxP;rw[H,N Xh]
 have J:Z (r.known (y*16+x)=true->pxP r t h x y=dY t h (r.smp (4*(y*16+x))) (r.smp (4*(y*16+x)+1)) (r.smp (4*(y*16+x)+2)) (r.smp (4*(y*16+x)+3))):=λH=>by unfold pxP;rw[I H]
 generalize pxP r t h x y=K at *;have c0:Z _:=a1;clear a1;obtain⟨l,q⟩:∃l,l=w.alloc (Obj.cells #[.int .i64 h.W,.int .i64 h.H,.int .i64 h.D,.int .i64 h.K,.int .i64 h.L] 71):=⟨_,rfl⟩;obtain⟨e,s⟩:∃e,e=l.alloc (Obj.cells #[.int .i64 0,.int .i64 0,.int .i64 0,.int .i64 0] 138):=⟨_,rfl⟩;have a4:l.heap.size=w.heap.size+1:=by rw[q];simp
 have a5:Kept w l:=by rw[q];exact Xw (Xs _ _) (E _) _
 have Q:Kept l e:=by rw[s];exact Xw (Xs _ _) (E _) _
 have R:Z (Kept w e):=a5.trans Q;have u:∀d S,(#[Value.int .i64 h.W,.int .i64 h.H,.int .i64 h.D,.int .i64 h.K,.int .i64 h.L]:Array Value)[d]? = some S->e.cell? ⟨w.heap.size,d,none⟩=some S:=λd S c1=>by
  rw[Q.cell (p:=⟨w.heap.size,d,none⟩) (by show w.heap.size<l.heap.size;omega),q];exact(Xr _ _ _ _ rfl).trans c1
 have a6:Z (aD e (w.heap.size+1) (λ_=>0)):=by
  rw[s,<-a4];refine⟨?_,?_,?_,?_⟩<;>exact(Xr _ _ _ _ rfl).trans rfl
 have c2:Z (∀d,e.frozen? ⟨w.heap.size+1,d,none⟩=false):=λd=>by rw[s,<-a4];exact XB _ _ _ _ rfl
 have T:Z _:=a0.kept R.o;have g:Z _:=G;have V:=u 0 _ rfl;have a7:=u 1 _ rfl;have a8:=u 2 _ rfl;have a9:=u 3 _ rfl;have b0:=u 4 _ rfl;have b1:Z (Calls prog 88 #[.pointer (some ⟨b,o,none⟩),.int .i64 x,.int .i64 y] e λf k=>f=.returned (.bool (r.known (y*16+x)))/\Kept e k):=(hO b o n x y c r e T.o G.V G.n1 a2 a3).mono (λf k ⟨c3,H,c4⟩=>⟨c3,by rw[c4];exact(Kept.refl _).drewN _⟩);clear a0 G u a5 Q;unfold hdV;go_enter func90,ntmps90;go_upto_region 1 with fail
 rw[<-q,<-s];replace q:Z _:=q;replace s:Z _:=s;go_wp2_with fail;refine b1.o.mono ?_;rintro f m ⟨rfl,j⟩;have W:Z (Kept e m):=j;have b2:Z _:=T.o.kept j;have X:=U (a6.o.kept j);have v:=B e ⟨w.heap.size,0,none⟩ V;have b3:=B e ⟨w.heap.size+1,0,none⟩ a6.o.1;have c5:∀d,m.frozen? ⟨w.heap.size+1,d,none⟩=false:=λd=>(j.frozen (p:=⟨w.heap.size+1,d,none⟩) b3).trans (c2.o d)
 have b4:=(j.cell (p:=⟨w.heap.size,0,none⟩) v).trans V;have c6:=(j.cell (p:=⟨w.heap.size,1,none⟩) v).trans a7;have c7:=(j.cell (p:=⟨w.heap.size,2,none⟩) v).trans a8;have c8:=(j.cell (p:=⟨w.heap.size,3,none⟩) v).trans a9;have c9:=(j.cell (p:=⟨w.heap.size,4,none⟩) v).trans b0;clear b1 V a7 a8 a9 b0 j T;obtain⟨e2,e3,e4,e5⟩:=X.o;cases L:r.known (y*16+x) with
 | false=>
  replace L:Z _:=L;go_wp2_with fail;exact XA (ah rfl _ _ _ _ _ rfl (dt (X.o.put 0 0 0 0))) rfl ⟨by rw[b9.o L.o];rfl,((((R.o.trans W.o).setCell (XG _ _) _).setCell (XG _ _) _).setCell (XG _ _) _).setCell (XG _ _) _⟩
 | true=>
  replace J:Z _:=J.o L;have d0:Z (∀a,Kept m a->Calls prog 127 #[.pointer (some ⟨b,o,none⟩),.int .i64 x,.int .i64 y] a λf k=>f=.returned (.agg #[.int .i64 (r.smp (4*(y*16+x)):Int),.int .i64 (r.smp (4*(y*16+x)+1):Int),.int .i64 (r.smp (4*(y*16+x)+2):Int),.int .i64 (r.smp (4*(y*16+x)+3):Int)])/\Kept a k):=λa i=>mK b o n x y c r a (b2.o.kept i) g.o.V g.o.n1 a2 a3 g.o.sm
  have d1:Z (∀a,Kept m a->Calls prog 126 #[.pointer (some ⟨b,F,none⟩),.agg #[.int .i64 h.W,.int .i64 h.H,.int .i64 h.D,.int .i64 h.K,.int .i64 h.L],.agg #[.int .i64 (r.smp (4*(y*16+x)):Int),.int .i64 (r.smp (4*(y*16+x)+1):Int),.int .i64 (r.smp (4*(y*16+x)+2):Int),.int .i64 (r.smp (4*(y*16+x)+3):Int)]] a λf k=>f=.returned (.agg #[.int .i64 (K 0),.int .i64 (K 1),.int .i64 (K 2),.int .i64 (K 3)])/\Kept a k):=λa i=>by
   rw[J.o];exact BI b F n c t h _ _ _ _ a (b2.o.kept i) g.o.T g.o.n2 c0.o g.o.cl g.o.K (g.o.sm _) (g.o.sm _) (g.o.sm _) (g.o.sm _)
  clear J;generalize r.smp (4*(y*16+x))=e6 at *;generalize r.smp (4*(y*16+x)+1)=e7 at *;generalize r.smp (4*(y*16+x)+2)=e8 at *;generalize r.smp (4*(y*16+x)+3)=e9 at *;have z:=B m ⟨w.heap.size,0,none⟩ b4;have M:Z (∀a,Kept m a->(a.cell? ⟨w.heap.size,0,none⟩=some (.int .i64 h.W)/\a.cell? ⟨w.heap.size,1,none⟩=some (.int .i64 h.H)/\a.cell? ⟨w.heap.size,2,none⟩=some (.int .i64 h.D)/\a.cell? ⟨w.heap.size,3,none⟩=some (.int .i64 h.K)/\a.cell? ⟨w.heap.size,4,none⟩=some (.int .i64 h.L))):=λa i=>⟨(i.cell (p:=⟨w.heap.size,0,none⟩) z).trans b4,(i.cell (p:=⟨w.heap.size,1,none⟩) z).trans c6,(i.cell (p:=⟨w.heap.size,2,none⟩) z).trans c7,(i.cell (p:=⟨w.heap.size,3,none⟩) z).trans c8,(i.cell (p:=⟨w.heap.size,4,none⟩) z).trans c9⟩
  have A:w.heap.size≠w.heap.size+1:=O;have d2:Z (∀(P:World) (b5 b6 b7 b8:Value) (a:World),Kept m P->a=((((P.setCell ⟨w.heap.size+1,0,none⟩ b5).setCell ⟨w.heap.size+1,1,none⟩ b6).setCell ⟨w.heap.size+1,2,none⟩ b7).setCell ⟨w.heap.size+1,3,none⟩ b8)->(a.cell? ⟨w.heap.size,0,none⟩=some (.int .i64 h.W)/\a.cell? ⟨w.heap.size,1,none⟩=some (.int .i64 h.H)/\a.cell? ⟨w.heap.size,2,none⟩=some (.int .i64 h.D)/\a.cell? ⟨w.heap.size,3,none⟩=some (.int .i64 h.K)/\a.cell? ⟨w.heap.size,4,none⟩=some (.int .i64 h.L))):=λP b5 b6 b7 b8 a i d3=>by
   obtain⟨d4,d5,d6,d7,d8⟩:=M.o P i;subst d3;exact⟨(au _ A _ _ _ _ _).trans d4,(au _ A _ _ _ _ _).trans d5,(au _ A _ _ _ _ _).trans d6,(au _ A _ _ _ _ _).trans d7,(au _ A _ _ _ _ _).trans d8⟩
  go_wp2_with fail;go_region_held3 (λa=>a.cell? ⟨w.heap.size,0,none⟩=some (.int .i64 h.W)/\a.cell? ⟨w.heap.size,1,none⟩=some (.int .i64 h.H)/\a.cell? ⟨w.heap.size,2,none⟩=some (.int .i64 h.D)/\a.cell? ⟨w.heap.size,3,none⟩=some (.int .i64 h.K)/\a.cell? ⟨w.heap.size,4,none⟩=some (.int .i64 h.L)) (first|exact M.o _ ((Kept.refl _).drewN 1)|exact d2.o _ _ _ _ _ _ C rfl|exact M.o _ C|exact M.o _ Y|go_keep) ((first|(go_at_call 127;refine(d0.o _ ((Kept.refl _).drewN 1)).mono ?_;rintro f f0 ⟨rfl,d9⟩;have Y:=((Kept.refl _).drewN 1).trans d9)|(go_at_call 126;refine(d1.o _ Y).mono ?_;rintro f e0 ⟨rfl,e1⟩;have C:=Y.trans e1;have D:=U (X.o.kept C);have f1:=D.o.1;have f2:=D.o.2.1;have f3:=D.o.2.2.1;have f4:=D.o.2.2.2;have f5:∀d,e0.frozen? ⟨w.heap.size+1,d,none⟩=false:=λd=>(C.frozen (p:=⟨w.heap.size+1,d,none⟩) (Xq b3 W.o.size)).trans (c5 d))))
  go_wp2_with fail;exact XA (ah rfl _ _ _ _ _ rfl (dt (D.o.put _ _ _ _))) rfl ⟨rfl,((((R.o.trans (W.o.trans C)).setCell (XG _ _) _).setCell (XG _ _) _).setCell (XG _ _) _).setCell (XG _ _) _⟩
def di(W:World)(g N:Nat)(f:Nat->Int):Prop:=(∀j,j<N->W.cell? ⟨g,j,none⟩=some (.int .i64 (f j)))/\∀j,W.frozen? ⟨g,j,none⟩=false
theorem di.set{W g N f f'}(h:di W g N f)k v(d:f' k=v)(e:∀a,a≠k->a<N->f' a=f a):di (W.setCell ⟨g,k,none⟩ (.int .i64 v)) g N f':=by
 refine⟨λa b => ?_,λa=>by rw[Xy];exact h.2 a⟩;by_cases c:a=k
 .subst c;rw[d];exact af (h.1 a b) _
 .rw[aa _ _ _ _ _ (λi=>c i.symm),e a c b];exact h.1 a b
theorem di.kept{W W' g N f}(h:di W g N f)(k:Kept W W')(b:g<W.heap.size):di W' g N f:=
 ⟨λa c=>(k.cell (p:=⟨g,a,none⟩) b).trans (h.1 a c),λa=>(k.frozen (p:=⟨g,a,none⟩) b).trans (h.2 a)⟩
theorem di.congr{W g N f f'}(h:di W g N f)(e:∀a,a<N->f' a=f a):di W g N f':=⟨λa b=>by rw[e a b];exact h.1 a b,h.2⟩
theorem Ak g N i a0 a1 a2 a3 f w(n:di w g N f)(u:g<w.heap.size)(F:4*i+3<N)(G:N<=100000):Calls prog 89 #[.slice (some ⟨g,0,none⟩) N N,.int .i64 i,.agg #[.int .i64 a0,.int .i64 a1,.int .i64 a2,.int .i64 a3]] w λh o=>h=.returned (.tuple #[])/\di o g N (λj=>if j/4=i then aG a0 a1 a2 a3 (j%4) else f j)/\Fr1 g w o:=by
 have p:Z (Kept w (w.alloc (Obj.cells #[.int .i64 a0,.int .i64 a1,.int .i64 a2,.int .i64 a3] 138))):=Xw (Xs _ _) (E _) _;have v:=U (n.kept p.o u);have x:Z (aD (w.alloc (Obj.cells #[.int .i64 a0,.int .i64 a1,.int .i64 a2,.int .i64 a3] 138)) w.heap.size (aG a0 a1 a2 a3)):=by
  refine⟨?_,?_,?_,?_⟩<;>exact(Xr _ _ _ _ rfl).trans rfl
 clear n;go_enter func89,ntmps89;go_wp2_with fail;generalize w.alloc (Obj.cells #[.int .i64 a0,.int .i64 a1,.int .i64 a2,.int .i64 a3] 138)=y at *;go_loopg [6] 4 (λz A q=>∃a:Nat,z=4-a/\a<=4/\A=.int .i64 a/\Fr1 g y q/\di q g N (λj=>if j/4=i/\j%4<a then aG a0 a1 a2 a3 (j%4) else f j))
 case atStart=>exact⟨0,O,O,rfl,Fr.refl _ _,v.o.congr (λj _=>if_neg O)⟩
 case round=>
  obtain⟨a,k,H,rfl,l,r⟩:=hrel;replace k:Z _:=k;have s:Z _:=l;have d:=U r;have B:=U (x.o.fr l O);clear l r;by_cases C:a<4
  .have D:(a:Int)<4:=O
   have J:(0:Int)<=(a:Int):=O;obtain⟨b,e⟩:∃b,b=4*i+a:=⟨_,rfl⟩;have K:4*(i:Int)+(a:Int)=(b:Int):=O;have L:(b:Int)<(N:Int):=O;have M:(0:Int)<=(b:Int):=O;have P:=B.o.get a C;obtain⟨t,Q⟩:∃t,wr.cell? ⟨g,b,none⟩=some (.int .i64 t):=⟨_,d.o.1 b O⟩;have R:=d.o.2 b;generalize m:aG a0 a1 a2 a3 a=S at *;replace m:Z _:=m;replace e:Z _:=e;go_wp2_with fail;go_roundg (4-(a+1))
   case measure=>rw[k.o];omega
   case rel=>
    refine⟨a+1,rfl,O,Xj,Fr1.set s.o _ _,d.o.set _ _ ?_ ?_⟩
    .show(if b/4=i/\b%4<a+1 then aG a0 a1 a2 a3 (b%4) else f b)=_
     have:=e.o
     rw[I,show b%4=a from O,m.o]
    .intro j T _
     show(if j/4=i/\j%4<a+1 then aG a0 a1 a2 a3 (j%4) else f j)=if j/4=i/\j%4<a then aG a0 a1 a2 a3 (j%4) else f j
     have:=e.o
     by_cases c:j/4=i/\j%4<a
     .rw[I c,I]
     .rw[if_neg c,if_neg O]
  .have D:¬(a:Int)<4:=O
   go_wp2_with fail;go_end0
   exact⟨rfl,d.o.congr (λj _=>by
    have:j%4<4:=YD _ O
    by_cases c:j/4=i
    .rw[I c,I ⟨c,O⟩]
    .rw[if_neg c,if_neg (λh=>c h.1)]),Fr.trans' (Fr.of_kept p.o) s.o (λ_ _ c=>c)⟩
def zx(w:World)(f:Nat->Nat->Int)(h:Hd)(e:Ending)(w':World):Prop:=∃g,e=.returned (.slice (some ⟨g,0,none⟩) (4*(h.W*h.H)) (4*(h.W*h.H)))/\w.heap.size<=g/\g<w'.heap.size/\(∀j,j<4*(h.W*h.H)->w'.cell? ⟨g,j,none⟩=some (.int .i64 (f (j/4) (j%4))))/\Kept w w'
theorem IT b o1 o2 n c r t h w(a0:Blk w b n c)(k:et c o1 o2 n r t h)(b5:∀d,t.pal d<256):Calls prog 57 #[hdV h,.pointer (some ⟨b,o1,none⟩),.pointer (some ⟨b,o2,none⟩)] w λf A=>zx w (λi=>pxP r t h (i%h.W) (i/h.W)) h f A:=by
 have e4:Z _:=b5;clear b5;have a1:Z (∀a,Calls prog 87 #[hdV h] a λf A=>f=.returned (.int .i64 ((h.W*h.H:Nat):Int))/\Kept a A):=λa=>jG h a k.W1 k.W2 k.H1 k.H2
 obtain⟨j,L⟩:∃j,j=h.W*h.H:=⟨_,rfl⟩;rw[<-L] at a1;have h4:j<=256:=by rw[L];exact XF k.W2 k.H2
 have a2:Z _:=L;obtain⟨g,b6⟩:∃g,g=4*j:=⟨_,rfl⟩;have h5:4*(j:Int)=(g:Int):=O;have M:Z _:=b6;have h6:g<=1024:=O;have e5:Z _:=k;have e6:Z _:=a0;have h7:=a0.lt;have h8:=k.W1;have e7:=k.W2;have e8:=k.H2;clear L b6 a0 k;have b7:Z (Kept w (w.alloc (Obj.cells #[.int .i64 h.W,.int .i64 h.H,.int .i64 h.D,.int .i64 h.K,.int .i64 h.L] 71))):=Xw (Xs _ _) (E _) _;have b8:Z (∀a,a=w.alloc (Obj.cells #[.int .i64 h.W,.int .i64 h.H,.int .i64 h.D,.int .i64 h.K,.int .i64 h.L] 71)->(a.cell? ⟨w.heap.size,0,none⟩=some (.int .i64 h.W)/\a.cell? ⟨w.heap.size,1,none⟩=some (.int .i64 h.H)/\a.cell? ⟨w.heap.size,2,none⟩=some (.int .i64 h.D)/\a.cell? ⟨w.heap.size,3,none⟩=some (.int .i64 h.K)/\a.cell? ⟨w.heap.size,4,none⟩=some (.int .i64 h.L))):=λa f=>by
  rw[f];refine⟨?_,?_,?_,?_,?_⟩<;>exact(Xr _ _ _ _ rfl).trans rfl
 unfold hdV at *;go_enter func57,ntmps57;go_wp2_with fail;generalize e9:w.alloc (Obj.cells #[.int .i64 h.W,.int .i64 h.H,.int .i64 h.D,.int .i64 h.K,.int .i64 h.L] 71)=C at *;obtain⟨a3,b9,c0,c1,c2⟩:=b8.o C rfl;have u:=B C ⟨w.heap.size,0,none⟩ a3;have f0:Z (∀a,Kept C a->(a.cell? ⟨w.heap.size,0,none⟩=some (.int .i64 h.W)/\a.cell? ⟨w.heap.size,1,none⟩=some (.int .i64 h.H)/\a.cell? ⟨w.heap.size,2,none⟩=some (.int .i64 h.D)/\a.cell? ⟨w.heap.size,3,none⟩=some (.int .i64 h.K)/\a.cell? ⟨w.heap.size,4,none⟩=some (.int .i64 h.L))):=λa e=>⟨(e.cell (p:=⟨w.heap.size,0,none⟩) u).trans a3,(e.cell (p:=⟨w.heap.size,1,none⟩) u).trans b9,(e.cell (p:=⟨w.heap.size,2,none⟩) u).trans c0,(e.cell (p:=⟨w.heap.size,3,none⟩) u).trans c1,(e.cell (p:=⟨w.heap.size,4,none⟩) u).trans c2⟩
 clear b8 a3 b9 c0 c1 c2 e9;refine(a1.o _).mono ?_;rintro f l ⟨rfl,a4⟩;have f1:=gn l g O;have c3:Z (Kept C l):=a4;have c4:=Xq u a4.size;have c5:Z (Kept l (l.alloc (.cells (madeCells #[Value.int .i64 0] g) 3))):=Xw (Xs _ _) (E _) _;have c6:Z (di (l.alloc (.cells (madeCells #[Value.int .i64 0] g) 3)) l.heap.size g (λ_=>0)):=⟨λd P=>(Xr _ _ _ _ rfl).trans (gq g d P),λd=>XB _ _ _ _ rfl⟩;have a5:l.heap.size<(l.alloc (.cells (madeCells #[Value.int .i64 0] g) 3)).heap.size:=Xi;clear a4;go_wp2_with fail;generalize l.alloc (.cells (madeCells #[Value.int .i64 0] g) 3)=Q at *;clear f1;obtain⟨m,R⟩:∃m,m=l.heap.size:=⟨_,rfl⟩;rw[<-R] at c6 c4 a5 ⊢;replace R:Z _:=R;have a6:Z (Kept C Q):=c3.o.trans (by rw[R.o] at *;exact c5.o);have c7:=c4;clear c3 c5;go_loopg [8] j (λa7 f2 a=>∃e:Nat,a7=j-e/\e<=j/\f2=.int .i64 e/\Fr1 m Q a/\di a m g (λd=>if d/4<e then pxP r t h (d/4%h.W) (d/4/h.W) (d%4) else 0))
 case atStart=>exact⟨0,O,O,rfl,Fr.refl _ _,c6.o.congr (λd _=>N)⟩
 case round=>
  obtain⟨e,a8,h9,rfl,D,c8⟩:=hrel;replace a8:Z _:=a8;have c9:Z _:=D;have d0:=U c8;have v:∀d,wr.cell? ⟨w.heap.size,d,none⟩=Q.cell? ⟨w.heap.size,d,none⟩:=λd=>D.cell (YZ c7 a5) O
  obtain⟨d1,d2,d3,d4,d5⟩:=f0.o Q a6.o;have d6:=(v 0).trans d1;have d7:=(v 1).trans d2;have d8:=(v 2).trans d3;have d9:=(v 3).trans d4;have e0:=(v 4).trans d5;have T:=Xq a5 D.size;have x:=YZ c7 T;have f3:Z _:=(e6.o.kept (b7.o.trans a6.o)).fr D O;clear D c8 d1 d2 d3 d4 d5 v;have i0:¬(h.W=0):=O;go_wp2_with fail;refine(a1.o _).mono ?_;rintro f V ⟨rfl,q⟩;have F:Z (Kept wr V):=q;have f4:=(q.cell (p:=⟨w.heap.size,0,none⟩) x).trans d6;have f5:=(q.cell (p:=⟨w.heap.size,1,none⟩) x).trans d7;have f6:=(q.cell (p:=⟨w.heap.size,2,none⟩) x).trans d8;have f7:=(q.cell (p:=⟨w.heap.size,3,none⟩) x).trans d9;have f8:=(q.cell (p:=⟨w.heap.size,4,none⟩) x).trans e0;have y:=Xq x q.size;have e1:=Xq T q.size;clear q d6 d7 d8 d9 e0;by_cases f9:e<j
  .have g0:(e:Int)<(j:Int):=O
   obtain⟨s,G⟩:∃s,s=e%h.W:=⟨_,rfl⟩;obtain⟨o,H⟩:∃o,o=e/h.W:=⟨_,rfl⟩;have g1:(e:Int)%(h.W:Int)=(s:Int):=by rw[G];exact(Yo _ _).symm
   have g2:(e:Int)/(h.W:Int)=(o:Int):=by rw[H];exact(YB _ _).symm
   have g3:s<16:=by rw[G];exact Xq (YD _ O) e7
   have g4:o<16:=by
    rw[H];exact Xq (YN (by rw[<-a2.o];exact f9)) e8
   have i1:(e:Int).tmod (h.W:Int)=(s:Int):=by rw[XU O];exact g1
   have i2:(e:Int).tdiv (h.W:Int)=(o:Int):=by rw[XZ O];exact g2
   have i3:IntKind.i64.wrap (o:Int)=(o:Int):=Xd;replace G:Z _:=G;replace H:Z _:=H;obtain⟨z,W⟩:∃z,z=pxP r t h s o:=⟨_,rfl⟩;have g5:Z (∀a,Kept V a->Calls prog 90 #[.agg #[.int .i64 h.W,.int .i64 h.H,.int .i64 h.D,.int .i64 h.K,.int .i64 h.L],.pointer (some ⟨b,o1,none⟩),.pointer (some ⟨b,o2,none⟩),.int .i64 s,.int .i64 o] a λf A=>f=.returned (.agg #[.int .i64 (z 0),.int .i64 (z 1),.int .i64 (z 2),.int .i64 (z 3)])/\Kept a A):=λa X=>by rw[W];exact wK b o1 o2 n s o c r t h a (f3.o.kept (F.o.trans X)) e5.o e4.o g3 g4
   replace W:Z _:=W;have a9:Z (∀a,Kept V a->(a.cell? ⟨w.heap.size,0,none⟩=some (.int .i64 h.W)/\a.cell? ⟨w.heap.size,1,none⟩=some (.int .i64 h.H)/\a.cell? ⟨w.heap.size,2,none⟩=some (.int .i64 h.D)/\a.cell? ⟨w.heap.size,3,none⟩=some (.int .i64 h.K)/\a.cell? ⟨w.heap.size,4,none⟩=some (.int .i64 h.L))):=λa e=>⟨(e.cell (p:=⟨w.heap.size,0,none⟩) y).trans f4,(e.cell (p:=⟨w.heap.size,1,none⟩) y).trans f5,(e.cell (p:=⟨w.heap.size,2,none⟩) y).trans f6,(e.cell (p:=⟨w.heap.size,3,none⟩) y).trans f7,(e.cell (p:=⟨w.heap.size,4,none⟩) y).trans f8⟩
   have g6:Z (∀J a,Kept V J->Fr1 m J a->(a.cell? ⟨w.heap.size,0,none⟩=some (.int .i64 h.W)/\a.cell? ⟨w.heap.size,1,none⟩=some (.int .i64 h.H)/\a.cell? ⟨w.heap.size,2,none⟩=some (.int .i64 h.D)/\a.cell? ⟨w.heap.size,3,none⟩=some (.int .i64 h.K)/\a.cell? ⟨w.heap.size,4,none⟩=some (.int .i64 h.L))):=λJ a e g7=>by
    obtain⟨b0,b1,b2,b3,g8⟩:=a9.o J e;have f:∀d,a.cell? ⟨w.heap.size,d,none⟩=J.cell? ⟨w.heap.size,d,none⟩:=λd=>g7.cell (Xq y e.size) O
    exact⟨(f 0).trans b0,(f 1).trans b1,(f 2).trans b2,(f 3).trans b3,(f 4).trans g8⟩
   go_wp2_with fail;go_region_held3 (λa=>a.cell? ⟨w.heap.size,0,none⟩=some (.int .i64 h.W)/\a.cell? ⟨w.heap.size,1,none⟩=some (.int .i64 h.H)/\a.cell? ⟨w.heap.size,2,none⟩=some (.int .i64 h.D)/\a.cell? ⟨w.heap.size,3,none⟩=some (.int .i64 h.K)/\a.cell? ⟨w.heap.size,4,none⟩=some (.int .i64 h.L)) (first|exact a9.o _ ((Kept.refl _).drewN 1)|exact g6.o _ _ K b4|exact a9.o _ K|go_keep) ((first|(go_at_call 90;refine(g5.o _ ((Kept.refl _).drewN 1)).mono ?_;rintro f i4 ⟨rfl,g9⟩;have K:=((Kept.refl _).drewN 1).trans g9)|(go_at_call 89;refine((λa b0 b1 b2 b3 X=>Ak m g e b0 b1 b2 b3 _ a (d0.o.kept (F.o.trans X) T) (Xq e1 X.size) (by have:=M.o;omega) O) _ _ _ _ _ K).mono ?_;rintro f h0 ⟨rfl,e2,b4⟩)))
   have h1:Z (di h0 m g (λd=>if d/4<e+1 then pxP r t h (d/4%h.W) (d/4/h.W) (d%4) else 0)):=e2.congr (λd _=>by
    by_cases Y:d/4=e
    .rw[I Y,I,Y,<-G.o,<-H.o,<-W.o]
     have h2:d%4<4:=YD _ O;generalize d%4=a7 at *
     match a7,h2 with
     | 0,_=>rfl
     | 1,_=>rfl
     | 2,_=>rfl
     | 3,_=>rfl
    .rw[N Y]
     by_cases e3:d/4<e
     .rw[I e3,I]
     .rw[N e3,N])
   have h3:Z _:=(c9.o.kept (F.o.trans K)).trans b4;clear e2 b4 K;go_wp2_with fail;go_roundg (j-(e+1))
   case measure=>rw[a8.o];omega
   case rel=>exact⟨e+1,rfl,O,Xj,h3.o,h1.o⟩
  .have g0:¬(e:Int)<(j:Int):=O
   go_wp2_with fail;go_ret;refine⟨m,by rw[<-a2.o,<-M.o];rfl,O,Xq e1 (E _),λd P => ?_,?_⟩
   .rw[<-a2.o,<-M.o] at P
    rw[F.o.cell (p:=⟨m,d,none⟩) T,d0.o.1 d P]
    have:=M.o
    show some (Value.int .i64 (if d/4<e then pxP r t h (d/4%h.W) (d/4/h.W) (d%4) else 0))=_
    rw[I]
   .exact Fr.to_kept (S:=λd=>d=m) (b7.o.trans a6.o) (c9.o.kept F.o) (λi i5 Y=>O)
