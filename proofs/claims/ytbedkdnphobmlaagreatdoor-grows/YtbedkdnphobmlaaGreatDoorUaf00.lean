import Derived.Test.YtbedkdnphobmlaaGreatDoorProg
import Derived.Test.YtbedkdnphobmlaaGreatDoorUaa00
import Derived.Test.YtbedkdnphobmlaaGreatDoorUaa01
import Derived.Test.YtbedkdnphobmlaaGreatDoorUaa03
import Derived.Test.YtbedkdnphobmlaaGreatDoorUaa04
import Derived.Test.YtbedkdnphobmlaaGreatDoorUaa05
import Derived.Test.YtbedkdnphobmlaaGreatDoorUaa06
import Derived.Test.YtbedkdnphobmlaaGreatDoorUaa07
import Derived.Test.YtbedkdnphobmlaaGreatDoorUaa13
import Derived.Test.YtbedkdnphobmlaaGreatDoorUaa14
import Derived.Test.YtbedkdnphobmlaaGreatDoorUaa16
import Derived.Test.YtbedkdnphobmlaaGreatDoorUaa18
import Derived.Test.YtbedkdnphobmlaaGreatDoorUaa19
import Derived.Test.YtbedkdnphobmlaaGreatDoorUaa21
import Derived.Test.YtbedkdnphobmlaaGreatDoorUaa23
import Derived.Test.YtbedkdnphobmlaaGreatDoorUaa27
import Derived.Test.YtbedkdnphobmlaaGreatDoorUaa32
import Derived.Test.YtbedkdnphobmlaaGreatDoorUaa33
import Derived.Test.YtbedkdnphobmlaaGreatDoorUaa34
import Derived.Test.YtbedkdnphobmlaaGreatDoorUab00
import Derived.Test.YtbedkdnphobmlaaGreatDoorUac00
import Derived.Test.YtbedkdnphobmlaaGreatDoorUac01
import Derived.Test.YtbedkdnphobmlaaGreatDoorUad00
set_option linter.all false
namespace Go.Proofs.YtbedkdnphobmlaaGreatDoor
open Go.RowKit Px Tryz
theorem fG:∀(k:Nat) (r:Rw),(cj k r).known=r.known
 | 0,_=>rfl
 | k+1,r=>by
  unfold cj;split
  .split
   .rfl
   .exact fG k _
  .rfl
theorem eA(r:Rw):r.next.known=r.known:=fG 8 _
theorem gZ h k:(Rw.start h k).known=λ_=>false:=by
 show(rw0 h k).next.known=_
 rw[eA];rfl
theorem hZ q a f:∀k b,b<k->(cO q a f k).smp (4*a+b)=f b
 | 0,b,c=>O
 | k+1,b,c=>by
  show upd (cO q a f k).smp (4*a+k) (f k) (4*a+b)=_
  by_cases d:b=k
  .subst d;rw[upd_same]
  .rw[upd_ne _ _ _ O];exact hZ q a f k b O
theorem eB q a f j(b:j<4*a\/4*a+4<=j):∀k,k<=4->(cO q a f k).smp j=q.smp j
 | 0,_=>rfl
 | k+1,c=>by
  show upd (cO q a f k).smp (4*a+k) (f k) j=_
  rw[upd_ne _ _ _ O];exact eB q a f j b k O
theorem gu r(e:chn r.hd.K<=4)(f:∀i k,i<k->r.pt i<r.pt k):∀m,(∀i a,i<m->a<chn r.hd.K->(aP r m).smp (4*r.pt i+a)=cE r (i*chn r.hd.K+a))/\(∀i,i<m->(aP r m).known (r.pt i)=true)/\(∀b,(∀i,i<m->b≠r.pt i)->(aP r m).known b=r.known b/\∀a,a<4->(aP r m).smp (4*b+a)=r.smp (4*b+a))
 | 0=>⟨λi a p=>O,λi p=>O,λb _=>⟨rfl,λa _=>rfl⟩⟩
 | m+1=>by
  obtain⟨q,s,l⟩:=gu r e f m;have n:(aP r (m+1)).smp=(cO (aP r m) (r.pt m) (λg=>cE r (m*chn r.hd.K+g)) (chn r.hd.K)).smp:=rfl;have o:(aP r (m+1)).known=upd (cO (aP r m) (r.pt m) (λg=>cE r (m*chn r.hd.K+g)) (chn r.hd.K)).known (r.pt m) true:=rfl;refine⟨λi a h c => ?_,λi h => ?_,λb d=>⟨?_,λa c => ?_⟩⟩
  .rw[n]
   by_cases j:i=m
   .subst j;exact hZ _ _ _ _ _ c
   .have:=f i m O
    rw[eB _ _ _ _ O _ e];exact q i a O c
  .rw[o]
   by_cases j:i=m
   .subst j;rw[upd_same]
   .have:=f i m O
    rw[upd_ne _ _ _ O,fX];exact s i O
  .rw[o,upd_ne _ _ _ (d m O),fX];exact(l b (λi h=>d i O)).1
  .have:=d m O
   rw[n,eB _ _ _ _ O _ e];exact(l b (λi h=>d i O)).2 a c
theorem mh{r:Rw}{x}(h:r.taken<r.size):(r.take x).1.known=r.known/\(r.take x).1.smp=r.smp:=by
 unfold Rw.take;split
 .exact⟨rfl,rfl⟩
 .split
  .unfold Rw.takeF
   split
   .exact⟨rfl,rfl⟩
   .exact⟨rfl,rfl⟩
  .rw[I];exact⟨rfl,rfl⟩
theorem kA{r x}(f:aN r=false)(g:r.taken≠0)(h:r.taken=r.size)(a:(r.take x).2=0)q(b:q=({r with taken:=r.taken+1}:Rw).lay (r.taken-1) x):(r.take x).1.known=(aP q r.columns).known/\(r.take x).1.smp=(aP q r.columns).smp:=by
 have c:r.take x=q.endRow:=by
  rw[b];unfold Rw.take;rw[f,N Xh,N g,N]
 have d:q.columns=r.columns:=by rw[b];rfl
 rw[c] at a ⊢;rw[<-d];clear b c d;unfold Rw.endRow at a ⊢;by_cases e:q.bad=true
 .rw[I e] at a
  exact absurd (show(16:Nat)=0 from a) Xh
 .rw[N e]
  show(if q.lines<=q.line+1 then q.laid.next else q.laid).known=_/\(if q.lines<=q.line+1 then q.laid.next else q.laid).smp=_
  split
  .exact⟨eA _,hS _⟩
  .exact⟨rfl,rfl⟩
def ptP(h:Hd)(q l i:Nat):Nat:=((ae h.L q).rf+l*(ae h.L q).rs)*16+((ae h.L q).cf+i*(ae h.L q).cs)
def CnP(h:Hd)(pl:List Int)(r:Rw):Prop:=∀x y,x<16->y<16->r.known (y*16+x)=true->x<h.W/\y<h.H/\∀c,c<chan h.K->r.smp (4*(y*16+x)+c)=(pl.getD ((y*h.W+x)*chan h.K+c) 0).toNat
def CvP(h:Hd)(r:Rw)(p k:Nat):Prop:=∀q l i,(q<p\/q=p/\l<k)->l<ao h q->i<aH h q->r.known (ptP h q l i)=true
def KpP(h:Hd)(pl:List Int)(r:Rw)(p k:Nat):Prop:=CnP h pl r/\CvP h r p k
theorem KpP.same{h pl r r' p k}(c:KpP h pl r p k)(a:r'.known=r.known)(b:r'.smp=r.smp):KpP h pl r' p k:=by
 unfold KpP CnP CvP at *;rw[a,b];exact c
theorem qg{h pl}(e:ax h.K h.D)(v:∀d∈pl,0<=d/\d<((2^h.D:Nat):Int)){q p k}(w:q.hd=h)(j:∀i,i<aO h p->q.row i=rvX h pl p k i){i c}(x:i<aH h p)(n:c<chan h.K):cE q (i*chan h.K+c)=(pl.getD (je h p k i+c) 0).toNat:=by
 have y:ck h=chan h.K*h.D:=by show chn h.K*h.D=_;rw[gf e]
 obtain⟨a,o⟩:∃a,a=i*chan h.K+c:=⟨_,rfl⟩;obtain⟨b,r⟩:∃b,b=aH h p*chan h.K:=⟨_,rfl⟩;have l:a<b:=by
  have:(i+1)*chan h.K<=aH h p*chan h.K:=XS _ x
  rw[YO,Zi] at this;omega
 have s:a/chan h.K=i/\a%chan h.K=c:=by
  rw[o,Zk i];exact⟨by rw[Nat.mul_add_div O,Nat.div_eq_of_lt n,X5],by rw[Nat.mul_add_mod,X1 n]⟩
 have f:=ey h pl p k e;have t:aO h p=(b*h.D+7)/8:=by unfold aO;rw[y,r,Y3]
 have z:(a+1)*h.D<=b*h.D:=XS _ l;rw[YO,Zi] at z;rw[<-o];unfold cE;rw[w];have m:=gK pl (je h p k) (chan h.K) b a l;rw[s.1,s.2] at m;rw[<-r] at f;have A:(0:Int)<=0/\(0:Int)<((2^h.D:Nat):Int):=by have:=Nat.two_pow_pos h.D;omega
 by_cases u:h.D<16
 .have g:h.D=1\/h.D=2\/h.D=4\/h.D=8:=by have:=e.d;omega
  have B:1<=h.D:=O;rw[I u,j _ (by rw[t];omega),f,hY g _ (gL (P:=λd=>0<=d/\d<((2^h.D:Nat):Int)) v A _ _ _) 0 _ a l,XD,m]
 .have g:h.D=16:=by have:=e.d;omega
  rw[g] at t f;rw[N u,g,show a*16/8=2*a from O,j _ O,j _ O,f,gG,gG,I,I,I,N,XD,XD,show 2*a/2=a from O,show(2*a+1)/2=a from O,m];omega
theorem kC{h p}(a:ax h.K h.D)(b:dk h p):1<=aO h p:=by
 unfold aO
 have:=lV a
 have:1*1<=aH h p*ck h:=XF b.1 this.1
 omega
theorem vc{h pl fl C}(e:eV h C (rvX h pl) (ffX h fl))(S:∀z∈pl,0<=z/\z<((2^h.D:Nat):Int)){r p k x}(s:RwP h C (rvX h pl) (ffX h fl) r p k (aO h p))(T:p<av h.L)(U:dk h p)(V:k<ao h p)(W:x=iV h (rvX h pl) (ffX h fl) p k (aO h p))(X:(r.take x).2=0)(A:KpP h pl r p k):KpP h pl (r.take x).1 p (k+1):=by
 have Y:=kC e.lg U;have B:=pQ e s Y (E _);rw[<-W] at B;obtain⟨b,D⟩:∃b,b=({r with taken:=r.taken+1}:Rw).lay (r.taken-1) x:=⟨_,rfl⟩;obtain⟨u,F⟩:=kA (s.nw T) (by rw[s.taken];omega) (by rw[s.taken,s.size]) X b D;have G:=s.taken;rw[s.columns] at u F;have Z:lu {r with taken:=r.taken+1} (r.taken-1) x=rvX h pl p k (aO h p-1):=by rw[G];exact B
 have d:b={r with taken:=aO h p+1,row:=upd r.row (aO h p-1) (rvX h pl p k (aO h p-1))}:=by
  rw[D];unfold Rw.lay;rw[Z,G]
 have a0:∀a,a<aO h p->b.row a=rvX h pl p k a:=λa c=>by
  rw[d];show upd r.row (aO h p-1) (rvX h pl p k (aO h p-1)) a=_
  by_cases v:a=aO h p-1
  .rw[v,upd_same]
  .rw[upd_ne _ _ _ v];exact s.row a O
 have H:b.hd=h:=by rw[d];exact s.hd
 have a1:b.line=k:=by rw[d];exact s.line
 have a2:b.ps=ae h.L p:=by
  have:b.ps=r.ps:=by rw[d];rfl
  rw[this];exact s.ps
 have I:b.known=r.known:=by rw[d]
 have a3:b.smp=r.smp:=by rw[d]
 have g:∀a,b.pt a=ptP h p k a:=λa=>by unfold Rw.pt Rw.py Rw.px ptP;rw[a2,a1]
 have J:=cr h.L p;have M:chn b.hd.K=chan h.K:=by rw[H];exact gf e.lg
 have a4:=bI (K:=h.K);obtain⟨N,a5,P⟩:=gu b (by rw[M];exact a4.2) (λa a6 a7=>by
  rw[g,g];unfold ptP
  have:a*(ae h.L p).cs<a6*(ae h.L p).cs:=Nat.mul_lt_mul_of_pos_right a7 O
  omega) (aH h p)
 rw[M] at N;refine⟨λi j a8 a9 w => ?_,λy l a b0 b1 c => ?_⟩
 .rw[u] at w
  rw[F];by_cases f:∃a,a<aH h p/\j*16+i=b.pt a
  .obtain⟨a,c,m⟩:=f
   have c1:=dQ J.2.1 c;have c2:=dQ J.2.2.2.2.2.1 V;have c3:=e.W2;have Q:=m;rw[g] at Q;unfold ptP at Q;have b2:i=(ae h.L p).cf+a*(ae h.L p).cs:=O;have b3:j=(ae h.L p).rf+k*(ae h.L p).rs:=O;refine⟨O,O,λn o => ?_⟩;rw[m,N a n c o,qg e.lg S H a0 c o];unfold je;rw[<-b2,<-b3]
  .obtain⟨b4,b5⟩:=P (j*16+i) (λa c b=>f ⟨a,c,b⟩)
   rw[b4,I] at w;obtain⟨b6,b7,b8⟩:=A.1 i j a8 a9 w;refine⟨b6,b7,λn o => ?_⟩;rw[b5 n O,a3];exact b8 n o
 .rw[u]
  by_cases f:∃q,q<aH h p/\ptP h y l a=b.pt q
  .obtain⟨q,b9,m⟩:=f
   rw[m];exact a5 q b9
  .rw[(P (ptP h y l a) (λa c b=>f ⟨a,c,b⟩)).1,I]
   refine A.2 y l a ?_ b1 c;rcases b0 with t|⟨t,v⟩
   .exact L t
   .refine R ⟨t,?_⟩
    by_cases c0:l=k
    .exfalso
     subst t;subst c0;exact f ⟨a,c,(g a).symm⟩
    .omega
theorem hF{h pl fl C r p k}(e:eV h C (rvX h pl) (ffX h fl))(s:RwP h C (rvX h pl) (ffX h fl) r p k 0)(c:p<av h.L)(i:dk h p)(j:k<ao h p)(l:KpP h pl r p k):∀a,a<=aO h p->∃d,RWL r (hJ h (rvX h pl) (ffX h fl) p k a) d/\RwP h C (rvX h pl) (ffX h fl) d p k a/\KpP h pl d p k
 | 0,_=>⟨r,rfl,s,l⟩
 | a+1,u=>by
  obtain⟨m,n,b,o⟩:=hF e s c i j l a O;obtain⟨q,f,t⟩:=pU e b c i O;have g:=mh (r:=m) (x:=iV h (rvX h pl) (ffX h fl) p k a) (by rw[b.taken,b.size];omega);rw[f] at g;refine⟨q,?_,t,o.same g.1 g.2⟩;unfold hJ;rw[List.range_succ,Zf];exact n.append ⟨b.good e c j O,by rw[f],by rw[f];rfl⟩
theorem kG{h pl fl C r p k}(e:eV h C (rvX h pl) (ffX h fl))(l:∀i∈pl,0<=i/\i<((2^h.D:Nat):Int))(s:RwP h C (rvX h pl) (ffX h fl) r p k 0)(a:p<av h.L)(f:dk h p)(b:k<ao h p)(m:KpP h pl r p k):∃c,RWL r (hJ h (rvX h pl) (ffX h fl) p k (aO h p+1)) c/\(k+1<ao h p->RwP h C (rvX h pl) (ffX h fl) c p (k+1) 0)/\(k+1=ao h p->AtP h C (rvX h pl) (ffX h fl) c (p+1))/\KpP h pl c p (k+1):=by
 obtain⟨v,n,g,o⟩:=hF e s a f b m (aO h p) (E _);obtain⟨q,d,t,u⟩:=mi e g a f b;have j:=vc e l g a f b rfl (by rw[d]) o;rw[d] at j;refine⟨q,?_,t,u,j⟩;unfold hJ;rw[List.range_succ,Zf];exact n.append ⟨g.good e a b (E _),by rw[d],by rw[d];rfl⟩
theorem gj{h pl fl C r p}(e:eV h C (rvX h pl) (ffX h fl))(c:∀d∈pl,0<=d/\d<((2^h.D:Nat):Int))(s:RwP h C (rvX h pl) (ffX h fl) r p 0 0)(f:p<av h.L)(b:dk h p)(g:KpP h pl r p 0):∀k,k<=ao h p->∃a,RWL r (fV h (rvX h pl) (ffX h fl) p k) a/\(k<ao h p->RwP h C (rvX h pl) (ffX h fl) a p k 0)/\(k=ao h p->AtP h C (rvX h pl) (ffX h fl) a (p+1))/\KpP h pl a p k
 | 0,_=>⟨r,rfl,λ_=>s,λu=>by have:=b.2;omega,g⟩
 | k+1,v=>by
  obtain⟨w,i,j,_,l⟩:=gj e c s f b g k O;obtain⟨m,n,o,q,t⟩:=kG e c (j O) f b O l;refine⟨m,?_,o,q,t⟩;unfold fV;rw[List.range_succ,List.flatMap_append];refine i.append ?_;rw[List.flatMap_cons,List.flatMap_nil,XN];exact n
theorem KpP.up{h pl r p}(c:KpP h pl r p (ao h p)):KpP h pl r (p+1) 0:=by
 refine⟨c.1,λa d e i b f=>c.2 a d e ?_ b f⟩;by_cases g:a=p
 .subst g;exact R ⟨rfl,b⟩
 .exact L O
theorem KpP.over{h pl r p}(c:KpP h pl r p 0)(b:¬dk h p):KpP h pl r (p+1) 0:=by
 refine⟨c.1,λa d e j f g => ?_⟩;by_cases i:a=p
 .subst i;exact absurd ⟨O,O⟩ b
 .exact c.2 a d e (L O) f g
theorem cS{h pl fl C}(e:eV h C (rvX h pl) (ffX h fl))(i:∀t∈pl,0<=t/\t<((2^h.D:Nat):Int)):∀(n p:Nat) (r:Rw),p+n=av h.L->AtP h C (rvX h pl) (ffX h fl) r p->KpP h pl r p 0->∃u,RWL r ((List.range' p n).flatMap (fpN h (rvX h pl) (ffX h fl))) u/\KpP h pl u (av h.L) 0
 | 0,p,r,v,j,kp=>⟨r,rfl,by rw[<-v];exact kp⟩
 | n+1,p,r,v,j,kp=>by
  rw[List.range'_succ,List.flatMap_cons];by_cases a:dk h p
  .have x:RwP h C (rvX h pl) (ffX h fl) r p 0 0:=by
    rcases j with⟨c,b,d,f,k,g⟩|⟨b,_⟩
    .by_cases l:c=p
     .rw[l] at g;exact g
     .exact absurd a (k p (E _) O)
    .exact absurd a (b p (E _) O)
   obtain⟨y,z,_,A,m⟩:=gj e i x O a kp (ao h p) (E _);obtain⟨B,D,F⟩:=cS e i n (p+1) y O (A rfl) m.up;have o:fpN h (rvX h pl) (ffX h fl) p=fV h (rvX h pl) (ffX h fl) p (ao h p):=by unfold fpN;rw[N (by have:=a.1;omega)]
   rw[o];exact⟨B,z.append D,F⟩
  .have o:fpN h (rvX h pl) (ffX h fl) p=[]:=by
    unfold fpN;by_cases w:aH h p=0
    .rw[I w]
    .rw[N w]
     have:ao h p=0:=by
      by_cases m:ao h p=0
      .exact m
      .exact absurd ⟨O,O⟩ a
     rw[this];rfl
   rw[o,Ze];refine cS e i n (p+1) r O ?_ (kp.over a);rcases j with⟨c,b,d,f,k,g⟩|⟨b,d⟩
   .by_cases l:c=p
    .rw[l] at f;exact absurd f a
    .exact L ⟨c,O,d,f,λq G s=>k q O s,g⟩
   .exact R ⟨λq G s=>b q O s,d⟩
theorem RWL.det:∀{l:List Nat} {r a b:Rw},RWL r l a->RWL r l b->a=b
 | [],r,a,b,c,k=>c.symm.trans k
 | x::l,r,a,b,c,k=>RWL.det c.2.2 k.2.2
theorem qT:∀x,x<16->∀b,b<16->∃a,a<7/\(ae 1 a).cf<=x/\(x-(ae 1 a).cf)%(ae 1 a).cs=0/\(ae 1 a).rf<=b/\(b-(ae 1 a).rf)%(ae 1 a).rs=0:=Xl
theorem jv{f s n x}(a:f<=x)(b:x<n):(x-f)/s<dh f s n:=by
 unfold dh;rw[N]
 have:=Nat.div_le_div_right (c:=s) (show x-f<=n-f-1 from O)
 omega
theorem iu{a s}(h:a%s=0):a/s*s=a:=Nat.div_mul_cancel (Nat.dvd_of_mod_eq_zero h)
theorem kW{h r}(m:h.L<=1)(n:h.W<=16)(o:h.H<=16)(e:CvP h r (av h.L) 0){x y}(f:x<h.W)(g:y<h.H):r.known (y*16+x)=true:=by
 have i:∃a,a<av h.L/\(ae h.L a).cf<=x/\(x-(ae h.L a).cf)%(ae h.L a).cs=0/\(ae h.L a).rf<=y/\(y-(ae h.L a).rf)%(ae h.L a).rs=0:=by
  by_cases b:h.L=1
  .rw[b]
   exact qT x O y O
  .refine⟨0,by unfold av;rw[N b];omega,?_⟩
   have:ae h.L 0=⟨0,1,1,0,1,1⟩:=by unfold ae;rw[N (λa=>b a.1)]
   rw[this];exact⟨X3 _,Nat.mod_one _,X3 _,Nat.mod_one _⟩
 obtain⟨a,j,c,k,d,l⟩:=i
 have:=e a ((y-(ae h.L a).rf)/(ae h.L a).rs) ((x-(ae h.L a).cf)/(ae h.L a).cs) (L j) (jv d g) (jv c f)
 unfold ptP at this;rw[iu k,iu l,Nat.add_sub_cancel' c,Nat.add_sub_cancel' d] at this;exact this
def iZ(h:Hd)(pl:List Int)(r:Rw):Prop:=CnP h pl r/\∀x y,x<h.W->y<h.H->r.known (y*16+x)=true
theorem kF{W H K D L pal clr pix fl}(a:cu W H K D pal clr pix)(d:L<=1)(i:∀b∈fl,0<=b/\b<=4){r'}(g:RWL (Rw.start ⟨W,H,D,K,L⟩ (dD K pal)) ((List.range' 0 (av L)).flatMap (fpN ⟨W,H,D,K,L⟩ (rvX ⟨W,H,D,K,L⟩ pix) (ffX ⟨W,H,D,K,L⟩ fl))) r'):iZ ⟨W,H,D,K,L⟩ pix r':=by
 have e:=tr (fl:=fl) a d i;obtain⟨n,j,f⟩:=cS e (fF a) (av L) 0 _ (by show 0+av L=av L;omega) (mr e) ⟨λk b _ _ c=>by rw[gZ] at c;exact absurd (show false=true from c) Xh,λc o p q=>O⟩;rw[g.det j];exact⟨f.1,λk b l m=>kW (h:=⟨W,H,D,K,L⟩) d a.w2 a.h2 f.2 l m⟩
theorem nJ{W H D K L P V pal clr pix fl kl cl s}(h:dp W H D K L P V pal clr pix fl kl s)(d:cu W H K D pal clr pix)(b:rG L P V fl kl cl):∃a,Rn rd0 (aj s) a/\a.part=5/\a.hd=⟨W,H,D,K,L⟩/\vS a.rw/\aZ a/\fN K pal clr a.tl/\iZ ⟨W,H,D,K,L⟩ pix a.rw:=by
 obtain⟨m,rfl,c⟩:=h;rw[fu (jV d b.l c.byte)];obtain⟨a,e,f,g,i,j,k,l⟩:=jU d b.l b.fb (eE (R trivial) b.fb _) c.ne c.byte c.len.2 c.str;exact⟨a,e,f,g,i,j,k,kF d b.l b.fb l⟩
theorem bX{D v}(a:D=1\/D=2\/D=4\/D=8\/D=16):v*aY D=wdN D v:=by
 unfold wdN aY;rcases a with rfl|rfl|rfl|rfl|rfl
 .show v*65535=v*65535/1;omega
 .show v*21845=v*65535/3;omega
 .show v*4369=v*65535/15;omega
 .show v*257=v*65535/255;omega
 .show v*1=v*65535/65535;omega
def SmK(K:Nat)(pix:List Int)(k s0 s1 s2 s3:Nat):Prop:=∀c,c<chan K->aG (s0:Int) s1 s2 s3 c=pix.getD (k*chan K+c) 0
theorem oh{wd H K D k s0 s1 s2 s3 pal clr pix t}(g:cu wd H K D pal clr pix)(h:fN K pal clr t)(A:K=0\/K=2)(p:k<wd*H)(i:SmK K pix k s0 s1 s2 s3):alP t (chn K) (aG s0 s1 s2 s3)=if decide ((pix.drop (k*chan K)).take (chan K)=clr) then 0 else 65535:=by
 have b:=bI (K:=K);have j:=gf g.lg;have B:k*chan K+chan K<=pix.length:=by
  rw[g.pixL]
  have:(k+1)*chan K<=wd*H*chan K:=XS _ p
  rw[YO,Zi] at this;exact this
 have e:((pix.drop (k*chan K)).take (chan K)).length=chan K:=by rw[Yd,Yn];omega
 have l:=h.clears;rw[N] at l;rcases g.clr with q|⟨_,r,s⟩|⟨C,_⟩
 .subst q
  rw[oj (by rw[l];rfl),J (λc=>by rw[c] at e;simp at e;omega)];rfl
 .have m:¬t.clears=0:=O
  have n:∀a,a<chan K->((pix.drop (k*chan K)).take (chan K)).getD a 0=pix.getD (k*chan K+a) 0:=λa b=>by
   rw[G,List.getElem?_take_of_lt b,Y1,<-G]
  have o:∀a,a<chan K->(t.smp a:Int)=clr.getD a 0:=λa b=>by
   rw[h.clrN O a O]
   have:=s _ (az (show a<clr.length from O))
   omega
  by_cases c:(pix.drop (k*chan K)).take (chan K)=clr
  .rw[decide_eq_true c,rC m (λa b=>by
    rw[j] at b;rw[i a b,o a b,<-c,n a b])];rfl
  .rw[J c]
   have u:∃a,a<chan K/\aG (s0:Int) s1 s2 s3 a≠(t.smp a:Int):=by
    apply Yc;intro v;apply c;refine ga (by rw[e,r]) (λf d => ?_);rw[e] at d;apply Yc;intro w;refine v ⟨f,d,λx=>w ?_⟩;rw[n f d,<-i f d,x,o f d]
   obtain⟨a,y,z⟩:=u;rw[rB m a (by rw[j];exact y) z];rfl
 .omega
theorem iP x wd H K D L P V Z k s0 s1 n p pp qp xp fp kp cp pc qc xc fc kc cc pal clr pix fl kl cl t w(h:Dk w x wd H K D L P V Z pp qp xp fp kp cp pc qc xc fc kc cc pal clr pix fl kl cl)(A:fN K pal clr t)(T:k<wd*H)(hs:SmK K pix k s0 s1 n p):Calls prog 29 #[.pointer (some ⟨x,0,none⟩),.int .i64 k] w λa q=>dg w (dY t ⟨wd,H,D,K,L⟩ s0 s1 n p 0) (dY t ⟨wd,H,D,K,L⟩ s0 s1 n p 1) (dY t ⟨wd,H,D,K,L⟩ s0 s1 n p 2) (dY t ⟨wd,H,D,K,L⟩ s0 s1 n p 3) a q:=by
 have f:=h.im;have r:=bI (K:=K);have e:=f.lg.d;have c1:=XF f.w2 f.h2;have E:k*chan K+chan K<=pix.length:=by
  rw[f.pixL]
  have:(k+1)*chan K<=wd*H*chan K:=XS _ T
  rw[YO,Zi] at this;exact this
 have c2:=h.kx;obtain⟨u,v,R,_⟩:=h.lx.cellAt (k*chan K) O;have g:∀d,d<chan K->w.cell? ⟨u,v+(k*chan K+d),none⟩=some (.int .i64 (pix.getD (k*chan K+d) 0)):=λd r=>by
  obtain⟨b1,b2,a,b⟩:=h.lx.cellAt (k*chan K+d) O;rw[R] at a
  injection a with a
  injection a with U W
  subst U;subst W;exact b
 have c3:=dS e;have i:∀d,d<chan K->0<=pix.getD (k*chan K+d) 0/\pix.getD (k*chan K+d) 0<65536:=λd r=>by
  have:=(fF f) _ (az (show k*chan K+d<pix.length from O))
  omega
 have B:=h.c6;rw[R] at B;rcases gF f.lg with rfl|rfl|rfl|rfl|rfl
 .have j:chan 0=1:=rfl
  rw[j] at E g i;have c:=hs 0 Xh;have l:=g 0 O;have z:=i 0 O;rw[j] at c;replace c:(s0:Int)=pix.getD (k*1+0) 0:=c;rw[<-c] at l z;have X:∀o,Kept w o->Calls prog 27 #[.slice (some ⟨u,v+k*1,none⟩) 1 (xc-k*1),.slice qp clr.length qc] o λa q=>a=.returned (.bool (decide ((pix.drop (k*1)).take 1=clr)))/\Kept o q:=λo F=>by
   have G:=h.lx;rw[R] at G;have Y:=(G.kept F).part (k*1) 1 (xc-k*1) O;have J:((pix.drop (k*1)).take 1).length=1:=by rw[Yd,Yn];omega
   refine bY _ _ 1 clr.length _ _ _ clr o J.symm rfl (by rw[J];exact Y) (h.lq.kept F) O ?_;rcases f.clr with a|⟨_,a,_⟩|⟨a,_⟩
   .rw[a];exact X3 _
   .omega
   .omega
  have:=xF x k D pix.length xc u v clr.length qc s0 qp _ w h.c2 h.c3 h.c5 B O O e l O X
  rw[rq rfl,oh f A O T hs];refine this.mono (λa q b=>b.of ?_ ?_ ?_ rfl)<;>(show((wdN D s0:Nat):Int)=((s0*aY D:Nat):Int))<;>rw[bX e]
 .have j:chan 2=3:=rfl
  rw[j] at E g i;have c:=hs 0 Xh;have m:=hs 1 Xh;have s:=hs 2 Xh;have l:=g 0 O;have y:=g 1 O;have M:=g 2 O;have z:=i 0 O;have Q:=i 1 O;have a0:=i 2 O;rw[j] at c m s;replace c:(s0:Int)=pix.getD (k*3+0) 0:=c;replace m:(s1:Int)=pix.getD (k*3+1) 0:=m;replace s:(n:Int)=pix.getD (k*3+2) 0:=s;rw[<-c] at l z;rw[<-m] at y Q;rw[<-s] at M a0;have X:∀o,Kept w o->Calls prog 27 #[.slice (some ⟨u,v+k*3,none⟩) 3 (xc-k*3),.slice qp clr.length qc] o λa q=>a=.returned (.bool (decide ((pix.drop (k*3)).take 3=clr)))/\Kept o q:=λo F=>by
   have G:=h.lx;rw[R] at G;have Y:=(G.kept F).part (k*3) 3 (xc-k*3) O;have J:((pix.drop (k*3)).take 3).length=3:=by rw[Yd,Yn];omega
   refine bY _ _ 3 clr.length _ _ _ clr o J.symm rfl (by rw[J];exact Y) (h.lq.kept F) O ?_;rcases f.clr with a|⟨_,a,_⟩|⟨a,_⟩
   .rw[a];exact X3 _
   .omega
   .omega
  have:=xE x k D pix.length xc u v clr.length qc s0 s1 n qp _ w h.c2 h.c3 h.c5 B O O e l O y O M O X
  rw[rp rfl,oh f A O T hs];refine this.mono (λa q b=>b.of ?_ ?_ ?_ rfl)
  .show((wdN D s0:Nat):Int)=((s0*aY D:Nat):Int);rw[bX e]
  .show((wdN D s1:Nat):Int)=((s1*aY D:Nat):Int);rw[bX e]
  .show((wdN D n:Nat):Int)=((n*aY D:Nat):Int);rw[bX e]
 .have j:chan 3=1:=rfl
  rw[j] at E g i;have c:=hs 0 Xh;have l:=g 0 O;rw[j] at c;replace c:(s0:Int)=pix.getD (k*1+0) 0:=c;rw[<-c,Nat.mul_one,X5] at l;obtain⟨b3,c4,c5,c6⟩:=f.pal3 rfl;have b4:D=1\/D=2\/D=4\/D=8:=by have:=f.lg;unfold ax at this;omega
  have c7:=eg b4;have c8:s0<b3:=by
   have:=f.pixB _ (az (show k*1+0<pix.length from O))
   rw[I rfl,<-c] at this;omega
  obtain⟨a4,a5,a6,_⟩:=h.lp.cellAt 0 O;have a1:∀d,d<pal.length->w.cell? ⟨a4,a5+d,none⟩=some (.int .i64 ((t.pal d:Nat):Int)):=λd r=>by
   obtain⟨b1,b2,a,b⟩:=h.lp.cellAt d r;rw[a6] at a
   injection a with a
   injection a with U W
   subst U;subst W
   have:=f.palB _ (az r)
   rw[b,A.pal d r]
   congr 2;omega
  have a2:∀d,d<pal.length->t.pal d<256:=λd r=>by
   have:=f.palB _ (az r)
   rw[A.pal d r];omega
  have a7:=h.c4;rw[a6] at a7;have c9:=h.kp;obtain⟨C,b5,a8⟩:∃C:Nat,C<256/\(s0<clr.length->t.clear s0=C/\clr.getD s0 0=(C:Int)):=by
   by_cases b:s0<clr.length
   .rcases f.clr with a|⟨a,_⟩|⟨_,_,_,b6⟩
    .rw[a] at b;simp at b
    .omega
    .have:=b6 _ (az b)
     exact⟨(clr.getD s0 0).toNat,O,λ_=>⟨A.clr3 rfl s0 b,O⟩⟩
   .exact⟨0,O,λa3=>absurd a3 b⟩
  have a9:=A.clears;rw[I rfl] at a9
  have:=xD x k D s0 clr.length pix.length pal.length xc pc qc u v a4 a5 (t.pal (3*s0)) (t.pal (3*s0+1)) (t.pal (3*s0+2)) C qp w h.c2 a7 h.c5 B O O O O l (a1 _ O) (a1 (3*s0+1) O) (a1 (3*s0+2) O) (a2 _ O) (a2 _ O) (a2 _ O) b5 (λb=>by
   obtain⟨b7,b8,a,a3⟩:=h.lq.cellAt s0 b;exact⟨b7,b8,a,by rw[a3,(a8 b).2]⟩)
  have b9:gU t s0=aG ((t.pal (3*s0)*257:Nat):Int) ((t.pal (3*s0+1)*257:Nat):Int) ((t.pal (3*s0+2)*257:Nat):Int) ((if s0<clr.length then C*257 else 65535:Nat):Int):=by
   unfold gU;rw[I,a9];by_cases b:s0<clr.length
   .rw[I b,I b,(a8 b).1]
   .rw[N b,N b]
  rw[rn rfl,b9];exact this
 .have j:chan 4=2:=rfl
  rw[j] at E g i;have c:=hs 0 Xh;have m:=hs 1 Xh;have l:=g 0 O;have y:=g 1 O;have z:=i 0 O;have Q:=i 1 O;rw[j] at c m;replace c:(s0:Int)=pix.getD (k*2+0) 0:=c;replace m:(s1:Int)=pix.getD (k*2+1) 0:=m;rw[<-c] at l z;rw[<-m] at y Q
  have:=xC x k D pix.length xc u v s0 s1 w h.c2 h.c3 B O O e l O y O
  rw[rm rfl];refine this.mono (λa q b=>b.of ?_ ?_ ?_ ?_)
  .show((wdN D s0:Nat):Int)=((s0*aY D:Nat):Int);rw[bX e]
  .show((wdN D s0:Nat):Int)=((s0*aY D:Nat):Int);rw[bX e]
  .show((wdN D s0:Nat):Int)=((s0*aY D:Nat):Int);rw[bX e]
  .show((wdN D s1:Nat):Int)=((s1*aY D:Nat):Int);rw[bX e]
 .have j:chan 6=4:=rfl
  rw[j] at E g i;have c:=hs 0 Xh;have m:=hs 1 Xh;have s:=hs 2 Xh;have S:=hs 3 Xh;have l:=g 0 O;have y:=g 1 O;have M:=g 2 O;have b0:=g 3 O;have z:=i 0 O;have Q:=i 1 O;have a0:=i 2 O;have c0:=i 3 O;rw[j] at c m s S;replace c:(s0:Int)=pix.getD (k*4+0) 0:=c;replace m:(s1:Int)=pix.getD (k*4+1) 0:=m;replace s:(n:Int)=pix.getD (k*4+2) 0:=s;replace S:(p:Int)=pix.getD (k*4+3) 0:=S;rw[<-c] at l z;rw[<-m] at y Q;rw[<-s] at M a0;rw[<-S] at b0 c0
  have:=xB x k D pix.length xc u v s0 s1 n p w h.c2 h.c3 B O O e l O y O M O b0 O
  rw[rl (show(6:Nat)≠3 from Xh) (show(6:Nat)≠0 from Xh) (show(6:Nat)≠4 from Xh) (show(6:Nat)≠2 from Xh)];refine this.mono (λa q b=>b.of ?_ ?_ ?_ ?_)
  .show((wdN D s0:Nat):Int)=((s0*aY D:Nat):Int);rw[bX e]
  .show((wdN D s1:Nat):Int)=((s1*aY D:Nat):Int);rw[bX e]
  .show((wdN D n:Nat):Int)=((n*aY D:Nat):Int);rw[bX e]
  .show((wdN D p:Nat):Int)=((p*aY D:Nat):Int);rw[bX e]
