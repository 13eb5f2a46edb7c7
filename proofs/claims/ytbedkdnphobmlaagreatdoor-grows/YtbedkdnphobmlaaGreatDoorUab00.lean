import Derived.Test.YtbedkdnphobmlaaGreatDoorProg
import Derived.Test.YtbedkdnphobmlaaGreatDoorUaa00
import Derived.Test.YtbedkdnphobmlaaGreatDoorUaa01
import Derived.Test.YtbedkdnphobmlaaGreatDoorUaa02
import Derived.Test.YtbedkdnphobmlaaGreatDoorUaa03
import Derived.Test.YtbedkdnphobmlaaGreatDoorUaa04
import Derived.Test.YtbedkdnphobmlaaGreatDoorUaa05
import Derived.Test.YtbedkdnphobmlaaGreatDoorUaa06
import Derived.Test.YtbedkdnphobmlaaGreatDoorUaa07
import Derived.Test.YtbedkdnphobmlaaGreatDoorUaa09
import Derived.Test.YtbedkdnphobmlaaGreatDoorUaa11
import Derived.Test.YtbedkdnphobmlaaGreatDoorUaa12
import Derived.Test.YtbedkdnphobmlaaGreatDoorUaa13
import Derived.Test.YtbedkdnphobmlaaGreatDoorUaa14
import Derived.Test.YtbedkdnphobmlaaGreatDoorUaa16
import Derived.Test.YtbedkdnphobmlaaGreatDoorUaa18
import Derived.Test.YtbedkdnphobmlaaGreatDoorUaa19
import Derived.Test.YtbedkdnphobmlaaGreatDoorUaa20
import Derived.Test.YtbedkdnphobmlaaGreatDoorUaa21
import Derived.Test.YtbedkdnphobmlaaGreatDoorUaa22
import Derived.Test.YtbedkdnphobmlaaGreatDoorUaa23
import Derived.Test.YtbedkdnphobmlaaGreatDoorUaa24
import Derived.Test.YtbedkdnphobmlaaGreatDoorUaa32
import Derived.Test.YtbedkdnphobmlaaGreatDoorUaa33
import Derived.Test.YtbedkdnphobmlaaGreatDoorUaa34
set_option linter.all false
set_option maxRecDepth 100000
set_option maxHeartbeats 0
namespace Go.Proofs.YtbedkdnphobmlaaGreatDoor
open Go.RowKit Px Tryz
theorem jt:∀(l:List Nat) {a b:St} {r r':Rw},StB a->RwJ r->BR 0 a r (bW l) b r'->StB b/\RwJ r'
 | [],a,b,r,r',h1,h2,c=>by
  obtain⟨f,g⟩:=c;subst f g;exact⟨h1,h2⟩
 | x::l,a,b,r,r',h1,h2,c=>by
  rw[cU] at c;obtain⟨m,n,h,d⟩:=c.split O;rw[aU] at d;obtain⟨i,o⟩:=h.byte;obtain⟨p,e⟩:=jx (x:=x) h1 h2;rw[i] at e;obtain⟨j,k⟩:=e rfl;exact jt l j k d
theorem ZR.split{a b st st' r r'}(h:ZR st r (a++b) st' r'):∃d e,ZR st r a d e/\ZR d e b st' r':=by
 have f:=h.br;rw[iO] at f;obtain⟨d,e,g,c⟩:=f.split O;rw[fq,show(0+8*a.length)%8=0 from O] at c;obtain⟨j,k⟩:=jt a h.sb h.rj g;refine⟨d,e,⟨h.sb,h.rj,g,λi => ?_⟩,⟨j,k,c,h.fin⟩⟩;cases b with
 | nil=>
  obtain⟨l,m⟩:=c;subst l m;exact h.fin i
 | cons n o=>
  rw[cU] at c;exact absurd i c.1
def aK(PL:List (List Nat)):List Nat:=PL.flatMap (chN ar)
theorem fI:∀(PL:List (List Nat)) {s:Rd} {c d:St} {r r':Rw} {h:Hd} {a:Bool},BD s c r h a->1<=h.W->(h.K=3->a=true)->(∀e∈PL,(∀k∈e,k<256)/\e.length<2000000)->ZR c r PL.flatten d r'->∃f,Rn s (aK PL) f/\BD f d r' h a
 | [],s,c,d,r,r',h,a,b,_,_,_,z=>by
  obtain⟨l,m⟩:=z.nil;subst l m;exact⟨s,rfl,b⟩
 | e::PL,s,c,d,r,r',h,a,b,g,i,j,z=>by
  rw[List.flatten_cons] at z;obtain⟨B,C,n,o⟩:=z.split;obtain⟨p,q⟩:=j e Xi;obtain⟨D,t,u⟩:=oX b g i p q n;obtain⟨v,w,x⟩:=fI PL u g i (λy A=>j y (by simp[A])) o;refine⟨v,?_,x⟩;unfold aK;rw[List.flatMap_cons];exact t.append w
theorem gw{l PL s st' r' h sp sc C}(b:Bnd s h sp sc C)(c:1<=h.W)(d:h.K=3->sp=true)(e:∀a∈l::PL,(∀i∈a,i<256)/\a.length<2000000)(f:ZR St.start (Rw.start h C) (l::PL).flatten st' r'):∃g,Rn s (aK (l::PL)) g/\BD g st' r' h sp:=by
 rw[List.flatten_cons] at f;obtain⟨v,w,j,k⟩:=f.split;obtain⟨m,n⟩:=e l Xi;obtain⟨x,o,p⟩:=ns b c d m n j;obtain⟨q,r,t⟩:=fI PL p c d (λa u=>e a (by simp[u])) k;refine⟨q,?_,t⟩;unfold aK;rw[List.flatMap_cons];exact o.append r
theorem gC:∀(l:List Int) (i:Nat),i<l.length->(nl (cQ l)).getD (2*i) 0=(l.getD i 0/256).toNat/\(nl (cQ l)).getD (2*i+1) 0=(l.getD i 0%256).toNat
 | [],i,a=>by simp at a
 | x::l,0,_=>⟨rfl,rfl⟩
 | x::l,i+1,a=>by
  have b:nl (cQ (x::l))=(x/256).toNat::(x%256).toNat::nl (cQ l):=rfl;rw[b,show 2*(i+1)=2*i+1+1 from O,Zc,Zc,Zc,Zc,Zc];exact(gC l i (by simpa using a))
theorem mf{l}(h:∀b∈l,0<=b/\b<65536):isBytes (cQ l):=by
 intro b a;unfold cQ at a;rw[List.mem_flatMap] at a;obtain⟨c,d,a⟩:=a
 have:=h c d
 simp only[Y4,List.not_mem_nil,or_false] at a;omega
def dD(K:Nat)(pal:List Int):Nat:=if K=3 then pal.length/3 else 0
theorem jZ{W H K D pal clr pix}(a:cu W H K D pal clr pix):dD K pal<=256:=by
 unfold dD;split
 .rename_i b
  obtain⟨d,e,f,g⟩:=a.pal3 b;have c:D=1\/D=2\/D=4\/D=8:=by have:=a.lg;unfold ax at this;omega
  have:=eg c
  omega
 .omega
def du(W H D K L:Nat)(pal clr:List Int):List Nat:=nl eu++(chN bt (hdN W H D K L)++(nl (palB pal)++nl (dK K clr)))
structure fN (K:Nat) (pal clr:List Int) (t:Tl):Prop where
 pal:∀i,i<pal.length->t.pal i=(pal.getD i 0).toNat
 clears:t.clears=if K=3 then clr.length else 2*clr.length
 clr3:K=3->∀i,i<clr.length->t.clear i=(clr.getD i 0).toNat
 clrN:K≠3->∀i,i<clr.length->t.smp i=(clr.getD i 0).toNat
theorem mV l i(h:i<l.length):(nl l).getD i 0=(l.getD i 0).toNat:=by
 unfold nl;rw[G,G,XQ,Xt h];rfl
theorem fo{W H K D L pal clr pix s1}(d:cu W H K D pal clr pix)(f:Bnd s1 ⟨W,H,D,K,L⟩ false false 0)(g:s1.tl=tl0):∃c,Rn s1 (nl (palB pal)) c/\Bnd c ⟨W,H,D,K,L⟩ (decide (K=3)) false (dD K pal)/\(∀a,a<pal.length->c.tl.pal a=(pal.getD a 0).toNat)/\c.tl.clears=0:=by
 by_cases b:K=3
 .obtain⟨h,j,k,m⟩:=d.pal3 b
  have o:D=1\/D=2\/D=4\/D=8:=by have:=d.lg;unfold ax at this;omega
  have:=eg o
  obtain⟨c,p,q,i⟩:=wI (l:=nl pal) (n:=h) f d.w1 b (by rw[dU];exact k) j O m (mU d.palB);refine⟨c,?_,?_,λa e => ?_,by rw[i,g];rfl⟩
  .unfold palB;rw[N,fW];exact p
  .rw[decide_eq_true b]
   unfold dD;rw[I b,show pal.length/3=h from O];exact q
  .rw[i]
   show upN _ _ _ a=_
   unfold upN;rw[I];exact mV pal a e
 .have:=d.palN b
  subst this;refine⟨s1,rfl,?_,λa e=>absurd e (by show ¬a<0;omega),by rw[g];rfl⟩;rw[J b];unfold dD;rw[N b];exact f
theorem ft{W H K D L pal clr pix s2}(c:cu W H K D pal clr pix)(i:Bnd s2 ⟨W,H,D,K,L⟩ (decide (K=3)) false (dD K pal))(j:∀a,a<pal.length->s2.tl.pal a=(pal.getD a 0).toNat)(q:s2.tl.clears=0):∃d r,Rn s2 (nl (dK K clr)) d/\Bnd d ⟨W,H,D,K,L⟩ (decide (K=3)) r (dD K pal)/\fN K pal clr d.tl:=by
 rcases c.clr with s|⟨t,h,g⟩|⟨f,u,h,g⟩
 .subst s
  exact⟨s2,_,rfl,i,j,by rw[q];show 0=if K=3 then 0 else 2*0;split<;>rfl,λ_ a b=>absurd b (by show ¬a<0;omega),λ_ a b=>absurd b (by show ¬a<0;omega)⟩
 .have E:=bI (K:=K)
  have F:=dS c.lg.d;have o:chn K=chan K:=by rcases c.lg.k with rfl|rfl|rfl|rfl|rfl<;>rfl
  have v:∀a,a<chn K->(nl (cQ clr)).getD (2*a) 0*256+(nl (cQ clr)).getD (2*a+1) 0<2^D:=λa b=>by
   rw[o] at b;obtain⟨w,x⟩:=gC clr a O
   have:=g _ (az (show a<clr.length from O))
   rw[w,x];omega
  obtain⟨d,k,m,e⟩:=lE (l:=nl (cQ clr)) (n:=2*chan K) i c.w1 (by rw[dU,gW,h]) O O (mU (mf (λy z=>by have:=g y z;omega))) (Or.inl ⟨t,by show 2*chan K=2*chn K;rw[o],v⟩);refine⟨d,_,?_,m,by rw[e];exact j,?_,λp=>O,λ_ a b => ?_⟩
  .unfold dK;rw[N,N,fW];exact k
  .rw[e,N,h]
  .obtain⟨A,B⟩:=gC clr a b
   have:=g _ (az b)
   rw[e];show upN _ _ _ (2*a)*256+upN _ _ _ (2*a+1)=_
   unfold upN;rw[I,I,A,B];omega
 .obtain⟨G,J,M,P⟩:=c.pal3 f
  have C:D=1\/D=2\/D=4\/D=8:=by have:=c.lg;unfold ax at this;omega
  have:=eg C
  obtain⟨d,k,m,e⟩:=lE (l:=nl clr) (n:=clr.length) i c.w1 (dU _) u O (mU g) (R ⟨f,decide_eq_true f,by unfold dD;rw[I f];exact h⟩);refine⟨d,_,?_,m,by rw[e];exact j,by rw[e,I f],λ_ a b => ?_,λp=>absurd f p⟩
  .unfold dK;rw[N,I,fW];exact k
  .rw[e]
   show upN _ _ _ a=_
   unfold upN;rw[I b];exact mV clr a b
theorem jP{W H K D L pal clr pix}(a:cu W H K D pal clr pix)(d:L<=1):∃b c,Rn rd0 (du W H D K L pal clr) b/\Bnd b ⟨W,H,D,K,L⟩ (decide (K=3)) c (dD K pal)/\fN K pal clr b.tl:=by
 obtain⟨p,e,f,g⟩:=qU (L:=L) a.w1 a.w2 a.h1 a.h2 d a.lg;obtain⟨q,h,i,j,k⟩:=fo a f g;obtain⟨l,c,m,n,o⟩:=ft a i j k;exact⟨l,c,qh.append (e.append (h.append m)),n,o⟩
def pe(W H D K L:Nat)(pal clr:List Int)(PL:List (List Nat)):List Nat:=du W H D K L pal clr++(aK PL++chN aJ [])
theorem Bk{W H K D L pal clr pix}(a:cu W H K D pal clr pix)(f:L<=1){l PL d}(k:d.length<=2078){r'}(m:RWL (Rw.start ⟨W,H,D,K,L⟩ (dD K pal)) d r')(n:aN r'=true)(g:∀h∈l::PL,(∀o∈h,o<256)/\h.length<2000000)(p:tS (bW (l::PL).flatten) d):∃b,Rn rd0 (pe W H D K L pal clr (l::PL)) b/\b.part=5/\b.hd=⟨W,H,D,K,L⟩/\b.rw=r'/\aZ b/\fN K pal clr b.tl:=by
 obtain⟨q,M,r,i,s⟩:=jP a f;obtain⟨t,u,v⟩:=p _ _ k m;have w:okD D:=by
  have:=a.lg.d
  unfold okD;omega
 have j:=a.lg.k6;have x:ZR St.start (Rw.start ⟨W,H,D,K,L⟩ (dD K pal)) (l::PL).flatten t r':=⟨StB.start,RwJ.start a.w2 a.h2 j.2 j.1 f w (jZ a),u,λ_=>n⟩;obtain⟨y,c,z⟩:=gw i a.w1 (λe=>decide_eq_true e) g x;obtain⟨A,B,C,E,F,G,I⟩:=xo z a.w1 v;have J:y.tl=q.tl:=by
  have:aK (l::PL)=chN ar l++aK PL:=by unfold aK;rw[List.flatMap_cons]
  rw[this] at c;exact nH i a.w1 (λe=>decide_eq_true e) (g l Xi).2 c
 exact⟨A,r.append (c.append B),C,E,F,I,by rw[G,J];exact s⟩
theorem el{l:List Int}{P:Int->Prop}(h:∀a∈l,P a)(b:P 0)i:P (l.getD i 0):=by
 by_cases c:i<l.length
 .exact h _ (az c)
 .rw[G,XX O];exact b
theorem mR{D}(b:D=1\/D=2\/D=4\/D=8):∃a,D=1/\a=8\/D=2/\a=4\/D=4/\a=2\/D=8/\a=1:=by
 rcases b with rfl|rfl|rfl|rfl
 .exact⟨8,O⟩
 .exact⟨4,O⟩
 .exact⟨2,O⟩
 .exact⟨1,O⟩
def glL(pl:List Int)(pos:Nat->Nat)(C n:Nat):List Int:=(List.range n).map (λj=>pl.getD (pos (j/C)+j%C) 0)
theorem gK pl pos C n j(h:j<n):(glL pl pos C n).getD j 0=pl.getD (pos (j/C)+j%C) 0:=by
 unfold glL;rw[G,XQ,Yp h];rfl
theorem fH D pl ql A A' B row:∀k,(∀j,j<k->pl.getD (A+j) 0=ql.getD (A'+j) 0)->bE D pl A B row k=bE D ql A' B row k
 | 0,_=>rfl
 | k+1,a=>by
  show de D (bE D pl A B row k) (B+k) (pl.getD (A+k) 0).toNat=de D (bE D ql A' B row k) (B+k) (ql.getD (A'+k) 0).toNat
  rw[fH D pl ql A A' B row k (λj b=>a j O),a k O]
theorem eQ D C n pl pos(b:1<=C):∀c,c*C<=n->gQ D C pl pos c=bE D (glL pl pos C n) 0 0 (λ_=>0) (c*C)
 | 0,_=>by rw[Nat.zero_mul];rfl
 | c+1,d=>by
  rw[YO,Zi] at d ⊢;show bE D pl (pos c) (c*C) (gQ D C pl pos c) C=_
  rw[eQ D C n pl pos b c O,fH D pl (glL pl pos C n) (pos c) (0+c*C) (c*C) _ C,kN];intro e a;rw[XD,gK pl pos C n _ O,Zk c C,Nat.mul_add_div O,Nat.div_eq_of_lt a,Nat.mul_add_mod,X1 a,X5]
theorem nW{K D}(h:ax K D):1<=chan K:=by rcases h.k with rfl|rfl|rfl|rfl|rfl<;>decide
theorem gL{P:Int->Prop}{pl}(h:∀a∈pl,P a)(b:P 0)pos C n:∀a∈glL pl pos C n,P a:=by
 intro a c;obtain⟨d,_,rfl⟩:=YP.1 c;exact el h b _
theorem qL{D}(g:D=1\/D=2\/D=4\/D=8\/D=16)pl(c:∀a∈pl,0<=a/\a<((2^D:Nat):Int))A n i:bE D pl A 0 (λ_=>0) n i<256:=by
 by_cases e:D=16
 .subst e
  rw[gG];have h:=el (P:=λa=>0<=a/\a<((2^16:Nat):Int)) c O (A+i/2);split
  .split<;>omega
  .omega
 .obtain⟨b,d⟩:=mR (D:=D) O
  rw[nf D b d pl _ c]
  have:=mL D n A (b*i) pl c b
  have f:D*b=8:=by rcases d with⟨rfl,rfl⟩|⟨rfl,rfl⟩|⟨rfl,rfl⟩|⟨rfl,rfl⟩<;>rfl
  rw[f] at this;exact this
theorem gh D n T j0 pix(h:∀a∈pix,0<=a/\a<((2^D:Nat):Int)):∀(m q:Nat),q<m->db D n T j0 pix m/2^(D*(m-1-q))%2^D=(if j0+q<n then(pix.getD (T+(j0+q)) 0).toNat else 0)
 | 0,q,d=>O
 | m+1,q,d=>by
  have b:=Nat.two_pow_pos D;have c:(if j0+m<n then(pix.getD (T+(j0+m)) 0).toNat else 0)<2^D:=by
   split
   .have:=el (P:=λa=>0<=a/\a<((2^D:Nat):Int)) h O (T+(j0+m));omega
   .exact b
  show(db D n T j0 pix m*2^D+(if j0+m<n then(pix.getD (T+(j0+m)) 0).toNat else 0))/2^(D*(m+1-1-q))%2^D=_
  by_cases e:q=m
  .subst e
   rw[show q+1-1-q=0 from O,Nat.mul_zero,Nat.pow_zero,Nat.div_one,Zk,Nat.mul_add_mod,X1 c]
  .rw[show m+1-1-q=(m-1-q)+1 from O,Nat.mul_add,Nat.mul_one,Nat.add_comm (D*(m-1-q)) D,Nat.pow_add,<-Nat.div_div_eq_div_mul,Zk (db D n T j0 pix m),Nat.mul_add_div b,Nat.div_eq_of_lt c,X5]
   exact gh D n T j0 pix h m q O
theorem hY{D}(e:D=1\/D=2\/D=4\/D=8)pl(b:∀c∈pl,0<=c/\c<((2^D:Nat):Int))A n i(f:i<n):gS (bE D pl A 0 (λ_=>0) n (i*D/8)) (i*D%8) D=(pl.getD (A+i) 0).toNat:=by
 obtain⟨a,d⟩:=mR e;obtain⟨g,h,j,_⟩:=uZ D a i d;have k:1<=a:=O;rw[nf D a d pl _ b];unfold gS;rw[h,g,gh D n A (a*(i/a)) pl b a (i%a) (YD _ k),<-j,I f]
theorem fF{W H K D pal clr pix}(c:cu W H K D pal clr pix):∀a∈pix,0<=a/\a<((2^D:Nat):Int):=by
 intro a d
 have:=c.pixB a d
 by_cases b:K=3
 .rw[I b] at this
  obtain⟨e,f,g,h⟩:=c.pal3 b;omega
 .rw[N b] at this;exact this
def rvX(h:Hd)(pl:List Int)(p k:Nat):Nat->Nat:=hM h.W h.K h.D (ae h.L p).cf (ae h.L p).cs (ae h.L p).rf (ae h.L p).rs pl k
def ffX(h:Hd)(fl:List Int)(p k:Nat):Nat:=(fl.getD ((dM h p+k)%fl.length) 0).toNat
def je(h:Hd)(p k:Nat):Nat->Nat:=λc=>(((ae h.L p).rf+k*(ae h.L p).rs)*h.W+((ae h.L p).cf+c*(ae h.L p).cs))*chan h.K
theorem ey h pl p k(a:ax h.K h.D):rvX h pl p k=bE h.D (glL pl (je h p k) (chan h.K) (aH h p*chan h.K)) 0 0 (λ_=>0) (aH h p*chan h.K) :=
 eQ h.D (chan h.K) (aH h p*chan h.K) pl (je h p k) (nW a) (aH h p) (E _)
theorem tr{W H K D L pal clr pix fl}(b:cu W H K D pal clr pix)(k:L<=1)(l:∀c∈fl,0<=c/\c<=4):eV ⟨W,H,D,K,L⟩ (dD K pal) (rvX ⟨W,H,D,K,L⟩ pix) (ffX ⟨W,H,D,K,L⟩ fl):=by
 have h:=fF b;refine⟨b.w1,b.w2,b.h1,b.h2,b.lg,k,jZ b,λa d e => ?_,λa d => ?_,λf a d e m i => ?_⟩
 .rw[ey _ pix a d b.lg]
  exact qL b.lg.d _ (gL (P:=λc=>0<=c/\c<((2^D:Nat):Int)) h (by have:=Nat.two_pow_pos D;omega) _ _ _) _ _ _
 .have:=el (P:=λc=>0<=c/\c<=4) l O ((dM ⟨W,H,D,K,L⟩ a+d)%fl.length)
  unfold ffX;omega
 .replace f:K=3:=f
  have n:D=1\/D=2\/D=4\/D=8:=by have:=b.lg;unfold ax at this;omega
  have g:chan K=1:=by rw[f];rfl
  rw[ey _ pix a d b.lg];show gS (bE D (glL pix (je ⟨W,H,D,K,L⟩ a d) (chan K) (aH ⟨W,H,D,K,L⟩ a*chan K)) 0 0 (λ_=>0) (aH ⟨W,H,D,K,L⟩ a*chan K) (e*D/8)) (e*D%8) D<dD K pal
  have j:e<aH ⟨W,H,D,K,L⟩ a*chan K:=by rw[g,Nat.mul_one];exact i
  rw[hY n _ (gL (P:=λc=>0<=c/\c<((2^D:Nat):Int)) h (by have:=Nat.two_pow_pos D;omega) _ _ _) 0 _ e j,XD,gK _ _ _ _ _ j];have o:je ⟨W,H,D,K,L⟩ a d (e/chan K)+e%chan K=(((ae L a).rf+d*(ae L a).rs)*W+((ae L a).cf+e*(ae L a).cs))*chan K+0:=by
   rw[g,Nat.div_one,Nat.mod_one];show(((ae L a).rf+d*(ae L a).rs)*W+((ae L a).cf+e*(ae L a).cs))*chan K+0=_
   rw[g]
  rw[o]
  have:=b.pixB _ (az (show(((ae L a).rf+d*(ae L a).rs)*W+((ae L a).cf+e*(ae L a).cs))*chan K+0<pix.length by rw[b.pixL];exact(qS ⟨W,H,D,K,L⟩ a d e 0 (chan K) m i O)))
  rw[I f] at this;unfold dD;rw[I f];omega
theorem pM h pix p a:upw (rvX h pix p) a=dZ h.W h.K h.D (ae h.L p).cf (ae h.L p).cs (ae h.L p).rf (ae h.L p).rs pix a:=by
 cases a with
 | zero=>rfl
 | succ a=>rfl
theorem qm h pix fl p k b:nl (ez h.K h.D (ffX h fl p k) b (rvX h pix p k) (dZ h.W h.K h.D (ae h.L p).cf (ae h.L p).cs (ae h.L p).rf (ae h.L p).rs pix k))=hJ h (rvX h pix) (ffX h fl) p k (b+1):=by
 unfold hJ;rw[List.range_succ_eq_map,List.map_cons,List.map_map];show((ffX h fl p k:Nat):Int).toNat::nl ((List.range b).map _)=_
 unfold nl;rw[List.map_map];refine congr (congrArg List.cons rfl) (List.map_congr_left (λa _ => ?_));show(((rvX h pix p k a+256-jk h.K h.D (ffX h fl p k) (rvX h pix p k) (dZ h.W h.K h.D (ae h.L p).cf (ae h.L p).cs (ae h.L p).rf (ae h.L p).rs pix k) a)%256:Nat):Int).toNat=iV h _ _ p k (a+1)
 unfold iV;rw[N,pM];rfl
theorem hR h pix fl p(a:ax h.K h.D):∀n,nl (ei h.W h.K h.D (ae h.L p).cf (ae h.L p).cs (ae h.L p).rf (ae h.L p).rs pix fl (dM h p) n)=fV h (rvX h pix) (ffX h fl) p n
 | 0=>rfl
 | n+1=>by
  have b:ei h.W h.K h.D (ae h.L p).cf (ae h.L p).cs (ae h.L p).rf (ae h.L p).rs pix fl (dM h p) (n+1)=ei h.W h.K h.D (ae h.L p).cf (ae h.L p).cs (ae h.L p).rf (ae h.L p).rs pix fl (dM h p) n++ez h.K h.D (ffX h fl p n) (aO h p) (rvX h pix p n) (dZ h.W h.K h.D (ae h.L p).cf (ae h.L p).cs (ae h.L p).rf (ae h.L p).rs pix n):=by
   have c:aO h p=(within (ae h.L p).cf (ae h.L p).cs h.W*(chan h.K*h.D)+7)/8:=by
    unfold aO
    have:ck h=chan h.K*h.D:=by show chn h.K*h.D=_;rw[gf a]
    rw[this];rfl
   rw[c];rfl
  rw[b,bR,hR h pix fl p a n,qm];unfold fV;rw[List.range_succ,List.flatMap_append,List.flatMap_cons,List.flatMap_nil,XN]
theorem ko h pix fl(a:ax h.K h.D):∀n,nl (dq h pix fl n)=(List.range' 0 n).flatMap (fpN h (rvX h pix) (ffX h fl))
 | 0=>rfl
 | n+1=>by
  show nl (dq h pix fl n++fpB h pix fl n)=_
  rw[bR,ko h pix fl a n,<-List.range_eq_range',<-List.range_eq_range',List.range_succ,List.flatMap_append,List.flatMap_cons,List.flatMap_nil,XN]
  congr 1
  unfold fpB fpN;split
  .rfl
  .exact hR h pix fl n a (ao h n)
theorem km{h}pl fl(b:1<=h.W)(c:1<=h.H):∀n,0<(dq h pl fl (n+1)).length
 | 0=>by
  show 0<([]++fpB h pl fl 0).length
  rw[Ze];have a:(ae h.L 0).cf=0/\(ae h.L 0).rf=0:=by
   unfold ae;split
   .exact⟨Xh,Xh⟩
   .exact⟨rfl,rfl⟩
  have d:aH h 0≠0:=by unfold aH dh;rw[a.1,N];exact Nat.succ_ne_zero _
  have e:0<ao h 0:=by unfold ao dh;rw[a.2,N];exact Nat.succ_pos _
  unfold fpB;rw[N d,gl];exact Nat.mul_pos e O
 | n+1=>by
  show 0<(dq h pl fl (n+1)++fpB h pl fl (n+1)).length
  rw[Xv]
  have:=km (h:=h) pl fl b c n
  omega
theorem nX:∀PL:List (List Int),nl (chL PL)=aK (PL.map nl)
 | []=>rfl
 | d::a=>by
  have b:chL (d::a)=chB ar d++chL a:=rfl;have c:aK ((d::a).map nl)=chN ar (nl d)++aK (a.map nl):=rfl;rw[b,bR,fW,nX a,c]
theorem nI W H D K L pal clr PL:nl (cP W H D K L pal clr PL)=pe W H D K L pal clr (PL.map nl):=by
 unfold cP pe du;rw[bR,bR,bR,bR,bR,fW,fW aJ,EM,nX];simp only[XY];rfl
theorem jU{W H K D L pal clr pix fl PL}(e:cu W H K D pal clr pix)(k:L<=1)(w:∀f∈fl,0<=f/\f<=4)(x:isBytes (dq ⟨W,H,D,K,L⟩ pix fl (av L)))(y:PL≠[])(z:isBytes PL.flatten)(S:PL.flatten.length<=1250000)(g:tS (bW (nl PL.flatten)) (nl (dq ⟨W,H,D,K,L⟩ pix fl (av L)))):∃b,Rn rd0 (nl (cP W H D K L pal clr PL)) b/\b.part=5/\b.hd=⟨W,H,D,K,L⟩/\vS b.rw/\aZ b/\fN K pal clr b.tl/\RWL (Rw.start ⟨W,H,D,K,L⟩ (dD K pal)) ((List.range' 0 (av L)).flatMap (fpN ⟨W,H,D,K,L⟩ (rvX ⟨W,H,D,K,L⟩ pix) (ffX ⟨W,H,D,K,L⟩ fl))) b.rw:=by
 obtain⟨A,n,o⟩:=sq (tr e k w);obtain⟨i,p⟩:∃i,i=dq ⟨W,H,D,K,L⟩ pix fl (av L):=⟨_,rfl⟩;have q:=ko ⟨W,H,D,K,L⟩ pix fl e.lg (av L);rw[<-p] at x g q;have B:i.length<=2078:=by rw[p];exact gA (h:=⟨W,H,D,K,L⟩) e.lg e.w2 e.h2 k pix fl (av L) (E _)
 obtain⟨c,a,rfl⟩:∃c a,PL=c::a:=by
  cases PL with
  | nil=>exact absurd rfl y
  | cons r s=>exact⟨r,s,rfl⟩
 have C:(nl c::a.map nl).flatten=nl (c::a).flatten:=by
  have:∀a:List (List Int),(a.map nl).flatten=nl a.flatten:=λa=>by
   induction a with
   | nil=>rfl
   | cons r s F=>rw[List.map_cons,List.flatten_cons,F,List.flatten_cons,bR]
  exact this (c::a)
 obtain⟨b,G,I,J,t,M,N⟩:=Bk (l:=nl c) (PL:=a.map nl) (d:=nl i) e k (by rw[dU];exact B) (r':=A) (by rw[q];exact n) o.whole (λO P=>by
   have Q:O∈(c::a).map nl:=P;obtain⟨f,u,rfl⟩:=YP.1 Q;have R:∀j∈f,j∈(c::a).flatten:=λj m=>List.mem_flatten.2 ⟨f,u,m⟩
   refine⟨λj m => ?_,?_⟩
   .obtain⟨v,g,rfl⟩:=YP.1 (show j∈f.map Int.toNat from m)
    have:=z v (R v g)
    omega
   .rw[dU]
    have:=List.Sublist.length_le (List.sublist_flatten_of_mem u)
    omega) (by rw[C];exact g)
 refine⟨b,?_,I,J,by rw[t];exact o,M,N,by rw[t];exact n⟩;rw[nI];exact G
theorem vv{W H K D L pal clr pix fl PL}(c:cu W H K D pal clr pix)(d:L<=1)(e:∀b∈fl,0<=b/\b<=4)(f:isBytes (dq ⟨W,H,D,K,L⟩ pix fl (av L)))(g:PL≠[])(h:isBytes PL.flatten)(i:PL.flatten.length<=1250000)(j:tS (bW (nl PL.flatten)) (nl (dq ⟨W,H,D,K,L⟩ pix fl (av L)))):∃a,Rn rd0 (nl (cP W H D K L pal clr PL)) a/\a.part=5/\a.hd=⟨W,H,D,K,L⟩/\vS a.rw/\aZ a:=by
 obtain⟨a,k,l,m,n,o,_⟩:=jU (fl:=fl) c d e f g h i j;exact⟨a,k,l,m,n,o⟩
structure js (W H D K L P V:Nat) (pal clr pix fl kl:List Int) (PL:List (List Int)):Prop where
 ne:PL≠[]
 byte:isBytes PL.flatten
 len:6<=PL.flatten.length/\PL.flatten.length<=1250000
 all:(cP W H D K L pal clr PL).length<=990000000
 str:tS (bW (nl PL.flatten)) (nl (dq ⟨W,H,D,K,L⟩ pix fl (av L)))
theorem eE{h pl fl}(e:eV h 0 (rvX h pl) (ffX h fl)\/True)(d:∀b∈fl,0<=b/\b<=4):∀n,isBytes (dq h pl fl n)
 | 0=>isBytes.nil
 | n+1=>by
  intro b a;rw[show dq h pl fl (n+1)=dq h pl fl n++fpB h pl fl n from rfl,XW] at a;rcases a with a|a
  .exact eE e d n b a
  .unfold fpB at a
   split at a
   .cases a
   .revert a
    generalize ao h n=c
    induction c with
    | zero=>intro a;cases a
    | succ c f=>
     intro a;rw[ei,XW] at a;rcases a with a|a
     .exact f a
     .unfold ez at a
      rw[Y4] at a;rcases a with rfl|a
      .have:=el (P:=λb=>0<=b/\b<=4) d O ((dM h n+c)%fl.length)
       omega
      .obtain⟨g,_,rfl⟩:=YP.1 a
       unfold uN;omega
theorem nL a(W H K D L P V Z:Nat)pp qp xp fp kp cp pc qc xc fc kc cc pal clr pix fl kl cl w(d:cu W H K D pal clr pix)(c:tV L P V fl kl cl)(b6:Z<=64)(C:aS w)(F:ep w)(t:LAt w .i64 (.slice pp pal.length pc) pal)(u:LAt w .i64 (.slice qp clr.length qc) clr)(v:LAt w .i64 (.slice xp pix.length xc) pix)(x:LAt w .i64 (.slice fp fl.length fc) fl)(y:LAt w .i64 (.slice kp kl.length kc) kl)(z:LAt w .i64 (.slice cp cl.length cc) cl)(G:∀e,ai (.slice xp pix.length xc)=some e->e<w.heap.size)(I:∀e,ai (.slice fp fl.length fc)=some e->e<w.heap.size)(J:∀e,ai (.slice cp cl.length cc)=some e->e<w.heap.size):Calls prog 38 #[.pointer a,.agg #[.int .i64 W,.int .i64 H,.int .i64 K,.int .i64 D,.slice pp pal.length pc,.slice qp clr.length qc,.slice xp pix.length xc],.agg #[.int .i64 L,.slice fp fl.length fc,.slice kp kl.length kc,.int .i64 P,.slice cp cl.length cc,.int .i64 V,.int .i64 Z]] w λg k=>∃PL,g=.returned (.tuple #[.string (strOfNums (cP W H D K L pal clr PL)),.int .i64 0])/\js W H D K L P V pal clr pix fl kl PL/\Kept w k:=by
 have b7:=gA (h:=⟨W,H,D,K,L⟩) d.lg d.w2 d.h2 c.l pix fl (av L) (E _);have M:0<(dq ⟨W,H,D,K,L⟩ pix fl (av L)).length:=by
  have:=km (h:=⟨W,H,D,K,L⟩) pix fl d.w1 d.h1 (av L-1)
  rw[show av L-1+1=av L from by have:=(tB c.l).1;omega] at this;exact this
 have i:Kept w ((w.alloc (Obj.cells #[.int .i64 W,.int .i64 H,.int .i64 K,.int .i64 D,.slice pp pal.length pc,.slice qp clr.length qc,.slice xp pix.length xc] 33)).alloc (Obj.cells #[.int .i64 L,.slice fp fl.length fc,.slice kp kl.length kc,.int .i64 P,.slice cp cl.length cc,.int .i64 V,.int .i64 Z] 35)):=Xw (Xw (Xs _ _) (E _) _) Xi _;have d4:((w.alloc (Obj.cells #[.int .i64 W,.int .i64 H,.int .i64 K,.int .i64 D,.slice pp pal.length pc,.slice qp clr.length qc,.slice xp pix.length xc] 33)).alloc (Obj.cells #[.int .i64 L,.slice fp fl.length fc,.slice kp kl.length kc,.int .i64 P,.slice cp cl.length cc,.int .i64 V,.int .i64 Z] 35)).heap.size=w.heap.size+2:=Xi;have r:∀b:World,Kept ((w.alloc (Obj.cells #[.int .i64 W,.int .i64 H,.int .i64 K,.int .i64 D,.slice pp pal.length pc,.slice qp clr.length qc,.slice xp pix.length xc] 33)).alloc (Obj.cells #[.int .i64 L,.slice fp fl.length fc,.slice kp kl.length kc,.int .i64 P,.slice cp cl.length cc,.int .i64 V,.int .i64 Z] 35)) b->b.cell? ⟨w.heap.size,0,none⟩=some (.int .i64 W)/\b.cell? ⟨w.heap.size,1,none⟩=some (.int .i64 H)/\b.cell? ⟨w.heap.size,2,none⟩=some (.int .i64 K)/\b.cell? ⟨w.heap.size,3,none⟩=some (.int .i64 D)/\b.cell? ⟨w.heap.size,4,none⟩=some (.slice pp pal.length pc)/\b.cell? ⟨w.heap.size,5,none⟩=some (.slice qp clr.length qc)/\b.cell? ⟨w.heap.size,6,none⟩=some (.slice xp pix.length xc)/\b.cell? ⟨w.heap.size+1,0,none⟩=some (.int .i64 L)/\b.cell? ⟨w.heap.size+1,1,none⟩=some (.slice fp fl.length fc)/\b.cell? ⟨w.heap.size+1,2,none⟩=some (.slice kp kl.length kc)/\b.cell? ⟨w.heap.size+1,3,none⟩=some (.int .i64 P)/\b.cell? ⟨w.heap.size+1,4,none⟩=some (.slice cp cl.length cc)/\b.cell? ⟨w.heap.size+1,5,none⟩=some (.int .i64 V)/\b.cell? ⟨w.heap.size+1,6,none⟩=some (.int .i64 Z):=by
  intro b f;have l:∀j,b.cell? ⟨w.heap.size,j,none⟩=#[Value.int .i64 W,.int .i64 H,.int .i64 K,.int .i64 D,.slice pp pal.length pc,.slice qp clr.length qc,.slice xp pix.length xc][j]? := λj=>by
   rw[f.cell (p:=⟨w.heap.size,j,none⟩) (by show w.heap.size<_;omega),YG _ _ _ Xi,Xr _ _ _ _ rfl]
  have m:∀j,b.cell? ⟨w.heap.size+1,j,none⟩=#[Value.int .i64 L,.slice fp fl.length fc,.slice kp kl.length kc,.int .i64 P,.slice cp cl.length cc,.int .i64 V,.int .i64 Z][j]? := λj=>by
   rw[f.cell (p:=⟨w.heap.size+1,j,none⟩) (by show w.heap.size+1<_;omega),Xr _ _ _ _ Xi]
  exact⟨l 0,l 1,l 2,l 3,l 4,l 5,l 6,m 0,m 1,m 2,m 3,m 4,m 5,m 6⟩
 have b8:ZH0 (∀b:World,Kept ((w.alloc (Obj.cells #[.int .i64 W,.int .i64 H,.int .i64 K,.int .i64 D,.slice pp pal.length pc,.slice qp clr.length qc,.slice xp pix.length xc] 33)).alloc (Obj.cells #[.int .i64 L,.slice fp fl.length fc,.slice kp kl.length kc,.int .i64 P,.slice cp cl.length cc,.int .i64 V,.int .i64 Z] 35)) b->Calls prog 48 #[.agg #[.int .i64 W,.int .i64 H,.int .i64 K,.int .i64 D,.slice pp pal.length pc,.slice qp clr.length qc,.slice xp pix.length xc]] b λg k=>g=.returned (.int .i64 0)/\Kept b k):=λb f=>oV W H K D pp qp xp pc qc xc pal clr pix b d ((t.kept i).kept f) ((u.kept i).kept f) ((v.kept i).kept f)
 have b9:ZH0 (∀b:World,Kept ((w.alloc (Obj.cells #[.int .i64 W,.int .i64 H,.int .i64 K,.int .i64 D,.slice pp pal.length pc,.slice qp clr.length qc,.slice xp pix.length xc] 33)).alloc (Obj.cells #[.int .i64 L,.slice fp fl.length fc,.slice kp kl.length kc,.int .i64 P,.slice cp cl.length cc,.int .i64 V,.int .i64 Z] 35)) b->Calls prog 49 #[.agg #[.int .i64 L,.slice fp fl.length fc,.slice kp kl.length kc,.int .i64 P,.slice cp cl.length cc,.int .i64 V,.int .i64 Z]] b λg k=>g=.returned (.int .i64 0)/\Kept b k):=λb f=>tC L P V Z fp kp cp fc kc cc fl kl cl b c b6 ((x.kept i).kept f) ((y.kept i).kept f) ((z.kept i).kept f)
 have c0:ZH0 (∀b:World,Kept ((w.alloc (Obj.cells #[.int .i64 W,.int .i64 H,.int .i64 K,.int .i64 D,.slice pp pal.length pc,.slice qp clr.length qc,.slice xp pix.length xc] 33)).alloc (Obj.cells #[.int .i64 L,.slice fp fl.length fc,.slice kp kl.length kc,.int .i64 P,.slice cp cl.length cc,.int .i64 V,.int .i64 Z] 35)) b->Calls prog 50 #[.agg #[.int .i64 W,.int .i64 H,.int .i64 K,.int .i64 D,.slice pp pal.length pc,.slice qp clr.length qc,.slice xp pix.length xc],.agg #[.int .i64 L,.slice fp fl.length fc,.slice kp kl.length kc,.int .i64 P,.slice cp cl.length cc,.int .i64 V,.int .i64 Z]] b λg k=>∃PL,g=.returned (.string (strOfNums (cP W H D K L pal clr PL)))/\js W H D K L P V pal clr pix fl kl PL/\Kept b k):=by
  intro b f;have n:=Kept.trans i f;refine(vZ W H K D L P V (Z:Int) pp qp xp fp kp cp pc qc xc fc kc cc pal clr pix fl kl cl (dq ⟨W,H,D,K,L⟩ pix fl (av L)) b d c.l c.k0 c.k1 c.kb c.c0 c.c1 c.cb c.cf c.p1 c.p2 M O (F.kept n) c.v (t.kept n) (u.kept n) (y.kept n) (z.kept n) (λe o=>Xq (J e o) n.size) ?_).mono (λg k ⟨PL,N,Q,c1,c2,c3,c4,c5⟩=>⟨PL,N,⟨Q,c1,c2,c3,c4⟩,c5⟩);intro c6 c7;have q:=Kept.trans n c7;exact xP W H D K L (.slice xp pix.length xc) (.slice fp fl.length fc) pix fl c6 d.lg d.w1 d.h1 d.w2 d.h2 c.l (C.kept q) (v.kept q) (λe o=>Xq (G e o) q.size) d.pixL (λc8 c9=>by
   have N:=d.pixB c8 c9;have Q:(if K=3 then pal.length/3 else 2^D:Nat)<=65536:=by
    split
    .rename_i d0
     obtain⟨d5,d6,d7,d8⟩:=d.pal3 d0
     have:=dS d.lg.d
     omega
    .exact dS d.lg.d
   omega) (x.kept q) (λe o=>Xq (I e o) q.size) c.f0 c.f1 c.fb
 clear t u v x y z G I J C d c b7 M F;replace i:ZH0 _:=i;replace r:ZH0 _:=r;go_enter func38,ntmps38;go_wp2_with fail;generalize ((w.alloc (Obj.cells #[.int .i64 W,.int .i64 H,.int .i64 K,.int .i64 D,.slice pp pal.length pc,.slice qp clr.length qc,.slice xp pix.length xc] 33)).alloc (Obj.cells #[.int .i64 L,.slice fp fl.length fc,.slice kp kl.length kc,.int .i64 P,.slice cp cl.length cc,.int .i64 V,.int .i64 Z] 35))=R at *;refine(b8.o _ (Kept.refl _)).mono ?_;rintro g S ⟨rfl,A⟩;obtain⟨T,U,X,Y,a0,a1,a2,a3,a4,a5,a6,a7,a8,a9⟩:=r.o S A;have b0:ZH0 (Kept R S):=A;clear A;go_wp2_with fail;refine(b9.o _ b0.o).mono ?_;rintro g b1 ⟨rfl,b2⟩;have B:ZH0 (Kept R b1):=b0.o.trans b2;clear b2 T U X Y a0 a1 a2 a3 a4 a5 a6 a7 a8 a9;obtain⟨T,U,X,Y,a0,a1,a2,a3,a4,a5,a6,a7,a8,a9⟩:=r.o b1 B.o;go_wp2_with fail;refine(c0.o _ B.o).mono ?_;rintro g d1 ⟨PL,rfl,b3,b4⟩;have d2:ZH0 _:=b3;clear b3;obtain⟨b5,s⟩:∃b5,b5=strOfNums (cP W H D K L pal clr PL):=⟨_,rfl⟩;rw[<-s];replace s:ZH0 _:=s;have d3:ZH0 (Kept w d1):=Kept.trans i.o (B.o.trans b4);clear b4;go_wp2;go_ret2;exact⟨PL,by rw[<-s.o];rfl,d2.o,d3.o⟩
theorem pa{W}(h:aV W):aS W:=by
 intro a b;rw[h.1 a b]
 have:∀a,a<42->fJ.getD a 0=(dJ a:Int):=Xh
 rw[this a b]
theorem gJ{W}(h:aV W):bw W:=⟨pa h,⟨h.2.len,h.2.lbt,h.2.dis,h.2.ord⟩⟩
def dp(W H D K L P V:Nat)(pal clr pix fl kl:List Int)(s:ByteArray):Prop:=∃PL,s=strOfNums (cP W H D K L pal clr PL)/\js W H D K L P V pal clr pix fl kl PL
theorem bM{W H D K L P V pal clr pix fl kl s}(h:dp W H D K L P V pal clr pix fl kl s):57<s.size/\s.size<=990000000:=by
 obtain⟨b,rfl,a⟩:=h;rw[strOfNums_size];refine⟨?_,a.all⟩;have d:=a.len;have c:=lU b;have e:=List.length_pos_iff.2 a.ne;unfold cP;rw[Xv,Xv,Xv,Xv,Xv,dF,dF,c,kD];have f:(hdI W H D K L).length=13:=rfl;have g:([]:List Int).length=0:=rfl;omega
theorem fu{l}(h:isBytes l):aj (strOfNums l)=nl l:=by
 unfold aj nl;rw[strOfNums_data,List.map_map];apply List.map_congr_left;intro a b
 have:=h a b
 show(UInt8.ofNat a.toNat).toNat=a.toNat
 exact UInt8.toNat_ofNat_of_lt' (show a.toNat<256 from O)
theorem cK T{l}(h:isBytes l):isBytes (chB T l):=by
 unfold chB;intro b a;simp only[XW] at a;rcases a with a|a|a|a
 .exact iD _ b a
 .exact iD _ b a
 .exact h b a
 .exact iD _ b a
theorem iv x d H K D L e V Z pp qp xp fp kp cp pc qc xc fc kc cc pal clr pix fl kl cl w(h:Dk w x d H K D L e V Z pp qp xp fp kp cp pc qc xc fc kc cc pal clr pix fl kl cl)(z:4<x):Calls prog 20 #[.pointer (some ⟨x,0,none⟩)] w λf g=>f=.returned (.bool true)/\Dk g x d H K D L e V Z pp qp xp fp kp cp pc qc xc fc kc cc pal clr pix fl kl cl/\(∃c,dp d H D K L e V pal clr pix fl kl c/\g.cell? ⟨x,14,none⟩=some (.string c))/\Fr1 x w g:=by
 have A:ZH0 (∀(b:World) (l:Option Addr),Kept w b->Calls prog 38 #[.pointer l,.agg #[.int .i64 d,.int .i64 H,.int .i64 K,.int .i64 D,.slice pp pal.length pc,.slice qp clr.length qc,.slice xp pix.length xc],.agg #[.int .i64 L,.slice fp fl.length fc,.slice kp kl.length kc,.int .i64 e,.slice cp cl.length cc,.int .i64 V,.int .i64 Z]] b λf g=>∃c:ByteArray,f=.returned (.tuple #[.string c,.int .i64 0])/\57<c.size/\dp d H D K L e V pal clr pix fl kl c/\Kept b g):=by
  intro b l B;have a:=h.kept B;have C:tV L e V fl kl cl:=⟨a.ch.l,a.ch.p1,by have:=a.ch.p2;omega,a.ch.v,a.ch.f0,a.ch.f1,a.ch.fb,a.ch.k0,a.ch.k1,a.ch.kb,a.ch.c0,a.ch.c1,a.ch.cb,a.ch.cf⟩;exact(nL l d H K D L e V Z pp qp xp fp kp cp pc qc xc fc kc cc pal clr pix fl kl cl b a.im C a.z (pa a.grid) a.grid.2 a.lp a.lq a.lx a.lf a.lk a.lc (λi j=>(a.bx i j).2) (λi j=>(a.bf i j).2) (λi j=>(a.bc i j).2)).mono (λf g ⟨r,s,n,E⟩=>⟨_,s,(bM ⟨r,rfl,n⟩).1,⟨r,rfl,n⟩,E⟩)
 have Q:(0:Int)<(pix.length:Int):=by
  have s:=h.im.pixL;have n:0<d*H*chan K:=Nat.mul_pos (Nat.mul_pos (by have:=h.im.w1;omega) (by have:=h.im.h1;omega)) (by rcases gF h.im.lg with rfl|rfl|rfl|rfl|rfl<;>decide);omega
 have R:(0:Int)<(cl.length:Int):=by have:=h.ch.c0;omega
 have S:((pix.length:Int)==0)=false:=Xa;have T:((cl.length:Int)==0)=false:=Xa;have G:=h.c6;have I:=h.c11;have t:ZH0 _:=h;clear h;go_enter func20,ntmps20;go_wp2_with fail;refine((λb=>mX b) _).mono ?_;rintro f J ⟨⟨l,rfl⟩,u⟩;have o:ZH0 (Kept w J):=u;clear u G I;have k:ZH0 _:=t.o.kept o.o;clear t;go_wp2_with fail;go_region_held3 (λb=>b.cell? ⟨x,0,none⟩=some (.int .i64 d)/\b.cell? ⟨x,1,none⟩=some (.int .i64 H)/\b.cell? ⟨x,2,none⟩=some (.int .i64 K)/\b.cell? ⟨x,3,none⟩=some (.int .i64 D)/\b.cell? ⟨x,4,none⟩=some (.slice pp pal.length pc)/\b.cell? ⟨x,5,none⟩=some (.slice qp clr.length qc)/\b.cell? ⟨x,6,none⟩=some (.slice xp pix.length xc)/\b.cell? ⟨x,7,none⟩=some (.int .i64 L)/\b.cell? ⟨x,8,none⟩=some (.slice fp fl.length fc)/\b.cell? ⟨x,9,none⟩=some (.slice kp kl.length kc)/\b.cell? ⟨x,10,none⟩=some (.int .i64 e)/\b.cell? ⟨x,11,none⟩=some (.slice cp cl.length cc)/\b.cell? ⟨x,12,none⟩=some (.int .i64 V)/\b.cell? ⟨x,13,none⟩=some (.int .i64 Z)) (first|exact Dk.s k.o|exact Dk.s (k.o.kept ((Kept.refl _).drewN 1))|exact v.o|go_keep) ((go_at_call 38;refine(A.o _ _ (by exact o.o.drewN 1)).mono ?_;rintro f M ⟨c,rfl,U,p,y⟩;have m:=((Kept.refl _).drewN 1).trans y;have v:ZH0 _:=Dk.s (k.o.kept m)))
 have q:ZH0 _:=k.o.kept m;have N:ZH0 (Kept w M):=Kept.trans o.o m;obtain⟨W,P⟩:=q.o.c14;replace p:ZH0 (dp d H D K L e V pal clr pix fl kl c):=p;have X:=q.o.fz 14;have Y:(57:Int)<(c.size:Int):=O;clear v y m k;go_wp2;go_ret;exact⟨by first|rfl|simp,q.o.set14 z _,⟨c,p.o,af P _⟩,Fr1.set (Fr.of_kept N.o) _ _⟩
theorem cM t a b:aj (t.extract a b)=((aj t).drop a).take (b-a):=by
 unfold aj;rw[ByteArray.data_extract,Array.toList_extract,List.extract_eq_take_drop,List.map_take,List.map_drop]
theorem isBytes.app'{a b}(h:isBytes a)(k:isBytes b):isBytes (a++b):=λd c=>by
 rw[XW] at c;rcases c with c|c
 .exact h d c
 .exact k d c
theorem jV{W H K D L pal clr pix PL}(a:cu W H K D pal clr pix)(j:L<=1)(k:isBytes PL.flatten):isBytes (cP W H D K L pal clr PL):=by
 have f:=a.lg.k6;have l:isBytes (palB pal):=by
  unfold palB;split
  .exact isBytes.nil
  .exact cK _ a.palB
 have m:isBytes (dK K clr):=by
  unfold dK;split
  .exact isBytes.nil
  .rename_i g
   apply cK;rcases a.clr with n|⟨r,o,d⟩|⟨s,t,o,d⟩
   .rw[n] at g;simp at g
   .have u:=dS a.lg.d
    rw[N];exact mf (λb c=>by have:=d b c;omega)
   .rw[I];exact d
 have p:∀PL:List (List Int),isBytes PL.flatten->isBytes (chL PL):=λPL=>by
  induction PL with
  | nil=>intro _;exact isBytes.nil
  | cons h i q=>
   intro e
   have:chL (h::i)=chB ar h++chL i:=rfl
   rw[this];rw[List.flatten_cons] at e;exact isBytes.app' (cK _ (λb c=>e b (XW.2 (Or.inl c)))) (q (λb c=>e b (XW.2 (R c))))
 unfold cP;exact isBytes.app' (isBytes.app' (isBytes.app' (isBytes.app' (isBytes.app' mB (cK _ (vk _ _ _ _ _ a.w2 a.h2 f.2 f.1 j))) l) m) (p PL k)) (cK _ isBytes.nil)
theorem ij{W H D K L P V pal clr pix fl kl cl s}(h:dp W H D K L P V pal clr pix fl kl s)(d:cu W H K D pal clr pix)(c:rG L P V fl kl cl):∃a,Rn rd0 (aj s) a/\a.part=5/\a.hd=⟨W,H,D,K,L⟩/\vS a.rw/\aZ a:=by
 obtain⟨e,rfl,b⟩:=h;rw[fu (jV d c.l b.byte)];exact vv d c.l c.fb (eE (R trivial) c.fb _) b.ne b.byte b.len.2 b.str
def Cf(w W:World)(r:Ending):Prop:=∃x wd H K D L P V Z:Nat,∃pp qp xp fp kp cp:Option Addr,∃pc qc xc fc kc cc:Nat,∃pal clr pix fl kl cl:List Int,∃ff:ByteArray,r=.returned (.pointer (some ⟨x,0,none⟩))/\4<x/\w.heap.size<=x/\Dk W x wd H K D L P V Z pp qp xp fp kp cp pc qc xc fc kc cc pal clr pix fl kl cl/\dp wd H D K L P V pal clr pix fl kl ff/\W.cell? ⟨x,14,none⟩=some (.string ff)
theorem fL a b s t u v w(d1 : -9223372036854775808<=a)(d2:a<9223372036854775808)(d3 : -9223372036854775808<=b)(d4:b<9223372036854775808)(S:s.size<9223372036854775808)(T:t.size<9223372036854775808)(U:u.size<9223372036854775808)(V:v.size<9223372036854775808)(i:aV w):Calls prog 9 #[.int .i64 a,.string s,.string t,.int .i64 b,.string u,.string v] w λd l=>(decide (65536<s.size\/65536<t.size\/65536<u.size\/65536<v.size)=true/\d=.returned (.pointer none)\/decide (65536<s.size\/65536<t.size\/65536<u.size\/65536<v.size)=false/\Cf w l d)/\Kept w l:=by
 have x:ZH0 (∀f:World,Calls prog 10 #[.string s,.string t,.string u,.string v] f λd l=>d=.returned (.bool (decide (65536<s.size\/65536<t.size\/65536<u.size\/65536<v.size)))/\l=f):=λf=>fY s t u v f S T U V
 by_cases y:65536<s.size\/65536<t.size\/65536<u.size\/65536<v.size
 .have j:=K y
  rw[j];rw[j] at x;clear y j;replace i:ZH0 _:=i;go_enter func9,ntmps9;go_wp2_with fail;refine(x.o _).mono ?_;rintro d k ⟨rfl,D⟩;subst k;go_wp2;go_ret;exact⟨L ⟨by first|trivial|rfl,rfl⟩,Kept.refl _⟩
 .have j:=J y
  have d5:s.size<=65536:=O;have d6:t.size<=65536:=O;have d7:u.size<=65536:=O;have d8:v.size<=65536:=O;rw[j];rw[j] at x;clear y j S T U V;replace i:ZH0 (aV w):=i;have W:ZH0 (∀(f:World) (m:Int),-9223372036854775808<=m->m<9223372036854775808->Calls prog 17 #[.int .i64 m,.int .i64 1099511627776] f λd l=>(∃n:Nat,n<1099511627776/\d=.returned (.int .i64 n))/\l=f):=λf m d9 e0=>dO m 1099511627776 f d9 e0 O O
  go_enter func9,ntmps9;go_wp2_with fail;refine(x.o _).mono ?_;rintro d k ⟨rfl,D⟩;subst k;go_wp2_with fail;refine(W.o _ a d1 d2).mono ?_;rintro d k ⟨⟨g,e9,rfl⟩,D⟩;subst k;go_wp2_with fail;refine(W.o _ b d3 d4).mono ?_;rintro d k ⟨⟨h,f0,rfl⟩,D⟩;subst k;go_wp2_with fail;have o:Kept w (w.alloc (Obj.cells #[.int .i64 0,.int .i64 0,.int .i64 0,.int .i64 0,.slice none 0 0,.slice none 0 0,.slice none 0 0,.int .i64 0,.slice none 0 0,.slice none 0 0,.int .i64 0,.slice none 0 0,.int .i64 0,.int .i64 0,.string ⟨#[]⟩] 37)):=Xw (Xs _ _) (E _) _;have F:w.heap.size<(w.alloc (Obj.cells #[.int .i64 0,.int .i64 0,.int .i64 0,.int .i64 0,.slice none 0 0,.slice none 0 0,.slice none 0 0,.int .i64 0,.slice none 0 0,.slice none 0 0,.int .i64 0,.slice none 0 0,.int .i64 0,.int .i64 0,.string ⟨#[]⟩] 37)).heap.size:=Xi;have X:∀n,(w.alloc (Obj.cells #[.int .i64 0,.int .i64 0,.int .i64 0,.int .i64 0,.slice none 0 0,.slice none 0 0,.slice none 0 0,.int .i64 0,.slice none 0 0,.slice none 0 0,.int .i64 0,.slice none 0 0,.int .i64 0,.int .i64 0,.string ⟨#[]⟩] 37)).frozen? ⟨w.heap.size,n,none⟩=false:=λn=>XB _ _ _ _ rfl
  have G:∀c,c<15->((w.alloc (Obj.cells #[.int .i64 0,.int .i64 0,.int .i64 0,.int .i64 0,.slice none 0 0,.slice none 0 0,.slice none 0 0,.int .i64 0,.slice none 0 0,.slice none 0 0,.int .i64 0,.slice none 0 0,.int .i64 0,.int .i64 0,.string ⟨#[]⟩] 37)).cell? ⟨w.heap.size,c,none⟩).isSome=true:=λc H=>by
   rw[Xr _ _ _ _ rfl]
   match c,H with
   | 0,_=>rfl
   | 1,_=>rfl
   | 2,_=>rfl
   | 3,_=>rfl
   | 4,_=>rfl
   | 5,_=>rfl
   | 6,_=>rfl
   | 7,_=>rfl
   | 8,_=>rfl
   | 9,_=>rfl
   | 10,_=>rfl
   | 11,_=>rfl
   | 12,_=>rfl
   | 13,_=>rfl
   | 14,_=>rfl
  generalize (w.alloc (Obj.cells #[.int .i64 0,.int .i64 0,.int .i64 0,.int .i64 0,.slice none 0 0,.slice none 0 0,.slice none 0 0,.int .i64 0,.slice none 0 0,.slice none 0 0,.int .i64 0,.slice none 0 0,.int .i64 0,.int .i64 0,.string ⟨#[]⟩] 37))=e1 at *;have p:(g:Int)%256=((g%256:Nat):Int):=O;have q:(g:Int)/256%15=((g/256%15:Nat):Int):=O;have r:(g:Int)/3840=((g/3840:Nat):Int):=O;rw[p,q,r];clear p q r;refine(iY w.heap.size (g%256) (g/256%15) (g/3840) s t e1 F X G O O O d5 d6).mono ?_;rintro d Y ⟨rfl,a0,a1,a2,a3,a4,a5,a6,a7,a8,a9,b0,b1,b2,b3,e⟩;have z:ZH0 _:=e;have b4:ZH0 _:=e.fz;have I:ZH0 (∀c,c<15->(Y.cell? ⟨w.heap.size,c,none⟩).isSome=true):=λc H=>by
   rcases(by omega:c=0\/c=1\/c=2\/c=3\/c=4\/c=5\/c=6\/c=7\/7<c) with rfl|rfl|rfl|rfl|rfl|rfl|rfl|rfl|e2
   .rw[e.c0];rfl
   .rw[e.c1];rfl
   .rw[e.c2];rfl
   .rw[e.c3];rfl
   .rw[e.c4];rfl
   .rw[e.c5];rfl
   .rw[e.c6];rfl
   .rw[e.c7];rfl
   .rw[e.rest c e2];exact G c H
  have e3:=Xq F e.fr.size;clear e G X;replace o:ZH0 _:=o;go_wp2_with fail;have p:(h:Int)%4000=((h%4000:Nat):Int):=O;have q:(h:Int)/4000%8=((h/4000%8:Nat):Int):=O;have r:(h:Int)/32000=((h/32000:Nat):Int):=O;rw[p,q,r];clear p q r;refine(iw w.heap.size (h%4000) (h/4000%8) (h/32000) u v Y e3 b4.o I.o O O O d7 d8).mono ?_;rintro d M ⟨rfl,b5,b6,Z,b7,b8,b9,c0,c1,c2,c3,c4,c5,A⟩;have c6:aV M:=by
   have e4:=i.o.kept o.o;have N:=i.o.lt;exact(e4.fr z.o.fr (λB C=>O)).fr A.fr (λB C=>O)
  have N:=i.o.lt;have c7:ZH0 _:=Dk.make F z.o A (Option.isSome_iff_exists.1 (I.o 14 O)) c6;have c8:ZH0 (Kept w M):=Fr.to_kept (Fr.to_kept o.o z.o.fr (λB C=>O)) A.fr (λB C=>O);clear A c6 I b4 z i o;go_wp2_with fail;refine(iv w.heap.size a0 a1 a2 a3 a4 b5 b6 Z a5 a6 a7 b7 b8 b9 a8 a9 b0 c0 c1 c2 b1 b2 b3 c3 c4 c5 M c7.o N).mono ?_;rintro d e5 ⟨rfl,c9,⟨e6,P,Q⟩,d0⟩;replace P:ZH0 _:=P;replace Q:ZH0 _:=Q;have e7:ZH0 _:=c9;have e8:ZH0 (Kept w e5):=Fr.to_kept c8.o d0 (λB C=>O);clear c9 d0 c7 c8;go_wp2;go_ret;exact⟨R ⟨by first|trivial|rfl,w.heap.size,a0,a1,a2,a3,a4,b5,b6,Z,a5,a6,a7,b7,b8,b9,a8,a9,b0,c0,c1,c2,b1,b2,b3,c3,c4,c5,e6,rfl,N,E _,e7.o,P.o,Q.o⟩,e8.o⟩
