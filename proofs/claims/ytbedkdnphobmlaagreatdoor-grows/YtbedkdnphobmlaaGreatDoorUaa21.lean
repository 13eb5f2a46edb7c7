import Derived.Test.YtbedkdnphobmlaaGreatDoorProg
import Derived.Test.YtbedkdnphobmlaaGreatDoorUaa00
import Derived.Test.YtbedkdnphobmlaaGreatDoorUaa01
import Derived.Test.YtbedkdnphobmlaaGreatDoorUaa05
import Derived.Test.YtbedkdnphobmlaaGreatDoorUaa07
import Derived.Test.YtbedkdnphobmlaaGreatDoorUaa08
import Derived.Test.YtbedkdnphobmlaaGreatDoorUaa09
import Derived.Test.YtbedkdnphobmlaaGreatDoorUaa10
import Derived.Test.YtbedkdnphobmlaaGreatDoorUaa11
import Derived.Test.YtbedkdnphobmlaaGreatDoorUaa12
set_option linter.all false
namespace Go.Proofs.YtbedkdnphobmlaaGreatDoor
open Go.RowKit Px Tryz
def xb(n:Nat):Nat->Nat->List Nat
 | _,0=>[]
 | i,k+1=>n/2^i%2::xb n (i+1) k
theorem aU n:∀(k i:Nat),(xb n i k).length=k
 | 0,_=>rfl
 | k+1,i=>congrArg (·+1) (aU n k (i+1))
theorem lY n:∀(k i m:Nat),xb n i (k+m)=xb n i k++xb n (i+k) m
 | 0,i,m=>by rw[XD,X5];rfl
 | k+1,i,m=>by
  rw[show k+1+m=(k+m)+1 from O];show n/2^i%2::xb n (i+1) (k+m)=n/2^i%2::(xb n (i+1) k++xb n (i+(k+1)) m)
  rw[lY n k (i+1) m,show i+1+k=i+(k+1) from O]
def cb(n:Nat):Nat->List Nat
 | 0=>[]
 | k+1=>n/2^k%2::cb n k
theorem vL n:∀k,(cb n k).length=k
 | 0=>rfl
 | k+1=>congrArg (·+1) (vL n k)
def St.unskip(s:St)(j:Nat):St:=if j=0 then {s with skip:=false} else s
theorem yc{s:St}(h:s.skip=false)j:s.unskip j=s:=by
 unfold St.unskip;split
 .rw[<-h]
 .rfl
def BR:Nat->St->Rw->List Nat->St->Rw->Prop
 | _,s,r,[],s',r'=>s=s'/\r=r'
 | j,s,r,t::l,s',r'=>(s.unskip j).part≠10/\(((s.unskip j).skip=true/\BR ((j+1)%8) (s.unskip j) r l s' r')\/((s.unskip j).skip=false/\(ba (s.unskip j) r t).2.2=0/\BR ((j+1)%8) (ba (s.unskip j) r t).1 (ba (s.unskip j) r t).2.1 l s' r'))
theorem BR.append:∀{a b:List Nat} {j:Nat} {s s1 c:St} {r r1 d:Rw},j<8->BR j s r a s1 r1->BR ((j+a.length)%8) s1 r1 b c d->BR j s r (a++b) c d
 | [],b,j,s,s1,c,r,r1,d,g,e,k=>by
  obtain⟨rfl,rfl⟩:=e;rw[List.length_nil,X5,X1 g] at k;exact k
 | h::a,b,j,s,s1,c,r,r1,d,g,e,k=>by
  have i:(j+(h::a).length)%8=((j+1)%8+a.length)%8:=by rw[Yj];omega
  rw[i] at k;refine⟨e.1,?_⟩;rcases e.2 with⟨f,l⟩|⟨f,m,n⟩
  .exact L ⟨f,BR.append (YD _ O) l k⟩
  .exact R ⟨f,m,BR.append (YD _ O) n k⟩
theorem BR.split:∀{a b:List Nat} {j:Nat} {s f:St} {r g:Rw},j<8->BR j s r (a++b) f g->∃c d,BR j s r a c d/\BR ((j+a.length)%8) c d b f g
 | [],b,j,s,f,r,g,l,e=>⟨s,r,⟨rfl,rfl⟩,by rw[List.length_nil,X5,X1 l];exact e⟩
 | t::a,b,j,s,f,r,g,l,e=>by
  have m:(j+(t::a).length)%8=((j+1)%8+a.length)%8:=by rw[Yj];omega
  rw[m];rcases e.2 with⟨h,n⟩|⟨h,o,p⟩
  .obtain⟨c,d,i,k⟩:=BR.split (YD _ O) n
   exact⟨c,d,⟨e.1,L ⟨h,i⟩⟩,k⟩
  .obtain⟨c,d,i,k⟩:=BR.split (YD _ O) p
   exact⟨c,d,⟨e.1,R ⟨h,o,i⟩⟩,k⟩
theorem sa:∀{l:List Nat} {j:Nat} {s s':St} {r r':Rw},s.skip=true->1<=j->j+l.length<=8->BR j s r l s' r'->s'=s/\r'=r
 | [],j,s,s',r,r',b,f,c,k=>⟨k.1.symm,k.2.symm⟩
 | t::l,j,s,s',r,r',b,f,c,k=>by
  rw[Yj] at c;have g:s.unskip j=s:=by unfold St.unskip;rw[N]
  have d:=k.2;rw[g] at d;rcases d with⟨_,a⟩|⟨a,_⟩
  .by_cases e:l=[]
   .subst e;exact⟨a.1.symm,a.2.symm⟩
   .have:l.length≠0:=λh=>e (List.length_eq_zero_iff.1 h)
    rw[X1 O] at a;exact sa b O O a
  .rw[b] at a;cases a
theorem BR.byte' x:∀{k i:Nat} {s s':St} {r r':Rw},1<=i->i+k=8->BR i s r (xb x i k) s' r'->bN k i s r x=(s',r',0)
 | 0,i,s,s',r,r',h1,h2,k=>by
  obtain⟨rfl,rfl⟩:=k;rfl
 | k+1,i,s,s',r,r',h1,h2,c=>by
  have e:s.unskip i=s:=by unfold St.unskip;rw[N]
  have f:=c;have d:=c.2;rw[e] at d;rcases d with⟨a,_⟩|⟨a,g,b⟩
  .obtain⟨h,j⟩:=sa a h1 (by rw[aU];omega) f
   subst h j;show(if s'.skip then _ else _)=_
   rw[I a]
  .have l:bN k (i+1) (ba s r (x/2^i%2)).1 (ba s r (x/2^i%2)).2.1 x=(s',r',0):=by
    by_cases m:k=0
    .subst m
     obtain⟨rfl,rfl⟩:=b;rfl
    .rw[X1 (show i+1<8 from O)] at b
     exact BR.byte' x O O b
   show(if s.skip then _ else if(ba s r (x/2^i%2)).2.2=0 then _ else _)=_
   rw[N (by rw[a];decide),I g];exact l
theorem BR.byte{x s s' r r'}(h:BR 0 s r (xb x 0 8) s' r'):takeB s r x=(s',r',0)/\s.part≠10:=by
 have e:s.unskip 0={s with skip:=false}:=rfl;have a:s.part≠10:=h.1;rcases h.2 with⟨b,_⟩|⟨b,c,d⟩
 .cases b
 .rw[e] at c d
  refine⟨?_,a⟩;unfold takeB;rw[N a];show(if({s with skip:=false}:St).skip then _ else if(ba {s with skip:=false} r (x/2^0%2)).2.2=0 then _ else _)=_
  rw[N (by show ¬false=true;decide),I c];exact(BR.byte' x (k:=7) (i:=1) O O d)
theorem BR.unskip{l s s' r r'}(a:l≠[])(h:BR 0 {s with skip:=false} r l s' r'):BR 0 s r l s' r':=by
 match l,a with
 | t::l,_=>exact h
theorem BR.cons{j t l s s1 s' r r1 r'}(a:s.skip=false)(c:s.part≠10)(d:ba s r t=(s1,r1,0))(e:BR ((j+1)%8) s1 r1 l s' r'):BR j s r (t::l) s' r':=by
 have b:=yc a j;refine⟨by rw[b];exact c,R ?_⟩;rw[b,d];exact⟨a,rfl,e⟩
def St.at(s:St)(v i:Nat):St:={s with number:=v%2^i,got:=i}
theorem at_one(s:St)v i:(s.at v i).oneBit (v/2^i%2)=s.at v (i+1):=by
 have a:v%2^(i+1)=v%2^i+2^i*(v/2^i%2):=Nat.mod_pow_succ;unfold St.oneBit St.at;show({s with number:=v%2^i+v/2^i%2*2^i,got:=i+1}:St)=_
 rw[a,Zk (2^i)]
theorem sF(s:St)r v(a:s.skip=false)(d:s.part<=9){s' r'}(c:aL (s.at v s.wanted) r (v%2^s.wanted)=(s',r',0)):∀(k i j:Nat),i+k+1=s.wanted->BR j (s.at v i) r (xb v i (k+1)) s' r'
 | 0,i,j,e=>by
  have f:(s.at v i).number+v/2^i%2*2^(s.at v i).got=v%2^s.wanted:=by
   have:=congrArg St.number (at_one s v i)
   rw[show s.wanted=i+1 from O];exact this
  have b:ba (s.at v i) r (v/2^i%2)=(s',r',0):=by
   unfold ba;rw[N (by show ¬s.part=12;omega),N (by show ¬s.part=11;omega),N (by show ¬s.part=13;omega),N (by show ¬i+1<s.wanted;omega),at_one,f,show i+1=s.wanted from O];exact c
  exact BR.cons (s:=s.at v i) a (by show s.part≠10;omega) b ⟨rfl,rfl⟩
 | k+1,i,j,e=>by
  have b:ba (s.at v i) r (v/2^i%2)=(s.at v (i+1),r,0):=by
   unfold ba;rw[N (by show ¬s.part=12;omega),N (by show ¬s.part=11;omega),N (by show ¬s.part=13;omega),I (by show i+1<s.wanted;omega),at_one]
  exact BR.cons (s:=s.at v i) a (by show s.part≠10;omega) b (sF s r v a d c k (i+1) _ O)
theorem eM{s r v w j}(f:s.skip=false)(g:s.part<=9)(b:s.wanted=w)(n:1<=w)(c:s.got=0)(d:s.number=0)(h:v<2^w){s' r'}(i:aL {s with number:=v,got:=w} r v=(s',r',0)):BR j s r (xb v 0 w) s' r':=by
 have e:=X1 h;have k:v%2^s.wanted=v:=by rw[b];exact e
 have l:s.at v 0=s:=by
  have a:({s with number:=0,got:=0}:St)=s:=by cases s;simp only at c d;subst c d;rfl
  unfold St.at;rw[Nat.pow_zero,Nat.mod_one];exact a
 have m:s.at v s.wanted={s with number:=v,got:=w}:=by
  have a:({s with number:=v%2^s.wanted,got:=s.wanted}:St)={s with number:=v%2^w,got:=w}:=by rw[b]
  rw[e] at a;exact a
 have:=sF s r v f g (s':=s') (r':=r') (by rw[m,k];exact i) (w-1) 0 j O
 rw[l,show w-1+1=w from O] at this;exact this
def cD(c:CS):Pt->List Nat->Option Int
 | _,[]=>none
 | p,t::l=>if(c.step p t).2 = -1 then cD c (c.step p t).1 l else if l=[] then some (c.step p t).2 else none
def St.pth(s:St)(p:Pt):St:={s with path:=p}
theorem nR{C}{F:St->Rw->Int->St×Rw×Nat}{s:St}{r}(d:s.skip=false)(e:s.part≠10)(f:∀p b,ba (s.pth p) r b=F (s.pth (C.step p b).1) r (C.step p b).2)(i:∀q,F q r (-1)=(q,r,0)){σ s' r'}(k:∀p,F (s.pth p) r σ=(s',r',0)):∀(l:List Nat) (p:Pt) (j:Nat),cD C p l=some σ->BR j (s.pth p) r l s' r'
 | [],p,j,a=>by cases a
 | b::l,p,j,a=>by
  unfold cD at a;by_cases g:(C.step p b).2 = -1
  .rw[I g] at a
   have c:=f p b;rw[g,i] at c;exact BR.cons (s:=s.pth p) d e c (nR d e f i k l _ _ a)
  .rw[N g] at a
   by_cases h:l=[]
   .rw[I h] at a
    have c:=f p b;rw[Ym a,k] at c;subst h;exact BR.cons (s:=s.pth p) d e c ⟨rfl,rfl⟩
   .rw[N h] at a;cases a
theorem Ag{s:St}(h:s.path=⟨0,0,0⟩):s.pth ⟨0,0,0⟩=s:=by unfold St.pth;rw[<-h]
theorem qF{s r σ l j}(b:s.skip=false)(c:s.part=12)(h:cD s.lit ⟨0,0,0⟩ l=some σ)(d:s.path=⟨0,0,0⟩){s' r'}(e:∀a,dB (s.pth a) r σ=(s',r',0)):BR j s r l s' r':=by
 have:=nR (C:=s.lit) (F:=dB) (s:=s) (r:=r) (s':=s') (r':=r') (σ:=σ) b O (λa f=>by unfold ba;rw[I (by exact c)];rfl) (λg=>by unfold dB;rw[I rfl]) e l ⟨0,0,0⟩ j h
 rw[Ag d] at this;exact this
theorem xz{s r σ l j}(b:s.skip=false)(c:s.part=13)(h:cD s.dist ⟨0,0,0⟩ l=some σ)(d:s.path=⟨0,0,0⟩){s' r'}(e:∀a,cJ (s.pth a) r σ=(s',r',0)):BR j s r l s' r':=by
 have:=nR (C:=s.dist) (F:=cJ) (s:=s) (r:=r) (s':=s') (r':=r') (σ:=σ) b O (λa f=>by unfold ba;rw[N (by show ¬s.part=12;omega),N (by show ¬s.part=11;omega),I (by exact c)];rfl) (λg=>by unfold cJ;rw[I rfl]) e l ⟨0,0,0⟩ j h
 rw[Ag d] at this;exact this
theorem wC{s r}{e:Nat}{l j}(i:s.skip=false)(m:s.part=11)(h:cD s.tb.short ⟨0,0,0⟩ l=some (e:Int))(n:s.path=⟨0,0,0⟩){s'}(o:∀b a,((s.setRep b).pth a).codeLen e=(s',0)):BR j s r l s' r:=by
 -- the field rep changes at each bit: carry it along
 have p:∀(l:List Nat) (a:Pt) (b:Int) (j:Nat),cD s.tb.short a l=some (e:Int)->BR j ((s.setRep b).pth a) r l s' r:=by
  intro l
  induction l with
  | nil=>intro a b j h;cases h
  | cons c l q=>
   intro a b j h;unfold cD at h;have d:ba ((s.setRep b).pth a) r c=((((s.setRep b).pth (s.tb.short.step a c).1).codeLen (s.tb.short.step a c).2).1,r,(((s.setRep b).pth (s.tb.short.step a c).1).codeLen (s.tb.short.step a c).2).2):=by
    unfold ba;rw[N (by show ¬s.part=12;omega),I (by exact m)];rfl
   by_cases f:(s.tb.short.step a c).2 = -1
   .rw[I f] at h
    rw[f] at d;refine BR.cons (s:=(s.setRep b).pth a) i (by show s.part≠10;omega) (s1:=(s.setRep (-1)).pth (s.tb.short.step a c).1) (r1:=r) ?_ (q _ _ _ h);rw[d];unfold St.codeLen;rw[I rfl];rfl
   .rw[N f] at h
    by_cases g:l=[]
    .rw[I g] at h
     rw[Ym h,o] at d;subst g;exact BR.cons (s:=(s.setRep b).pth a) i (by show s.part≠10;omega) d ⟨rfl,rfl⟩
    .rw[N g] at h;cases h
 have k:=p l ⟨0,0,0⟩ s.tb.rep j h;have t:(s.setRep s.tb.rep).pth ⟨0,0,0⟩=s:=by unfold St.setRep St.pth;rw[<-n]
 rw[t] at k;exact k
def eF(c:Nat->Nat):Nat->Nat
 | 0=>0
 | n+1=>2*eF c n+c (n+1)
def cY(f:Nat->Nat)(N s:Nat):Nat:=2*eF (mkC f N) (f s-1)+mkC f s (f s)
theorem eS f i n(c:1<=n)(d:n<=15):mkC f (i+1) n=mkC f i n+if f i=n then 1 else 0:=by
 rw[mkC];by_cases b:okL (f i)
 .rw[I b]
  by_cases a:f i=n
  .rw[I a,a,upd_same]
  .rw[N a,upd_ne _ _ _ O];rfl
 .rw[N b,N (λa=>b (by rw[a];exact⟨c,d⟩))];rfl
theorem AE f{n}(c:1<=n)(d:n<=15){a b}(h:a<=b):mkC f a n<=mkC f b n:=by
 induction b with
 | zero=>
  have:a=0:=O
  subst this;exact E _
 | succ b e=>
  by_cases g:a=b+1
  .subst g;exact E _
  .have:=e O;rw[eS f b n c d];omega
theorem qB f{n}(c:1<=n)(d:n<=15){a b}(h:a<b)(e:f a=n):mkC f a n<mkC f b n:=by
 have:=AE f c d (show a+1<=b from O)
 rw[eS f a n c d,I e] at this;omega
theorem AA f N:∀k,k<=16->mkX (mkC f (N+1)) k=mkX (mkC f N) k+if 1<=f N/\f N<k then 1 else 0
 | 0,_=>by rw[if_neg O];rfl
 | 1,_=>by rw[if_neg O];rfl
 | k+2,c=>by
  show mkX (mkC f (N+1)) (k+1)+mkC f (N+1) (k+1)=mkX (mkC f N) (k+1)+mkC f N (k+1)+_
  rw[AA f N (k+1) O,eS f N (k+1) O O];by_cases a:1<=f N/\f N<k+1
  .rw[I a,if_neg O,I ⟨a.1,O⟩];omega
  .rw[if_neg a]
   by_cases b:f N=k+1
   .rw[I b,I ⟨O,O⟩];omega
   .rw[if_neg b,if_neg O];omega
theorem EO f:∀N,mkT f N=mkX (mkC f N) 16
 | 0=>by
  have b:∀a,mkX (λ_=>0) a=0:=by
   intro a
   induction a with
   | zero=>rfl
   | succ a c=>
    cases a with
    | zero=>rfl
    | succ a=>show mkX (λ_=>0) (a+1)+0=0;rw[c]
  exact(b 16).symm
 | N+1=>by
  rw[AA f N 16 O,<-EO f N,mkT];by_cases a:okL (f N)
  .rw[I a,I ⟨a.1,by have:=a.2;omega⟩]
  .rw[if_neg a,if_neg (λd=>a ⟨d.1,O⟩)];rfl
theorem mZ c{a b}(h:a<=b):mkX c a<=mkX c b:=by
 induction b with
 | zero=>
  have:a=0:=O
  subst this;exact E _
 | succ b d=>
  by_cases e:a=b+1
  .subst e;exact E _
  .have:=d O
   cases b with
   | zero=>
    have:a=0:=O
    subst this;exact E _
   | succ b=>show _<=mkX c (b+1)+c (b+1);omega
def plF(f:Nat->Nat)(N s:Nat):Nat:=mkX (mkC f N) (f s)+mkC f s (f s)
theorem mQ f{N s}(b:s<N)(a:1<=f s)(c:f s<=15):plF f N s<mkX (mkC f N) (f s+1):=by
 have:=qB f a c b rfl
 rw[mY _ _ a];unfold plF;omega
theorem uM f{N s}(a:s<N)(b:1<=f s)(c:f s<=15):plF f N s<mkT f N:=by
 have d:=mQ f a b c;have e:=mZ (mkC f N) (show f s+1<=16 from O);rw[EO];omega
theorem Da f{N s t}(d:s<N)(e:t<N)(g:1<=f s)(i:f s<=15)(a:1<=f t)(b:f t<=15)(h:plF f N s=plF f N t):s=t:=by
 have j:=mQ f d g i;have k:=mQ f e a b;by_cases n:f s<f t
 .have:=mZ (mkC f N) (show f s+1<=f t from O)
  unfold plF at h j;omega
 .by_cases o:f t<f s
  .have:=mZ (mkC f N) (show f t+1<=f s from O)
   unfold plF at h k;omega
  .have c:f s=f t:=O
   unfold plF at h;rw[c] at h;by_cases l:s<t
   .have:=qB f a b l c;omega
   .by_cases m:t<s
    .have:=qB f a b m rfl;omega
    .omega
theorem EP f{N}(g:N<=288):∀a,a<=N->∀b,1<=b->b<=15->mkN f (mkX (mkC f N)) a b=mkX (mkC f N) b+mkC f a b
 | 0,_,b,h1,h2=>rfl
 | a+1,l,b,h1,h2=>by
  have e:=EP f g a O;rw[eS f a b h1 h2,mkN];by_cases c:okL (f a)
  .have h:=e (f a) c.1 c.2
   have i:=uM f (show a<N from O) c.1 c.2;have m:=jg f N;have j:mkN f (mkX (mkC f N)) a (f a)<288:=by rw[h];unfold plF at i;omega
   rw[I ⟨c,j⟩];by_cases d:f a=b
   .rw[I d,d,upd_same,e b h1 h2];omega
   .rw[if_neg d,upd_ne _ _ _ O,e b h1 h2];omega
  .rw[if_neg (λk=>c k.1),e b h1 h2,if_neg (λd=>c (by rw[d];exact⟨h1,h2⟩))];omega
theorem AC f{N}(e:N<=288)s0:∀a,a<=N->∀s,s<a->1<=f s->f s<=15->mkS f (mkX (mkC f N)) s0 a (plF f N s)=s
 | 0,_,s,i,_,_=>O
 | a+1,i,s,hs,h1,d=>by
  have k:=jg f N;rw[mkS];by_cases b:okL (f a)
  .have j:=EP f e a O (f a) b.1 b.2
   have l:=uM f (show a<N from O) b.1 b.2;have h:mkN f (mkX (mkC f N)) a (f a)=plF f N a:=j;rw[I ⟨b,by rw[h];omega⟩,h];by_cases c:s=a
   .subst c;rw[upd_same]
   .rw[upd_ne _ _ _ (λg=>c (Da f O O h1 d b.1 b.2 g))]
    exact AC f e s0 a O s O h1 d
  .rw[if_neg (λg=>b g.1)]
   have c:s≠a:=λc=>by subst c;exact b ⟨h1,d⟩
   exact AC f e s0 a O s O h1 d
theorem AD f:∀a s,s<a->f s<=15->f s<=mkG f a
 | 0,s,e,_=>O
 | a+1,s,hs,b=>by
  rw[mkG];by_cases c:s=a
  .subst c
   by_cases k:okL (f s)
   .rw[I k];omega
   .rw[N k]
    have:f s=0:=by
     by_cases d:f s=0
     .exact d
     .exact absurd ⟨O,b⟩ k
    omega
  .have:=AD f a s O b
   split<;>omega
theorem lP c n:∀a,eF c n*2^a<=eF c (n+a)
 | 0=>Xi
 | a+1=>by
  have:=lP c n a
  rw[<-Yg,eF,Ya,<-Y3];omega
theorem qi f{N s}(p:N<=288)(d:s<N)(e:1<=f s)(g:f s<=15)(l:eF (mkC f N) 15<=32768):cD (cw f N) ⟨0,0,0⟩ (cb (cY f N s) (f s))=some (s:Int):=by
 have H:=AD f N s d g;have q:=qB f e g d rfl;have J:cY f N s=2*eF (mkC f N) (f s-1)+mkC f s (f s):=rfl;have r:∀i,i=plF f N s->(cw f N).symbol i=(s:Int):=λi t=>by
  subst t;have K:=uM f d e g;have L:=jg f N;unfold CS.symbol;rw[if_neg (by show ¬(mkT f N<=_\/_);omega)];show((mkS f (mkX (mkC f N)) (λ_=>0) N _:Nat):Int)=_
  rw[AC f p _ N (E _) s d e g]
 have u:∀a,1<=a->a<=f s->∀b:Pt,b.bits=f s-a->cY f N s/2^a=eF (mkC f N) (f s-a)+b.offset->b.ahead=mkX (mkC f N) (f s-a+1)->cD (cw f N) b (cb (cY f N s) a)=some (s:Int):=by
  intro a
  induction a with
  | zero=>intro M;omega
  | succ a v=>
   intro _ l b P w m;obtain⟨c,n⟩:∃c,c=cY f N s/2^a%2:=⟨_,rfl⟩;have x:cY f N s/2^a=2*(cY f N s/2^(a+1))+c:=by
    rw[Ya,<-Nat.div_div_eq_div_mul,n];omega
   show cD (cw f N) b (cY f N s/2^a%2::cb (cY f N s) a)=_
   rw[<-n];have j:f s-(a+1)+1=f s-a:=O;have y:b.bits+1=f s-a:=O;have k:(cw f N).step b c=if 2*b.offset+c<mkC f N (f s-a) then(⟨f s-a,2*b.offset+c,b.ahead⟩,(cw f N).symbol (b.ahead+(2*b.offset+c))) else(⟨f s-a,2*b.offset+c-mkC f N (f s-a),b.ahead+mkC f N (f s-a)⟩,if f s-a=mkG f N then -2 else -1):=by
    unfold CS.step;rw[y,if_neg (by show ¬(mkG f N<f s-a\/15<f s-a);omega)];rfl
   have Q:eF (mkC f N) (f s-a)=2*eF (mkC f N) (f s-(a+1))+mkC f N (f s-a):=by
    rw[<-j];rfl
   unfold cD;by_cases z:a=0
   .subst z
    rw[Nat.pow_zero,Nat.div_one] at x;have A:2*b.offset+c=mkC f s (f s):=by
     rw[show f s-(0+1)=f s-1 from rfl] at w;omega
    rw[k,A,show f s-0=f s from rfl,I q];have B:(cw f N).symbol (b.ahead+mkC f s (f s))=(s:Int):=r _ (by rw[m,j];rfl);simp only[B];rw[if_neg O];exact I rfl
   .have R:eF (mkC f N) (f s-a)<=cY f N s/2^a:=by
     have h:=lP (mkC f N) (f s-a) (a-1);rw[show f s-a+(a-1)=f s-1 from O] at h;rw[Nat.le_div_iff_mul_le (Nat.two_pow_pos a),show a=(a-1)+1 from O,Ya,<-Y3,show a-1+1=a from O];omega
    have C:¬2*b.offset+c<mkC f N (f s-a):=O;rw[if_neg C,if_neg (show ¬f s-a=mkG f N from O)] at k;rw[k,I rfl];refine v O O _ rfl ?_ ?_
    .show _=_+(2*b.offset+c-mkC f N (f s-a))
     omega
    .show b.ahead+mkC f N (f s-a)=_
     rw[m,j,mY _ _ O]
 refine u (f s) e (E _) ⟨0,0,0⟩ Xi ?_ ?_
 .rw[YC]
  show _=0+0
  refine Nat.div_eq_of_lt ?_;have h:=lP (mkC f N) (f s) (15-f s);rw[show f s+(15-f s)=15 from O] at h;have S:eF (mkC f N) (f s)=2*eF (mkC f N) (f s-1)+mkC f N (f s):=by
   obtain⟨o,D⟩:∃o,f s=o+1:=⟨f s-1,O⟩;rw[D];rfl
  have F:cY f N s+1<=eF (mkC f N) (f s):=O;have G:(cY f N s+1)*2^(15-f s)<=2^f s*2^(15-f s):=by
   rw[<-Nat.pow_add,show f s+(15-f s)=15 from O];exact Xz (XS _ F) (Xz h l)
  exact Nat.le_of_mul_le_mul_right G (Nat.two_pow_pos _)
 .rw[YC];rfl
end Go.Proofs.YtbedkdnphobmlaaGreatDoor
namespace Px
def mgL(f:List Nat->List (Bool×Nat))(l:Nat)(ls:List Nat):List Nat->List (Bool×Nat)
 | []=>(l::ls).map (λx=>(true,x))
 | p::ps=>if p<l then(false,p)::mgL f l ls ps else(true,l)::f (p::ps)
def mg:List Nat->List Nat->List (Bool×Nat)
 | [],ps=>ps.map (λx=>(false,x))
 | l::ls,ps=>mgL (mg ls) l ls ps
def cT:Nat->List (Bool×Nat)->Nat
 | 0,_=>0
 | _+1,[]=>0
 | t+1,x::r=>(if x.1 then 1 else 0)+cT t r
theorem BS:∀(t:Nat) (r:List (Bool×Nat)),cT t r<=t
 | 0,_=>E _
 | _+1,[]=>X3 _
 | t+1,x::r=>by have:=BS t r;show(if x.1 then 1 else 0)+cT t r<=t+1;split<;>omega
theorem ke t x r:cT (t+1) ((true,x)::r)=cT t r+1:=by show 1+cT t r=_;omega
theorem kg t x r:cT (t+1) ((false,x)::r)=cT t r:=by show 0+cT t r=_;omega
theorem rz r:cT 0 r=0:=rfl
theorem kS:∀(t:Nat) (a:List Nat),t<=a.length->cT t (a.map (λx=>(true,x)))=t
 | 0,_,_=>rfl
 | t+1,[],h=>by simp at h
 | t+1,l::a,h=>by
  rw[List.map_cons,ke,kS t a (by simpa using h)]
theorem nY:∀(t:Nat) (a:List Nat),cT t (a.map (λx=>(false,x)))=0
 | 0,_=>rfl
 | t+1,[]=>rfl
 | t+1,p::a=>by rw[List.map_cons,kg,nY t a]
theorem wY f l ls(b:∀a,(f a).length=ls.length+a.length):∀a,(mgL f l ls a).length=ls.length+1+a.length
 | []=>by simp[mgL]
 | p::a=>by
  unfold mgL;by_cases h:p<l
  .rw[I h,Yj,wY f l ls b a];simp;omega
  .rw[N h,Yj,b];simp;omega
theorem hU:∀a b,(mg a b).length=a.length+b.length
 | [],b=>by simp[mg]
 | l::a,b=>by
  show(mgL (mg a) l a b).length=_
  rw[wY _ _ _ (λq=>hU a q)];simp
theorem AI f l ls(c:∀a t,t<=ls.length+a.length->cT t (f a)<=ls.length/\t-cT t (f a)<=a.length):∀a t,t<=ls.length+1+a.length->cT t (mgL f l ls a)<=ls.length+1/\t-cT t (mgL f l ls a)<=a.length
 | [],t,b=>by
  unfold mgL;rw[kS t (l::ls) (by simpa using b)];simp at b ⊢;omega
 | p::a,t,b=>by
  unfold mgL
  match t,b with
  | 0,_=>rw[rz];simp
  | t+1,b=>
   by_cases h:p<l
   .rw[I h,kg]
    have:=AI f l ls c a t (by simp at b;omega)
    simp;omega
   .rw[N h,ke]
    have:=c (p::a) t (by simp at b ⊢;omega)
    simp at this ⊢;omega
theorem sK:∀c a b,b<=c.length+a.length->cT b (mg c a)<=c.length/\b-cT b (mg c a)<=a.length
 | [],a,b,d=>by
  show cT b (a.map (λx=>(false,x)))<=_/\_-cT b (a.map (λx=>(false,x)))<=_
  rw[nY];simp at d ⊢;omega
 | l::c,a,b,d=>by
  have:=AI (mg c) l c (λe f g=>sK c e f g) a b (by simp at d;omega)
  simpa[mg] using this
def Asc:List Nat->Prop
 | []=>True
 | l::ls=>(∀x∈ls,l<=x)/\Asc ls
theorem wW f l ls(o:∀u∈ls,l<=u)(q:∀b a k i,k<a-cT a (f b)->(∀c d,ls[i]? = some c->b[k]? = some d->c<=d)->i<ls.length->k<b.length->i<cT a (f b)):∀b a k i,k<a-cT a (mgL f l ls b)->(∀c d,(l::ls)[i]? = some c->b[k]? = some d->c<=d)->i<ls.length+1->k<b.length->i<cT a (mgL f l ls b)
 | [],a,k,i,_,_,_,h=>by simp at h
 | p::b,a,k,i,e,g,j,h=>by
  unfold mgL at e ⊢
  match a,e with
  | 0,e=>rw[rz] at e;omega
  | a+1,e=>
   by_cases r:p<l
   .rw[I r,kg] at e ⊢
    match k,g,h,e with
    | 0,g,_,_=>
     exfalso
     have s:i<(l::ls).length:=by simpa using j
     have v:=g ((l::ls)[i]) p (Xt s) rfl;have w:l<=(l::ls)[i]:=by
      rcases Y4.1 (YU s) with t|t
      .omega
      .exact o _ t
     omega
    | k+1,g,h,e=>
     exact wW f l ls o q b a k i O (λc d m n=>g c d m (by simpa using n)) j (by simpa using h)
   .rw[N r,ke] at e ⊢
    match i,g,j with
    | 0,_,_=>omega
    | i+1,g,j=>
     have:=q (p::b) a k i O (λc d m n=>g c d (by simpa using m) n) O h
     omega
theorem AG:∀a,Asc a->∀b c k i,k<c-cT c (mg a b)->(∀e f,a[i]? = some e->b[k]? = some f->e<=f)->i<a.length->k<b.length->i<cT c (mg a b)
 | [],_,_,_,_,_,_,_,d,_=>by simp at d
 | l::a,g,b,c,k,i,h,j,d,m=>
  wW (mg a) l a g.1 (AG a g.2) b c k i h j (by simpa using d) m
theorem sS:∀(a:List Nat) (c i:Nat),i<cT c (a.map (λx=>(true,x)))->∃q,q<c/\(a.map (λx=>(true,x)))[q]? = (a[i]?).map (λx=>(true,x))/\i<a.length
 | [],c,i,b=>by
  cases c<;>simp[cT] at b
 | l::a,0,i,b=>by simp[cT] at b
 | l::a,c+1,i,b=>by
  rw[List.map_cons,ke] at b
  match i,b with
  | 0,_=>exact⟨0,O,Xi,Xi⟩
  | i+1,b=>
   obtain⟨q,f,d,e⟩:=sS a c i O;exact⟨q+1,O,by simpa using d,by simpa using e⟩
theorem sL f l ls(j:∀c b i,i<cT b (f c)->∃q,q<b/\(f c)[q]? = (ls[i]?).map (λx=>(true,x))/\i<ls.length):∀c b i,i<cT b (mgL f l ls c)->∃q,q<b/\(mgL f l ls c)[q]? = ((l::ls)[i]?).map (λx=>(true,x))/\i<ls.length+1
 | [],b,i,a=>by
  unfold mgL at a ⊢;obtain⟨q,h,d,e⟩:=sS (l::ls) b i a;exact⟨q,h,d,by simpa using e⟩
 | p::c,b,i,a=>by
  unfold mgL at a ⊢
  match b,a with
  | 0,a=>rw[rz] at a;omega
  | b+1,a=>
   by_cases g:p<l
   .rw[I g,kg] at a
    rw[I g];obtain⟨q,h,d,e⟩:=sL f l ls j c b i a;exact⟨q+1,O,by simpa using d,e⟩
   .rw[N g,ke] at a
    rw[N g]
    match i,a with
    | 0,_=>exact⟨0,O,Xi,O⟩
    | i+1,a=>
     obtain⟨q,h,d,e⟩:=j (p::c) b i O;exact⟨q+1,O,by simpa using d,O⟩
theorem qD:∀a b c i,i<cT c (mg a b)->∃q,q<c/\(mg a b)[q]? = (a[i]?).map (λx=>(true,x))/\i<a.length
 | [],b,c,i,d=>by
  have:cT c (mg [] b)=0:=nY c b
  omega
 | l::a,b,c,i,d=>sL (mg a) l a (qD a) b c i d
def prs:List (Bool×Nat)->List Nat
 | x::y::r=>(x.2+y.2)::prs r
 | _=>[]
theorem jH:∀r,(prs r).length=r.length/2
 | []=>rfl
 | [_]=>by simp[prs]
 | x::a::r=>by show(prs r).length+1=(r.length+1+1)/2;rw[jH r];omega
theorem Ah:∀(r:List (Bool×Nat)) (q:Nat) (x:Bool×Nat),r[q]? = some x->∀c,(prs r)[q/2]? = some c->x.2<=c
 | [],q,x,a,_,_=>by simp at a
 | [d],q,x,a,c,b=>by simp[prs] at b
 | d::e::r,0,x,a,c,b=>by
  simp at a;simp[prs] at b;subst a;subst b;omega
 | d::e::r,1,x,a,c,b=>by
  simp at a;simp[prs] at b;subst a;subst b;omega
 | d::e::r,q+2,x,a,c,b=>by
  have f:(q+2)/2=q/2+1:=O;rw[f] at b;exact Ah r q x (by simpa using a) c (by simpa[prs] using b)
def rwN(ls:List Nat):Nat->List (Bool×Nat)
 | 0=>mg ls []
 | j+1=>mg ls (prs (rwN ls j))
theorem uV:∀a:List Nat,mg a []=a.map (λx=>(true,x))
 | []=>rfl
 | l::a=>by show mgL (mg a) l a []=_;rfl
theorem qk ls:∀j,∃c,(rwN ls j).length+c=2*ls.length/\ls.length<=c*2^j/\c*2^j<ls.length+2^j
 | 0=>⟨ls.length,by simp[rwN,hU];omega,Xi,Xi⟩
 | j+1=>by
  obtain⟨c,h,e,i⟩:=qk ls j;have f:(rwN ls (j+1)).length=ls.length+(rwN ls j).length/2:=by show(mg ls (prs (rwN ls j))).length=_;rw[hU,jH]
  rw[f,Ya];generalize (rwN ls j).length=k at *;generalize ls.length=l at *;generalize 2^j=b at *;obtain⟨a,g⟩:∃a,c=2*a\/c=2*a+1:=⟨c/2,O⟩;rcases g with rfl|rfl
  .refine⟨a,O,?_,?_⟩
   .rw[show a*(b*2)=2*a*b by rw[Zk b 2,<-Y3,Zk a 2]];exact e
   .rw[show a*(b*2)=2*a*b by rw[Zk b 2,<-Y3,Zk a 2]];omega
  .have d:(a+1)*(b*2)=(2*a+1)*b+b:=by
    rw[Zk b 2,<-Y3,YO,YO,YO,Zk a 2];omega
   refine⟨a+1,O,by rw[d];omega,by rw[d];omega⟩
theorem CX ls j(h:ls.length<=2^(j+1)):2*ls.length<=(rwN ls j).length+2:=by
 obtain⟨a,c,d,e⟩:=qk ls j;rw[Ya] at h
 have:a<3:=by
  apply Nat.lt_of_not_le;intro b
  have:=XS (2^j) b
  omega
 omega
def cts(ls:List Nat):Nat->Nat->List Nat
 | t,0=>[cT t (rwN ls 0)]
 | t,j+1=>cT t (rwN ls (j+1))::cts ls (2*(t-cT t (rwN ls (j+1)))) j
theorem jX ls:∀j t,(cts ls t j).length=j+1
 | 0,_=>rfl
 | j+1,t=>by show(cts ls _ j).length+1=_;rw[jX ls j]
def vl:List Nat->Nat
 | []=>0
 | c::cs=>c*2^cs.length+vl cs
theorem Bz ls:∀j t,t<=(rwN ls j).length->vl (cts ls t j)=t*2^j
 | 0,t,c=>by
  show cT t (mg ls [])*2^0+0=_
  have a:t<=(mg ls []).length:=c;rw[hU] at a;rw[uV,kS t ls (by simpa using a)];simp
 | j+1,t,c=>by
  have a:t<=(mg ls (prs (rwN ls j))).length:=c;rw[hU] at a;have f:=sK ls (prs (rwN ls j)) t a;have h:=BS t (rwN ls (j+1));show cT t (rwN ls (j+1))*2^(cts ls _ j).length+vl (cts ls _ j)=_
  have g:t-cT t (rwN ls (j+1))<=(prs (rwN ls j)).length:=f.2;rw[jH] at g;rw[jX,Bz ls j _ O,Ya];generalize cT t (rwN ls (j+1))=e at *;generalize 2^j=d at *;obtain⟨b,rfl⟩:∃b,t=e+b:=⟨t-e,O⟩;rw[YT,YO,<-Y3,<-Y3,Zk 2 b,Y3 b 2 d,Zk 2 d,<-Y3 b d 2]
def Dn:List Nat->Prop
 | []=>True
 | c::cs=>(∀x∈cs,x<=c)/\Dn cs
theorem xI ls(e:Asc ls):∀j t,t<=(rwN ls j).length->(∀a∈cts ls t j,a<=cT t (rwN ls j))/\Dn (cts ls t j)
 | 0,t,_=>⟨λa b=>by simp[cts] at b;omega,λa b=>by simp at b,trivial⟩
 | j+1,t,l=>by
  have f:t<=(mg ls (prs (rwN ls j))).length:=l;rw[hU] at f;have m:=sK ls (prs (rwN ls j)) t f;have n:t-cT t (rwN ls (j+1))<=(prs (rwN ls j)).length:=m.2;have o:=n;rw[jH] at o;obtain⟨g,p⟩:=xI ls e j (2*(t-cT t (rwN ls (j+1)))) O;have h:cT (2*(t-cT t (rwN ls (j+1)))) (rwN ls j)<=cT t (rwN ls (j+1)):=by
   apply Nat.le_of_not_lt;intro i;have q:∃c,c<2*(t-cT t (rwN ls (j+1)))/\(rwN ls j)[c]? = (ls[cT t (rwN ls (j+1))]?).map (λa=>(true,a))/\cT t (rwN ls (j+1))<ls.length:=by
    cases j with
    | zero=>exact qD ls [] _ _ i
    | succ j=>exact qD ls (prs (rwN ls j)) _ _ i
   obtain⟨c,x,k,r⟩:=q
   have:=AG ls e (prs (rwN ls j)) t (c/2) (cT t (rwN ls (j+1))) (by show c/2<t-cT t (rwN ls (j+1));omega) (λs u v w=>by
    rw[v] at k;exact Ah (rwN ls j) c (true,s) k u w) r O
   exact Nat.lt_irrefl _ this
  refine⟨λa b => ?_,λa b=>Xz (g a b) h,p⟩;rcases Y4.1 b with d|d
  .exact Nat.le_of_eq d
  .exact Xz (g a d) h
def lnO(cs:List Nat)(i:Nat):Nat:=(cs.filter (λc=>decide (i<c))).length
def sm(f:Nat->Nat):Nat->Nat
 | 0=>0
 | n+1=>sm f n+f n
theorem jz{f g}:∀a,(∀i,i<a->f i=g i)->sm f a=sm g a
 | 0,_=>rfl
 | a+1,b=>by rw[sm,sm,jz a (λi c=>b i O),b a O]
theorem sO cs i(h:∀a∈cs,a<=i):lnO cs i=0:=by
 unfold lnO;rw[List.filter_eq_nil_iff.2 (λa b=>by have:=h a b;simp;omega)];rfl
theorem sX:∀(a:List Nat) (n:Nat),Dn a->(∀d∈a,d<=n)->sm (λi=>2^(a.length-lnO a i)) n+vl a=n*2^a.length
 | [],n,_,_=>by
  have:∀n,sm (λi=>2^(([]:List Nat).length-lnO [] i)) n=n:=λn=>by
   induction n with
   | zero=>rfl
   | succ n g=>rw[sm,g];simp
  rw[this];simp[vl]
 | c::a,n,hd,h=>by
  have g:=sX a n hd.2 (λd e=>h d (List.mem_cons_of_mem _ e));have k:∀b,b<=n->sm (λi=>2^((c::a).length-lnO (c::a) i)) b+min b c*2^a.length=sm (λi=>2^(a.length-lnO a i)) b+b*2^a.length:=by
   intro b
   induction b with
   | zero=>intro _;simp[sm]
   | succ b l=>
    intro p
    have:=l O
    rw[sm,sm];by_cases m:b<c
    .have f:lnO (c::a) b=lnO a b+1:=by simp[lnO,m]
     rw[f,Yj,Nat.add_sub_add_right,Nat.min_eq_left O];rw[Nat.min_eq_left O] at this;rw[YO];simp only[Yj] at this;omega
    .have f:lnO (c::a) b=0:=sO _ _ (λd e=>by
      rcases Y4.1 e with j|j
      .omega
      .have:=hd.1 d j;omega)
     have o:lnO a b=0:=sO _ _ (λd e=>by have:=hd.1 d e;omega);rw[f,o,Yj,Nat.sub_zero,Nat.sub_zero,Ya,Nat.min_eq_right O];rw[Nat.min_eq_right O] at this;rw[YO];simp only[Yj] at this;omega
  have:=k n (E _)
  rw[Nat.min_eq_right (h c List.mem_cons_self)] at this;show _+(c*2^a.length+vl a)=n*2^(a.length+1)
  rw[Ya,<-Y3];omega
theorem I1 ls(d:Asc ls)j(n:2<=ls.length)(e:ls.length<=2^(j+1)):sm (λi=>2^(j+1-lnO (cts ls (2*ls.length-2) j) i)) ls.length=2^(j+1):=by
 have o:=CX ls j e;have b:2*ls.length-2<=(rwN ls j).length:=O;obtain⟨f,g⟩:=xI ls d j _ b;have h:∀c∈cts ls (2*ls.length-2) j,c<=ls.length:=λc k=>by
  have p:=f c k;have q:cT (2*ls.length-2) (rwN ls j)<=ls.length:=by
   cases j with
   | zero=>exact(sK ls [] _ (by have:=b;rw[show rwN ls 0=mg ls [] from rfl,hU] at this;exact this)).1
   | succ j=>exact(sK ls (prs (rwN ls j)) _ (by have:=b;rw[show rwN ls (j+1)=mg ls (prs (rwN ls j)) from rfl,hU] at this;exact this)).1
  omega
 have l:=sX (cts ls (2*ls.length-2) j) ls.length g h;rw[Bz ls j _ b,jX] at l;have r:(2*ls.length-2)*2^j+2^(j+1)=ls.length*2^(j+1):=by
  rw[Ya];obtain⟨a,m⟩:∃a,ls.length=a+1:=⟨ls.length-1,O⟩;rw[m,show 2*(a+1)-2=2*a from O,YO,Zk (2^j) 2,<-Y3,Zk 2 a,Zi]
 omega
end Px
namespace Go.Proofs.YtbedkdnphobmlaaGreatDoor
open Go.RowKit Px Tryz
theorem xu f N:∀n,n<=15->eF (mkC f (N+1)) n=eF (mkC f N) n+if 1<=f N/\f N<=n then 2^(n-f N) else 0
 | 0,_=>by rw[if_neg O];rfl
 | n+1,c=>by
  show 2*eF (mkC f (N+1)) n+mkC f (N+1) (n+1)=2*eF (mkC f N) n+mkC f N (n+1)+_
  rw[xu f N n O,eS f N (n+1) O c];by_cases a:1<=f N/\f N<=n
  .rw[I a,if_neg O,I ⟨a.1,O⟩,show n+1-f N=(n-f N)+1 from O,Ya];omega
  .rw[if_neg a]
   by_cases b:f N=n+1
   .rw[I b,I ⟨O,O⟩,b,YC,Nat.pow_zero];omega
   .rw[if_neg b,if_neg O];omega
theorem lO:∀n,eF (λ_=>0) n=0
 | 0=>rfl
 | n+1=>by show 2*eF (λ_=>0) n+0=0;rw[lO n]
theorem vy f M(a:M<=15):∀N,(∀i,i<N->f i<=M)->eF (mkC f N) M=sm (λs=>if f s=0 then 0 else 2^(M-f s)) N
 | 0,_=>lO M
 | N+1,b=>by
  rw[xu f N M a,vy f M a N (λi d=>b i O)];show _=sm _ N+(if f N=0 then 0 else 2^(M-f N))
  have:=b N O
  by_cases c:f N=0
  .rw[if_neg O,I c]
  .rw[I ⟨O,this⟩,if_neg c]
theorem na f{n}(a:1<=n)(b:n<=15):∀N,(∀i,i<N->f i≠n)->mkC f N n=0
 | 0,_=>rfl
 | N+1,h=>by rw[eS f N n a b,na f a b N (λi c=>h i O),if_neg (h N O)]
theorem xw f{M N}(a:∀i,i<N->f i<=M):∀k,M+k<=15->eF (mkC f N) (M+k)=eF (mkC f N) M*2^k
 | 0,_=>Xi
 | k+1,c=>by
  show 2*eF (mkC f N) (M+k)+mkC f N (M+k+1)=_
  rw[xw f a k O,na f O O N (λi b=>by have:=a i b;omega),X5,Ya,Zk 2,Y3]
theorem Bd f{N M}(c:M<=15)(a:∀b,b<N->f b<=M)(h:sm (λs=>if f s=0 then 0 else 2^(M-f s)) N=2^M):eF (mkC f N) 15=32768:=by
 have:=xw f a (15-M) O
 rw[show M+(15-M)=15 from O,vy f M c N a,h,<-Nat.pow_add,show M+(15-M)=15 from O] at this;exact this
theorem tm C:∀c k b,k+c=16->1<=k->b+eF C.count (k-1)=2^(k-1)->eF C.count 15=32768->jl C c b k=true
 | 0,k,b,h,h1,d,f=>by
  have:k=16:=O
  subst this;show decide (b=0)=true
  rw[XL];have e:(2:Nat)^(16-1)=32768:=rfl;rw[e] at d;have i:16-1=15:=rfl;rw[i] at d;omega
 | c+1,k,b,h,h1,d,f=>by
  obtain⟨a,rfl⟩:∃a,k=a+1:=⟨k-1,O⟩;rw[YL] at d;have m:eF C.count (a+1)=2*eF C.count a+C.count (a+1):=rfl;show(if 2*b<C.count (a+1) then false else jl C c (2*b-C.count (a+1)) (a+1+1))=true
  have g:=lP C.count (a+1) (15-(a+1));have e:a+1+(15-(a+1))=15:=O;rw[e,f] at g;have j:eF C.count (a+1)*2^(15-(a+1))<=2^(a+1)*2^(15-(a+1)):=by
   rw[<-Nat.pow_add,e];exact g
  have l:=Nat.le_of_mul_le_mul_right j (Nat.two_pow_pos _);rw[Ya] at l;rw[N];refine tm C c (a+1+1) _ O O ?_ f;rw[YL,Ya];omega
theorem mH f{N}(h:eF (mkC f N) 15=32768):(cw f N).full=true:=tm (cw f N) 15 1 1 rfl O rfl h
theorem jM f{N}:∀a,(∀i,N<=i->i<N+a->f i=0)->mkC f (N+a)=mkC f N
 | 0,_=>rfl
 | a+1,h=>by
  show(if okL (f (N+a)) then _ else _)=_
  rw[if_neg (by rw[h (N+a) O O];exact λb=>by have:=b.1;omega)];exact jM f a (λi c d=>h i c O)
theorem dP{f g}:∀N,(∀i,i<N->f i=g i)->mkC f N=mkC g N
 | 0,_=>rfl
 | N+1,h=>by
  show(if okL (f N) then _ else _)=(if okL (g N) then _ else _)
  rw[h N O,dP N (λi a=>h i O)]
theorem nS{f g N s}(h:∀a,a<N->f a=g a)(b:s<N):cY f N s=cY g N s:=by
 unfold cY;rw[dP N h,dP s (λa c=>h a O),h s b]
theorem xK f{N M s}(d:N<=M)(h:∀a,N<=a->a<M->f a=0):cY f M s=cY f N s:=by
 obtain⟨b,rfl⟩:∃b,M=N+b:=⟨M-N,O⟩;unfold cY;rw[jM f b (λa c e=>h a c O)]
theorem kE f:∀N,(∀i,i<N->f i=0)->mkT f N=0
 | 0,_=>rfl
 | N+1,h=>by
  show(if okL (f N) then _ else _)=_
  rw[if_neg (by rw[h N O];exact λa=>by have:=a.1;omega)];exact kE f N (λi b=>h i O)
theorem mG f{x}:∀N,x<N->f x=1->(∀a,a<N->a≠x->f a=0)->mkT f N=1/\mkC f N 1=1/\eF (mkC f N) 15=16384
 | 0,h,_,_=>O
 | N+1,h,h1,d=>by
  by_cases g:x=N
  .subst g
   have b:∀a,a<x->f a=0:=λa c=>d a O O
   refine⟨?_,?_,?_⟩
   .show(if okL (f x) then mkT f x+1 else _)=1
    rw[I (by rw[h1];exact⟨O,O⟩),kE f x b]
   .rw[eS f x 1 O O,I h1,na f O O x (λa c=>by rw[b a c];omega)]
   .rw[xu f x 15 O,I,h1]
    have:mkC f x=mkC f 0:=by
     have:=jM f (N:=0) x (λa _ c=>b a O)
     rw[XD] at this;exact this
    rw[this,show mkC f 0=λ_=>0 from rfl,lO]
  .have i:=d N O (λe=>g e.symm)
   have b:¬okL (f N):=by rw[i];exact λe=>by have:=e.1;omega
   have j:mkT f (N+1)=mkT f N:=if_neg b;have k:mkC f (N+1)=mkC f N:=if_neg b;rw[j,k];exact(mG f N O h1 (λa c l=>d a O l))
def RWL:Rw->List Nat->Rw->Prop
 | r,[],r'=>r=r'
 | r,x::l,r'=>eH r/\(r.take x).2=0/\RWL (r.take x).1 l r'
theorem RWL.append:∀{l m:List Nat} {r a b:Rw},RWL r l a->RWL a m b->RWL r (l++m) b
 | [],m,r,a,b,c,k=>by cases c;exact k
 | x::l,m,r,a,b,c,k=>⟨c.1,c.2.1,RWL.append c.2.2 k⟩
theorem RWL.split:∀{l m:List Nat} {r b:Rw},RWL r (l++m) b->∃c,RWL r l c/\RWL c m b
 | [],m,r,b,a=>⟨r,rfl,a⟩
 | x::l,m,r,b,a=>by
  obtain⟨c,d,e⟩:=RWL.split a.2.2;exact⟨c,⟨a.1,a.2.1,d⟩,e⟩
def kr(s:Nat)(l:List Nat):Nat:=l.foldl adl s
theorem tQ s l m:kr s (l++m)=kr (kr s l) m:=by unfold kr;rw[Yk]
theorem xX a:kr 1 a<4294967296:=by
 have d:∀(a:List Nat) (b:Nat),b<4294967296->kr b a<4294967296:=by
  intro a
  induction a with
  | nil=>exact λb c=>c
  | cons f a e=>exact λb c=>e _ (vO _ _)
 exact d a 1 O
structure Dn (s:St) (done:List Nat) (wd:Nat):Prop where
 count:s.count=done.length
 sum:s.sum=kr 1 done
 hist:∀i,i<done.length->s.hist i=done.getD i 0
 win:s.window=wd
structure SS (s:St) (p w:Nat) (done:List Nat) (wd:Nat):Prop where
 part:s.part=p
 wanted:s.wanted=w
 got:s.got=0
 number:s.number=0
 path:s.path=⟨0,0,0⟩
 dn:Dn s done wd
theorem Dn.ss{s done wd}(h:Dn s done wd)q v:SS (s.enter q v) q v done wd:=⟨rfl,rfl,rfl,rfl,rfl,⟨h.count,h.sum,h.hist,h.win⟩⟩
structure SE (s:St) (done:List Nat) (wd:Nat) (last:Bool):Prop where
 ss:SS s (if last then 9 else 1) (if last then 32 else 3) done wd
 skip:s.skip=last
theorem iq{s done wd last}(a:Dn s done wd)(b:s.last=last)(c:s.skip=false):SE s.endBlock done wd last:=by
 unfold St.endBlock;cases last with
 | true=>rw[I b];exact⟨⟨rfl,rfl,rfl,rfl,rfl,⟨a.count,a.sum,a.hist,a.win⟩⟩,rfl⟩
 | false=>rw[N (by rw[b];decide)];exact⟨⟨rfl,rfl,rfl,rfl,rfl,⟨a.count,a.sum,a.hist,a.win⟩⟩,c⟩
theorem qW{s r x}(a:(r.take x).2=0)(b:s.count<2078):aB s r x=(s.give x,(r.take x).1,0):=by
 unfold aB;rw[I a,N]
theorem Dn.give{s done wd}(h:Dn s done wd)x:Dn (s.give x) (done++[x]) wd:=by
 refine⟨?_,?_,λa c => ?_,h.win⟩
 .rw[Xv];show s.count+1=_;rw[h.count];rfl
 .rw[tQ,<-h.sum];rfl
 .rw[Xv,List.length_singleton] at c
  show upd s.hist s.count x a=_
  rw[h.count];by_cases b:a=done.length
  .rw[b,upd_same,G,XP (E _),YC];rfl
  .rw[upd_ne _ _ _ b,h.hist a O,G,G,XV O]
theorem xJ{wd D}:∀(e:List Nat) {s:St} {r r':Rw} {done:List Nat},Dn s done wd->1<=D->D<=done.length->(∀a,a<e.length->(done++e).getD (done.length+a-D) 0=e.getD a 0)->(done++e).length<=2078->RWL r e r'->∃s',bT e.length D s r=(s'.enter 12 0,r',0)/\Dn s' (done++e) wd/\s'.last=s.last/\s'.skip=s.skip/\s'.lit=s.lit/\s'.dist=s.dist
 | [],s,r,r',done,hd,h1,h2,c,hc,b=>by
  cases b
  exact⟨s,rfl,by rw[XN];exact hd,rfl,rfl,rfl,rfl⟩
 | x::e,s,r,r',done,hd,h1,h2,c,hc,b=>by
  rw[Xv,Yj] at hc;have f:s.hist (s.count-D)=x:=by
   have:=c 0 Xi
   rw[X5,G,XV O,<-G] at this;rw[hd.count,hd.hist _ O,this];rfl
  obtain⟨s',g,d,h⟩:=xJ e (s:=s.give x) (done:=done++[x]) (hd.give x) h1 (by rw[Xv];omega) (λa i=>by
   have:=c (a+1) (by rw[Yj];omega)
   rw[XY,Xv,List.length_singleton,List.singleton_append,show done.length+1+a-D=done.length+(a+1)-D from O,this];rfl) (by rw[Xv,Xv,List.length_singleton];omega) b.2.2
  rw[XY] at d;refine⟨s',?_,d,h⟩;show(if(aB s r (s.hist (s.count-D))).2.2=0 then bT e.length D (aB s r (s.hist (s.count-D))).1 (aB s r (s.hist (s.count-D))).2.1 else _)=_
  rw[f,(qW (s:=s) b.2.1 (by rw[hd.count];omega)),I rfl];exact g
theorem yW s p r x:aB (s.pth p) r x=((aB s r x).1.pth p,(aB s r x).2.1,(aB s r x).2.2):=by
 unfold aB;split
 .show(if 2078<=s.count then _ else _)=_
  split<;>rfl
 .rfl
theorem nP p D:∀(k:Nat) (s:St) (r:Rw),(bT k D s r).2.2=0->bT k D (s.pth p) r=bT k D s r
 | 0,s,r,_=>rfl
 | k+1,s,r,a=>by
  have c:bT (k+1) D s r=if(aB s r (s.hist (s.count-D))).2.2=0 then bT k D (aB s r (s.hist (s.count-D))).1 (aB s r (s.hist (s.count-D))).2.1 else aB s r (s.hist (s.count-D)):=rfl
  have d:bT (k+1) D (s.pth p) r=if(aB (s.pth p) r (s.hist (s.count-D))).2.2=0 then bT k D (aB (s.pth p) r (s.hist (s.count-D))).1 (aB (s.pth p) r (s.hist (s.count-D))).2.1 else aB (s.pth p) r (s.hist (s.count-D)):=rfl
  rw[c] at a;rw[d,c,yW];by_cases b:(aB s r (s.hist (s.count-D))).2.2=0
  .rw[I b] at a ⊢
   rw[I b];exact nP p D k _ _ a
  .rw[N b] at a
   exact absurd a b
theorem zi{s s' r r' D}(h:cz s r D=(s',r',0))p:cz (s.pth p) r D=(s',r',0):=by
 unfold cz at h ⊢;show(if D<1\/s.count<D\/s.window<D then _ else bT s.length D (s.pth p) r)=_
 split at h
 .cases h
 .rename_i a
  rw[N a,nP p D _ s r (by rw[h]),h]
def Tk1(wd:Nat)(done:List Nat)(t:Nat×Nat×Nat)(e:List Nat):Prop:=
 (t.2.1=0/\e=[t.1]/\t.1<256)\/(3<=t.2.1/\t.2.1<=258/\e.length=t.2.1/\1<=t.2.2/\t.2.2<=done.length/\t.2.2<=wd/\∀i,i<e.length->(done++e).getD (done.length+i-t.2.2) 0=e.getD i 0)
def TkD(wd:Nat):List Nat->List (Nat×Nat×Nat)->List Nat->Prop
 | _,[],e=>e=[]
 | done,t::ts,e=>∃e1 e2,e=e1++e2/\Tk1 wd done t e1/\TkD wd (done++e1) ts e2
def TkB(PL PD:Nat->Prop)(kl kd:Nat->List Nat)(t:Nat×Nat×Nat)(bs:List Nat):Prop:=
 (t.2.1=0/\PL t.1/\bs=kl t.1)\/(t.2.1≠0/\∃j k,j<29/\fa.getD j 0<=t.2.1/\t.2.1-fa.getD j 0<2^gT.getD j 0/\k<30/\fQ.getD k 0<=t.2.2/\t.2.2-fQ.getD k 0<2^(k/2-1)/\PL (257+j)/\PD k/\bs=kl (257+j)++(xb (t.2.1-fa.getD j 0) 0 (gT.getD j 0)++(kd k++xb (t.2.2-fQ.getD k 0) 0 (k/2-1))))
def fM(PL PD:Nat->Prop)(kl kd:Nat->List Nat):List (Nat×Nat×Nat)->List Nat->Prop
 | [],bs=>bs=[]
 | t::ts,bs=>∃b1 b2,bs=b1++b2/\TkB PL PD kl kd t b1/\fM PL PD kl kd ts b2
theorem fM.snoc{PL PD:Nat->Prop}{kl kd}:∀{ts:List (Nat×Nat×Nat)} {t:Nat×Nat×Nat} {b c:List Nat},fM PL PD kl kd ts b->TkB PL PD kl kd t c->fM PL PD kl kd (ts++[t]) (b++c)
 | [],t,b,c,a,k=>by
  have d:b=[]:=a;subst d;exact⟨c,[],Xi,k,rfl⟩
 | t0::ts,t,b,c,a,k=>by
  obtain⟨e,f,rfl,g,h⟩:=a;exact⟨e,f++c,by rw[XY],g,fM.snoc h k⟩
structure SB (s:St) (done:List Nat) (wd:Nat) (last:Bool) (C E:CS):Prop where
 ss:SS s 12 0 done wd
 skip:s.skip=false
 last:s.last=last
 lit:s.lit=C
 dist:s.dist=E
theorem Cr{PL PD:Nat->Prop}{kl kd C E}(J:∀n,PL n->cD C ⟨0,0,0⟩ (kl n)=some (n:Int))(a0:∀n,PD n->cD E ⟨0,0,0⟩ (kd n)=some (n:Int)){wd last t e bs done s r r' j}(a1:j<8)(h:SB s done wd last C E)(K:Tk1 wd done t e)(a2:TkB PL PD kl kd t bs)(L:(done++e).length<=2078)(A:RWL r e r'):∃a,BR j s r bs a r'/\SB a (done++e) wd last C E:=by
 have a3:=h.ss.dn.count;have z:=h.lit;have B:=h.dist;rcases a2 with⟨M,F,rfl⟩|⟨M,b,d,P,d0,Q,d1,d2,R,a4,a5,rfl⟩
 .rcases K with⟨_,rfl,d3⟩|⟨S,_⟩
  .rw[Xv,List.length_singleton] at L
   have a6:(r.take t.1).1=r':=A.2.2;refine⟨(s.enter 12 0).give t.1,?_,⟨?_,h.skip,h.last,z,B⟩⟩
   .refine qF (σ:=(t.1:Int)) h.skip h.ss.part (by rw[z];exact J _ F) h.ss.path (λo => ?_)
    unfold dB;rw[N,N,N,N,YQ];show aB (s.enter 12 0) r t.1=_
    rw[(qW (s:=s.enter 12 0) A.2.1 (by show s.count<2078;omega)),a6]
   .have:=(h.ss.dn.ss 12 0).dn.give t.1
    exact⟨rfl,rfl,rfl,rfl,rfl,this⟩
  .omega
 .rcases K with⟨S,_⟩|⟨d4,d5,a7,a8,a9,d6,b0⟩
  .exact absurd S M
  ·
   have b1:BR j s r (kl (257+b)) (s.copy b) r:=by
    refine qF (σ:=((257+b:Nat):Int)) h.skip h.ss.part (by rw[z];exact J _ a4) h.ss.path (λo => ?_);unfold dB;rw[N,N,N,I,YQ,show 257+b-257=b from O];show((s.pth o).copy b,r,0)=_
    unfold St.copy
    split<;>rfl
   obtain⟨i,c⟩:∃i,i=({s with length:=t.2.1}:St).enter 13 0:=⟨_,rfl⟩;have b2:BR ((j+(kl (257+b)).length)%8) (s.copy b) r (xb (t.2.1-fa.getD b 0) 0 (gT.getD b 0)) i r:=by
    by_cases l:gT.getD b 0=0
    .rw[l,Nat.pow_zero] at Q
     rw[l];refine⟨?_,rfl⟩;unfold St.copy;rw[I l,c,show fa.getD b 0=t.2.1 from O]
    .have b3:s.copy b=({s with length:=fa.getD b 0}:St).enter 7 (gT.getD b 0):=by unfold St.copy;rw[N l]
     rw[b3];refine eM (s:=({s with length:=fa.getD b 0}:St).enter 7 (gT.getD b 0)) (w:=gT.getD b 0) h.skip (by show 7<=9;omega) rfl O rfl rfl Q ?_;unfold aL;rw[N (by show ¬7=0;omega),N (by show ¬7=1;omega),N (by show ¬7=2;omega),N (by show ¬7=3;omega),N (by show ¬7=4;omega),N (by show ¬7=5;omega),N (by show ¬7=6;omega),I (by rfl),c];unfold St.lengthRest;show(({s with length:=fa.getD b 0+(t.2.1-fa.getD b 0),number:=_,got:=_,wanted:=_,part:=_,path:=_}:St).enter 13 0,r,0)=_
     rw[show fa.getD b 0+(t.2.1-fa.getD b 0)=t.2.1 from O];rfl
   -- the copy itself
   have T:∀k:St,k.count=s.count->k.sum=s.sum->k.hist=s.hist->k.window=s.window->k.length=t.2.1->k.last=s.last->k.skip=s.skip->k.lit=s.lit->k.dist=s.dist->∃a,cz k r t.2.2=(a.enter 12 0,r',0)/\Dn a (done++e) wd/\a.last=s.last/\a.skip=s.skip/\a.lit=s.lit/\a.dist=s.dist:=λk b4 b5 b6 b7 b8 b9 c0 c1 c2=>by
    have G:Dn k done wd:=⟨by rw[b4];exact a3,by rw[b5];exact h.ss.dn.sum,λb P=>by rw[b6];exact h.ss.dn.hist b P,by rw[b7];exact h.ss.dn.win⟩;obtain⟨a,p,q,u,v,x,y⟩:=xJ (D:=t.2.2) e G a8 a9 b0 L A;refine⟨a,?_,q,by rw[u,b9],by rw[v,c0],by rw[x,c1],by rw[y,c2]⟩;unfold cz;rw[N (by rw[G.count,G.win];omega),b8,<-a7];exact p
   have U:i.part=13:=by rw[c];rfl
   have V:i.path=⟨0,0,0⟩:=by rw[c];rfl
   have H:i.skip=false:=by rw[c];exact h.skip
   have W:cD i.dist ⟨0,0,0⟩ (kd d)=some ((d:Nat):Int):=by rw[show i.dist=E from by rw[c];exact B];exact a0 _ a5
   have X:∀a:St,Dn a (done++e) wd->a.last=s.last->a.skip=s.skip->a.lit=s.lit->a.dist=s.dist->SB (a.enter 12 0) (done++e) wd last C E:=λa c3 c4 c5 c6 c7=>⟨c3.ss 12 0,by show a.skip=false;rw[c5];exact h.skip,by show a.last=last;rw[c4];exact h.last,by show a.lit=C;rw[c6];exact z,by show a.dist=E;rw[c7];exact B⟩
   have Y:∀{a:St},(∀m,m<8->BR m i r (kd d++xb (t.2.2-fQ.getD d 0) 0 (d/2-1)) a r')->BR j s r (kl (257+b)++(xb (t.2.1-fa.getD b 0) 0 (gT.getD b 0)++(kd d++xb (t.2.2-fQ.getD d 0) 0 (d/2-1)))) a r':=fun {a} c8=>b1.append a1 (b2.append (YD _ O) (c8 _ (YD _ O)))
   by_cases l:d/2-1=0
   .rw[l,Nat.pow_zero] at R
    obtain⟨a,p,q,u,v,x,y⟩:=T (i.pth ⟨0,0,0⟩) (by rw[c];rfl) (by rw[c];rfl) (by rw[c];rfl) (by rw[c];rfl) (by rw[c];rfl) (by rw[c];rfl) (by rw[c];rfl) (by rw[c];rfl) (by rw[c];rfl);refine⟨a.enter 12 0,Y (λm Z => ?_),X a q u v x y⟩;rw[l];show BR m i r (kd d++[]) _ r'
    rw[XN];refine xz (σ:=(d:Int)) H U W V (λo => ?_);unfold cJ;rw[N,N,YQ,I l,show fQ.getD d 0=t.2.2 from O];exact zi (s:=i.pth ⟨0,0,0⟩) p o
   .obtain⟨g,f⟩:∃g,g=({i with base:=fQ.getD d 0}:St).enter 8 (d/2-1):=⟨_,rfl⟩
    have F:∀m,BR m i r (kd d) g r:=λm=>by
     refine xz (σ:=(d:Int)) H U W V (λo => ?_);unfold cJ;rw[N,N,YQ,N l,f];rfl
    obtain⟨a,p,q,u,v,x,y⟩:=T ({g with number:=t.2.2-fQ.getD d 0,got:=d/2-1}:St) (by rw[f,c];rfl) (by rw[f,c];rfl) (by rw[f,c];rfl) (by rw[f,c];rfl) (by rw[f,c];rfl) (by rw[f,c];rfl) (by rw[f,c];rfl) (by rw[f,c];rfl) (by rw[f,c];rfl);refine⟨a.enter 12 0,Y (λm Z => ?_),X a q u v x y⟩;refine(F m).append Z ?_;refine eM (s:=g) (w:=d/2-1) (by rw[f];exact H) (by rw[f];show 8<=9;omega) (by rw[f];rfl) O (by rw[f];rfl) (by rw[f];rfl) R ?_;unfold aL;have c9:g.part=8:=by rw[f];rfl
    rw[N (by show ¬g.part=0;omega),N (by show ¬g.part=1;omega),N (by show ¬g.part=2;omega),N (by show ¬g.part=3;omega),N (by show ¬g.part=4;omega),N (by show ¬g.part=5;omega),N (by show ¬g.part=6;omega),N (by show ¬g.part=7;omega),I (by exact c9)];unfold dC;show cz _ r (g.base+_)=_
    rw[show g.base+(t.2.2-fQ.getD d 0)=t.2.2 from by rw[f];show fQ.getD d 0+_=_;omega];exact p
