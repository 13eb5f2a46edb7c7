import Derived.Test.YtbedkdnphobmlaaGreatDoorProg
import Derived.Test.YtbedkdnphobmlaaGreatDoorUaa00
import Derived.Test.YtbedkdnphobmlaaGreatDoorUaa01
import Derived.Test.YtbedkdnphobmlaaGreatDoorUaa05
import Derived.Test.YtbedkdnphobmlaaGreatDoorUaa07
import Derived.Test.YtbedkdnphobmlaaGreatDoorUaa08
import Derived.Test.YtbedkdnphobmlaaGreatDoorUaa09
import Derived.Test.YtbedkdnphobmlaaGreatDoorUaa10
import Derived.Test.YtbedkdnphobmlaaGreatDoorUaa11
import Derived.Test.YtbedkdnphobmlaaGreatDoorUaa12
import Derived.Test.YtbedkdnphobmlaaGreatDoorUaa21
set_option linter.all false
namespace Go.Proofs.YtbedkdnphobmlaaGreatDoor
open Go.RowKit Px Tryz
theorem rV{PL PD:Nat->Prop}{kl kd C E}(i:∀a,PL a->cD C ⟨0,0,0⟩ (kl a)=some (a:Int))(k:∀a,PD a->cD E ⟨0,0,0⟩ (kd a)=some (a:Int)){wd last}:∀(ts:List (Nat×Nat×Nat)) {e b done:List Nat} {s:St} {r r':Rw} {j:Nat},j<8->SB s done wd last C E->TkD wd done ts e->fM PL PD kl kd ts b->(done++e).length<=2078->RWL r e r'->∃l,BR j s r b l r'/\SB l (done++e) wd last C E
 | [],e,b,done,s,r,r',j,c,d,f,g,hc,h=>by
  have m:e=[]:=f;have n:b=[]:=g;subst m n;cases h
  exact⟨s,⟨rfl,rfl⟩,by rw[XN];exact d⟩
 | t::ts,e,b,done,s,r,r',j,c,d,f,g,hc,h=>by
  obtain⟨m,n,rfl,o,p⟩:=f;obtain⟨D,F,rfl,q,u⟩:=g;obtain⟨G,v,w⟩:=h.split;rw[<-XY] at hc ⊢;obtain⟨H,x,y⟩:=Cr i k c d o q (by rw[Xv] at hc;omega) v;obtain⟨z,A,B⟩:=rV i k ts (YD _ O) y p u hc w;exact⟨z,x.append c A,B⟩
theorem tI{PL PD:Nat->Prop}{kl kd C E}(d:∀a,PL a->cD C ⟨0,0,0⟩ (kl a)=some (a:Int))(i:∀a,PD a->cD E ⟨0,0,0⟩ (kd a)=some (a:Int))(k:PL 256){wd last ts e bs done s r r' j}(f:j<8)(h:SB s done wd last C E)(l:TkD wd done ts e)(m:fM PL PD kl kd ts bs)(n:(done++e).length<=2078)(o:RWL r e r'):∃g,BR j s r (bs++kl 256) g r'/\SE g (done++e) wd last:=by
 obtain⟨c,p,b⟩:=rV d i ts f h l m n o;refine⟨c.endBlock,p.append f ?_,iq b.ss.dn b.last b.skip⟩;refine qF (σ:=((256:Nat):Int)) b.skip b.ss.part (by rw[b.lit];exact d _ k) b.ss.path (λq => ?_);unfold dB;rw[N,N,I (show((256:Nat):Int)=256 from rfl)];show((c.pth q).endBlock,r',0)=_
 unfold St.endBlock;show(if c.last then _ else _,r',0)=_
 split<;>rfl
def lsN(n x k:Nat)(ls:Nat->Nat):Nat->Nat:=λi=>if k<=i/\i<k+n then x else ls i
theorem ej:∀(n x:Nat) (s:St),St.layN n x s={s with tb:={s.tb with ls:=lsN n x s.tb.told s.tb.ls,told:=s.tb.told+n}}
 | 0,x,s=>by
  have:lsN 0 x s.tb.told s.tb.ls=s.tb.ls:=funext λa=>N
  show s=_
  rw[this];rfl
 | n+1,x,s=>by
  show St.layN n x (s.lay1 x)=_
  rw[ej n x (s.lay1 x)]
  have:lsN n x (s.tb.told+1) (upd s.tb.ls s.tb.told x)=lsN (n+1) x s.tb.told s.tb.ls:=funext λa=>by
   unfold lsN;by_cases b:a=s.tb.told
   .rw[N,I,b,upd_same]
   .by_cases c:s.tb.told+1<=a/\a<s.tb.told+1+n
    .rw[I c,I]
    .rw[N c,N,upd_ne _ _ _ b]
  show({s with tb:={s.tb with ls:=lsN n x (s.tb.told+1) (upd s.tb.ls s.tb.told x),told:=s.tb.told+1+n}}:St)=_
  rw[this,show s.tb.told+1+n=s.tb.told+(n+1) from O]
structure S11 (s:St) (done:List Nat) (wd:Nat) (last:Bool) (a b k:Nat) (row f:Nat->Nat):Prop where
 ss:SS s 11 0 done wd
 skip:s.skip=false
 last:s.last=last
 la:s.tb.literals=a
 lb:s.tb.distances=b
 told:s.tb.told=k
 ls:∀i,i<k->s.tb.ls i=row i
 short:∃g,s.tb.short=cw g 19/\∀i,i<19->g i=f i
def SM(s:St)(done:List Nat)(wd:Nat)(last:Bool)(a b:Nat)(row:Nat->Nat):Prop:=∃ls:Nat->Nat,SB s done wd last (cw ls a) (cw (λi=>ls (a+i)) b)/\∀i,i<a+b->ls i=row i
def rF(row:Nat->Nat)(k:Nat)(t:Nat×Nat)(n:Nat):Prop:=
 (t.1<=15/\t.2=0/\n=1/\row k=t.1)\/(t.1=16/\t.2<4/\1<=k/\n=t.2+3/\∀i,i<n->row (k+i)=row (k-1))\/(t.1=17/\t.2<8/\n=t.2+3/\∀i,i<n->row (k+i)=0)\/(t.1=18/\t.2<128/\n=t.2+11/\∀i,i<n->row (k+i)=0)
def gg(row:Nat->Nat):Nat->List (Nat×Nat)->Nat->Prop
 | k,[],m=>k=m
 | k,t::ts,m=>∃n,rF row k t n/\gg row (k+n) ts m
def rbN(σ:Nat):Nat:=if σ=16 then 2 else if σ=17 then 3 else if σ=18 then 7 else 0
def stB(f:Nat->Nat)(t:Nat×Nat):List Nat:=cb (cY f 19 t.1) (f t.1)++xb t.2 0 (rbN t.1)
theorem rF.pos{row k n t}(h:rF row k t n):1<=n:=by
 rcases h with⟨_,_,h,_⟩|⟨_,_,_,h,_⟩|⟨_,_,h,_⟩|⟨_,_,h,_⟩<;>omega
theorem gg.le{row}:∀{ts:List (Nat×Nat)} {k m:Nat},gg row k ts m->k<=m
 | [],k,m,a=>Nat.le_of_eq a
 | t::ts,k,m,a=>by
  obtain⟨c,_,b⟩:=a
  have:=gg.le b;omega
theorem gg.snoc{row}:∀{ts:List (Nat×Nat)} {k m n:Nat} {t:Nat×Nat},gg row k ts m->rF row m t n->gg row k (ts++[t]) (m+n)
 | [],k,m,n,t,a,h1=>by
  have b:k=m:=a;subst b;exact⟨n,h1,rfl⟩
 | t0::ts,k,m,n,t,a,h1=>by
  obtain⟨c,d,e⟩:=a;exact⟨c,d,e.snoc h1⟩
structure ou (a b:Nat) (row:Nat->Nat):Prop where
 a1:257<=a
 a2:a<=286
 b1:1<=b
 b2:b<=30
 lit:eF (mkC row a) 15=32768
 dis:eF (mkC (λi=>row (a+i)) b) 15=32768\/(∃x,x<b/\row (a+x)=1/\∀i,i<b->i≠x->row (a+i)=0)\/∀i,i<b->row (a+i)=0
 eob:row 256≠0
theorem oA{s done wd last a b row}(f:ou a b row)(g:Dn s done wd)(m:s.skip=false)(n:s.last=last)(j:s.tb.literals=a)(o:s.tb.told=a+b)(d:∀c,c<a+b->s.tb.ls c=row c):s.makeCodes=(s.mkLit.mkDist.enter 12 0,0)/\SM (s.mkLit.mkDist.enter 12 0) done wd last a b row:=by
 have k:s.mkLit.mkDist.lit=cw s.tb.ls a:=by show cw s.tb.ls s.tb.literals=_;rw[j]
 have l:s.mkLit.mkDist.dist=cw (λc=>s.tb.ls (a+c)) b:=by
  show cw (λc=>s.tb.ls (s.tb.literals+c)) (s.tb.told-s.tb.literals)=_
  rw[j,o,show a+b-a=b from O]
 have p:s.mkLit.mkDist.lit.full=true:=by rw[k];exact mH _ (by rw[(dP a (λc e=>d c O))];exact f.lit)
 have q:(s.mkLit.mkDist.dist.full||(s.mkLit.mkDist.dist.lone||s.mkLit.mkDist.dist.empty))=true:=by
  rw[l];rcases f.dis with h|⟨w,r,t,u⟩|h
  .rw[mH _ (by rw[(dP b (λc e=>d (a+c) O))];exact h)];rfl
  .have:=mG (λc=>s.tb.ls (a+c)) b r (by rw[d _ O];exact t) (λc e v=>by rw[d _ O];exact u c e v)
   have i:(cw (λc=>s.tb.ls (a+c)) b).lone=true:=by
    unfold CS.lone;rw[show(cw (λc=>s.tb.ls (a+c)) b).total=mkT (λc=>s.tb.ls (a+c)) b from rfl,show(cw (λc=>s.tb.ls (a+c)) b).count 1=mkC (λc=>s.tb.ls (a+c)) b 1 from rfl,this.1,this.2.1];rfl
   rw[i,Bool.true_or,Bool.or_true]
  .have:=kE (λc=>s.tb.ls (a+c)) b (λc e=>by rw[d _ O];exact h c e)
   have i:(cw (λc=>s.tb.ls (a+c)) b).empty=true:=by
    unfold CS.empty;rw[show(cw (λc=>s.tb.ls (a+c)) b).total=mkT (λc=>s.tb.ls (a+c)) b from rfl,this];rfl
   rw[i,Bool.or_true,Bool.or_true]
 refine⟨?_,s.tb.ls,⟨(show Dn s.mkLit.mkDist done wd from⟨g.count,g.sum,g.hist,g.win⟩).ss 12 0,m,n,k,l⟩,d⟩;have x:=f.a1;unfold St.makeCodes;rw[p,q,Bool.true_or,N Xh,N Xh,N (by rw[d 256 O];exact f.eob)]
theorem xj{s done wd last a b k n x row f}(u:ou a b row)(e:Dn s done wd)(v:s.skip=false)(w:s.last=last)(g:s.tb.literals=a)(h:s.tb.distances=b)(i:s.tb.told=k)(y:∀c,c<k->s.tb.ls c=row c)(z:∃j,s.tb.short=cw j 19/\∀c,c<19->j c=f c)(F:k+n<=a+b)(A:∀c,c<n->row (k+c)=x):∃s',s.lay x n=(s',0)/\(k+n<a+b->S11 s' done wd last a b (k+n) row f)/\(k+n=a+b->SM s' done wd last a b row):=by
 have o:∀c,c<k+n->(St.layN n x s).tb.ls c=row c:=λc B=>by
  rw[ej];show lsN n x s.tb.told s.tb.ls c=_
  unfold lsN;rw[i];by_cases d:k<=c/\c<k+n
  .rw[I d,<-A (c-k) O,show k+(c-k)=c from O]
  .rw[N d,y c O]
 have l:(St.layN n x s).tb.told=k+n:=by rw[ej];show s.tb.told+n=_;rw[i]
 have p:Dn (St.layN n x s) done wd:=by rw[ej];exact⟨e.count,e.sum,e.hist,e.win⟩
 have q:(St.layN n x s).skip=false:=by rw[ej];exact v
 have r:(St.layN n x s).last=last:=by rw[ej];exact w
 have t:(St.layN n x s).tb.literals=a:=by rw[ej];exact g
 have C:(St.layN n x s).tb.distances=b:=by rw[ej];exact h
 have D:(St.layN n x s).tb.short=s.tb.short:=by rw[ej]
 unfold St.lay;rw[N (by rw[g,h,i];omega),l,g,h];by_cases d:k+n<a+b
 .rw[I d]
  exact⟨_,rfl,λ_=>⟨p.ss 11 0,q,r,t,C,l,o,by show ∃j,(St.layN n x s).tb.short=_/\_;rw[D];exact z⟩,λm=>O⟩
 .rw[N d]
  have m:=oA u p q r t (by rw[l];omega) (λc B=>o c O);exact⟨_,m.1,λE=>absurd E d,λ_=>m.2⟩
theorem Dv(s:St)b{x n}(h:(((s.pth ⟨0,0,0⟩).lay x n).2=0)):(s.pth b).lay x n=(s.pth ⟨0,0,0⟩).lay x n:=by
 unfold St.lay at h ⊢;show(if s.tb.literals+s.tb.distances<s.tb.told+n then _ else _)=(if s.tb.literals+s.tb.distances<s.tb.told+n then _ else _)
 have d:(if s.tb.literals+s.tb.distances<s.tb.told+n then(s.pth ⟨0,0,0⟩,12) else if(St.layN n x (s.pth ⟨0,0,0⟩)).tb.told<s.tb.literals+s.tb.distances then((St.layN n x (s.pth ⟨0,0,0⟩)).enter 11 0,0) else(St.layN n x (s.pth ⟨0,0,0⟩)).makeCodes).2=0:=h;by_cases f:s.tb.literals+s.tb.distances<s.tb.told+n
 .rw[I f] at d;cases d
 .rw[N f] at d
  rw[N f,N f];have g:∀b,St.layN n x (s.pth b)=(St.layN n x s).pth b:=λb=>by rw[ej,ej];rfl
  rw[g] at d;rw[g,g];generalize St.layN n x s=a at *;show(if a.tb.told<s.tb.literals+s.tb.distances then _ else _)=(if a.tb.told<s.tb.literals+s.tb.distances then _ else _)
  have c:(if a.tb.told<s.tb.literals+s.tb.distances then((a.pth ⟨0,0,0⟩).enter 11 0,0) else(a.pth ⟨0,0,0⟩).makeCodes).2=0:=d;by_cases e:a.tb.told<s.tb.literals+s.tb.distances
  .rw[I e,I e];rfl
  .rw[N e] at c
   rw[N e,N e];have i:∀b,(a.pth b).makeCodes=if(a.mkLit.mkDist.lit.full||a.mkLit.mkDist.lit.lone)=false then(a.mkLit.mkDist.pth b,12) else if(a.mkLit.mkDist.dist.full||(a.mkLit.mkDist.dist.lone||a.mkLit.mkDist.dist.empty))=false then(a.mkLit.mkDist.pth b,12) else if a.tb.ls 256=0 then(a.mkLit.mkDist.pth b,12) else(a.mkLit.mkDist.enter 12 0,0):=λb=>rfl
   rw[i] at c;rw[i,i]
   split at c
   .cases c
   .rename_i j
    rw[N j,N j]
    split at c
    .cases c
    .rename_i k
     rw[N k,N k]
     split at c
     .cases c
     .rename_i l
      rw[N l,N l]
theorem zT{s r done wd last a b k n j row f t}(P:j<8)(F:ou a b row)(h:S11 s done wd last a b k row f)(Q:∀p,p<19->f p<=7)(R:eF (mkC f 19) 15=32768)(G:rF row k t n)(S:1<=f t.1)(u:t.1<19)(H:k+n<=a+b):∃e,BR j s r (stB f t) e r/\(k+n<a+b->S11 e done wd last a b (k+n) row f)/\(k+n=a+b->SM e done wd last a b row):=by
 obtain⟨A,B,q⟩:=h.short;have J:cD s.tb.short ⟨0,0,0⟩ (cb (cY f 19 t.1) (f t.1))=some (t.1:Int):=by
  rw[B,<-q t.1 u,<-nS q u];refine qi A O u (by rw[q _ u];exact S) (by rw[q _ u];have:=Q _ u;omega) ?_;rw[dP 19 q,R];omega
 have T:∀(c:Int) (l:Pt),Dn ((s.setRep c).pth l) done wd:=λc l=>⟨h.ss.dn.count,h.ss.dn.sum,h.ss.dn.hist,h.ss.dn.win⟩
 unfold stB;by_cases a4:t.1<=15
 .have U:rbN t.1=0:=by unfold rbN;rw[N,N,N]
  have K:n=1/\row k=t.1:=by
   rcases G with c|c|c|c
   .exact⟨c.2.2.1,c.2.2.2⟩
   .omega
   .omega
   .omega
  rw[U];show ∃e,BR j s r (cb (cY f 19 t.1) (f t.1)++[]) e r/\_
  rw[XN]
  -- the state does not depend on the path
  obtain⟨e,i,m⟩:=xj (s:=(s.setRep (t.1:Int)).pth ⟨0,0,0⟩) (n:=n) (x:=t.1) (f:=f) F (T _ _) h.skip h.last h.la h.lb h.told h.ls ⟨A,B,q⟩ H (λp a5=>by rw[show k+p=k from O];exact K.2);refine⟨e,wC h.skip h.ss.part J h.ss.path (λc l => ?_),m⟩;unfold St.codeLen;rw[N,N,N,N,N,YQ];rw[K.1] at i;rw[<-i];exact Dv (s.setRep (t.1:Int)) l (by rw[i])
 ·
  have C:∀(o:Nat),rbN t.1=o->1<=o->t.2<2^o->(∀c l,((s.setRep c).pth l).codeLen t.1=((s.setRep (t.1:Int)).enter 6 o,0))->(∃y,(∀p,p<n->row (k+p)=y)/\∀d:St,d.tb.rep=(t.1:Int)->d.tb.told=k->d.tb.ls=s.tb.ls->d.repeat t.2=d.lay y n)->∃e,BR j s r (cb (cY f 19 t.1) (f t.1)++xb t.2 0 (rbN t.1)) e r/\(k+n<a+b->S11 e done wd last a b (k+n) row f)/\(k+n=a+b->SM e done wd last a b row):=by
   intro o V W X Y Z;obtain⟨y,a0,a1⟩:=Z;obtain⟨d,g⟩:∃d,d=({((s.setRep (t.1:Int)).enter 6 o) with number:=t.2,got:=o}:St):=⟨_,rfl⟩;obtain⟨e,i,m⟩:=xj (s:=d) (n:=n) (x:=y) (f:=f) (wd:=wd) (done:=done) (last:=last) (k:=k) F (by rw[g];exact⟨h.ss.dn.count,h.ss.dn.sum,h.ss.dn.hist,h.ss.dn.win⟩) (by rw[g];exact h.skip) (by rw[g];exact h.last) (by rw[g];exact h.la) (by rw[g];exact h.lb) (by rw[g];exact h.told) (by rw[g];exact h.ls) (by rw[g];exact⟨A,B,q⟩) H a0;refine⟨e,(wC h.skip h.ss.part J h.ss.path Y).append P ?_,m⟩;rw[V];have L:aL d r t.2=(e,r,0):=by
    have a2:d.part=6:=by rw[g];rfl
    unfold aL;rw[N,N,N,N,N,N,I a2,a1 d (by rw[g];rfl) (by rw[g];exact h.told) (by rw[g];rfl),i]
   rw[g] at L;exact eM (s:=(s.setRep (t.1:Int)).enter 6 o) (w:=o) h.skip (by show 6<=9;omega) rfl W rfl rfl X L
  rcases G with c|⟨i,m,z,v,a3⟩|⟨i,m,z,v⟩|⟨i,m,z,v⟩
  .omega
  .refine C 2 (by unfold rbN;rw[I i]) O m (λc l => ?_) ⟨row (k-1),a3,λd M D E => ?_⟩
   .unfold St.codeLen
    rw[N,N,I,N (by show ¬s.tb.told=0;rw[h.told];omega)];rfl
   .unfold St.repeat
    rw[N,N,N,D,E,h.ls _ O,v]
  .refine C 3 (by unfold rbN;rw[N,I i]) O m (λc l => ?_) ⟨0,v,λd M D E => ?_⟩
   .unfold St.codeLen
    rw[N,N,N,I];rfl
   .unfold St.repeat
    rw[I,z]
  .refine C 7 (by unfold rbN;rw[N,N,I i]) O m (λc l => ?_) ⟨0,v,λd M D E => ?_⟩
   .unfold St.codeLen
    rw[N,N,N,N,I];rfl
   .unfold St.repeat
    rw[N,I,z]
theorem Em r t m i(h:i<m):(r+t*2^m)/2^i%2=r/2^i%2:=by
 have a:t*2^m=2^i*(2*(t*2^(m-i-1))):=by
  rw[show m=i+((m-i-1)+1) from O,Nat.pow_add,Ya,show i+(m-i-1+1)-i-1=m-i-1 from O];rw[<-Y3,<-Y3,Zk t (2^i),Y3 (2^i),Y3 (2^i),Zk (t*2^(m-i-1)) 2]
 rw[a,Nat.add_mul_div_left _ _ (Nat.two_pow_pos i)];omega
theorem pJ r t m:∀(k i:Nat),i+k<=m->xb (r+t*2^m) i k=xb r i k
 | 0,i,_=>rfl
 | k+1,i,a=>by
  show(r+t*2^m)/2^i%2::xb (r+t*2^m) (i+1) k=r/2^i%2::xb r (i+1) k
  rw[Em r t m i O,pJ r t m k (i+1) O]
theorem gV v j:∀(k i:Nat),xb v (i+j) k=xb (v/2^j) i k
 | 0,i=>rfl
 | k+1,i=>by
  show v/2^(i+j)%2::xb v (i+j+1) k=v/2^j/2^i%2::xb (v/2^j) (i+1) k
  rw[Nat.div_div_eq_div_mul,<-Nat.pow_add,Nat.add_comm j i,show i+j+1=(i+1)+j from O,gV v j k (i+1)]
theorem fR r m n s(a:r<2^m):xb r 0 m++xb n 0 s=xb (r+n*2^m) 0 (m+s):=by
 rw[lY,pJ r n m m 0 O,XD]
 have:=gV (r+n*2^m) m s 0
 rw[XD] at this;rw[this,Nat.add_mul_div_right _ _ (Nat.two_pow_pos m),Nat.div_eq_of_lt a,XD]
theorem oJ{r done wd last a b row f}(h:ou a b row)(i:∀l,l<19->f l<=7)(m:eF (mkC f 19) 15=32768):∀(ts:List (Nat×Nat)) {s:St} {k j:Nat},j<8->k<a+b->S11 s done wd last a b k row f->gg row k ts (a+b)->(∀c∈ts,c.1<19/\1<=f c.1)->∃n,BR j s r (ts.flatMap (stB f)) n r/\SM n done wd last a b row
 | [],s,k,j,d,w,o,e,_=>by
  have p:k=a+b:=e;omega
 | c::ts,s,k,j,d,w,o,e,q=>by
  obtain⟨t,x,g⟩:=e;have y:=g.le;obtain⟨z,A⟩:=q c Xi;obtain⟨B,u,C,D⟩:=zT (r:=r) d h o i m x A z y;rw[List.flatMap_cons];by_cases v:k+t<a+b
  .obtain⟨E,F,G⟩:=oJ h i m ts (YD (j+(stB f c).length) O) v (C v) g (λH I=>q H (by simp[I]))
   exact⟨E,u.append d F,G⟩
  .have p:k+t=a+b:=O
   have J:ts=[]:=by
    cases ts with
    | nil=>rfl
    | cons M N=>
     obtain⟨P,K,L⟩:=g
     have:=K.pos
     have:=L.le
     omega
   subst J;exact⟨B,by rw[List.flatMap_nil,XN];exact u,D p⟩
def shB(f:Nat->Nat):Nat->Nat->List Nat
 | _,0=>[]
 | i,k+1=>xb (f (cy.getD i 0)) 0 3++shB f (i+1) k
structure S5 (s:St) (done:List Nat) (wd:Nat) (last:Bool) (a b n i:Nat) (f:Nat->Nat):Prop where
 ss:SS s 5 3 done wd
 skip:s.skip=false
 last:s.last=last
 la:s.tb.literals=a
 lb:s.tb.distances=b
 sh:s.tb.shorts=n
 told:s.tb.told=i
 sl1:∀q,q<i->s.tb.sl (cy.getD q 0)=f (cy.getD q 0)
 sl0:∀q,i<=q->q<19->s.tb.sl (cy.getD q 0)=0
theorem wT:∀a,a<19->∀b,b<19->cy.getD a 0=cy.getD b 0->a=b:=Xh
theorem Df:∀a,a<19->∃b,b<19/\cy.getD b 0=a:=Xh
theorem uO:∀a,a<19->cy.getD a 0<19:=Xh
theorem mD{r done wd last a b n row f}(y:∀i,i<19->f i<=7)(z:eF (mkC f 19) 15=32768)(J:n<=19)(A:∀d,n<=d->d<19->f (cy.getD d 0)=0):∀(k:Nat) {s:St} {i j:Nat},j<8->i+k+1=n->S5 s done wd last a b n i f->∃l,BR j s r (shB f i (k+1)) l r/\S11 l done wd last a b 0 row f
 | k,s,i,j,K,t,g=>by
  obtain⟨e,u⟩:∃e,e=f (cy.getD i 0):=⟨_,rfl⟩;have U:e<=7:=by rw[u];exact y _ (uO i O)
  obtain⟨c,h⟩:∃c,c=({s with number:=e,got:=3}:St):=⟨_,rfl⟩;have L:c.part=5:=by rw[h];exact g.ss.part
  have B:aL c r e=((c.shortLen e).1,r,(c.shortLen e).2):=by
   unfold aL;rw[N,N,N,N,N,I L]
  have p:c.tb.told=i:=by rw[h];exact g.told
  have v:c.tb.shorts=n:=by rw[h];exact g.sh
  have C:∀d,d<i+1->(c.short1 e).tb.sl (cy.getD d 0)=f (cy.getD d 0):=λd w=>by
   show upd c.tb.sl (cy.getD c.tb.told 0) e _=_
   rw[p];by_cases o:d=i
   .rw[o,upd_same,u]
   .rw[upd_ne _ _ _ (λx=>o (wT d O i O x)),h]
    exact g.sl1 d O
  have D:∀d,i+1<=d->d<19->(c.short1 e).tb.sl (cy.getD d 0)=0:=λd V E=>by
   show upd c.tb.sl (cy.getD c.tb.told 0) e _=_
   rw[p,upd_ne _ _ _ (λx=>by have:=wT d E i O x;omega),h];exact g.sl0 d O E
  have m:Dn c done wd:=by rw[h];exact⟨g.ss.dn.count,g.ss.dn.sum,g.ss.dn.hist,g.ss.dn.win⟩
  have F:∀l,(c.shortLen e)=(l,0)->BR j s r (xb e 0 3) l r:=λl d=>by
   rw[d,h] at B;exact eM g.skip (by rw[g.ss.part];omega) g.ss.wanted O g.ss.got g.ss.number O B
  show ∃l,BR j s r (xb (f (cy.getD i 0)) 0 3++shB f (i+1) k) l r/\_
  rw[<-u]
  match k,t with
  | 0,t=>
   have G:∀d,d<19->(c.short1 e).tb.sl d=f d:=λd w=>by
    obtain⟨q,H,M⟩:=Df d w;rw[<-M];by_cases P:q<i+1
    .exact C q P
    .rw[D q O H,A q O H]
   have Q:(c.short1 e).short2.tb.short.full=true:=mH _ (by rw[dP 19 G];exact z);have o:c.shortLen e=(({(c.short1 e).short2 with tb:={(c.short1 e).short2.tb with told:=0}}:St).enter 11 0,0):=by
    unfold St.shortLen;rw[N (by rw[p,v];omega),I Q]
   refine⟨_,?_,⟨(show Dn ({(c.short1 e).short2 with tb:={(c.short1 e).short2.tb with told:=0}}:St) done wd from⟨m.count,m.sum,m.hist,m.win⟩).ss 11 0,?_,?_,?_,?_,rfl,λd w=>O,⟨(c.short1 e).tb.sl,rfl,G⟩⟩⟩
   .show BR j s r (xb e 0 3++[]) _ r
    rw[XN];exact F _ o
   .show c.skip=false;rw[h];exact g.skip
   .show c.last=last;rw[h];exact g.last
   .show c.tb.literals=a;rw[h];exact g.la
   .show c.tb.distances=b;rw[h];exact g.lb
  | k+1,t=>
   have o:c.shortLen e=((c.short1 e).enter 5 3,0):=by
    unfold St.shortLen;rw[I (by rw[p,v];omega)]
   have R:S5 ((c.short1 e).enter 5 3) done wd last a b n (i+1) f:=⟨(show Dn (c.short1 e) done wd from⟨m.count,m.sum,m.hist,m.win⟩).ss 5 3,by show c.skip=false;rw[h];exact g.skip,by show c.last=last;rw[h];exact g.last,by show c.tb.literals=a;rw[h];exact g.la,by show c.tb.distances=b;rw[h];exact g.lb,v,by show c.tb.told+1=i+1;rw[p],C,D⟩;obtain⟨l,S,T⟩:=mD (r:=r) (row:=row) y z J A k (j:=(j+(xb e 0 3).length)%8) (YD _ O) O R;exact⟨l,(F _ o).append K S,T⟩
def hdB(a b n:Nat)(f:Nat->Nat)(ts:List (Nat×Nat)):List Nat:=xb (a-257) 0 5++(xb (b-1) 0 5++(xb (n-4) 0 4++(shB f 0 n++ts.flatMap (stB f))))
theorem DR{r done wd last a b n j row f ts s}(u:j<8)(v:ou a b row)(h:∀i,i<19->f i<=7)(k:eF (mkC f 19) 15=32768)(S:4<=n)(w:n<=19)(x:∀e,n<=e->e<19->f (cy.getD e 0)=0)(y:gg row 0 ts (a+b))(z:∀l∈ts,l.1<19/\1<=f l.1)(d:SS s 4 14 done wd)(m:s.skip=false)(A:s.last=last):∃o,BR j s r (hdB a b n f ts) o r/\SM o done wd last a b row:=by
 obtain⟨B,C,D,E,_,_,_⟩:=v;obtain⟨c,F⟩:∃c,c=(a-257)+((b-1)+(n-4)*2^5)*2^5:=⟨_,rfl⟩;have G:hdB a b n f ts=xb c 0 14++(shB f 0 n++ts.flatMap (stB f)):=by
  unfold hdB;rw[F,show 14=5+9 from rfl,<-fR (a-257) 5 _ 9 O,show 9=5+4 from rfl,<-fR (b-1) 5 _ 4 O];simp only[XY]
 rw[G];have H:c%32+257=a:=O;have J:c/32%32+1=b:=O;have K:c/1024+4=n:=O;have p:BR j s r (xb c 0 14) (({({s with number:=c,got:=14}:St) with tb:=tbN a b n}:St).enter 5 3) r:=by
  refine eM m (by rw[d.part];omega) d.wanted O d.got d.number O ?_;unfold aL;have T:=d.part;rw[N (by show ¬s.part=0;omega),N (by show ¬s.part=1;omega),N (by show ¬s.part=2;omega),N (by show ¬s.part=3;omega),I (by show s.part=4;omega)];unfold St.counts;rw[H,J,K,N]
 obtain⟨g,q⟩:∃g,g=({({s with number:=c,got:=14}:St) with tb:=tbN a b n}:St).enter 5 3:=⟨_,rfl⟩;rw[<-q] at p;have L:S5 g done wd last a b n 0 f:=by
  rw[q];exact⟨⟨rfl,rfl,rfl,rfl,rfl,⟨d.dn.count,d.dn.sum,d.dn.hist,d.dn.win⟩⟩,m,A,rfl,rfl,rfl,rfl,λe U=>O,λe _ _=>rfl⟩
 obtain⟨V,t,M⟩:=mD (r:=r) (row:=row) h k w x (n-1) (j:=(j+(xb c 0 14).length)%8) (YD _ O) O L;rw[show n-1+1=n from O] at t;obtain⟨P,Q,R⟩:=oJ (r:=r) ⟨B,C,D,E,by assumption,by assumption,by assumption⟩ h k ts (j:=((j+(xb c 0 14).length)%8+(shB f 0 n).length)%8) (YD _ O) O M y z;exact⟨P,p.append u (t.append (YD _ O) Q),R⟩
def bW(d:List Nat):List Nat:=d.flatMap (λx=>xb x 0 8)
theorem cU x d:bW (x::d)=xb x 0 8++bW d:=by unfold bW;rw[List.flatMap_cons]
theorem iO a b:bW (a++b)=bW a++bW b:=by unfold bW;rw[List.flatMap_append]
theorem fq:∀d:List Nat,(bW d).length=8*d.length
 | []=>rfl
 | x::d=>by rw[cU,Xv,aU,fq d,Yj];omega
def vT(wd:Nat)(done:List Nat)(last:Bool)(j:Nat)(bs d:List Nat):Prop:=∀(s:St) (r r':Rw),s.skip=false->SS s 1 3 done wd->(done++d).length<=2078->RWL r d r'->∃s',BR j s r bs s' r'/\SE s' (done++d) wd last
theorem mq{last wd}:∀(d:List Nat) {s:St} {r r':Rw} {done:List Nat} {j:Nat},d≠[]->j<8->s.skip=false->SS s 3 8 done wd->s.last=last->s.left=d.length->(done++d).length<=2078->(∀a∈d,a<256)->RWL r d r'->∃f,BR j s r (bW d) f r'/\SE f (done++d) wd last
 | [],s,r,r',done,j,v,_,_,_,_,_,_,_,_=>absurd rfl v
 | a::d,s,r,r',done,j,_,l,m,hs,w,x,hc,n,h=>by
  have C:=n a Xi;rw[Xv,Yj] at hc;rw[Yj] at x;have D:=hs.dn.count;obtain⟨b,e⟩:∃b,b=({s with number:=a,got:=8}:St):=⟨_,rfl⟩;have o:aL b r a=((b.give a).oneLess,(r.take a).1,0):=by
   unfold aL;have y:b.part=3:=by rw[e];exact hs.part
   rw[N,N,N,I y];unfold cm;rw[(qW (s:=b) h.2.1 (by rw[e];show s.count<2078;omega)),I rfl]
  have g:BR j s r (xb a 0 8) (b.give a).oneLess (r.take a).1:=by
   rw[e] at o ⊢;exact eM m (by rw[hs.part];omega) hs.wanted O hs.got hs.number O o
  have c:=(show Dn b done wd from by rw[e];exact⟨hs.dn.count,hs.dn.sum,hs.dn.hist,hs.dn.win⟩).give a;have p:(b.give a).last=last:=by rw[e];exact w
  have q:(b.give a).skip=false:=by rw[e];exact m
  have t:(b.give a).left=d.length+1:=by rw[e];show s.left=_;omega
  rw[cU];by_cases i:d=[]
  .subst i
   have k:(b.give a).oneLess=({b.give a with left:=0}:St).endBlock:=by
    unfold St.oneLess;rw[t];rfl
   rw[k] at g;obtain rfl:(r.take a).1=r':=h.2.2;exact⟨_,g.append l ⟨rfl,rfl⟩,iq (s:=({b.give a with left:=0}:St)) ⟨c.count,c.sum,c.hist,c.win⟩ p q⟩
  .have E:d.length≠0:=λb=>i (List.length_eq_zero_iff.1 b)
   have k:(b.give a).oneLess=({b.give a with left:=d.length}:St).enter 3 8:=by
    unfold St.oneLess;rw[t,N];rfl
   rw[k] at g;obtain⟨f,z,u⟩:=mq d (s:=({b.give a with left:=d.length}:St).enter 3 8) (done:=done++[a]) (j:=(j+8)%8) i (YD _ O) q ⟨rfl,rfl,rfl,rfl,rfl,⟨c.count,c.sum,c.hist,c.win⟩⟩ p rfl (by rw[Xv,Xv];show done.length+1+d.length<=2078;omega) (λA B=>n A (by simp[B])) h.2.2;rw[XY] at u;exact⟨f,g.append l (by rw[aU];exact z),u⟩
theorem qq{s r}:∀(k j:Nat),1<=j->j+k<=8->s.skip=true->s.part≠10->BR j s r (List.replicate k 0) s r
 | 0,j,_,_,_,_=>⟨rfl,rfl⟩
 | k+1,j,h1,h2,a,b=>by
  have c:s.unskip j=s:=by unfold St.unskip;rw[N]
  refine⟨by rw[c];exact b,L ?_⟩;rw[c];refine⟨a,?_⟩;by_cases d:k=0
  .subst d;exact⟨rfl,rfl⟩
  .rw[X1 O]
   exact qq k (j+1) O O a b
def cA(last:Bool):Nat:=if last then 1 else 0
theorem kV{κ last done wd s r j}(d:κ<=2)(b:s.skip=false)(a:SS s 1 3 done wd):BR j s r (xb (cA last) 0 1++xb κ 0 2) (({s with number:=cA last+κ*2,got:=3}:St).block (cA last+κ*2)) r/\decide ((cA last+κ*2)%2=1)=last/\(cA last+κ*2)/2=κ:=by
 have e:cA last<=1:=by unfold cA;split<;>omega
 have c:decide ((cA last+κ*2)%2=1)=last:=by
  unfold cA;cases last with
  | true=>rw[I rfl];exact K
  | false=>rw[N Xh];exact J
 refine⟨?_,c,O⟩;rw[fR (cA last) 1 κ 2 O,Nat.pow_one];have f:=a.part;refine eM (w:=3) b O a.wanted O a.got a.number O ?_;unfold aL;rw[N (by show ¬s.part=0;omega),I (by show s.part=1;omega),show dL (cA last+κ*2)=0 from N]
theorem KX{wd last j done d}(A:j<8)(U:d.length<=65535)(B:∀C∈d,C<256):vT wd done last j ((xb (cA last) 0 1++xb 0 0 2)++(List.replicate ((8-(j+3)%8)%8) 0++(xb (d.length+(65535-d.length)*65536) 0 32++bW d))) d:=by
 intro l b m D g E t;obtain⟨o,F,G⟩:=kV (κ:=0) (last:=last) (j:=j) (r:=b) O D g;have H:({l with number:=cA last+0*2,got:=3}:St).block (cA last+0*2)=({l with number:=cA last+0*2,got:=3,last:=last,skip:=true}:St).enter 2 32:=by
  unfold St.block;rw[G,I rfl];unfold St.block0;rw[F]
 rw[H] at o;obtain⟨a,h⟩:∃a,a=({l with number:=cA last+0*2,got:=3,last:=last,skip:=true}:St).enter 2 32:=⟨_,rfl⟩;rw[<-h] at o;have J:BR ((j+3)%8) a b (List.replicate ((8-(j+3)%8)%8) 0) a b:=by
  by_cases p:(j+3)%8=0
  .rw[p];exact⟨rfl,rfl⟩
  .exact qq _ _ O O (by rw[h];rfl) (by rw[h];show 2≠10;omega)
 have e:SS {a with skip:=false} 2 32 done wd:=by rw[h];exact⟨rfl,rfl,rfl,rfl,rfl,⟨g.dn.count,g.dn.sum,g.dn.hist,g.dn.win⟩⟩
 obtain⟨c,K⟩:∃c,c=d.length+(65535-d.length)*65536:=⟨_,rfl⟩;have L:c%65536=d.length:=O;have M:c/65536=65535-d.length:=O;have V:a.part=2:=e.part;obtain⟨f,i⟩:∃f,f=({a with skip:=false,number:=c,got:=32,left:=d.length}:St):=⟨_,rfl⟩;have n:BR 0 a b (xb c 0 32) (if d.length=0 then f.endBlock else f.enter 3 8) b:=by
  refine BR.unskip (by show c/2^0%2::xb c 1 31≠[];simp) ?_;refine eM (s:={a with skip:=false}) (w:=32) rfl (by rw[e.part];omega) e.wanted O e.got e.number O ?_;unfold aL;rw[N (by show ¬a.part=0;omega),N (by show ¬a.part=1;omega),I (by show a.part=2;omega)];unfold St.takeSize;rw[L,M,I,i]
 have u:Dn f done wd:=by rw[i];exact⟨e.dn.count,e.dn.sum,e.dn.hist,e.dn.win⟩
 have v:f.last=last:=by rw[i,h];rfl
 have x:f.skip=false:=by rw[i]
 have y:∀k,BR 0 a b (xb c 0 32++bW d) k m->BR j l b ((xb (cA last) 0 1++xb 0 0 2)++(List.replicate ((8-(j+3)%8)%8) 0++(xb c 0 32++bW d))) k m:=λk P=>by
  have z:(xb (cA last) 0 1++xb 0 0 2).length=3:=by rw[Xv,aU,aU]
  refine o.append A (BR.append (YD _ O) (by rw[z];exact J) ?_);rw[z,XE,show((j+3)%8+(8-(j+3)%8)%8)%8=0 from O];exact P
 rw[<-K];by_cases q:d=[]
 .subst q
  rw[List.length_nil,I rfl] at n;have Q:b=m:=t;subst Q;rw[XN];exact⟨f.endBlock,y _ (by show BR 0 a b (xb c 0 32++[]) _ b;rw[XN];exact n),iq u v x⟩
 .have R:d.length≠0:=λp=>q (List.length_eq_zero_iff.1 p)
  rw[N R] at n;obtain⟨k,S,T⟩:=mq d (s:=f.enter 3 8) (last:=last) (j:=0) (done:=done) (r:=b) (r':=m) q O x (u.ss 3 8) v (by rw[i];rfl) E B t;exact⟨k,y _ (n.append O (by rw[aU];exact S)),T⟩
theorem KW{wd last j done d bs}{PL PD:Nat->Prop}{kl kd ts}(h:j<8)(i:∀a,PL a->cD iT ⟨0,0,0⟩ (kl a)=some (a:Int))(k:∀a,PD a->cD iU ⟨0,0,0⟩ (kd a)=some (a:Int))(l:PL 256)(m:TkD wd done ts d)(n:fM PL PD kl kd ts bs):vT wd done last j ((xb (cA last) 0 1++xb 1 0 2)++(bs++kl 256)) d:=by
 intro c e y f b o p;obtain⟨g,q,t⟩:=kV (κ:=1) (last:=last) (j:=j) (r:=e) O f b;have u:({c with number:=cA last+1*2,got:=3}:St).block (cA last+1*2)=({c with number:=cA last+1*2,got:=3,last:=last,lit:=iT,dist:=iU}:St).enter 12 0:=by
  unfold St.block;rw[t,N,I rfl];unfold St.block1;rw[q]
 rw[u] at g;obtain⟨v,w,x⟩:=tI i k l (YD (j+(xb (cA last) 0 1++xb 1 0 2).length) O) (s:=({c with number:=cA last+1*2,got:=3,last:=last,lit:=iT,dist:=iU}:St).enter 12 0) (last:=last) (done:=done) (wd:=wd) (r:=e) ⟨⟨rfl,rfl,rfl,rfl,rfl,⟨b.dn.count,b.dn.sum,b.dn.hist,b.dn.win⟩⟩,f,rfl,rfl,rfl⟩ m n o p;exact⟨v,g.append h w,x⟩
structure Iz (fl fd:Nat->Nat) (a b n:Nat) (f:Nat->Nat) (ts:List (Nat×Nat)):Prop where
 row:ou a b (λi=>if i<a then fl i else fd (i-a))
 l15:∀i,i<286->fl i<=15
 d15:∀i,i<30->fd i<=15
 l0:∀i,a<=i->i<286->fl i=0
 d0:∀i,b<=i->i<30->fd i=0
 f7:∀i,i<19->f i<=7
 full:eF (mkC f 19) 15=32768
 n4:4<=n
 n19:n<=19
 hz:∀q,n<=q->q<19->f (cy.getD q 0)=0
 steps:gg (λi=>if i<a then fl i else fd (i-a)) 0 ts (a+b)
 used:∀t∈ts,t.1<19/\1<=f t.1
def kcB(f:Nat->Nat)(N:Nat)(σ:Nat):List Nat:=cb (cY f N σ) (f σ)
theorem KV{wd last j done d bs fl fd f a b n st ts}(D:j<8)(h:Iz fl fd a b n f st)(E:TkD wd done ts d)(F:fM (λc=>c<286/\1<=fl c) (λc=>c<30/\1<=fd c) (kcB fl 286) (kcB fd 30) ts bs):vT wd done last j ((xb (cA last) 0 1++xb 2 0 2)++(hdB a b n f st++(bs++kcB fl 286 256))) d:=by
 intro u z Z A l G H;obtain⟨B,J,K⟩:=kV (κ:=2) (last:=last) (j:=j) (r:=z) O A l;have L:({u with number:=cA last+2*2,got:=3}:St).block (cA last+2*2)=({u with number:=cA last+2*2,got:=3,last:=last}:St).enter 4 14:=by
  unfold St.block;rw[K,N,N,I rfl];unfold St.lastIs;rw[J]
 rw[L] at B;obtain⟨a0,M,g,P,o⟩:=DR (r:=z) (last:=last) (YD (j+(xb (cA last) 0 1++xb 2 0 2).length) O) h.row h.f7 h.full h.n4 h.n19 h.hz h.steps h.used (s:=({u with number:=cA last+2*2,got:=3,last:=last}:St).enter 4 14) (done:=done) (wd:=wd) ⟨rfl,rfl,rfl,rfl,rfl,⟨l.dn.count,l.dn.sum,l.dn.hist,l.dn.win⟩⟩ A rfl;obtain⟨a1,Q,a2,R,S,T,C⟩:=h.row;have p:∀e,e<a->g e=fl e:=λe q=>by rw[o e O];exact I q
 have t:∀e,e<b->g (a+e)=fd e:=λe q=>by rw[o (a+e) O];show(if a+e<a then _ else _)=_;rw[N,show a+e-a=e from O]
 have U:∀c,c<286/\1<=fl c->cD (cw g a) ⟨0,0,0⟩ (kcB fl 286 c)=some (c:Int):=λc i=>by
  have m:c<a:=by
   by_cases v:c<a
   .exact v
   .have:=h.l0 c O i.1;omega
  unfold kcB;rw[xK fl Q h.l0,<-nS p m,<-p c m];refine qi g O m (by rw[p c m];exact i.2) (by rw[p c m];exact h.l15 c i.1) ?_;rw[show mkC g a=mkC (λe=>if e<a then fl e else fd (e-a)) a from dP a (λe q=>o e O),S];omega
 have V:∀c,c<30/\1<=fd c->cD (cw (λe=>g (a+e)) b) ⟨0,0,0⟩ (kcB fd 30 c)=some (c:Int):=λc i=>by
  have k:c<b:=by
   by_cases v:c<b
   .exact v
   .have:=h.d0 c O i.1;omega
  unfold kcB;rw[xK fd R h.d0,<-nS (f:=λe=>g (a+e)) t k,<-t c k];refine qi (λe=>g (a+e)) O k (by show 1<=g (a+c);rw[t c k];exact i.2) (by show g (a+c)<=15;rw[t c k];exact h.d15 c i.1) ?_;have W:=dP b (λe q=>o (a+e) O);rw[W];rcases T with w|⟨a3,x,y,X⟩|w
  .rw[w];omega
  .have:=(mG (λe=>if a+e<a then fl (a+e) else fd (a+e-a)) b x y X).2.2
   rw[this];omega
  .exfalso
   have:=w c k
   rw[N,show a+c-a=c from O] at this;omega
 have a4:fl 256≠0:=by
  rw[I] at C;exact C
 obtain⟨Y,x,y⟩:=tI U V ⟨O,O⟩ (YD ((j+(xb (cA last) 0 1++xb 2 0 2).length)%8+(hdB a b n f st).length) O) P E F G H;exact⟨Y,B.append D (M.append (YD _ O) x),y⟩
def qZ(x:Nat):Nat:=if x<144 then 48+x else if x<256 then 256+x else if x<280 then x-256 else x-88
theorem DV:∀x,x<286->cD iT ⟨0,0,0⟩ (cb (qZ x) (aq x))=some (x:Int):=Xl
theorem Bg:∀x,x<30->cD iU ⟨0,0,0⟩ (cb x 5)=some (x:Int):=Xl
def cnF(i b:Nat):Nat:=if b=7 then min i 280-min i 256 else if b=8 then min i 144+(i-280) else if b=9 then min i 256-min i 144 else 0
theorem gy i:(i<144/\aq i=8)\/(144<=i/\i<256/\aq i=9)\/(256<=i/\i<280/\aq i=7)\/(280<=i/\aq i=8):=by
 unfold aq;split
 .omega
 .split
  .omega
  .split<;>omega
theorem iK{n}(b:1<=n)(c:n<=15):∀i,i<=288->mkC aq i n=cnF i n
 | 0,_=>by
  show 0=cnF 0 n
  unfold cnF
  repeat' split
  all_goals omega
 | i+1,f=>by
  rw[eS aq i n b c,iK b c i O];rcases gy i with⟨a,e⟩|⟨a,d,e⟩|⟨a,d,e⟩|⟨a,e⟩
  all_goals
   rw[e];unfold cnF
   repeat' split
   all_goals omega
theorem I8 c n:eF c (n+1)=2*eF c n+c (n+1):=rfl
theorem Ic:eF (mkC aq 288) 6=0/\eF (mkC aq 288) 7=24/\eF (mkC aq 288) 8=200:=by
 have b:∀a,1<=a->a<=15->mkC aq 288 a=cnF 288 a:=λa e f=>iK e f 288 (E _)
 have g:∀a,a<=6->eF (mkC aq 288) a=0:=by
  intro a
  induction a with
  | zero=>intro _;rfl
  | succ a h=>
   intro i;show 2*eF (mkC aq 288) a+mkC aq 288 (a+1)=0
   rw[h O,b (a+1) O O];unfold cnF;rw[N,N,N]
 have c:=g 6 (E _);have d:eF (mkC aq 288) 7=24:=by
  rw[I8 (mkC aq 288) 6,c,b 7 O O];rfl
 refine⟨c,d,?_⟩;rw[I8 (mkC aq 288) 7,d,b 8 O O];rfl
theorem DW x(h:x<288):cY aq 288 x=qZ x:=by
 obtain⟨e,d,f⟩:=Ic;unfold cY qZ;rcases gy x with⟨b,a⟩|⟨b,c,a⟩|⟨b,c,a⟩|⟨b,a⟩
 .rw[a,show 8-1=7 from rfl,d,iK O O x O,I b]
  show 2*24+(min x 144+(x-280))=_
  omega
 .rw[a,show 9-1=8 from rfl,f,iK O O x O,N,I c]
  show 2*200+(min x 256-min x 144)=_
  omega
 .rw[a,show 7-1=6 from rfl,e,iK O O x O,N,N,I c]
  show 2*0+(min x 280-min x 256)=_
  omega
 .rw[a,show 8-1=7 from rfl,d,iK O O x O,N,N,N]
  show 2*24+(min x 144+(x-280))=_
  omega
theorem Be x(h:x<286):cD iT ⟨0,0,0⟩ (kcB aq 288 x)=some (x:Int):=by
 unfold kcB;rw[DW x O];exact DV x h
def fe:Nat->Nat:=λ_=>5
theorem AF:∀i,i<=32->∀n,1<=n->n<=15->mkC fe i n=if n=5 then i else 0
 | 0,_,n,_,_=>by show 0=_;split<;>rfl
 | i+1,a,n,h1,h2=>by
  rw[eS fe i n h1 h2,AF i O n h1 h2];show _+(if 5=n then 1 else 0)=_
  by_cases c:n=5
  .rw[I c,I c.symm,I c]
  .rw[N c,N (λq=>c q.symm),N c]
theorem yY x(h:x<30):cD iU ⟨0,0,0⟩ (kcB fe 32 x)=some (x:Int):=by
 have b:∀a,a<=4->eF (mkC fe 32) a=0:=by
  intro a
  induction a with
  | zero=>intro _;rfl
  | succ a c=>
   intro h;show 2*eF (mkC fe 32) a+mkC fe 32 (a+1)=0
   rw[c O,AF 32 O (a+1) O O,N]
 have d:cY fe 32 x=x:=by
  show 2*eF (mkC fe 32) 4+mkC fe x 5=x
  rw[b 4 O,AF x O 5 O O,I rfl];omega
 unfold kcB;rw[d];exact Bg x h
def BkN(wd:Nat)(B done:List Nat):Prop:=∀(s:St) (r r':Rw),s.skip=false->SS s 1 3 [] wd->done.length<=2078->RWL r done r'->∃s',BR 0 s r B s' r'/\SS s' 1 3 done wd/\s'.skip=false
def EE(wd:Nat)(B done:List Nat):Prop:=∀(s:St) (r r':Rw),s.skip=false->SS s 1 3 [] wd->done.length<=2078->RWL r done r'->∃s',BR 0 s r B s' r'/\SE s' done wd true
theorem BkN.nil wd:BkN wd [] []:=λa e f b c _ d=>⟨a,⟨rfl,d⟩,c,b⟩
theorem BkN.more{wd B done bs d}(h:BkN wd B done)(k:vT wd done false (B.length%8) bs d):BkN wd (B++bs) (done++d):=λe f g i j a l=>by
 obtain⟨b,m,n⟩:=l.split;obtain⟨o,p,q,r⟩:=h e f b i j (by rw[Xv] at a;omega) m;obtain⟨s,t,c⟩:=k o b g r q a n;exact⟨s,p.append O (by rw[XD];exact t),c.ss,c.skip⟩
theorem BkN.last{wd B done bs d}(h:BkN wd B done)(k:vT wd done true (B.length%8) bs d):EE wd (B++bs) (done++d):=λc e f g i a j=>by
 obtain⟨b,l,m⟩:=j.split;obtain⟨n,o,p,q⟩:=h c e b g i (by rw[Xv] at a;omega) l;obtain⟨r,s,t⟩:=k n b f q p a m;exact⟨r,o.append O (by rw[XD];exact s),t⟩
def tS(bs d:List Nat):Prop:=∀(r r':Rw),d.length<=2078->RWL r d r'->∃s',BR 0 St.start r bs s' r'/\s'.part=10
theorem BU v(h:v<4294967296):dm v<4294967296:=by unfold dm;omega
theorem tG v(h:v<4294967296):dm (dm v)=v:=by
 obtain⟨b,i⟩:∃b,b=v%256:=⟨_,rfl⟩;obtain⟨a,j⟩:∃a,a=v/256%256:=⟨_,rfl⟩;obtain⟨c,k⟩:∃c,c=v/65536%256:=⟨_,rfl⟩;obtain⟨d,l⟩:∃d,d=v/16777216:=⟨_,rfl⟩;have f:dm v=b*16777216+a*65536+c*256+d:=by unfold dm;rw[i,j,k,l]
 have m:v/256/256=v/65536:=Nat.div_div_eq_div_mul _ _ _;have n:v/65536/256=v/16777216:=Nat.div_div_eq_div_mul _ _ _;have e:v=b+a*256+c*65536+d*16777216:=by
  clear f;generalize v/65536=r at *;generalize v/16777216=s at *;omega
 have t:a<256:=O;have u:c<256:=O;have w:d<256:=O;rw[f];clear f i j k l h m n;have g:(b*16777216+a*65536+c*256+d)%256=d:=O;have o:(b*16777216+a*65536+c*256+d)/256%256=c:=by
  have:(b*16777216+a*65536+c*256+d)/256=b*65536+a*256+c:=by clear e;omega
  clear e g;rw[this];clear this;omega
 have p:(b*16777216+a*65536+c*256+d)/65536%256=a:=by
  have:(b*16777216+a*65536+c*256+d)/65536=b*256+a:=by clear e;omega
  clear e g;rw[this];clear this;omega
 have q:(b*16777216+a*65536+c*256+d)/16777216=b:=O;unfold dm;rw[g,o,p,q,e];omega
theorem CE{H B d}(i:kY H=true)(u:H<65536)(j:EE (256*2^(H%256/16)) B d):tS (xb H 0 16++(B++(List.replicate ((8-B.length%8)%8) 0++xb (dm (kr 1 d)) 0 32))) d:=by
 intro f e k l;have m:BR 0 St.start f (xb H 0 16) (({({St.start with number:=H,got:=16}:St) with window:=256*2^(H%256/16)}:St).enter 1 3) f:=by
  refine eM (w:=16) rfl Xh rfl O rfl rfl O ?_;unfold aL;rw[I (by rfl)];unfold St.takeHead;rw[I i]
 obtain⟨a,n,c⟩:=j (({({St.start with number:=H,got:=16}:St) with window:=256*2^(H%256/16)}:St).enter 1 3) f e rfl ⟨rfl,rfl,rfl,rfl,rfl,⟨rfl,rfl,λv o=>absurd o Xi,rfl⟩⟩ k l;have x:a.part=9:=c.ss.part;have p:BR (B.length%8) a e (List.replicate ((8-B.length%8)%8) 0) a e:=by
  by_cases q:B.length%8=0
  .rw[q];exact⟨rfl,rfl⟩
  .exact qq _ _ O O c.skip O
 obtain⟨b,g⟩:∃b,b=kr 1 d:=⟨_,rfl⟩;have h:b<4294967296:=by rw[g];exact xX _
 have r:a.sum=b:=by rw[c.ss.dn.sum,g]
 have t:BR 0 a e (xb (dm b) 0 32) (({a with skip:=false,number:=dm b,got:=32}:St).enter 10 0) e:=by
  refine BR.unskip (by show dm b/2^0%2::xb (dm b) 1 31≠[];simp) ?_;refine eM (w:=32) (s:={a with skip:=false}) rfl (by show a.part<=9;omega) c.ss.wanted O c.ss.got c.ss.number (BU b h) ?_;unfold aL;rw[N (by show ¬a.part=0;omega),N (by show ¬a.part=1;omega),N (by show ¬a.part=2;omega),N (by show ¬a.part=3;omega),N (by show ¬a.part=4;omega),N (by show ¬a.part=5;omega),N (by show ¬a.part=6;omega),N (by show ¬a.part=7;omega),N (by show ¬a.part=8;omega)];unfold St.takeSum;rw[tG b h,I (by show b=a.sum;exact r.symm)]
 refine⟨({a with skip:=false,number:=dm b,got:=32}:St).enter 10 0,?_,rfl⟩;rw[<-g];refine m.append O (BR.append (YD _ O) (by rw[aU];exact n) ?_);rw[aU,show((0+16)%8+B.length)%8=B.length%8 from O];refine p.append (YD _ O) ?_;rw[XE,show(B.length%8+(8-B.length%8)%8)%8=0 from O];exact t
