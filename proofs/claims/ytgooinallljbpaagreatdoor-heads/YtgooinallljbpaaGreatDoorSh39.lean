import Derived.Test.YtgooinallljbpaaGreatDoorSh00
import Derived.Test.YtgooinallljbpaaGreatDoorSh24
import Derived.Test.YtgooinallljbpaaGreatDoorSh27
import Derived.Test.YtgooinallljbpaaGreatDoorSh07
import Derived.Test.YtgooinallljbpaaGreatDoorSh30
import Derived.Test.YtgooinallljbpaaGreatDoorSh29
set_option linter.all false
namespace Go.Proofs.YtgooinallljbpaaGreatDoor
open Go.RowKit Px Tryz
def AY(t:Tl)(h:Hd)(C:Nat)(col:(Nat->Nat)->Nat->Int):Prop:=∀(s v:Nat->Nat),(h.K=3->v 0<C)->(∀c,c<chn h.K->s c=v c)->kT t h (s 0) (s 1) (s 2) (s 3)=col v
def AX(h:Hd)(C:Nat)(D:List RwL):Prop:=h.K=3->∀z∈D,∀i,i<bd h z.1.1->cU h.D z.2 i<C
theorem DT{h C}(g:h.K=3):∀(rs:List (Nat×Nat)) (b:Nat->Nat) (out:List One),∀c∈rs.zip (eg (aH h C rs b out)),∀d,d<bd h c.1.1->cU h.D c.2 d<C
 | [],b,out,c,a=>by simp at a
 | (p,k)::rs,b,[],c,a=>by
  rw[aH] at a;simp[eg] at a
 | (p,k)::rs,b,x::e,c,a=>by
  rw[aH] at a;by_cases i:4<x.1
  .rw[I i] at a;simp[eg] at a
  rw[N i] at a;by_cases j:e.length<aC h p
  .rw[I j] at a;simp[eg] at a
  rw[N j] at a;by_cases f:eh h C p (bw h p k x.1 b e)=true
  .rw[I f] at a;simp[eg] at a
  rw[N f,rT,List.zip_cons_cons] at a;rcases Y4.1 a with a|a
  .subst a
   intro d l;by_cases m:cU h.D (bw h p k x.1 b e) d<C
   .exact m
   .refine absurd ?_ f
    unfold eh;rw[K g,YH,List.any_eq_true];exact⟨d,Yi.2 l,K⟩
  .exact DT g rs _ _ c a
theorem DA{h C D}(q:AX h C D){p x y v}(g:x<h.W)(i:y<h.H)(e:dA h D p x y=some v)(f:h.K=3):v 0<C:=by
 unfold dA at e;cases b:atQ h p x y with
 | none=>rw[b] at e;cases e
 | some j=>
  obtain⟨k,c⟩:=j;rw[b] at e;obtain⟨t,l,u⟩:=uX b g i;cases d:(D.find? λa=>decide (a.1=(p,k))) with
  | none=>simp[d] at e
  | some a=>
   obtain⟨m,n⟩:=D4 d;have o:v=λr=>cU h.D a.2 (c*chn h.K+r):=by simp[d] at e;exact e.symm
   rw[o];have s:chn h.K=1:=by rw[f];rfl
   show cU h.D a.2 (c*chn h.K+0)<C
   rw[s,Nat.mul_one,X5];exact q f a m c (by rw[n];exact l)
theorem Hs{t h C D r col}(d:∀f,r.known f=true->AY t h C col)(g:AX h C D)(s:SeL h D r){p x y v}(a:x<h.W)(b:y<h.H)(e:dA h D p x y=some v):pxP r t h x y=col v:=by
 obtain⟨c,i⟩:=lT s a b e;unfold pxP;rw[I c];exact d _ c (λj=>r.smp (4*(y*16+x)+j)) v (DA g a b e) i
theorem Af{h D x y v}:∀{k},knQ h D x y k=some v->∃b,b<k/\dA h D b x y=some v
 | 0,a=>by cases a
 | k+1,a=>by
  unfold knQ at a;cases q:knQ h D x y k with
  | some d=>
   rw[q] at a;obtain⟨b,e,c⟩:=Af q;exact⟨b,O,c.trans a⟩
  | none=>rw[q] at a;exact⟨k,O,a⟩
theorem Ah{h D x y}:∀{k},knQ h D x y k=none->∀a,a<k->dA h D a x y=none
 | 0,_,a,c=>O
 | k+1,b,a,c=>by
  unfold knQ at b;cases q:knQ h D x y k with
  | some e=>rw[q] at b;cases b
  | none=>
   rw[q] at b;by_cases d:a=k
   .subst d;exact b
   .exact Ah q a O
theorem Ae{t h C D r col}(i:∀j,r.known j=true->AY t h C col)(k:AX h C D)(s:SeL h D r)(l:h.W<=16)(m:h.H<=16){x y}(c:x<h.W)(d:y<h.H):(∃a,knQ h D x y (aq h.L)=some a/\r.known (y*16+x)=true/\pxP r t h x y=col a)\/(knQ h D x y (aq h.L)=none/\r.known (y*16+x)=false/\pxP r t h x y=λ_=>0):=by
 cases e:knQ h D x y (aq h.L) with
 | some a=>
  obtain⟨f,_,b⟩:=Af e;exact L ⟨a,rfl,(lT s c d b).1,Hs i k s c d b⟩
 | none=>
  have g:r.known (y*16+x)=false:=by
   cases n:r.known (y*16+x) with
   | false=>rfl
   | true=>
    obtain⟨⟨f,o,a,b⟩,_⟩:=wQ s l m c d n;rw[Ah e f o] at b;cases b
  exact R ⟨rfl,g,by unfold pxP;rw[g,N Xh]⟩
theorem HQ{f s q p}(b:f<=p):(cJ f s q p).1=p-(p-f)%s/\(cJ f s q p).2=decide ((p-f)%s<q)/\f<=p-(p-f)%s/\(p-(p-f)%s-f)%s=0:=by
 have c:=Zg (p-f) s;refine⟨by unfold cJ;rw[N],by unfold cJ;rw[N],O,?_⟩;have a:p-(p-f)%s-f=s*((p-f)/s):=by have:=Nat.div_add_mod (p-f) s;omega
 rw[a,Nat.mul_mod_right]
theorem zE{t h C D r col}(l:∀F,r.known F=true->AY t h C col)(m:AX h C D)(s:SeL h D r)(n:h.W<=16)(o:h.H<=16){x y}(G:x<h.W)(H:y<h.H):∀a,a<=aq h.L->rp r t h x y a=shQ h D col x y a
 | 0,_=>rfl
 | a+1,P=>by
  have g:=zE l m s n o G H a O;show(if((cJ (ah h.L a).cf (ah h.L a).cs (ah h.L a).cb x).2&&(cJ (ah h.L a).rf (ah h.L a).rs (ah h.L a).rb y).2&&r.known ((cJ (ah h.L a).rf (ah h.L a).rs (ah h.L a).rb y).1*16+(cJ (ah h.L a).cf (ah h.L a).cs (ah h.L a).cb x).1))=true then pxP r t h (cJ (ah h.L a).cf (ah h.L a).cs (ah h.L a).cb x).1 (cJ (ah h.L a).rf (ah h.L a).rs (ah h.L a).rb y).1 else rp r t h x y a)=_
  rw[shQ];by_cases b:x<(ah h.L a).cf\/y<(ah h.L a).rf
  .rw[I b,<-g]
   refine N (λe => ?_);simp only[Bool.and_eq_true] at e;rcases b with b|b
   .have:=e.1.1;unfold cJ at this;rw[I b] at this;cases this
   .have:=e.1.2;unfold cJ at this;rw[I b] at this;cases this
  rw[N b];obtain⟨u,v,Q,R⟩:=HQ (f:=(ah h.L a).cf) (s:=(ah h.L a).cs) (q:=(ah h.L a).cb) (p:=x) O;obtain⟨w,z,S,T⟩:=HQ (f:=(ah h.L a).rf) (s:=(ah h.L a).rs) (q:=(ah h.L a).rb) (p:=y) O;rw[u,v,w,z];by_cases A:(ah h.L a).cb<=(x-(ah h.L a).cf)%(ah h.L a).cs\/(ah h.L a).rb<=(y-(ah h.L a).rf)%(ah h.L a).rs
  .rw[I A,<-g]
   refine N (λe => ?_);simp only[Bool.and_eq_true,XL] at e;omega
  rw[N A,K (show(x-(ah h.L a).cf)%(ah h.L a).cs<(ah h.L a).cb from O),K (show(y-(ah h.L a).rf)%(ah h.L a).rs<(ah h.L a).rb from O)];have i:x-(x-(ah h.L a).cf)%(ah h.L a).cs<h.W:=O;have j:y-(y-(ah h.L a).rf)%(ah h.L a).rs<h.H:=O;clear u v w z;generalize x-(x-(ah h.L a).cf)%(ah h.L a).cs=c at *;generalize y-(y-(ah h.L a).rf)%(ah h.L a).rs=d at *;have J:atQ h a c d=some ((d-(ah h.L a).rf)/(ah h.L a).rs,(c-(ah h.L a).cf)/(ah h.L a).cs):=by
   unfold atQ;rw[N]
  cases k:dA h D a c d with
  | some B=>
   have:=lT s i j k
   rw[this.1];show pxP r t h c d=col B
   exact Hs l m s i j k
  | none=>
   have L:r.known (d*16+c)=false:=by
    cases M:r.known (d*16+c) with
    | false=>rfl
    | true=>
     obtain⟨B,E⟩:=(wQ s n o i j M).2 a _ O J;rw[k] at E;cases E
   rw[L];exact g
theorem Mu{t F}(h:TbQ t F)(f:F.hd.K=0\/F.hd.K=2){s v:Nat->Nat}(e:∀g,g<chn F.hd.K->s g=v g):alP t (chn F.hd.K) (aP (s 0) (s 1) (s 2) (s 3))=alR (chn F.hd.K) F.hasClear (λj=>F.clear.getD j 0) v:=by
 have o:chn F.hd.K<=3:=by rcases f with b|b<;>rw[b]<;>decide
 have i:∀a,a<chn F.hd.K->aP (s 0) (s 1) (s 2) (s 3) a=((v a:Nat):Int):=λa c=>by
  rw[<-e a c];unfold aP
  have:a=0\/a=1\/a=2:=O
  rcases this with rfl|rfl|rfl<;>rfl
 unfold alR;cases k:F.hasClear with
 | false=>
  rw[N (λb=>by cases b.1)];refine AR ?_;rw[h.clears,h.no k];rfl
 | true=>
  have p:=h.len k f;have q:1<=chn F.hd.K:=by rcases f with b|b<;>rw[b]<;>decide
  have l:∀a,a<chn F.hd.K->t.smp a=256*F.clear.getD (2*a) 0+F.clear.getD (2*a+1) 0:=λa c=>by
   unfold Tl.smp;rw[h.clear (2*a) O,h.clear (2*a+1) O,Zk]
  by_cases b:∀a,a<chn F.hd.K->v a=256*F.clear.getD (2*a) 0+F.clear.getD (2*a+1) 0
  .rw[I ⟨rfl,b⟩]
   exact Ee (by rw[h.clears];omega) (λa c=>by rw[i a c,l a c,b a c])
  .rw[N (λd=>b d.2)]
   have:∃a,a<chn F.hd.K/\v a≠256*F.clear.getD (2*a) 0+F.clear.getD (2*a+1) 0:=by
    refine Yc (λd=>b (λa c => ?_));exact Yc (λm=>d ⟨a,c,m⟩)
   obtain⟨a,c,n⟩:=this;refine Ed (by rw[h.clears];omega) a c ?_;rw[i a c,l a c];intro d;exact n (by exact_mod_cast d)
theorem GB{D v}(a:okD D):wdR D v=v*bX D:=by
 unfold wdR bX;rcases a with rfl|rfl|rfl|rfl|rfl<;>rfl
theorem KL:pk4=aP:=rfl
theorem Nh{t F}(h:TbQ t F)(a:kOk F.hd.K)(j:okD F.hd.D):AY t F.hd (F.pal.length/3) (dI F.hd F.hasClear F.pal F.clear):=by
 intro n k l b;unfold dI;rw[KL];simp only[GB j,GB (show okD 8 from R (R (R (L rfl))))];have m:bX 8=257:=rfl;rw[m];rcases a with a|a|a|a|a
 .have c:=b 0 (by rw[a];decide)
  have d:=Mu h (L a) b;have e:chn F.hd.K=1:=by rw[a];rfl
  rw[e] at d;rw[Jr a,N,I a,e,d,c]
 .have c:=b 0 (by rw[a];decide)
  have f:=b 1 (by rw[a];decide);have i:=b 2 (by rw[a];decide);have d:=Mu h (R a) b;have e:chn F.hd.K=3:=by rw[a];rfl
  rw[e] at d;rw[Jq a,N,N,N,I a,e,d,c,f,i]
 .have c:=b 0 (by rw[a];decide)
  have o:=l a;have p:=h.top;rw[Jp a,I a,c];unfold qc;rw[I,h.pal _ O,h.pal _ O,h.pal _ O,h.clears];by_cases g:k 0<F.clear.length
  .rw[I g,I g,h.clear _ g]
  .rw[N g,N g]
 .have c:=b 0 (by rw[a];decide)
  have f:=b 1 (by rw[a];decide);rw[Jo a,N,N,I a,c,f]
 .have c:=b 0 (by rw[a];decide)
  have f:=b 1 (by rw[a];decide);have i:=b 2 (by rw[a];decide);rw[Jn O O O O,N,N,N,N,c,f,i,(b 3 (by rw[a];decide))]
theorem uI{f g n}(h:∀a,a<n->f a=g a):fL f n=fL g n:=by
 unfold fL;refine List.map_congr_left (λa b => ?_);rw[h a (Yi.1 b)]
structure Agr (l:List Nat) (F:Fl) (D:List RwL):Prop where
 hh:za F.hd
 se:SeL F.hd D (af rd0 l).1.rw
 idx:AX F.hd (F.pal.length/3) D
 tb:∀a,(af rd0 l).1.rw.known a=true->TbQ (af rd0 l).1.tl F
theorem Nq{l}(a:∀e∈l,e<256){F er at'}(h:cq l F er at'){out dn sm ser sat sen}(q:iD F.z out dn sm ser sat sen)(c:F.on=true)up:Agr l F ((au F.hd (aq F.hd.L) 0).zip (eg (aH F.hd (F.pal.length/3) (au F.hd (aq F.hd.L) 0) up out))):=by
 have b:=(uJ a h).hd c;refine⟨b,ED a h q c b.W b.H up,λf g i j k=>DT f _ up out g i j k,λo d => ?_⟩;rcases wF a h q with⟨_,_,m⟩|⟨n,_⟩
 .rw[m] at d;cases d
 .exact MC a h n
theorem Agr.co{l}(k:∀x∈l,x<256){F D}(h:Agr l F D){p x y v}(m:x<F.hd.W)(n:y<F.hd.H)(e:dA F.hd D p x y=some v):JY F.hd F.hasClear F.pal F.clear:=by
 have b:=h.tb _ (lT h.se m n e).1;obtain⟨o,q,_⟩:=Du l k;have i:∀{c:List Nat} {d:Nat->Nat},(∀a,a<c.length->d a=c.getD a 0)->(∀a,d a<256)->∀f∈c,f<256:=fun {c d} r s f t=>by
  obtain⟨g,j⟩:=List.getElem?_of_mem t
  have:=r g ((Yb.1 j).1)
  rw[G,j] at this;have u:d g=f:=this;rw[<-u];exact s g
 exact⟨h.hh.K,h.hh.D,by have:=b.top;omega,i b.pal o,i b.clear q,b.len⟩
theorem Agr.col{l F D}(h:Agr l F D):∀a,(af rd0 l).1.rw.known a=true->AY (af rd0 l).1.tl F.hd (F.pal.length/3) (dI F.hd F.hasClear F.pal F.clear):=λa b=>Nh (h.tb a b) h.hh.K h.hh.D
theorem Agr.kp{l F D}(h:Agr l F D){j}(f:j<F.hd.W*F.hd.H):knP (af rd0 l).1.rw F.hd j=opK (knQ F.hd D (j%F.hd.W) (j/F.hd.W) (aq F.hd.L))/\pxP (af rd0 l).1.rw (af rd0 l).1.tl F.hd (j%F.hd.W) (j/F.hd.W)=opC (dI F.hd F.hasClear F.pal F.clear) (knQ F.hd D (j%F.hd.W) (j/F.hd.W) (aq F.hd.L))/\shP (af rd0 l).1.rw (af rd0 l).1.tl F.hd (j%F.hd.W) (j/F.hd.W)=shQ F.hd D (dI F.hd F.hasClear F.pal F.clear) (j%F.hd.W) (j/F.hd.W) (aq F.hd.L):=by
 have d:j%F.hd.W<F.hd.W:=YD _ h.hh.W1;have e:j/F.hd.W<F.hd.H:=YN f;refine⟨?_,?_,zE h.col h.idx h.se h.hh.W h.hh.H d e _ (E _)⟩
 .unfold knP
  rcases Ae h.col h.idx h.se h.hh.W h.hh.H d e with⟨g,a,b,c⟩|⟨a,b,c⟩
  .rw[a,b];rfl
  .rw[a,b];rfl
 .rcases Ae h.col h.idx h.se h.hh.W h.hh.H d e with⟨g,a,b,c⟩|⟨a,b,c⟩
  .rw[a,c];rfl
  .rw[a,c];rfl
theorem Agr.three{l F D}(h:Agr l F D):fL (fkQ F.hd D) (F.hd.W*F.hd.H)=fL (knP (af rd0 l).1.rw F.hd) (F.hd.W*F.hd.H) /\
  fL (fpQ F.hd D (dI F.hd F.hasClear F.pal F.clear)) (4*(F.hd.W*F.hd.H))=fL (λj=>pxP (af rd0 l).1.rw (af rd0 l).1.tl F.hd (j/4%F.hd.W) (j/4/F.hd.W) (j%4)) (4*(F.hd.W*F.hd.H)) /\
  fL (fsQ F.hd D (dI F.hd F.hasClear F.pal F.clear)) (4*(F.hd.W*F.hd.H))=fL (λj=>shP (af rd0 l).1.rw (af rd0 l).1.tl F.hd (j/4%F.hd.W) (j/4/F.hd.W) (j%4)) (4*(F.hd.W*F.hd.H)):=by
 refine⟨uI λj a=>(h.kp a).1.symm,uI λj a => ?_,uI λj a => ?_⟩
 .rw[(h.kp (j:=j/4) O).2.1];rfl
 .rw[(h.kp (j:=j/4) O).2.2];rfl
