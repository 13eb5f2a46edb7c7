import Derived.Test.YtgooinallljbpaaGreatDoorSh00
import Derived.Test.YtgooinallljbpaaGreatDoorSh23
import Derived.Test.YtgooinallljbpaaGreatDoorSh02
set_option linter.all false
namespace Go.Proofs.YtgooinallljbpaaGreatDoor
open Go.RowKit Px Tryz
def pxQ(h:Hd)(p k i:Nat):Nat:=((ah h.L p).rf+k*(ah h.L p).rs)*16+((ah h.L p).cf+i*(ah h.L p).cs)
def EZ(L q X Y:Nat):Bool:=decide ((ah L q).cf<=X)&&decide ((X-(ah L q).cf)%(ah L q).cs=0)&&decide ((ah L q).rf<=Y)&&decide ((Y-(ah L q).rf)%(ah L q).rs=0)
theorem BX:∀a,a<16->∀b,b<16->∀c,c<7->∀d,d<7->(EZ 1 c a b&&EZ 1 d a b)=true->c=d:=Xl
theorem EH{L X Y q q'}(d:X<16)(e:Y<16)(a:q<aq L)(b:q'<aq L)(f:EZ L q X Y=true)(g:EZ L q' X Y=true):q=q':=by
 unfold aq at a b;by_cases c:L=1
 .subst c
  rw[I rfl] at a b;exact BX X d Y e q a q' b (by rw[f,g];rfl)
 .rw[N c] at a b
  omega
theorem DQ L q l i:EZ L q ((ah L q).cf+i*(ah L q).cs) ((ah L q).rf+l*(ah L q).rs)=true:=by
 unfold EZ;rw[K (show(ah L q).cf<=(ah L q).cf+i*(ah L q).cs from O),YT,Nat.mul_mod_left,K (show(ah L q).rf<=(ah L q).rf+l*(ah L q).rs from O),YT,Nat.mul_mod_left];rfl
theorem kZ{f s n i}(b:1<=s)(h:i<bq f s n):f+i*s<n:=by
 unfold bq at h
 split at h
 .omega
 .have a:i<=(n-f-1)/s:=O
  have c:=(Nat.le_div_iff_mul_le O).1 a;omega
theorem Hr{h q l i q' l' i'}(r:h.W<=16)(s:h.H<=16)(d:q<aq h.L)(f:q'<aq h.L)(g:l<dt h q)(j:i<bd h q)(k:l'<dt h q')(m:i'<bd h q')(e:pxQ h q l i=pxQ h q' l' i'):q=q'/\l=l'/\i=i':=by
 have a:=bK h.L q;have b:=bK h.L q';have t:=kZ a.2.1 j;have u:=kZ a.2.2.2.2.2.1 g;have v:=kZ b.2.1 m;have w:=kZ b.2.2.2.2.2.1 k;unfold pxQ at e;have n:(ah h.L q).cf+i*(ah h.L q).cs=(ah h.L q').cf+i'*(ah h.L q').cs:=O;have o:(ah h.L q).rf+l*(ah h.L q).rs=(ah h.L q').rf+l'*(ah h.L q').rs:=O;have c:=DQ h.L q' l' i';rw[<-n,<-o] at c;have p:=EH O O d f (DQ h.L q l i) c;subst p;refine⟨rfl,?_,?_⟩
 .have:l*(ah h.L q).rs=l'*(ah h.L q).rs:=O
  exact Nat.eq_of_mul_eq_mul_right O this
 .have:i*(ah h.L q).cs=i'*(ah h.L q).cs:=O
  exact Nat.eq_of_mul_eq_mul_right O this
theorem DE:∀(k:Nat) (r:Rw),(dO k r).known=r.known/\(dO k r).smp=r.smp
 | 0,_=>⟨rfl,rfl⟩
 | k+1,r=>by
  unfold dO;split
  .split
   .exact⟨rfl,rfl⟩
   .exact DE k _
  .exact⟨rfl,rfl⟩
theorem ym(r:Rw):r.next.known=r.known/\r.next.smp=r.smp:=DE 8 _
theorem uA q a f:∀k,(dY q a f k).known=q.known
 | 0=>rfl
 | k+1=>uA q a f k
theorem wO q a f:∀k b,b<k->(dY q a f k).smp (4*a+b)=f b
 | 0,b,c=>O
 | k+1,b,c=>by
  show upd (dY q a f k).smp (4*a+k) (f k) (4*a+b)=_
  by_cases d:b=k
  .subst d;rw[upd_same]
  .rw[upd_ne _ _ _ O];exact wO q a f k b O
theorem nI q a f j(b:j<4*a\/4*a+4<=j):∀k,k<=4->(dY q a f k).smp j=q.smp j
 | 0,_=>rfl
 | k+1,c=>by
  show upd (dY q a f k).smp (4*a+k) (f k) j=_
  rw[upd_ne _ _ _ O];exact nI q a f j b k O
theorem wP r(e:chn r.hd.K<=4)(f:∀i k,i<k->r.pt i<r.pt k):∀m,(∀i a,i<m->a<chn r.hd.K->(bj r m).smp (4*r.pt i+a)=cG r (i*chn r.hd.K+a))/\(∀i,i<m->(bj r m).known (r.pt i)=true)/\(∀b,(∀i,i<m->b≠r.pt i)->(bj r m).known b=r.known b/\∀a,a<4->(bj r m).smp (4*b+a)=r.smp (4*b+a))
 | 0=>⟨λi a p=>O,λi p=>O,λb _=>⟨rfl,λa _=>rfl⟩⟩
 | m+1=>by
  obtain⟨q,s,l⟩:=wP r e f m;have n:(bj r (m+1)).smp=(dY (bj r m) (r.pt m) (λg=>cG r (m*chn r.hd.K+g)) (chn r.hd.K)).smp:=rfl;have o:(bj r (m+1)).known=upd (dY (bj r m) (r.pt m) (λg=>cG r (m*chn r.hd.K+g)) (chn r.hd.K)).known (r.pt m) true:=rfl;refine⟨λi a h c => ?_,λi h => ?_,λb d=>⟨?_,λa c => ?_⟩⟩
  .rw[n]
   by_cases j:i=m
   .subst j;exact wO _ _ _ _ _ c
   .have:=f i m O
    rw[nI _ _ _ _ O _ e];exact q i a O c
  .rw[o]
   by_cases j:i=m
   .subst j;rw[upd_same]
   .have:=f i m O
    rw[upd_ne _ _ _ O,uA];exact s i O
  .rw[o,upd_ne _ _ _ (d m O),uA];exact(l b (λi h=>d i O)).1
  .have:=d m O
   rw[n,nI _ _ _ _ O _ e];exact(l b (λi h=>d i O)).2 a c
theorem wz{r:Rw}{x}(h:r.taken<r.size):(r.take x).1.known=r.known/\(r.take x).1.smp=r.smp:=by
 unfold Rw.take;split
 .exact⟨rfl,rfl⟩
 .split
  .unfold Rw.takeF
   split
   .exact⟨rfl,rfl⟩
   .exact⟨rfl,rfl⟩
  .rw[I];exact⟨rfl,rfl⟩
structure SeL (h:Hd) (D:List RwL) (r:Rw):Prop where
 on:∀z∈D,∀i,i<bd h z.1.1->r.known (pxQ h z.1.1 z.1.2 i)=true/\∀c,c<chn h.K->r.smp (4*pxQ h z.1.1 z.1.2 i+c)=cU h.D z.2 (i*chn h.K+c)
 off:∀a,r.known a=true->∃z∈D,∃i,i<bd h z.1.1/\a=pxQ h z.1.1 z.1.2 i
 ok:∀z∈D,z.1.1<aq h.L/\z.1.2<dt h z.1.1
theorem SeL.same{h D r r'}(s:SeL h D r)(a:r'.known=r.known)(b:r'.smp=r.smp):SeL h D r' :=
 ⟨by rw[a,b];exact s.on,by rw[a];exact s.off,s.ok⟩
theorem ry{h C r p k m up}(s:RS h C r p k m up)i:r.pt i=pxQ h p k i:=by
 unfold Rw.pt Rw.py Rw.px Rw.ps pxQ;rw[s.hd,s.pass,s.line];rfl
theorem SeL.row{h C r1 p k t up o D}(G:h.W<=16)(H:h.H<=16)(I:okD h.D)(v:p<aq h.L)(w:k<dt h p)(s:RT h C r1 p k (aC h p) t up o)(q:SeL h D r1)(J:∀d∈D,d.1≠(p,k)):SeL h (D++[((p,k),bw h p k t up o)]) (tr r1):=by
 have V:=bK h.L p;have K:∀c a,c<a->r1.pt c<r1.pt a:=λc a M=>by
  rw[ry s.rs,ry s.rs];unfold pxQ
  have:c*(ah h.L p).cs<a*(ah h.L p).cs:=Nat.mul_lt_mul_of_pos_right M O
  omega
 obtain⟨x,y,m⟩:=wP r1 (ev _) K r1.columns;have n:(tr r1).known=(bj r1 r1.columns).known/\(tr r1).smp=(bj r1 r1.columns).smp:=by
  unfold tr;split
  .exact ym _
  .exact⟨rfl,rfl⟩
 have z:=s.rs.columns;rw[z,s.rs.hd] at x;rw[z] at y m n;refine SeL.same (r:=bj r1 (bd h p)) ⟨λd b c e => ?_,λj A => ?_,λd b => ?_⟩ n.1 n.2
 .rcases XW.1 b with b|b
  .have N:∀a,a<bd h p->pxQ h d.1.1 d.1.2 c≠r1.pt a:=λa f i=>by
    rw[ry s.rs] at i;have B:=q.ok d b;obtain⟨j,P,_⟩:=Hr G H B.1 v B.2 e w f i;exact J d b (Y7 j P)
   obtain⟨u,Q⟩:=m _ N;obtain⟨S,T⟩:=q.on d b c e;exact⟨by rw[u];exact S,λg l=>by rw[Q g (Xq l (ev _))];exact T g l⟩
  .rw[Y0] at b
   subst b
   have:=y c e
   rw[ry s.rs] at this;refine⟨this,λg l => ?_⟩;have E:=x c g e l;rw[ry s.rs] at E;show(bj r1 (bd h p)).smp (4*pxQ h p k c+g)=_
   rw[E];have U:cG r1 (c*chn h.K+g)=cU h.D r1.row (c*chn h.K+g):=by unfold cG cU;rw[s.rs.hd]
   rw[U];refine GY (p:=p) I ?_ (λa f => ?_)
   .have:(c+1)*chn h.K<=bd h p*chn h.K:=XS _ e
    rw[YO] at this;omega
   .rw[s.row a f]
    rfl
 .by_cases F:∃a,a<bd h p/\j=r1.pt a
  .obtain⟨a,f,rfl⟩:=F
   exact⟨((p,k),bw h p k t up o),XW.2 (R (Y0.2 rfl)),a,f,ry s.rs a⟩
  .obtain⟨u,_⟩:=m j (λa f i=>F ⟨a,f,i⟩)
   rw[u] at A;obtain⟨d,b,c,e,i⟩:=q.off j A;exact⟨d,XW.2 (L b),c,e,i⟩
 .rcases XW.1 b with b|b
  .exact q.ok d b
  .rw[Y0] at b
   subst b;exact⟨v,w⟩
def eg:ImR->List (Nat->Nat)
 | .inl (ls,_,_)=>ls
 | .inr (.inl ls)=>ls
 | .inr (.inr ls)=>ls
theorem rT x q:eg (q.cons x)=x::eg q:=by
 cases q using ImR.cs<;>rfl
theorem zM h:∀(n p:Nat) (y:Nat×Nat),y∈au h n p->p<=y.1
 | 0,p,y,a=>by simp[au] at a
 | n+1,p,y,a=>by
  rw[au] at a;rcases XW.1 a with a|a
  .split at a
   .unfold dg at a
    obtain⟨b,_,rfl⟩:=YP.1 a;exact E _
   .simp at a
  .have:=zM h n (p+1) y a
   omega
theorem KD{h p k n y}(a:y∈dg h p (k+1)++au h n (p+1)):y≠(p,k):=by
 rcases XW.1 a with a|a
 .unfold dg at a
  obtain⟨c,d,rfl⟩:=YP.1 a
  have:=List.mem_range'.1 d
  intro b
  have:c=k:=congrArg Prod.snd b
  omega
 .have:=zM h n (p+1) y a
  intro b;rw[b] at this;simp at this;omega
theorem ya{h C r p k t up o}(s:RT h C r p k 0 t up o)(b:p<aq h.L):∀a,a<aC h p->a<=o.length->(bu r (o.take a)).1.known=r.known/\(bu r (o.take a)).1.smp=r.smp
 | 0,_,_=>⟨rfl,rfl⟩
 | a+1,e,q=>by
  obtain⟨f,c⟩:=tW s b a O O;have g:o.take (a+1)=o.take a++[o[a]' O]:=by rw[XM]
  have i:(o[a]' O).1=oAt o a:=by unfold oAt;rw[G,Xt O];rfl
  obtain⟨j,u⟩:=Hf c b e;have l:bu r (o.take a)=((bu r (o.take a)).1,0):=Y7 rfl f;rw[g,dV l,i,I j];have d:=wz (r:=(bu r (o.take a)).1) (x:=oAt o a) (by rw[c.rs.taken,c.rs.size];omega);obtain⟨m,n⟩:=ya s b a O O;exact⟨d.1.trans m,d.2.trans n⟩
theorem Aj{h C}(J:h.W<=16)(K:h.H<=16)(q:okD h.D)(L:1<=bo h):∀(s:Nat) (rs:List (Nat×Nat)) (r:Rw) (f:Nat->Nat) (out:List One) (D:List RwL),rs.length<s->AtR h C rs r f->SeL h D r->(∀i∈D,∀t∈rs,i.1≠t)->SeL h (D++rs.zip (eg (aH h C rs f out))) (bu r out).1
 | 0,rs,r,f,out,D,hN,M,g,hd=>absurd hN O
 | s+1,rs,r,f,out,D,hN,M,g,hd=>by
  rcases M with⟨rfl,a0⟩|⟨a,m,a1,a2,u,P,rfl,j⟩
  .rw[List.zip_nil_left,XN]
   cases out with
   | nil=>exact g
   | cons c b=>
    have k:r.take c.1=(r,17):=by unfold Rw.take;rw[a0];rfl
    rw[bu,k,N (show ¬(17=0) from Xh)];exact g
  .have e:a<aq h.L:=O
   have d:=zD L P;rw[wH h a m u,Ye] at hN hd ⊢;cases out with
   | nil=>
    rw[aH];show SeL h (D++List.zip _ []) r
    rw[List.zip_nil_right,XN];exact g
   | cons c b=>
    rw[aH];by_cases v:4<c.1
    .rw[I v]
     show SeL h (D++List.zip _ []) _
     rw[List.zip_nil_right,XN];have k:r.take c.1=({r with taken:=1},15):=by
      unfold Rw.take;rw[j.nw e,N Xh,I j.taken];unfold Rw.takeF;rw[I v]
     rw[bu,k,N (show ¬(15=0) from Xh)];exact g.same rfl rfl
    rw[N v];obtain⟨a3,w⟩:=zL j e c.1 O b;have Q:=wz (r:=r) (x:=c.1) (by rw[j.taken,j.size];omega);have y:∀z,bu r (c::z)=bu (r.take c.1).1 z:=λz=>by rw[bu,I a3]
    have R:=g.same Q.1 Q.2;by_cases A:b.length<aC h a
    .rw[I A]
     show SeL h (D++List.zip _ []) _
     rw[List.zip_nil_right,XN,y];obtain⟨S,T⟩:=ya w e b.length A (E _);rw[List.take_length] at S T;exact R.same S T
    rw[N A];obtain⟨a4,a5⟩:=tW w e (aC h a-1) O O;obtain⟨a6,a7⟩:=ya w e (aC h a-1) O O;have U:bu (r.take c.1).1 (b.take (aC h a-1))=((bu (r.take c.1).1 (b.take (aC h a-1))).1,0):=Y7 rfl a4;obtain⟨l,B,a8,n⟩:=Hg a5 e O q;rw[show aC h a-1+1=aC h a from O] at B;have V:SeL h D l:=by rw[a8];exact(R.same a6 a7).same rfl rfl
    have o:aC h a-1<b.length:=O;have W:(b[aC h a-1]'o).1=oAt b (aC h a-1):=by unfold oAt;rw[G,Xt o];rfl
    have X:b.take (aC h a)=b.take (aC h a-1)++[b[aC h a-1]'o]:=by
     have:=XM o
     rw[show aC h a-1+1=aC h a from O] at this;exact this
    by_cases p:eh h C a (bw h a m c.1 f b)=true
    .rw[I p]
     rw[I p] at n;show SeL h (D++List.zip _ []) _
     rw[List.zip_nil_right,XN];have F:bu r (c::b.take (aC h a))=(l,16):=by
      rw[y,X,dV U,W,n];rfl
     have:bu r (c::b)=(l,16):=by
      have H:c::b=(c::b.take (aC h a))++b.drop (aC h a):=by rw[Ye,X7]
      rw[H,fW,F];rfl
     rw[this];exact V
    .rw[N p]
     rw[N p] at n;have F:bu r (c::b.take (aC h a))=(tr l,0):=by
      rw[y,X,dV U,W,n];rfl
     have Y:=Aj J K q L s (dg h a (m+1)++au h a1 (a+1)) (tr l) (bw h a m c.1 f b) (b.drop (aC h a)) _ (by simp at hN ⊢;omega) (I9 B a2 u P) (V.row J K q e u B (λi d=>hd i d _ (List.mem_cons_self ..))) (λi d t Z=>by
      rcases XW.1 d with d|d
      .exact hd i d t (List.mem_cons_of_mem _ Z)
      .rw[Y0] at d
       subst d;exact λk=>KD Z k.symm)
     rw[rT,List.zip_cons_cons];have H:c::b=(c::b.take (aC h a))++b.drop (aC h a):=by rw[Ye,X7]
     rw[H,fW,F,I rfl];rw[XY] at Y;exact Y
theorem BM h C:SeL h [] (Rw.start h C):=by
 have c:(Rw.start h C).known=λ_=>false:=(ym (rw0 h C)).1
 exact⟨(λd a=>by simp at a),(λe b=>by rw[c] at b;cases b),(λd a=>by simp at a)⟩
theorem all_seen{h C}(a:h.W<=16)(b:h.H<=16)(c:okD h.D)(d:1<=bo h)up out:SeL h ((au h (aq h.L) 0).zip (eg (aH h C (au h (aq h.L) 0) up out))) (bu (Rw.start h C) out).1:=by
 have:=Aj a b c d _ _ _ up out [] (Nat.lt_succ_self _) (pJ h C up) (BM h C) (λf e=>by simp at e)
 rw[Ze] at this;exact this
theorem wF{l}(d:∀e∈l,e<256){F er at'}(h:cq l F er at'){out dn sm ser sat sen}(q:iD F.z out dn sm ser sat sen):(F.ids=0/\F.z=[]/\(af rd0 l).1.rw.known=λ_=>false)\/(0<F.ids/\(bu F.r0 out).1=(af rd0 l).1.rw):=by
 rcases CV d h with⟨f,b,c⟩|⟨f,b,c,a⟩
 .exact R ⟨b,(c.2 [] out dn sm ser sat sen (by rw[XN];exact q)).st⟩
 .rcases a with a|⟨g,j,i⟩
  .exact L a
  .exact R ⟨g,by rw[(eC i q).1]⟩
theorem ED{l}(c:∀g∈l,g<256){F er at'}(h:cq l F er at'){out dn sm ser sat sen}(q:iD F.z out dn sm ser sat sen)(i:F.on=true)(d:F.hd.W<=16)(e:F.hd.H<=16)up:SeL F.hd ((au F.hd (aq F.hd.L) 0).zip (eg (aH F.hd (F.pal.length/3) (au F.hd (aq F.hd.L) 0) up out))) (af rd0 l).1.rw:=by
 have a:=(uJ c h).hd i;rcases wF c h q with⟨_,j,k⟩|⟨_,m⟩
 .rw[j] at q
  have b:=all_seen (C:=F.pal.length/3) d e a.D a.bits up out;have n:Rw.start F.hd (F.pal.length/3)=F.r0:=rfl;rw[n,(eC (z:=[]) (lh F.r0 []) q).1] at b;have o:F.r0.known=λ_=>false:=(ym (rw0 F.hd (F.pal.length/3))).1
  refine⟨λp r s t => ?_,λu f => ?_,b.ok⟩
  .have:=(b.on p r s t).1
   rw[show(F.r0,0).1=F.r0 from rfl,o] at this;cases this
  .rw[k] at f;cases f
 .rw[<-m]
  exact all_seen d e a.D a.bits up out
theorem uX{h p x y n i}(e:atQ h p x y=some (n,i))(a:x<h.W)(b:y<h.H):n<dt h p/\i<bd h p/\pxQ h p n i=y*16+x:=by
 unfold atQ at e
 split at e
 .cases e
 .rename_i c
  cases e
  refine⟨tN O b,tN O a,?_⟩;unfold pxQ;rw[Nat.div_mul_cancel (Nat.dvd_of_mod_eq_zero O),Nat.div_mul_cancel (Nat.dvd_of_mod_eq_zero O)];omega
theorem Np h p n i:atQ h p ((ah h.L p).cf+i*(ah h.L p).cs) ((ah h.L p).rf+n*(ah h.L p).rs)=some (n,i):=by
 have a:=bK h.L p;unfold atQ;rw[YT,YT,Nat.mul_mod_left,Nat.mul_mod_left,Nat.mul_div_cancel _ O,Nat.mul_div_cancel _ O,N]
theorem D4{D:List RwL}{p n z}(e:(D.find? λz=>decide (z.1=(p,n)))=some z):z∈D/\z.1=(p,n):=by
 exact⟨(List.mem_of_find?_eq_some e),by simpa using(List.find?_some e)⟩
theorem lT{h D r}(s:SeL h D r){p x y v}(j:x<h.W)(k:y<h.H)(e:dA h D p x y=some v):r.known (y*16+x)=true/\∀b,b<chn h.K->r.smp (4*(y*16+x)+b)=v b:=by
 unfold dA at e;cases c:atQ h p x y with
 | none=>rw[c] at e;cases e
 | some l=>
  obtain⟨d,f⟩:=l;rw[c] at e;obtain⟨u,m,n⟩:=uX c j k;cases g:(D.find? λa=>decide (a.1=(p,d))) with
  | none=>simp[g] at e
  | some a=>
   obtain⟨o,i⟩:=D4 g;have q:v=λt=>cU h.D a.2 (f*chn h.K+t):=by simp[g] at e;exact e.symm
   have:=s.on a o f (by rw[i];exact m)
   rw[i] at this;rw[show pxQ h (p,d).1 (p,d).2 f=y*16+x from n] at this;rw[q];exact this
theorem wQ{h D r}(s:SeL h D r)(p:h.W<=16)(q:h.H<=16){x y}(t:x<h.W)(u:y<h.H)(k:r.known (y*16+x)=true):(∃b,b<aq h.L/\∃c,dA h D b x y=some c)/\∀b d,b<aq h.L->atQ h b x y=some d->∃c,dA h D b x y=some c:=by
 obtain⟨a,f,g,i,j⟩:=s.off _ k;obtain⟨e,v⟩:=s.ok a f;have w:=bK h.L a.1.1;have M:=kZ w.2.1 i;have l:∀b d,b<aq h.L->atQ h b x y=some d->∃c,dA h D b x y=some c:=λb d z m=>by
  obtain⟨n,A⟩:=d;obtain⟨B,C,E⟩:=uX m t u;obtain⟨F,G,_⟩:=Hr p q z e B C v i (E.trans j);unfold dA;rw[m];cases o:(D.find? λa=>decide (a.1=(b,n))) with
  | none=>
   have:=List.find?_eq_none.1 o a f
   exact absurd (K (show a.1=(b,n) from Y7 F.symm G.symm)) this
  | some H=>exact⟨λI=>cU h.D H.2 (A*chn h.K+I),by simp[o]⟩
 refine⟨?_,l⟩;unfold pxQ at j;have J:x=(ah h.L a.1.1).cf+g*(ah h.L a.1.1).cs:=O;have L:y=(ah h.L a.1.1).rf+a.1.2*(ah h.L a.1.1).rs:=O
 have:=Np h a.1.1 a.1.2 g
 rw[<-J,<-L] at this;exact⟨a.1.1,e,l _ _ e this⟩
structure Fz (T:Tl) (s:Rd):Prop where
 sd:s.sd=true
 tl:s.tl=T
 ty:s.part=3->s.ctype≠bE/\s.ctype≠bB
theorem Ls{t:Rd}(d:t.sd=true)(h:t.checkType=0):t.ctype≠bE/\t.ctype≠bB:=by
 unfold Rd.checkType at h;by_cases e:tyB t.ctype=false
 .rw[I e] at h;cases h
 rw[N e] at h;by_cases f:t.hd.W=0
 .rw[I f] at h
  unfold Rd.checkFirst at h;by_cases b:t.ctype=aQ
  .rw[b];exact⟨pU,rR⟩
  .rw[I b] at h;cases h
 rw[N f] at h;by_cases b:t.short=true
 .rw[I b] at h;cases h
 rw[N b] at h;unfold Rd.checkKind at h
 constructor
 .intro a
  rw[N (by rw[a];exact λc=>pU c.symm),I a] at h;unfold Rd.checkPalette at h;rw[d] at h;cases h
 .intro a
  rw[N (by rw[a];exact λc=>rR c.symm),N (by rw[a];exact λc=>rQ c.symm),I a] at h;unfold Rd.checkClear at h;rw[d] at h;cases h
theorem Lu{t:Rd}(a:t.sd=true)(h:t.ctype≠bE/\t.ctype≠bB):t.note.tl=t.tl/\t.note.sd=true/\t.note.ctype=t.ctype:=by
 have b:t.note1=t:=by
  unfold Rd.note1;rw[N h.1,N h.2];split
  .unfold Rd.begin;rw[a];rfl
  .rfl
 unfold Rd.note;rw[b];unfold Rd.note2;split
 .exact⟨rfl,a,rfl⟩
 .exact⟨rfl,a,rfl⟩
theorem Lt{T s x}(h:Fz T s):(s.take x).1.tl=T/\((s.take x).2=0->Fz T (s.take x).1):=by
 obtain⟨c,b,q⟩:=h;unfold Rd.take;by_cases j:s.part=0
 .rw[I j]
  unfold Rd.takeSign;split
  .exact⟨b,(λa=>by cases a)⟩
  .split
   .exact⟨b,λ_=>⟨c,b,(λa=>by cases a)⟩⟩
   .exact⟨b,λ_=>⟨c,b,λa=>absurd (j.symm.trans a) Xh⟩⟩
 rw[N j];by_cases k:s.part=1
 .rw[I k]
  unfold Rd.takeLength;split
  .exact⟨b,λ_=>⟨c,b,λa=>absurd (k.symm.trans a) Xh⟩⟩
  .split
   .exact⟨b,(λa=>by cases a)⟩
   .exact⟨b,λ_=>⟨c,b,(λa=>by cases a)⟩⟩
 rw[N k];by_cases l:s.part=2
 .rw[I l]
  unfold Rd.takeType;split
  .exact⟨b,λ_=>⟨c,b,λa=>absurd (l.symm.trans a) Xh⟩⟩
  .split
   .rename_i d
    exact⟨b,λa=>absurd a d⟩
   .rename_i d
    have f:=Ls (t:=s.typed x) c O;obtain⟨i,o,r⟩:=Lu (t:=s.typed x) c f;split
    .exact⟨i.trans b,λ_=>⟨o,i.trans b,(λa=>by cases a)⟩⟩
    .exact⟨i.trans b,λ_=>⟨o,i.trans b,λ_=>by show(s.typed x).note.ctype≠_/\(s.typed x).note.ctype≠_;rw[r];exact f⟩⟩
 rw[N l];by_cases m:s.part=3
 .rw[I m]
  have f:=q m;have e:((s.summed x).keep x).1.tl=T/\((s.summed x).keep x).1.sd=true/\((s.summed x).keep x).1.ctype=s.ctype:=by
   unfold Rd.keep;split
   .exact⟨b,c,rfl⟩
   .split
    .rename_i d;exact absurd d f.1
    .split
     .rename_i d;exact absurd d f.2
     .split
      .rw[nE];exact⟨b,c,rfl⟩
      .exact⟨b,c,rfl⟩
  obtain⟨g,p,u⟩:=e;unfold Rd.takeData;split
  .rename_i d
   exact⟨g,λa=>absurd a d⟩
  .unfold Rd.dataEnd
   split
   .exact⟨g,λ_=>⟨p,g,(λa=>by cases a)⟩⟩
   .exact⟨g,λ_=>⟨p,g,λ_=>by show((s.summed x).keep x).1.ctype≠_/\((s.summed x).keep x).1.ctype≠_;rw[u];exact f⟩⟩
 rw[N m];by_cases n:s.part=4
 .rw[I n]
  have e:(s.num x).accept.1.tl=T/\(s.num x).accept.1.sd=true:=by
   unfold Rd.accept;split
   .unfold Rd.acceptHead;split<;>exact⟨b,c⟩
   .split<;>exact⟨b,c⟩
  unfold Rd.takeSum;split
  .exact⟨b,λ_=>⟨c,b,λa=>absurd (n.symm.trans a) Xh⟩⟩
  .split
   .exact⟨b,(λa=>by cases a)⟩
   .split
    .rename_i d
     exact⟨e.1,λa=>absurd a d⟩
    .split
     .exact⟨e.1,λ_=>⟨e.2,e.1,(λa=>by cases a)⟩⟩
     .exact⟨e.1,λ_=>⟨e.2,e.1,(λa=>by cases a)⟩⟩
 rw[N n];exact⟨b,(λa=>by cases a)⟩
theorem Mq{T}:∀(l:List Nat) (s:Rd),Fz T s->(af s l).1.tl=T
 | [],s,a=>a.tl
 | x::l,s,a=>by
  have c:=Lt (x:=x) a;rw[af];by_cases b:(s.take x).2=0
  .rw[I b];exact Mq l _ (c.2 b)
  .rw[N b];exact c.1
structure JU (f g:Fl):Prop where
 pal:g.pal=f.pal
 clear:g.clear=f.clear
 hc:g.hasClear=f.hasClear
 hd:g.hd=f.hd
theorem TbQ.tab{t f g}(h:TbQ t f)(k:JU f g):TbQ t g:=h.to rfl rfl rfl k.pal k.clear k.hc k.hd
theorem F7{f}(h:FOk f){l i dn}(d:0<(f.chunk l i dn).f.ids):JU f (f.chunk l i dn).f:=by
 unfold Fl.chunk at d ⊢;by_cases x:l.length<4
 .rw[I x];exact⟨rfl,rfl,rfl,rfl⟩
 rw[N x] at d ⊢;by_cases y:2147483648<=n4 (l.getD 0 0) (l.getD 1 0) (l.getD 2 0) (l.getD 3 0)
 .rw[I y];exact⟨rfl,rfl,rfl,rfl⟩
 rw[N y] at d ⊢;by_cases z:l.length<8
 .rw[I z];exact⟨rfl,rfl,rfl,rfl⟩
 rw[N z] at d ⊢;generalize n4 (l.getD 4 0) (l.getD 5 0) (l.getD 6 0) (l.getD 7 0)=b at *;generalize n4 (l.getD 0 0) (l.getD 1 0) (l.getD 2 0) (l.getD 3 0)=e at *;by_cases A:f.begE b e dn≠0
 .rw[I A];exact⟨rfl,rfl,rfl,rfl⟩
 rw[N A] at d ⊢;have o:f.begE b e dn=0:=O;have g:JU f (f.begF b)/\(f.begF b).ids=f.ids:=by
  unfold Fl.begF;split
  .exact⟨⟨rfl,rfl,rfl,rfl⟩,rfl⟩
  .split
   .exact⟨⟨rfl,rfl,rfl,rfl⟩,rfl⟩
   .exact⟨⟨rfl,rfl,rfl,rfl⟩,rfl⟩
 have n:JU f ((f.begF b).data b ((l.drop 8).take e) (i+8))/\(b≠aG->((f.begF b).data b ((l.drop 8).take e) (i+8)).ids=f.ids):=by
  unfold Fl.data;by_cases p:b=aG
  .rw[I p];exact⟨⟨g.1.pal,g.1.clear,g.1.hc,g.1.hd⟩,λa=>absurd p a⟩
  .rw[N p];exact⟨g.1,λ_=>g.2⟩
 have B:∀q,0<(((f.begF b).data b ((l.drop 8).take e) (i+8)).ends b q).1.ids->JU f (((f.begF b).data b ((l.drop 8).take e) (i+8)).ends b q).1:=by
  intro q;generalize (f.begF b).data b ((l.drop 8).take e) (i+8)=k at n;intro c;obtain⟨j,C⟩:=n;have r:b≠aG->k.ids=0\/(f.first=true/\0<f.ids):=λm=>by
   by_cases a:0<f.ids
   .exact R ⟨h.ids a,a⟩
   .left;rw[C m];omega
  unfold Fl.ends at c ⊢;by_cases s:b=aQ
  .rw[I s] at c ⊢
   subst s
   exfalso
   rcases r (λa=>bT a.symm) with a|⟨a,_⟩
   .split at c
    .have:0<k.ids:=c
     omega
    .have:0<k.ids:=c
     omega
   .rw[(kJ o).1] at a;cases a
  rw[N s] at c ⊢;by_cases t:b=bE
  .rw[I t] at c ⊢
   subst t
   exfalso
   have:0<k.ids:=c
   rcases r (λa=>kF a.symm) with a|⟨a,D⟩
   .omega
   .have:=(uW a (lJ a o)).1
    omega
  rw[N t] at c ⊢;by_cases u:b=bB
  .rw[I u] at c ⊢
   subst u;split
   .exact j
   .exfalso
    have:0<k.ids:=by
     split at c
     .exact c
     .exact c
    rcases r (λa=>kE a.symm) with a|⟨a,D⟩
    .omega
    .have:=(uV a ((h.on a).2.K) (lJ a o)).1
     omega
  rw[N u] at c ⊢;split
  .exact⟨j.pal,j.clear,j.hc,j.hd⟩
  .exact j
 unfold Fl.body at d ⊢
 split at d
 .rename_i m;rw[I m];exact n.1
 .rename_i m;rw[N m]
  split at d
  .rename_i v;rw[I v];exact n.1
  .rename_i v;rw[N v]
   split at d
   .rename_i w;rw[I w];exact B _ d
   .rename_i w;rw[N w];exact B _ d
theorem JA{s f l i dn}(U:Ag s f)(V:s.part=1)(W:s.taken=0)(X:s.number=0)(Y:∀t∈l,t<256)(Z:f.ids=0)(e:0<(f.chunk l i dn).f.ids):(af s l).1.tl=s.tl:=by
 have a0:f.ov (la l)=false:=by unfold Fl.ov;rw[Z];rfl
 rw[uP (dn':=decide (s.st.part=10)) a0] at e;unfold Fl.chunk at e;by_cases G:l.length<4
 .rw[I G] at e
  have:0<f.ids:=e
  omega
 rw[N G] at e;obtain⟨n,o,p,m,z,rfl⟩:=mg l O;have H:=uy (a:=n) (b:=o) (c:=p) (d:=m) (r:=z) V W X;replace e:0<(if 2147483648<=n4 n o p m then(⟨f,2,3,0⟩:Ch) else _:Ch).f.ids:=e;by_cases J:2147483648<=n4 n o p m
 .rw[I J] at e
  have:0<f.ids:=e
  omega
 rw[N J] at e H;by_cases A:(n::o::p::m::z).length<8
 .rw[I A] at e
  have:0<f.ids:=e
  omega
 rw[N A] at e;obtain⟨g,h,j,k,B,rfl⟩:=mg z (by simp at A;omega);have u:=xP (s:=lnS s (n4 n o p m)) (a:=g) (b:=h) (c:=j) (d:=k) (r:=B) rfl rfl rfl;obtain⟨q,w⟩:∃q,q=tyS (lnS s (n4 n o p m)) (n4 g h j k) (bg (lnS s (n4 n o p m)).sum [g,h,j,k]):=⟨_,rfl⟩;rw[<-w] at u;have C:gd s q:=by rw[w];exact⟨rfl,rfl,rfl,rfl,rfl,rfl,rfl,rfl⟩
 have D:q.ctype=n4 g h j k:=by rw[w];rfl
 have a1:q.length=n4 n o p m:=by rw[w];rfl
 have x:∀t,t∈[g,h,j,k]->t<256:=λt K=>Y t (by simp at K ⊢;rcases K with rfl|rfl|rfl|rfl<;>simp)
 have L:=uU (U.same C) (by rw[D];exact(Ip (x g Xi) (x h Xi) (x j Xi) (x k Xi)));rw[D,a1,C.st] at L;rw[L] at u;replace e:0<(if f.begE (n4 g h j k) (n4 n o p m) (decide (s.st.part=10))≠0 then(⟨f,f.begE (n4 g h j k) (n4 n o p m) (decide (s.st.part=10)),7,0⟩:Ch) else Fl.body (f.begF (n4 g h j k)) (n4 g h j k) (n4 n o p m) [n,o,p,m,g,h,j,k] B (i+8)).f.ids:=e;by_cases M:f.begE (n4 g h j k) (n4 n o p m) (decide (s.st.part=10))≠0
 .rw[I M] at e
  have:0<f.ids:=e
  omega
 rw[N M] at e u;by_cases P:n4 g h j k=aG
 .have Q:=D.trans P
  rw[wK Q] at u;have a2:q.begin.tl=s.tl:=by rw[<-C.tl];unfold Rd.begin;split<;>rfl
  have a3:q.begin.ctype=aG:=by rw[<-Q];unfold Rd.begin;split<;>rfl
  have a4:q.begin.sd=true:=by
   unfold Rd.begin;cases a5:q.sd with
   | true=>rw[I rfl];exact a5
   | false=>rw[N Xh]
  rw[H,u];refine Mq (T:=s.tl) B _ ⟨a4,a2,λ_ => ?_⟩;show q.begin.ctype≠bE/\q.begin.ctype≠bB
  rw[a3];exact⟨kF,kE⟩
 .exfalso
  have y:∀v,(f.begF v).ids=f.ids:=λv=>by unfold Fl.begF;split;rfl;split<;>rfl
  have R:∀(E:Fl) (v:Nat) (m:List Nat),(E.ends v m).1.ids=E.ids:=λE v m=>by
   unfold Fl.ends
   repeat' split
   all_goals rfl
  unfold Fl.body at e;have a6:∀m S,(f.begF (n4 g h j k)).data (n4 g h j k) m S=f.begF (n4 g h j k):=λm S=>by unfold Fl.data;rw[N P]
  rw[a6] at e
  split at e
  .have a7:=y (n4 g h j k)
   have:0<(f.begF (n4 g h j k)).ids:=e
   omega
  .split at e
   .have a7:=y (n4 g h j k)
    have:0<(f.begF (n4 g h j k)).ids:=e
    omega
   .split at e
    .have F:=e
     rw[R,y] at F;omega
    .have F:=e
     rw[R,y] at F;omega
theorem AE{l}(e:∀d∈l,d<256){i f}(h:Wk l i f)(o:f.done=false)(y:i<l.length)(p:0<f.ids->TbQ (af rd0 l).1.tl f){dn}(g:0<(f.chunk (l.drop i) i dn).f.ids):TbQ (af rd0 l).1.tl (f.chunk (l.drop i) i dn).f:=by
 obtain⟨q,r⟩:=np e h;have j:=F7 r g;by_cases k:0<f.ids
 .exact(p k).tab j
 .cases q using WI.cs with
  | bad m b c=>exact absurd b k
  | few m b c s a n=>omega
  | ok t m b c s a=>
   rcases a with⟨a,_⟩|⟨_,n,u,v⟩
   .rw[o] at a;cases a
   have w:(af rd0 l).1.tl=t.tl:=by rw[b];exact(JA c n u v (λd x=>e d (Yu x)) O g)
   rw[w];exact c.tb.tab j
theorem Gy{l}(a:∀b∈l,b<256){i f}(h:Wk l i f):0<f.ids->TbQ (af rd0 l).1.tl f:=by
 induction h using Wk.cs with
 | start j=>intro c;simp[Fl.start] at c
 | next h d e k m g=>exact AE a h d e g
theorem MC{l}(a:∀d∈l,d<256){F er at'}(h:cq l F er at'):0<F.ids->TbQ (af rd0 l).1.tl F:=by
 cases h using cq.cs with
 | sign _ f b g i=>intro e;simp[Fl.start] at e
 | out h b=>exact Gy a h
 | trail h c b=>exact Gy a h
 | stop h c b j k=>exact AE a h c b (Gy a h)
structure Fh (H:Hd) (s:Rd):Prop where
 hd:s.hd=H
 nz:H.W≠0
 ty:s.part=3\/s.part=4->s.ctype≠aQ
theorem Ly{t:Rd}(c:t.hd.W≠0)(h:t.checkType=0):t.ctype≠aQ:=by
 intro d;unfold Rd.checkType at h;by_cases a:tyB t.ctype=false
 .rw[I a] at h;cases h
 rw[N a,N c] at h;by_cases b:t.short=true
 .rw[I b] at h;cases h
 rw[N b] at h;unfold Rd.checkKind at h;rw[I d] at h;cases h
theorem La(t:Rd):t.note.hd=t.hd/\t.note.ctype=t.ctype:=by
 have a:t.note1.hd=t.hd/\t.note1.ctype=t.ctype:=by
  unfold Rd.note1;split
  .exact⟨rfl,rfl⟩
  .split
   .exact⟨rfl,rfl⟩
   .split
    .unfold Rd.begin;split<;>exact⟨rfl,rfl⟩
    .exact⟨rfl,rfl⟩
 unfold Rd.note Rd.note2;split
 .exact a
 .exact a
theorem Lg(s:Rd)x:(s.keep x).1.hd=s.hd/\(s.keep x).1.ctype=s.ctype:=by
 unfold Rd.keep;split
 .exact⟨rfl,rfl⟩
 .split
  .exact⟨rfl,rfl⟩
  .split
   .exact⟨rfl,rfl⟩
   .split
    .rw[nE];exact⟨rfl,rfl⟩
    .exact⟨rfl,rfl⟩
theorem Lz{H s x}(h:Fh H s):(s.take x).1.hd=H/\((s.take x).2=0->Fh H (s.take x).1):=by
 obtain⟨b,c,o⟩:=h;unfold Rd.take;by_cases j:s.part=0
 .rw[I j]
  unfold Rd.takeSign;split
  .exact⟨b,(λa=>by cases a)⟩
  .split
   .exact⟨b,λ_=>⟨b,c,(λa=>by rcases a with a|a<;>cases a)⟩⟩
   .exact⟨b,λ_=>⟨b,c,λa=>by rcases a with a|a<;>exact absurd (j.symm.trans a) Xh⟩⟩
 rw[N j];by_cases k:s.part=1
 .rw[I k]
  unfold Rd.takeLength;split
  .exact⟨b,λ_=>⟨b,c,λa=>by rcases a with a|a<;>exact absurd (k.symm.trans a) Xh⟩⟩
  .split
   .exact⟨b,(λa=>by cases a)⟩
   .exact⟨b,λ_=>⟨b,c,(λa=>by rcases a with a|a<;>cases a)⟩⟩
 rw[N k];by_cases l:s.part=2
 .rw[I l]
  unfold Rd.takeType;split
  .exact⟨b,λ_=>⟨b,c,λa=>by rcases a with a|a<;>exact absurd (l.symm.trans a) Xh⟩⟩
  .split
   .rename_i e
    exact⟨b,λa=>absurd a e⟩
   .rename_i e
    have g:=Ly (t:=s.typed x) (by show s.hd.W≠0;rw[b];exact c) O;obtain⟨i,r⟩:=La (s.typed x);have p:(s.typed x).note.ctype≠aQ:=by rw[r];exact g
    split
    .exact⟨i.trans b,λ_=>⟨i.trans b,c,λ_=>p⟩⟩
    .exact⟨i.trans b,λ_=>⟨i.trans b,c,λ_=>p⟩⟩
 rw[N l];by_cases m:s.part=3
 .rw[I m]
  obtain⟨d,u⟩:=Lg (s.summed x) x;replace d:=d.trans b;have q:((s.summed x).keep x).1.ctype≠aQ:=by rw[u];exact o (L m)
  unfold Rd.takeData;split
  .rename_i e
   exact⟨d,λa=>absurd a e⟩
  .unfold Rd.dataEnd
   split
   .exact⟨d,λ_=>⟨d,c,λ_=>q⟩⟩
   .exact⟨d,λ_=>⟨d,c,λ_=>q⟩⟩
 rw[N m];by_cases n:s.part=4
 .rw[I n]
  have g:=o (R n);have f:(s.num x).accept.1.hd=H:=by
   unfold Rd.accept;rw[N (show ¬(s.num x).ctype=aQ from g)]
   split<;>exact b
  unfold Rd.takeSum;split
  .exact⟨b,λ_=>⟨b,c,λ_=>g⟩⟩
  .split
   .exact⟨b,(λa=>by cases a)⟩
   .split
    .rename_i e
     exact⟨f,λa=>absurd a e⟩
    .split
     .exact⟨f,λ_=>⟨f,c,(λa=>by rcases a with a|a<;>cases a)⟩⟩
     .exact⟨f,λ_=>⟨f,c,(λa=>by rcases a with a|a<;>cases a)⟩⟩
 rw[N n];exact⟨b,(λa=>by cases a)⟩
theorem Mr{H}:∀(l:List Nat) (s:Rd),Fh H s->(af s l).1.hd=H
 | [],s,a=>a.hd
 | x::l,s,a=>by
  have c:=Lz (x:=x) a;rw[af];by_cases b:(s.take x).2=0
  .rw[I b];exact Mr l _ (c.2 b)
  .rw[N b];exact c.1
theorem xe{f:Fl}{l i dn}(o:f.first=true):(f.chunk l i dn).f.on=f.on/\(f.chunk l i dn).f.hd=f.hd:=by
 unfold Fl.chunk;by_cases g:l.length<4
 .rw[I g];exact⟨rfl,rfl⟩
 rw[N g];by_cases h:2147483648<=n4 (l.getD 0 0) (l.getD 1 0) (l.getD 2 0) (l.getD 3 0)
 .rw[I h];exact⟨rfl,rfl⟩
 rw[N h];by_cases j:l.length<8
 .rw[I j];exact⟨rfl,rfl⟩
 rw[N j];generalize n4 (l.getD 4 0) (l.getD 5 0) (l.getD 6 0) (l.getD 7 0)=a;generalize n4 (l.getD 0 0) (l.getD 1 0) (l.getD 2 0) (l.getD 3 0)=k;by_cases m:f.begE a k dn≠0
 .rw[I m];exact⟨rfl,rfl⟩
 rw[N m];have p:a≠aQ:=λq=>by
  subst q
  have:=(kJ (show f.begE aQ k dn=0 from O)).1
  rw[o] at this;cases this
 have r:(f.begF a).on=f.on/\(f.begF a).hd=f.hd:=by
  unfold Fl.begF;split
  .exact⟨rfl,rfl⟩
  .split<;>exact⟨rfl,rfl⟩
 have d:∀b c,((f.begF a).data a b c).on=f.on/\((f.begF a).data a b c).hd=f.hd:=λb c=>by
  unfold Fl.data
  split<;>exact r
 have n:∀b c e,(((f.begF a).data a b c).ends a e).1.on=f.on/\(((f.begF a).data a b c).ends a e).1.hd=f.hd:=λb c e=>by
  have:=d b c
  generalize (f.begF a).data a b c=s at this;unfold Fl.ends;rw[N p]
  repeat' split
  all_goals exact this
 unfold Fl.body;split
 .exact d _ _
 .split
  .exact d _ _
  .split
   .exact n _ _ _
   .exact n _ _ _
theorem Gd{s f l i dn}(a8:Ag s f)(c7:Sm s f)(a3:f.first=false)(a9:s.part=1)(c8:s.taken=0)(c9:s.number=0)(d0:f.done=false)(d1:∀G∈l,G<256)(q:(f.chunk l i dn).took=0):(af s l).1.hd.W=0/\(f.chunk l i dn).f.on=false:=by
 obtain⟨W,b0⟩:=a8.w a3;have d2:f.ov (la l)=false:=by unfold Fl.ov;rw[b0];rfl
 have K:f.on=false:=by rw[b0];rfl
 rw[uP (dn':=decide (s.st.part=10)) d2] at q ⊢;unfold Fl.chunk at q ⊢;by_cases b1:l.length<4
 .rw[I b1]
  obtain⟨M,z,x,A⟩:=nN 1 (L rfl) l s a9 O;exact⟨by rw[z];show M.hd.W=0;rw[x.hd];exact W,K⟩
 rw[N b1] at q ⊢;obtain⟨g,h,j,k,P,rfl⟩:=mg l O;have B:=uy (a:=g) (b:=h) (c:=j) (d:=k) (r:=P) a9 c8 c9;replace q:(if 2147483648<=n4 g h j k then(⟨f,2,3,0⟩:Ch) else _:Ch).took=0:=q;show _/\(if 2147483648<=n4 g h j k then(⟨f,2,3,0⟩:Ch) else _:Ch).f.on=false
 by_cases b2:2147483648<=n4 g h j k
 .rw[I b2] at B ⊢
  exact⟨by rw[B];exact W,K⟩
 rw[N b2] at q B ⊢;by_cases X:(g::h::j::k::P).length<8
 .rw[I X]
  obtain⟨M,z,x,A⟩:=nN 2 (R (L rfl)) P (lnS s (n4 g h j k)) rfl (by show 0+P.length<4;simp at X;omega);rw[z] at B;exact⟨by rw[B];show M.hd.W=0;rw[x.hd];exact W,K⟩
 rw[N X] at q ⊢;obtain⟨m,n,o,p,e,rfl⟩:=mg P (by simp at X;omega);have y:=xP (s:=lnS s (n4 g h j k)) (a:=m) (b:=n) (c:=o) (d:=p) (r:=e) rfl rfl rfl;obtain⟨u,Q⟩:∃u,u=tyS (lnS s (n4 g h j k)) (n4 m n o p) (bg (lnS s (n4 g h j k)).sum [m,n,o,p]):=⟨_,rfl⟩;rw[<-Q] at y;have Y:gd s u:=by rw[Q];exact⟨rfl,rfl,rfl,rfl,rfl,rfl,rfl,rfl⟩
 have D:u.ctype=n4 m n o p:=by rw[Q];rfl
 have H:u.length=n4 g h j k:=by rw[Q];rfl
 have d3:u.sum=bg ax [m,n,o,p]:=by rw[Q];rfl
 have Z:∀G,G∈[m,n,o,p]->G<256:=λG b3=>d1 G (by simp at b3 ⊢;rcases b3 with rfl|rfl|rfl|rfl<;>simp)
 have b4:=a8.same Y;have b5:=uU b4 (by rw[D];exact(Ip (Z m Xi) (Z n Xi) (Z o Xi) (Z p Xi)));rw[D,H,Y.st] at b5;rw[b5] at y;replace q:(if f.begE (n4 m n o p) (n4 g h j k) (decide (s.st.part=10))≠0 then(⟨f,f.begE (n4 m n o p) (n4 g h j k) (decide (s.st.part=10)),7,0⟩:Ch) else Fl.body (f.begF (n4 m n o p)) (n4 m n o p) (n4 g h j k) [g,h,j,k,m,n,o,p] e (i+8)).took=0:=q;show _/\(if f.begE (n4 m n o p) (n4 g h j k) (decide (s.st.part=10))≠0 then(⟨f,f.begE (n4 m n o p) (n4 g h j k) (decide (s.st.part=10)),7,0⟩:Ch) else Fl.body (f.begF (n4 m n o p)) (n4 m n o p) (n4 g h j k) [g,h,j,k,m,n,o,p] e (i+8)).f.on=false
 have b6:u.hd.W=0:=by rw[Y.hd];exact W
 by_cases b7:f.begE (n4 m n o p) (n4 g h j k) (decide (s.st.part=10))≠0
 .rw[I b7] at y ⊢
  exact⟨by rw[B,y];exact b6,K⟩
 rw[N b7] at q y ⊢;have S:f.begE (n4 m n o p) (n4 g h j k) (decide (s.st.part=10))=0:=O;have d4:n4 m n o p=aQ:=by
  apply Yc;intro v
  have:=dw v S
  rw[a3] at this;cases this
 rw[d4] at q S D ⊢;have d5:=(kJ S).2;rw[d5] at q H S ⊢;have E:=(kP (t:=u) (by rw[D];exact bT.symm)).enter (if u.note.length=0 then 4 else 3);have d6:(if u.note.length=0 then 4 else 3)=3:=by rw[((kP (t:=u) (by rw[D];exact bT.symm)).length.trans H)];rfl
 rw[d6] at E y;obtain⟨w,a0⟩:∃w,w=u.note.enter 3:=⟨_,rfl⟩;rw[<-a0] at E y;have b8:w.part=3:=by rw[a0];rfl
 have b9:w.taken=0:=by rw[a0];rfl
 have a4:=E.ctype.trans D;have c0:=E.length.trans H;have a5:w.hd.W=0:=by rw[E.hd];exact b6
 have c1:(af s (g::h::j::k::m::n::o::p::e)).1=(af w e).1:=by rw[B,y];rfl
 rw[c1];clear a0 B y c1;have d7:∀c2 c3,(f.begF aQ).data aQ c2 c3=f.begF aQ:=λc2 c3=>by unfold Fl.data;rw[N bT.symm]
 have a1:(f.begF aQ).on=false:=by unfold Fl.begF;rw[I a3];exact K
 unfold Fl.body at q ⊢;rw[d7] at q ⊢;by_cases e2:13<=e.length
 .have T:(e.take 13).length=13:=by simp;omega
  obtain⟨v,U,a6⟩:=Au (s0:=w) (by rw[a4];exact bT.symm) (e.take 13) b8 b9 (by rw[T,c0]) (by intro V;rw[V] at T;simp at T);have d8:af w e=shf 13 (af (v.enter 4) (e.drop 13)):=by
   conv=>lhs;rw[<-X7 13 e]
   rw[lq,a6,I rfl,T]
  have c4:v.hd.W=0:=by rw[U.hd];exact a5
  rw[d8];by_cases c5:e.length<13+4
  .rw[I c5]
   obtain⟨M,z,x,A⟩:=nN 4 (R (R rfl)) (e.drop 13) (v.enter 4) rfl (by show 0+_<4;simp;omega);rw[z];exact⟨by show M.hd.W=0;rw[x.hd];exact c4,a1⟩
  rw[N c5] at q ⊢;have F:=zw (s:=v.enter 4) (a:=e.getD 13 0) (b:=e.getD (13+1) 0) (c:=e.getD (13+2) 0) (d:=e.getD (13+3) 0) (r:=e.drop (13+4)) rfl rfl rfl;rw[<-D2 e 13 O] at F;have d9:(v.enter 4).sum=bg ax ([g,h,j,k,m,n,o,p].drop 4++e.take 13):=by
   show v.sum=_
   rw[U.sum,(E.sum.trans d3),<-yN];rfl
  rw[d9] at F;by_cases a2:bz (bg ax ([g,h,j,k,m,n,o,p].drop 4++e.take 13))≠n4 (e.getD 13 0) (e.getD (13+1) 0) (e.getD (13+2) 0) (e.getD (13+3) 0)
  .rw[I a2]
   rw[I (λV=>a2 V.symm)] at F;rw[F];exact⟨c4,a1⟩
  rw[N a2] at q ⊢;rw[N (λV=>a2 (λe0=>V e0.symm))] at F;have a7:=((((U.enter 4).num (e.getD 13 0)).num (e.getD (13+1) 0)).num (e.getD (13+2) 0)).num (e.getD (13+3) 0);have c6:=xn (dn:=decide (s.st.part=10)) b4 (c7.same Y) D bT.symm (by rw[H];exact S) d0 E a7 (by rw[H];exact T);by_cases C:((f.begF aQ).ends aQ (e.take 13)).2≠0
  .rw[I C]
   rw[c6.1,I C] at F;rw[F];generalize ((((v.enter 4).num (e.getD 13 0)).num (e.getD (13+1) 0)).num (e.getD (13+2) 0)).num (e.getD (13+3) 0)=J at *;have e1:J.hd.W=0:=by rw[a7.hd];exact a5
   have z:J.accept=J.acceptHead:=by unfold Rd.accept;rw[I (a7.ctype.trans a4)]
   have x:J.acceptHead.2≠0:=by rw[<-z,c6.1];exact C
   refine⟨?_,?_⟩
   .show J.accept.1.hd.W=0
    rw[z];unfold Rd.acceptHead at x ⊢;by_cases A:(aE J.raw).1≠0
    .rw[I A];exact e1
    .rw[N A] at x;exact absurd rfl x
   .unfold Fl.ends at C ⊢
    rw[I rfl] at C ⊢;by_cases A:(aE (λi=>(e.take 13).getD i 0)).1≠0
    .rw[I A];exact a1
    .rw[N A] at C;exact absurd rfl C
  .rw[N C] at q
   exact absurd q (by show ¬(8+13+4=0);decide)
 .rw[I]
  obtain⟨v,U,a6,e3,e4⟩:=qg (s0:=w) (by rw[a4];exact bT.symm) e [] w (DtA.refl w) b8 b9 (by rw[c0];simp;omega);rw[U];exact⟨by show v.hd.W=0;rw[a6.hd];exact a5,a1⟩
theorem xg{f l i dn}(P:Fl->Prop)(c:P f)(q:∀k d,f.begE k d dn=0->P (f.begF k)/\(k=aG->∀a b,P ((f.begF k).data k a b)))(g:∀h k a,P h->P (h.ends k a).1):P (f.chunk l i dn).f:=by
 unfold Fl.chunk;by_cases j:l.length<4
 .rw[I j];exact c
 rw[N j];by_cases m:2147483648<=n4 (l.getD 0 0) (l.getD 1 0) (l.getD 2 0) (l.getD 3 0)
 .rw[I m];exact c
 rw[N m];by_cases n:l.length<8
 .rw[I n];exact c
 rw[N n];generalize n4 (l.getD 4 0) (l.getD 5 0) (l.getD 6 0) (l.getD 7 0)=k;generalize n4 (l.getD 0 0) (l.getD 1 0) (l.getD 2 0) (l.getD 3 0)=d;by_cases o:f.begE k d dn≠0
 .rw[I o];exact c
 rw[N o];obtain⟨r,s⟩:=q k d O;have e:∀a b,P ((f.begF k).data k a b):=λa b=>by
  by_cases p:k=aG
  .exact s p a b
  .unfold Fl.data;rw[N p];exact r
 unfold Fl.body;split
 .exact e _ _
 .split
  .exact e _ _
  .split
   .exact g _ _ _ (e _ _)
   .exact g _ _ _ (e _ _)
theorem Ge{f:Fl}(a:f.first=true)l i dn:(f.chunk l i dn).f.first=true:=by
 refine xg (λd=>d.first=true) a (λb j _=>⟨?_,λ_ e m => ?_⟩) (λd b e g => ?_)
 .obtain⟨h,c⟩:=ql (k:=b) a
  rw[c];exact a
 .obtain⟨h,c⟩:=ql (k:=b) a
  unfold Fl.data
  split<;>(rw[c];exact a)
 .unfold Fl.ends
  repeat' split
  all_goals exact g
theorem Gc{f}(a:f=Fl.start)l i dn:(f.chunk l i dn).f.ids=0:=by
 refine xg (λb=>b.ids=0) (by rw[a];rfl) (λc j d=>⟨?_,λe g k => ?_⟩) (λb c g h => ?_)
 .rw[a];unfold Fl.begF;split;rfl;split<;>rfl
 .exfalso
  subst e
  have:=dw bT d
  rw[a] at this;cases this
 .unfold Fl.ends
  repeat' split
  all_goals exact h
def HdA(s:Rd)(f:Fl):Prop:=(f.on=true->s.hd=f.hd/\s.hd.W≠0)/\(f.on=false->s.hd.W=0)
theorem E5{s f}(c:Ag s f)(d:f.first=true)(h:s.part=1\/s.part=5)l:HdA (af s l).1 f:=by
 obtain⟨e,g,b,_⟩:=c.on d
 have:=Mr (H:=s.hd) l s ⟨rfl,b,λa=>O⟩
 exact⟨λ_=>by rw[this];exact⟨e,b⟩,λa=>by rw[g] at a;cases a⟩
theorem HdA.to{s f g}(h:HdA s f)(a:g.on=f.on)(b:g.hd=f.hd):HdA s g:=by
 unfold HdA;rw[a,b];exact h
theorem GA{l}(q:∀b∈l,b<256){i f}(h:Wk l i f):(f.first=true->HdA (af rd0 l).1 f)/\(f.first=false->f=Fl.start):=by
 induction h using Wk.cs with
 | start K=>exact⟨(λa=>by cases a),λ_=>rfl⟩
 | next h r M x y s=>
  rename_i i f c
  obtain⟨a,z⟩:=np q h;by_cases j:f.first=true
  .obtain⟨A,B⟩:=xe (l:=l.drop i) (i:=i) (dn:=c) j
   refine⟨λ_=>(s.1 j).to A B,λa => ?_⟩
   exfalso
   have:=Ge j (l.drop i) i c
   rw[this] at a;cases a
  .have C:f.first=false:=by simpa using j
   have t:=s.2 C;cases a using WI.cs with
   | bad u d m=>rw[t] at d;simp[Fl.start] at d
   | few u d m v e w=>omega
   | ok N u d m v e=>
    rcases e with⟨e,_⟩|⟨_,w,D,E⟩
    .rw[r] at e;cases e
    have F:=rH (i:=i) m v w D E r (λb G=>q b (Yu G)) (λg=>z.cap g) x;cases F using gf.cs with
    | bad n o p=>
     exfalso
     have H:∀b:Ch,b.f.ids=0->0<b.f.ids->False:=λb P Q=>O
     exact H _ (Gc t (l.drop i) i c) o
    | stop n=>exact absurd n y
    | on S n T U o p V I=>
     by_cases k:(f.chunk (l.drop i) i c).f.first=true
     .refine⟨λ_ => ?_,λa=>by rw[k] at a;cases a⟩
      have:=E5 p k (by rcases I with⟨_,g⟩|⟨_,g,_⟩;exact R g;exact L g) ((l.drop i).drop (f.chunk (l.drop i) i c).took)
      rw[d,o];exact this
     .have J:(f.chunk (l.drop i) i c).f.first=false:=by simpa using k
      exact⟨λa=>absurd a k,λ_=>(p.w J).2⟩
theorem x6:∀(l:List Nat) (m:Nat) (s:Rd),s.taken+m=8->s.part=0->((af s l).2.1≠0/\(af s l).2.2<m)\/l.length<m->(af s l).1.hd=s.hd
 | [],m,s,_,_,_=>rfl
 | x::l,m,s,i,d,c=>by
  have a:s.take x=s.takeSign x:=by unfold Rd.take;rw[I d]
  unfold Rd.takeSign at a;by_cases e:8<=s.taken\/x≠dD s.taken
  .rw[I e] at a
   rw[dE a Xh]
  rw[N e] at a;by_cases f:s.taken+1=8
  .rw[I f] at a
   exfalso
   rw[aL a] at c;rcases c with⟨_,b⟩|b
   .have g:(af (({s with taken:=s.taken+1}:Rd).enter 1) l).2.2+1<m:=b
    omega
   .simp at b;omega
  .rw[N f] at a
   rw[aL a] at c ⊢
   have:=x6 l (m-1) {s with taken:=s.taken+1} (by show s.taken+1+(m-1)=8;omega) d (by
    rcases c with⟨h,b⟩|b
    .have g:(af ({s with taken:=s.taken+1}:Rd) l).2.2+1<m:=b
     exact L ⟨h,O⟩
    .simp at b
     exact R O)
   exact this
theorem DZ{l}(j:∀t∈l,t<256){F er at'}(h:cq l F er at'):HdA (af rd0 l).1 F:=by
 have u:∀{v:Rd},v.hd.W=0->HdA v Fl.start:=λA=>⟨(λf=>by cases f),λ_=>A⟩
 cases h using cq.cs with
 | sign _ q k w K=>
  rcases pL 8 0 rd0 l rfl rfl rfl with⟨M,b,a,d,g,e,m,x⟩|⟨b,a,d,g,N⟩|⟨b,a,y,d,g,e⟩
  .exact u (by rw[x6 l 8 rd0 rfl rfl (L ⟨by rw[e];decide,by rw[m];exact b⟩)];rfl)
  .have:=b at' q k;rw[XD] at this;exact absurd this w
  .have:=b at' q;rw[XD] at this;exact absurd this w
 | out h k=>
  obtain⟨n,o⟩:=GA j h;cases c:F.first with
  | true=>exact n c
  | false=>
   have r:=o c;obtain⟨f,B⟩:=np j h;rw[r];cases f using WI.cs with
   | bad b a d=>rw[r] at a;simp[Fl.start] at a
   | few b a d g e m=>exact u (by rw[x6 l 8 rd0 rfl rfl (R b)];rfl)
   | ok y b a d g e=>
    rename_i s
    rw[(Y8.2 k)] at a;refine u ?_;rw[a];exact(d.w c).1
 | trail h p k=>
  obtain⟨n,o⟩:=GA j h;cases c:F.first with
  | true=>exact n c
  | false=>rw[o c] at p;cases p
 | stop h p k O C=>
  rename_i s D z
  obtain⟨n,o⟩:=GA j h;cases c:D.first with
  | true=>
   obtain⟨E,G⟩:=xe (l:=l.drop s) (i:=s) (dn:=z) c;exact(n c).to E G
  | false=>
   have r:=o c;obtain⟨f,B⟩:=np j h;cases f using WI.cs with
   | bad b a d=>rw[r] at a;simp[Fl.start] at a
   | few b a d g e m=>omega
   | ok y b a d g e=>
    rcases e with⟨e,_⟩|⟨_,m,x,q⟩
    .rw[p] at e;cases e
    obtain⟨H,I⟩:=Gd (i:=s) (dn:=z) d g c m x q p (λt J=>j t (Yu J)) C;refine⟨(λf=>by rw[I] at f;cases f),λ_ => ?_⟩;rw[a];exact H
