import Derived.Test.YtgooinallljbpaaGreatDoorSh00
import Derived.Test.YtgooinallljbpaaGreatDoorSh17
import Derived.Test.YtgooinallljbpaaGreatDoorSh02
set_option linter.all false
set_option maxRecDepth 100000
set_option maxHeartbeats 0
namespace Go.Proofs.YtgooinallljbpaaGreatDoor
open Go.RowKit Px Tryz
def eu(s:St)(r:Rw)(σ:Int):St×Rw×Nat:=if s.part=12 then dz s r σ else if s.part=11 then((s.codeLen σ).1,r,(s.codeLen σ).2) else cF s r σ
theorem Le:∀j,j<29->tq.getD j 0=aK (j+257)/\pX.getD j 0=bD (j+257):=Xh
theorem LB:∀a,a<30->qe.getD a 0=bx a/\1<=bx a:=Xh
theorem GN{r0 s r t c p nl nd sl out}(h:Cm r0 s r t)(f:t.ph=.clen nl nd sl out)(g:ez s t.ph)(d:s.skip=false)(q:c<sl.length):bl r0 t.o (eu s r (c:Int)) p (cQ t c p):=by
 rw[f] at g;obtain⟨l,a⟩:=g;have u:=a.sl19;have v:=a.lt;unfold eu cQ;rw[N,I l,f];show bl r0 t.o ((s.codeLen (c:Int)).1,r,(s.codeLen (c:Int)).2) p (if c<16 then t.lens nl nd sl (out++[c]) else if c=16/\out=[] then _ else _)
 unfold St.codeLen;rw[N (show ¬((c:Int) = -1) from O),N (show ¬((c:Int) = -2) from O)];by_cases i:c<16
 .rw[N (show ¬((c:Int)=16) from O),N (show ¬((c:Int)=17) from O),N (show ¬((c:Int)=18) from O),I i]
  have m:AW (s.setRep (c:Int)) nl nd sl out:=⟨a.lit,a.dist,a.b1,a.b2,a.b3,a.b4,a.told,a.ls,a.le,a.lt,a.code,a.sl19⟩
  have:=tE (p:=p) (k:=1) (x:=c) (s:=s.setRep (c:Int)) (r:=r) (t:=t) (r0:=r0) ⟨h.win,h.last,h.cnt,h.hist,h.sum,h.rows⟩ m O d
  rw[N] at this;rw[YQ];exact this
 rw[N i];by_cases j:c=16
 .subst j
  rw[I (show((16:Nat):Int)=16 from rfl),a.told];by_cases e:out=[]
  .subst e
   rw[I (show([]:List Nat).length=0 from rfl),I ⟨rfl,rfl⟩];exact⟨rfl,Xh,h.rows⟩
  .rw[N (by intro b;exact e (List.length_eq_zero_iff.1 b)),N (λb=>e b.2)]
   exact L ⟨rfl,⟨⟨h.win,h.last,h.cnt,h.hist,h.sum,h.rows⟩,⟨rfl,rfl,rfl,L rfl,λ_=>e,a.lit,a.dist,a.b1,a.b2,a.b3,a.b4,a.told,a.ls,a.le,a.lt,a.code,a.sl19⟩,rfl,rfl,rfl⟩,d⟩
 rw[N (show ¬((c:Int)=16) from O),N (show ¬(c=16/\out=[]) from λb=>j b.1)];by_cases n:c=17
 .subst n
  rw[I (show((17:Nat):Int)=17 from rfl)];exact L ⟨rfl,⟨⟨h.win,h.last,h.cnt,h.hist,h.sum,h.rows⟩,⟨rfl,rfl,rfl,R (L rfl),(λb=>absurd b Xh),a.lit,a.dist,a.b1,a.b2,a.b3,a.b4,a.told,a.ls,a.le,a.lt,a.code,a.sl19⟩,rfl,rfl,rfl⟩,d⟩
 .have o:c=18:=O
  subst o;rw[N (show ¬(((18:Nat):Int)=17) from O),I (show((18:Nat):Int)=18 from rfl)];exact L ⟨rfl,⟨⟨h.win,h.last,h.cnt,h.hist,h.sum,h.rows⟩,⟨rfl,rfl,rfl,R (R rfl),(λb=>absurd b Xh),a.lit,a.dist,a.b1,a.b2,a.b3,a.b4,a.told,a.ls,a.le,a.lt,a.code,a.sl19⟩,rfl,rfl,rfl⟩,d⟩
theorem Kf{r0 s r t}{c p:Nat}{lit dist}(u:Cap r0)(h:Cm r0 s r t)(j:t.ph=.sym lit dist)(k:ez s t.ph)(e:s.skip=false):bl r0 t.o (eu s r (c:Int)) p (cQ t c p):=by
 rw[j] at k;obtain⟨v,a⟩:=k;unfold eu cQ;rw[I v,j];show bl r0 t.o (dz s r (c:Int)) p (if c<256 then(t.give c p).to (.sym lit dist) else if c=256 then t.endBlock else if 285<c then .err 13 else if aK c=0 then t.to (.dist lit dist (bD c)) else t.to (.lrest lit dist (bD c) (aK c)))
 unfold dz;rw[N (show ¬((c:Int) = -1) from O)];by_cases l:c<256
 .rw[N (show ¬((c:Int)<0\/286<=(c:Int)) from O),N (show ¬((c:Int)=256) from O),N (show ¬(257<=(c:Int)) from O),I l,YQ]
  have w:Cm r0 (s.enter 12 0) r t:=h.enter _ _;rcases yB u w c p with⟨g,i,b⟩|⟨g,i⟩
  .have d:(aF (s.enter 12 0) r c).1=(s.enter 12 0).give c:=by rw[i]
   refine L ⟨g,⟨?_,?_,?_,?_,?_⟩,?_⟩
   .rw[d];exact⟨b.win,b.last,b.cnt,b.hist,b.sum,b.rows⟩
   .rw[d];exact⟨rfl,a.lit,a.dist⟩
   .rw[d];rfl
   .rw[d];rfl
   .rw[d];rfl
   .rw[d];exact e
  .exact R ⟨g,i⟩
 rw[N l];by_cases m:c=256
 .rw[N (show ¬((c:Int)<0\/286<=(c:Int)) from O),I (show(c:Int)=256 from O),I m]
  exact yH p h e
 rw[N m];by_cases n:285<c
 .rw[I n,I (R O)]
  exact⟨rfl,Xh,h.rows⟩
 rw[N n,N,N,I (show 257<=(c:Int) from O)];obtain⟨o,q⟩:=Le (c-257) O;have x:c-257+257=c:=O;rw[x] at o q;have y:(c:Int).toNat-257=c-257:=by rw[YQ]
 rw[y];unfold St.copy;rw[o,q];by_cases f:aK c=0
 .rw[I f,I f]
  exact L ⟨rfl,⟨⟨h.win,h.last,h.cnt,h.hist,h.sum,h.rows⟩,⟨rfl,rfl,a.lit,a.dist⟩,rfl,rfl,rfl⟩,e⟩
 .rw[N f,N f]
  exact L ⟨rfl,⟨⟨h.win,h.last,h.cnt,h.hist,h.sum,h.rows⟩,⟨rfl,rfl,O,rfl,a.lit,a.dist⟩,rfl,rfl,rfl⟩,e⟩
theorem GM{r0 s r t}{c p b:Nat}{lit dist}(l:Cap r0)(h:Cm r0 s r t)(e:t.ph=.dist lit dist b)(f:ez s t.ph)(g:s.skip=false):bl r0 t.o (eu s r (c:Int)) p (cQ t c p):=by
 rw[e] at f;obtain⟨o,i,d⟩:=f;unfold eu cQ;rw[N,N,e];show bl r0 t.o (cF s r (c:Int)) p (if 29<c then .err 13 else if aI c=0 then t.copy lit dist b (bx c) p else t.to (.drest lit dist b (bx c) (aI c)))
 unfold cF;rw[N (show ¬((c:Int) = -1) from O),YQ];by_cases j:29<c
 .rw[I j,I (R O)]
  exact⟨rfl,Xh,h.rows⟩
 rw[N j,N];obtain⟨m,k⟩:=LB c O;rw[m];have n:c/2-1=aI c:=by unfold aI;split<;>omega
 rw[n];by_cases a:aI c=0
 .rw[I a,I a,<-i]
  exact wZ l h d g k
 .rw[N a,N a]
  exact L ⟨rfl,⟨⟨h.win,h.last,h.cnt,h.hist,h.sum,h.rows⟩,⟨rfl,rfl,O,i,rfl,k,d.lit,d.dist⟩,rfl,rfl,rfl⟩,g⟩
def setOf(s:St):CS:=if s.part=12 then s.lit else if s.part=11 then s.tb.short else s.dist
theorem Kg{r0 s r t c p l}(f:Cap r0)(h:Cm r0 s r t)(d:ez s t.ph)(e:s.skip=false)(b:item t.ph=.code l)(g:c<l.length):bl r0 t.o (eu s r (c:Int)) p (cQ t c p):=by
 cases a:t.ph using Px.Ph.cs with
 | clen k m n o=>rw[a] at b;cases b;exact GN h a d e g
 | sym i j=>exact Kf f h a d e
 | dist i j q=>exact GM f h a d e
 | _=>rw[a] at b;cases b
theorem xd{s ph l}(d:ez s ph)(c:item ph=.code l):(s.part=11\/s.part=12\/s.part=13)/\dC (setOf s) l:=by
 unfold setOf;cases ph using Px.Ph.cs with
 | clen g h i j=>cases c;obtain⟨a,b⟩:=d;exact⟨L a,by rw[N,I a];exact b.code⟩
 | sym e f=>cases c;obtain⟨a,b⟩:=d;exact⟨R (L a),by rw[I a];exact b.lit⟩
 | dist e f k=>cases c;obtain⟨a,_,b⟩:=d;exact⟨R (R a),by rw[N,N];exact b.dist⟩
 | _=>cases c
theorem uk{s ph n}(b:ez s ph)(a:item ph=.num n):s.part<=9/\s.wanted=n/\1<=n:=by
 cases ph using Px.Ph.cs with
 | head=>cases a;obtain⟨d,c⟩:=b;omega
 | block=>cases a;obtain⟨d,c⟩:=b;omega
 | ssize=>cases a;obtain⟨d,c⟩:=b;omega
 | stored left=>cases a;obtain⟨d,c,_⟩:=b;omega
 | counts=>cases a;obtain⟨d,c⟩:=b;omega
 | short f g l m=>cases a;obtain⟨d,c,_⟩:=b;omega
 | rep f g o p q=>cases a;obtain⟨d,c,_,e,_⟩:=b;unfold cd at *;refine⟨O,c,?_⟩;(repeat' split)<;>omega
 | lrest h i j k=>cases a;obtain⟨d,c,e,_⟩:=b;omega
 | drest h i r j k=>cases a;obtain⟨d,c,e,_⟩:=b;omega
 | sum=>cases a;obtain⟨d,c⟩:=b;omega
 | _=>cases a
structure OE (s s':St):Prop where
 part:s'.part=s.part
 wanted:s'.wanted=s.wanted
 left:s'.left=s.left
 tb:s'.tb=s.tb
 lit:s'.lit=s.lit
 dist:s'.dist=s.dist
 length:s'.length=s.length
 base:s'.base=s.base
theorem ez.same{s s' ph}(h:OE s s')(c:ez s ph):ez s' ph:=by
 obtain⟨f,i,u,j,v,w,m,x⟩:=h;have l:∀a b,CR s a b->CR s' a b:=λa b e=>⟨by rw[v];exact e.lit,by rw[w];exact e.dist⟩
 have q:∀a b d g,AW s a b d g->AW s' a b d g:=λa b d g e=>⟨by rw[j];exact e.lit,by rw[j];exact e.dist,e.b1,e.b2,e.b3,e.b4,by rw[j];exact e.told,λy z=>by rw[j];exact e.ls y z,e.le,e.lt,by rw[j];exact e.code,e.sl19⟩
 cases ph using Px.Ph.cs with
 | head=>exact⟨f.trans c.1,i.trans c.2⟩
 | block=>exact⟨f.trans c.1,i.trans c.2⟩
 | ssize=>exact⟨f.trans c.1,i.trans c.2⟩
 | stored left=>obtain⟨a,b,d,g⟩:=c;exact⟨f.trans a,i.trans b,u.trans d,g⟩
 | counts=>exact⟨f.trans c.1,i.trans c.2⟩
 | short r t G H=>obtain⟨a,b,d⟩:=c;exact⟨f.trans a,i.trans b,by rw[j];exact d⟩
 | clen r t A B=>obtain⟨a,b⟩:=c;exact⟨f.trans a,q _ _ _ _ b⟩
 | rep r t A B d=>obtain⟨a,b,d,g,k,n⟩:=c;exact⟨f.trans a,i.trans b,by rw[j];exact d,g,k,q _ _ _ _ n⟩
 | sym o p=>obtain⟨a,b⟩:=c;exact⟨f.trans a,l _ _ b⟩
 | lrest o p C D=>obtain⟨a,b,d,g,k⟩:=c;exact⟨f.trans a,i.trans b,d,m.trans g,l _ _ k⟩
 | dist o p E=>obtain⟨a,b,d⟩:=c;exact⟨f.trans a,m.trans b,l _ _ d⟩
 | drest o p E C D=>obtain⟨a,b,d,g,k,n,F⟩:=c;exact⟨f.trans a,i.trans b,d,m.trans g,x.trans k,n,l _ _ F⟩
 | sum=>exact⟨f.trans c.1,i.trans c.2⟩
 | fin=>exact f.trans c
def Under(z:List One)(a i:Nat)(s:St):Px.Item->Prop
 | .inl n=>s.got=i-a/\i-a<n/\s.number=ab z a (i-a)
 | .inr (.inl l)=>cP z a l (i-a)/\nT l (i-a) (msb z a (i-a)) s.path/\i-a<=14
 | .inr (.inr _)=>True
structure O6 (r0:Rw) (z:List One) (i:Nat) (s:St) (r:Rw) (a:Nat) (t:Px.St):Prop where
 run:Run z 0 Px.St.start a t
 le:a<=i
 cm:Cm r0 s r t
 ph:ez s t.ph
 und:Under z a i s (item t.ph)
 sum:t.ph=.sum->a%8=0
 fin:t.ph=.fin->a=i/\i%8=0
def Sim(r0:Rw)(z:List One)(i:Nat)(s:St)(r:Rw):Prop:=∃a t,O6 r0 z i s r a t
def Mh(r0:Rw)(z:List One)(e a:Nat)(rr:Rw):Prop:=e≠0/\((∃a1 t,Run z 0 Px.St.start a1 t/\Fails z a1 t e a/\bu r0 t.o=(rr,0))\/(∃a1 t,Run z 0 Px.St.start a1 t/\cC r0 t.o (aB z a) e rr))
theorem Beg.under{r0 s r t}(h:Beg r0 s r t)z a:Under z a a s (item t.ph):=by
 cases b:item t.ph using Px.Item.cs with
 | num d=>
  have:=uk h.ph b
  exact⟨by rw[h.got,YC],O,by rw[h.num,YC];rfl⟩
 | code c=>exact⟨λe f g=>O,by rw[YC,h.path];exact nT.start c,O⟩
 | none=>trivial
theorem H6{t t' v p k}(h:br t v p=.ok t' k\/cQ t v p=.ok t' k):(t'.ph=.sum->k=true)/\(t'.ph=.fin->t.ph=.sum):=by
 have m:∀c:Px.St,c.endBlock=.ok t' k->(t'.ph=.sum->k=true)/\t'.ph ≠ .fin:=λc b=>by
  unfold Px.St.endBlock at b
  split at b<;>(cases b;exact⟨(λa=>by first|rfl|cases a),(λa=>by cases a)⟩)
 have i:∀(c:Px.St) (j:Ph),c.to j=.ok t' k->t'.ph=j:=λc j b=>by
  unfold Px.St.to at b;cases b;rfl
 have n:∀(c:Px.St) (d e:Nat) (f g:List Nat),c.lens d e f g=.ok t' k->(t'.ph=.sum->k=true)/\t'.ph ≠ .fin:=λc d e f g b=>by
  unfold Px.St.lens at b
  split at b
  .rw[i _ _ b];exact⟨(λa=>by cases a),(λa=>by cases a)⟩
  .split at b
   .cases b
   .rw[i _ _ b];exact⟨(λa=>by cases a),(λa=>by cases a)⟩
 have o:∀(c:Px.St) (d e:List Nat) (f g q:Nat),c.copy d e f g q=.ok t' k->(t'.ph=.sum->k=true)/\t'.ph ≠ .fin:=λc d e f g q b=>by
  unfold Px.St.copy at b
  split at b
  .cases b
  .cases b;exact⟨(λa=>by cases a),(λa=>by cases a)⟩
 have wr:∀{s:Prop},(t'.ph=.sum->k=true)/\t'.ph ≠ .fin->(t'.ph=.sum->k=true)/\(t'.ph=.fin->s):=λr=>⟨r.1,λa=>absurd a r.2⟩
 rcases h with h|h
 .unfold br at h
  cases l:t.ph using Px.Ph.cs<;>(rw[l] at h;dsimp only at h)<;>(repeat' split at h)<;>(first|exact wr (m _ h)|exact wr (n _ _ _ _ _ h)|exact wr (o _ _ _ _ _ _ h)|(have:=i _ _ h;rw[this];exact⟨(λa=>by cases a),(λa=>by first|rfl|cases a)⟩)|(cases h;exact⟨(λa=>by cases a),(λa=>by cases a)⟩)|(cases h))
 .unfold cQ at h
  cases l:t.ph using Px.Ph.cs<;>(rw[l] at h;dsimp only at h)<;>(repeat' split at h)<;>(first|exact wr (m _ h)|exact wr (n _ _ _ _ _ h)|exact wr (o _ _ _ _ _ _ h)|(have:=i _ _ h;rw[this];exact⟨(λa=>by cases a),(λa=>by first|rfl|cases a)⟩)|(cases h;exact⟨(λa=>by cases a),(λa=>by cases a)⟩)|(cases h))
def JZ(r0:Rw)(z:List One)(i:Nat)(R:St×Rw×Nat):Prop:=
 (R.2.2=0/\R.1.skip=false/\Sim r0 z (i+1) R.1 R.2.1)\/(R.2.2=0/\R.1.skip=true/\Sim r0 z (up8 (i+1)) R.1 R.2.1)\/(R.2.2≠0/\Mh r0 z R.2.2 (i+1) R.2.1)
theorem Df a:up8 a%8=0:=by unfold up8;omega
theorem HJ{r0 z i a R t q}(j:Run z 0 Px.St.start a t)(l:∀b k,q=.ok b k->Step z a t (nt k (i+1)) b)(m:∀e,q=.err e->Fails z a t e (i+1))(n:∀b k,q=.ok b k->(b.ph=.sum->k=true)/\(b.ph=.fin->(i+1)%8=0))(h:bl r0 t.o R (aB z (i+1)) q):JZ r0 z i R:=by
 cases q using Px.Res.cs with
 | err e=>
  obtain⟨d,c,f⟩:=h;exact Or.inr (Or.inr ⟨by rw[d];exact c,by rw[d];exact⟨c,L ⟨a,t,j,m e rfl,f⟩⟩⟩)
 | ok b k=>
  have g:=Run.tail j (l b k rfl);obtain⟨o,p⟩:=n b k rfl;rcases h with⟨d,c,f⟩|⟨d,c⟩
  .cases k with
   | false=>
    refine L ⟨d,f,i+1,b,?_,E _,c.cm,c.ph,c.under z _,(λq=>absurd (o q) Xh),(λq=>⟨rfl,p q⟩)⟩;exact g
   | true=>
    refine Or.inr (L ⟨d,f,up8 (i+1),b,?_,E _,c.cm,c.ph,c.under z _,(λq=>Df _),(λq=>⟨rfl,Df _⟩)⟩);exact g
  .exact Or.inr (Or.inr ⟨d,c.1,Or.inr ⟨_,b,g,c⟩⟩)
theorem Gm s r t(h:s.part=11\/s.part=12\/s.part=13):bm s r t=eu {s with path:=((setOf s).step s.path t).1} r ((setOf s).step s.path t).2:=by
 rcases h with h|h|h
 .have a:setOf s=s.tb.short:=by unfold setOf;rw[N,I h]
  rw[a];unfold bm;rw[N,I h];unfold eu;rw[N (show ¬({s with path:=(s.tb.short.step s.path t).1}:St).part=12 by show ¬s.part=12;omega),I (show({s with path:=(s.tb.short.step s.path t).1}:St).part=11 from h)];unfold clP;exact rfl
 .have a:setOf s=s.lit:=by unfold setOf;rw[I h]
  rw[a];unfold bm;rw[I h];unfold eu;rw[I (show({s with path:=(s.lit.step s.path t).1}:St).part=12 from h)];exact GP s r t
 .have a:setOf s=s.dist:=by unfold setOf;rw[N,N]
  rw[a];unfold bm;rw[N,N,I h];unfold eu;rw[N (show ¬({s with path:=(s.dist.step s.path t).1}:St).part=12 by show ¬s.part=12;omega),N (show ¬({s with path:=(s.dist.step s.path t).1}:St).part=11 by show ¬s.part=11;omega)];unfold dsP;exact rfl
theorem L2{r0 z i s r}(Z:Cap r0)(h:Sim r0 z i s r)(u:s.skip=false)(c2:i<8*z.length)(a7:s.part≠10):JZ r0 z i (bm s r (bs z i)):=by
 obtain⟨a,j,o,c3,f,g,A,B,c4⟩:=h;cases d:item j.ph using Px.Item.cs with
 | num v=>
  rw[d] at A;obtain⟨w,a0,H⟩:=A;obtain⟨c5,a8,c6⟩:=uk g d;have J:a+(i-a)=i:=O;have a1:ab z a (i-a+1)=s.number+bs z i*2^s.got:=by rw[ab,J,H,w]
  unfold bm;rw[N,N,N,a8];by_cases l:s.got+1<v
  .rw[I l]
   refine L ⟨rfl,u,a,j,o,O,⟨f.win,f.last,f.cnt,f.hist,f.sum,f.rows⟩,?_,?_,B,λb=>by rw[b] at d;cases d⟩
   .exact ez.same (s:=s) ⟨rfl,rfl,rfl,rfl,rfl,rfl,rfl,rfl⟩ g
   .rw[d]
    refine⟨?_,O,?_⟩
    .show s.got+1=i+1-a;omega
    .show s.number+bs z i*2^s.got=ab z a (i+1-a)
     rw[show i+1-a=i-a+1 from O,a1]
  .rw[N l]
   have a2:a+v=i+1:=O;have a9:ab z a v=s.number+bs z i*2^s.got:=by rw[<-a1];congr 1;omega
   rw[<-a9];have C:ez (s.oneBit (bs z i)) j.ph:=ez.same (s:=s) ⟨rfl,rfl,rfl,rfl,rfl,rfl,rfl,rfl⟩ g;have b0:=dF z a v;have D:Cm r0 (s.oneBit (bs z i)) r j:=⟨f.win,f.last,f.cnt,f.hist,f.sum,f.rows⟩;have K:=KW (p:=aB z (i+1)) Z D C u d b0;have a3:a+v<=8*z.length:=O;refine HJ o (λM P b => ?_) (λb1 b => ?_) (λM P b => ?_) K
   .rw[<-a2] at b ⊢;exact Step.num d a3 b
   .rw[<-a2] at b ⊢;exact Fails.num d a3 b
   .obtain⟨Q,S⟩:=H6 (L b)
    refine⟨Q,λT => ?_⟩;have E:=S T
    have:=B E
    rw[E] at d;cases d
    omega
 | code F=>
  rw[d] at A;obtain⟨w,a0,H⟩:=A;obtain⟨b2,b3⟩:=xd g d;have J:a+(i-a)=i:=O;have b4:msb z a (i-a+1)=2*msb z a (i-a)+bs z i:=by rw[msb,J]
  have U:=FQ b3 a0 (Iq z a (i-a)) (kI z i) H;rw[<-b4] at U;have b5:bm s r (bs z i)=eu {s with path:=((setOf s).step s.path (bs z i)).1} r ((setOf s).step s.path (bs z i)).2:=Gm s r _ b2;rw[b5];obtain⟨e,b6⟩:∃e,e=((setOf s).step s.path (bs z i)).1:=⟨_,rfl⟩;obtain⟨a4,b7⟩:∃a4,a4=((setOf s).step s.path (bs z i)).2:=⟨_,rfl⟩;rw[<-b6,<-b7] at U ⊢;have D:Cm r0 {s with path:=e} r j:=⟨f.win,f.last,f.cnt,f.hist,f.sum,f.rows⟩;have C:ez {s with path:=e} j.ph:=ez.same (s:=s) ⟨rfl,rfl,rfl,rfl,rfl,rfl,rfl,rfl⟩ g;have V:a+(i-a+1)=i+1:=O;rcases U with⟨x,q,y,W,c7⟩|⟨l,x,q,y,W⟩|⟨x,q,y⟩
  .rw[x]
   have m:eu {s with path:=e} r (-1)=({s with path:=e} ,r,0)\/eu {s with path:=e} r (-1)=(({s with path:=e}:St).setRep (-1),r,0):=by
    unfold eu dz cF St.codeLen;by_cases k:s.part=12
    .left;rw[I (show({s with path:=e}:St).part=12 from k),I rfl]
    .by_cases n:s.part=11
     .right;rw[N (show ¬({s with path:=e}:St).part=12 from k),I (show({s with path:=e}:St).part=11 from n),I rfl]
     .left;rw[N (show ¬({s with path:=e}:St).part=12 from k),N (show ¬({s with path:=e}:St).part=11 from n),I rfl]
   have a5:cP z a F (i+1-a):=by
    rw[show i+1-a=i-a+1 from O];exact tQ w q y
   have a6:nT F (i+1-a) (msb z a (i+1-a)) e:=by rw[show i+1-a=i-a+1 from O];exact W
   rcases m with m|m
   .rw[m]
    exact L ⟨rfl,u,a,j,o,O,D,C,by rw[d];exact⟨a5,a6,O⟩,B,λb=>by rw[b] at d;cases d⟩
   .rw[m]
    refine L ⟨rfl,u,a,j,o,O,⟨f.win,f.last,f.cnt,f.hist,f.sum,f.rows⟩,?_,by rw[d];exact⟨a5,a6,O⟩,B,λb=>by rw[b] at d;cases d⟩;have b8:∀a X l Y,AW s a X l Y->AW (({s with path:=e}:St).setRep (-1)) a X l Y:=λa X l Y b=>⟨b.lit,b.dist,b.b1,b.b2,b.b3,b.b4,b.told,b.ls,b.le,b.lt,b.code,b.sl19⟩
    cases t:j.ph using Px.Ph.cs with
    | clen c8 c9 d0 d1=>rw[t] at g;exact⟨g.1,b8 _ _ _ _ g.2⟩
    | sym b9 c0=>rw[t] at g;exact⟨g.1,g.2.lit,g.2.dist⟩
    | dist b9 c0 d2=>rw[t] at g;exact⟨g.1,g.2.1,g.2.2.lit,g.2.2.dist⟩
    | _=>rw[t] at d;cases d
  .rw[x]
   have G:bH z a F l (i-a+1):=⟨O,O,by rw[YL];exact w,q,y,W⟩;have K:=Kg (c:=l) (p:=aB z (i+1)) Z D C u d q;refine HJ o (λM P b => ?_) (λb1 b => ?_) (λM P b => ?_) K
   .rw[<-V] at b ⊢;exact Step.sym d G b
   .rw[<-V] at b ⊢;exact Fails.sym d G b
   .obtain⟨Q,S⟩:=H6 (R b)
    refine⟨Q,λT => ?_⟩;have E:=S T;rw[E] at d;cases d
  .rw[x]
   have G:ld z a F (i-a+1):=⟨O,O,by rw[YL];exact w,q,y⟩;have m:(eu {s with path:=e} r (-2)).2.2=13:=by
    unfold eu dz cF St.codeLen;by_cases k:s.part=12
    .rw[I (show({s with path:=e}:St).part=12 from k),N Xh,I Xh]
    .by_cases n:s.part=11
     .rw[N (show ¬({s with path:=e}:St).part=12 from k),I (show({s with path:=e}:St).part=11 from n),N Xh,I rfl]
     .rw[N (show ¬({s with path:=e}:St).part=12 from k),N (show ¬({s with path:=e}:St).part=11 from n),N Xh,I Xh]
   have c1:(eu {s with path:=e} r (-2)).2.1=r:=by
    unfold eu dz cF St.codeLen;by_cases k:s.part=12
    .rw[I (show({s with path:=e}:St).part=12 from k),N Xh,I Xh]
    .by_cases n:s.part=11
     .rw[N (show ¬({s with path:=e}:St).part=12 from k),I (show({s with path:=e}:St).part=11 from n)]
     .rw[N (show ¬({s with path:=e}:St).part=12 from k),N (show ¬({s with path:=e}:St).part=11 from n),N Xh,I Xh]
   refine R (R ⟨by rw[m];decide,?_⟩);rw[m];refine⟨Xh,L ⟨a,j,o,?_,by rw[c1];exact f.rows⟩⟩;rw[<-V];exact Fails.bad d G
 | none=>
  exfalso
  cases t:j.ph using Px.Ph.cs<;>(rw[t] at d g;first|exact a7 g|cases d)
theorem uS{r0 z k}(g:Cap r0)(i:k<z.length):∀(n j:Nat) (s:St) (r:Rw),j+n=8->((s.skip=false/\Sim r0 z (8*k+j) s r/\(0<n->s.part≠10))\/(s.skip=true/\Sim r0 z (8*k+8) s r)) ->
  ((bt n j s r (vAt z k)).2.2=0/\Sim r0 z (8*k+8) (bt n j s r (vAt z k)).1 (bt n j s r (vAt z k)).2.1)\/((bt n j s r (vAt z k)).2.2≠0/\∃e,8*k<e/\e<=8*k+8/\Mh r0 z (bt n j s r (vAt z k)).2.2 e (bt n j s r (vAt z k)).2.1)
 | 0,j,s,r,p,a=>by
  have:j=8:=O
  subst this;rcases a with⟨_,a,_⟩|⟨_,a⟩
  .exact L ⟨rfl,a⟩
  .exact L ⟨rfl,a⟩
 | n+1,j,s,r,p,a=>by
  rw[bt];rcases a with⟨f,h,q⟩|⟨f,h⟩
  .rw[f,N Xh]
   have t:vAt z k/2^j%2=bs z (8*k+j):=by
    unfold bs;rw[show(8*k+j)/8=k from O,show(8*k+j)%8=j from O]
   rw[t];rcases(L2 g h f O (q O)) with⟨b,c,d⟩|⟨b,c,d⟩|⟨b,c⟩
   .rw[I b]
    refine uS g i n (j+1) _ _ O (L ⟨c,d,λw x => ?_⟩);obtain⟨e,l,m⟩:=d;have o:=m.ph;have u:l.ph=.fin:=by
     cases v:l.ph using Px.Ph.cs with
     | fin=>rfl
     | _=>exfalso;rw[v] at o;have:=o.1;omega
    have:=(m.fin u).2
    omega
   .rw[I b]
    refine uS g i n (j+1) _ _ O (R ⟨c,?_⟩)
    have:up8 (8*k+j+1)=8*k+8:=by unfold up8;omega
    rw[this] at d;exact d
   .rw[N b]
    exact R ⟨b,_,O,O,c⟩
  .rw[f,I rfl]
   exact L ⟨rfl,h⟩
theorem Sim.skip{r0 z i s r}(h:Sim r0 z i s r)b:Sim r0 z i {s with skip:=b} r:=by
 obtain⟨e,c,f,g,a,j,d,k,l⟩:=h;refine⟨e,c,f,g,⟨a.win,a.last,a.cnt,a.hist,a.sum,a.rows⟩,?_,?_,k,l⟩
 .exact ez.same (s:=s) ⟨rfl,rfl,rfl,rfl,rfl,rfl,rfl,rfl⟩ j
 .cases m:item c.ph<;>(rw[m] at d;exact d)
theorem JC{r0 z k s r}(c:Cap r0)(d:k<z.length)(h:Sim r0 z (8*k) s r):((takeB s r (vAt z k)).2.2=0/\Sim r0 z (8*(k+1)) (takeB s r (vAt z k)).1 (takeB s r (vAt z k)).2.1) \/
  ((takeB s r (vAt z k)).2.2≠0/\((s.part≠10/\∃b,8*k<b/\b<=8*k+8/\Mh r0 z (takeB s r (vAt z k)).2.2 b (takeB s r (vAt z k)).2.1)\/(s.part=10/\(takeB s r (vAt z k)).2.2=20))):=by
 unfold takeB;by_cases a:s.part=10
 .rw[I a]
  exact R ⟨(by show(20:Nat)≠0;decide),R ⟨a,rfl⟩⟩
 .rw[N a]
  rcases uS c d 8 0 {s with skip:=false} r rfl (L ⟨rfl,h.skip false,λ_=>a⟩) with h|⟨h1,h2⟩
  .exact L h
  .exact R ⟨h1,L ⟨a,h2⟩⟩
end Go.Proofs.YtgooinallljbpaaGreatDoor
namespace Px
def iD(z out:List One)(dn sm:Bool)(er at' en:Nat):Prop:=
 (∃t,Stop z 0 St.start out t/\dn=false/\sm=false/\en=0/\er=t.err/\at'=(if t.err=0 then 0 else aB z t.a)) \/
  (∃a s1,Run z 0 St.start a s1/\s1.ph=.sum/\s1.o=out/\Fails z a s1 19 (a+32)/\dn=true/\sm=false/\er=19/\at'=aB z (a+32)/\en=aB z (a+32)) \/
  (∃a s1,Run z 0 St.start a s1/\s1.ph=.fin/\s1.o=out/\a<=8*z.length/\dn=true/\sm=true/\en=aB z a/\er=(if a<8*z.length then 20 else 0)/\at'=(if a<8*z.length then pAt z (a/8) else 0))
theorem yz{z a l c c' n n'}(h:bH z a l c n)(k:bH z a l c' n'):c=c'/\n=n':=by
 obtain⟨b,p,i,d,q,e⟩:=h;obtain⟨j,r,m,f,s,g⟩:=k;have o:n=n':=by
  by_cases t:n<n'
  .exact absurd e ((m n b O).1 c d)
  .by_cases u:n'<n
   .exact absurd g ((i n' j O).1 c' f)
   .omega
 subst o;exact⟨DW d f b e g,rfl⟩
theorem yA{z a l c n n'}(h:bH z a l c n)(k:ld z a l n'):False:=by
 obtain⟨e,o,f,b,p,d⟩:=h;obtain⟨g,q,i,j,m⟩:=k;by_cases r:n<n'
 .exact(i n e O).1 c b d
 .by_cases s:n'<n
  .exact m (f n' g O).2
  .have:n=n':=O
   subst this;exact j c b d
theorem L4{z a l n n'}(h:ld z a l n)(k:ld z a l n'):n=n':=by
 obtain⟨b,i,c,j,d⟩:=h;obtain⟨e,m,f,o,g⟩:=k;by_cases p:n<n'
 .exact absurd (f n b O).2 d
 .by_cases q:n'<n
  .exact absurd (c n' e O).2 g
  .omega
theorem GT{z a s b c t u}(h:Step z a s b t)(k:Step z a s c u):b=c/\t=u:=by
 cases h using Px.Step.cs with
 | num f m g=>
  cases k using Px.Step.cs with
  | num d j e=>rw[f] at d;cases d;rw[g] at e;cases e;exact⟨rfl,rfl⟩
  | sym d i e=>rw[f] at d;cases d
 | sym f l g=>
  cases k using Px.Step.cs with
  | num d j e=>rw[f] at d;cases d
  | sym d i e=>
   rw[f] at d;cases d;obtain⟨rfl,rfl⟩:=yz l i;rw[g] at e;cases e;exact⟨rfl,rfl⟩
def rX(z:List One)(a:Nat)(s:St):Prop:=∀b t,¬Step z a s b t
theorem Fails.stuck{z a s e n}(h:Fails z a s e n):rX z a s:=λl m g=>by
 cases h using Px.Fails.cs with
 | num d o i=>
  cases g using Px.Step.cs with
  | num b k c=>rw[d] at b;cases b;rw[i] at c;cases c
  | sym b f c=>rw[d] at b;cases b
 | sym d j i=>
  cases g using Px.Step.cs with
  | num b k c=>rw[d] at b;cases b
  | sym b f c=>
   rw[d] at b;cases b;obtain⟨rfl,rfl⟩:=yz j f;rw[i] at c;cases c
 | bad d j=>
  cases g using Px.Step.cs with
  | num b k c=>rw[d] at b;cases b
  | sym b f c=>rw[d] at b;cases b;exact yA f j
theorem gn.stuck{z a s}(h:gn z a s):rX z a s:=λm n e=>by
 cases h using Px.gn.cs with
 | num c o=>
  cases e using Px.Step.cs with
  | num b g d=>rw[c] at b;cases b;omega
  | sym b f d=>rw[c] at b;cases b
 | sym c i=>
  cases e using Px.Step.cs with
  | num b g d=>rw[c] at b;cases b
  | sym b f d=>
   rw[c] at b;cases b;obtain⟨j,p,q,k,r,l⟩:=f;exact(i _ j O).1 _ k l
theorem Fin.stuck{z a s}(h:s.ph=.fin):rX z a s:=λe f c=>by
 cases c using Px.Step.cs with
 | num b g d=>rw[h] at b;cases b
 | sym b i d=>rw[h] at b;cases b
theorem Fm{z a s e e' n n'}(h:Fails z a s e n)(k:Fails z a s e' n'):e=e'/\n=n':=by
 cases h using Px.Fails.cs with
 | num c m i=>
  cases k using Px.Fails.cs with
  | num b l d=>rw[c] at b;cases b;rw[i] at d;cases d;exact⟨rfl,rfl⟩
  | sym b f d=>rw[c] at b;cases b
  | bad b f=>rw[c] at b;cases b
 | sym c g i=>
  cases k using Px.Fails.cs with
  | num b l d=>rw[c] at b;cases b
  | sym b f d=>
   rw[c] at b;cases b;obtain⟨rfl,rfl⟩:=yz g f;rw[i] at d;cases d;exact⟨rfl,rfl⟩
  | bad b f=>rw[c] at b;cases b;exact absurd f (λj=>yA g j)
 | bad c g=>
  cases k using Px.Fails.cs with
  | num b l d=>rw[c] at b;cases b
  | sym b f d=>rw[c] at b;cases b;exact absurd g (λj=>yA f j)
  | bad b f=>rw[c] at b;cases b;exact⟨rfl,by rw[L4 g f]⟩
theorem uK{z a s e n}(h:gn z a s)(k:Fails z a s e n):False:=by
 cases h using Px.gn.cs with
 | num c r=>
  cases k using Px.Fails.cs with
  | num b m f=>rw[c] at b;cases b;omega
  | sym b d f=>rw[c] at b;cases b
  | bad b d=>rw[c] at b;cases b
 | sym c i=>
  cases k using Px.Fails.cs with
  | num b m f=>rw[c] at b;cases b
  | sym b d f=>
   rw[c] at b;cases b;obtain⟨g,o,p,j,l,q⟩:=d;exact(i _ g O).1 _ j q
  | bad b d=>
   rw[c] at b;cases b;obtain⟨g,o,p,j,l⟩:=d;exact l (i _ g O).2
theorem Run.head{z a b s t}(h:Run z a s b t):(a=b/\s=t)\/∃c d,Step z a s c d/\Run z c d b t:=by
 induction h using Px.Run.cs with
 | refl=>exact L ⟨rfl,rfl⟩
 | tail h e f=>
  rcases f with⟨rfl,rfl⟩|⟨c,d,g,i⟩
  .exact R ⟨_,_,e,.refl _ _⟩
  .exact R ⟨c,d,g,.tail i e⟩
theorem zK{z a b c s t u}(h:Run z a s b t)(k:Run z a s c u)(e:rX z c u):Run z b t c u:=by
 induction h using Px.Run.cs with
 | refl=>exact k
 | tail h d f=>
  rcases f.head with⟨rfl,rfl⟩|⟨j,l,g,i⟩
  .exact absurd d (e _ _)
  .obtain⟨rfl,rfl⟩:=GT d g
   exact i
theorem run_end{z a b c s t u}(h:Run z a s b t)(k:Run z a s c u)(d:rX z b t)(e:rX z c u):b=c/\t=u:=by
 rcases(zK h k e).head with⟨rfl,rfl⟩|⟨g,i,f,j⟩
 .exact⟨rfl,rfl⟩
 .exact absurd f (d _ _)
theorem Ay p D:∀(n:Nat) (a:List One),∃b,aV p D n a=a++b
 | 0,a=>⟨[],by simp[aV]⟩
 | n+1,a=>by
  obtain⟨b,c⟩:=Ay p D n (a++[(vAt a (a.length-D),p)]);exact⟨(vAt a (a.length-D),p)::b,by rw[aV,c];simp⟩
theorem H8{t t' v p k}(h:br t v p=.ok t' k\/cQ t v p=.ok t' k):∃b,t'.o=t.o++b:=by
 have j:∀a:St,a.endBlock=.ok t' k->t'.o=a.o:=λa c=>gD c
 have l:∀(a:St) (o:Ph),a.to o=.ok t' k->t'.o=a.o:=λa o c=>de c
 have q:∀(a:St) (e f:Nat) (g i:List Nat),a.lens e f g i=.ok t' k->t'.o=a.o:=λa e f g i c=>pW c
 have r:∀(a:St) (e f:List Nat) (g i s:Nat),a.copy e f g i s=.ok t' k->∃b,t'.o=a.o++b:=λa e f g i s c=>by
  unfold St.copy at c
  split at c
  .cases c
  .cases c;exact Ay _ _ _ _
 have d:t'.o=t.o->∃b,t'.o=t.o++b:=λb=>⟨[],by rw[b];simp⟩
 have m:∀v p,t'.o=(t.give v p).o->∃b,t'.o=t.o++b:=λv p b=>⟨[(v,p)],b⟩
 rcases h with h|h
 .unfold br at h
  cases n:t.ph using Px.Ph.cs<;>(rw[n] at h;dsimp only at h)<;>(repeat' split at h)<;>(first|exact d (j _ h)|exact m _ _ (j _ h)|exact d (q _ _ _ _ _ h)|exact r _ _ _ _ _ _ h|exact d (l _ _ h)|exact m _ _ (l _ _ h)|(cases h;exact d rfl)|(cases h))
 .unfold cQ at h
  cases n:t.ph using Px.Ph.cs<;>(rw[n] at h;dsimp only at h)<;>(repeat' split at h)<;>(first|exact d (j _ h)|exact m _ _ (j _ h)|exact d (q _ _ _ _ _ h)|exact r _ _ _ _ _ _ h|exact d (l _ _ h)|exact m _ _ (l _ _ h)|(cases h;exact d rfl)|(cases h))
theorem GU{z a b s t}(k:Step z a s b t):∃d,t.o=s.o++d:=by
 cases k using Px.Step.cs with
 | num e f c=>exact H8 (L c)
 | sym e g c=>exact H8 (R c)
theorem Run.ext{z a b s t}(h:Run z a s b t):∃c,t.o=s.o++c:=by
 induction h using Px.Run.cs with
 | refl=>exact⟨[],Xi⟩
 | tail h d e=>
  obtain⟨c,f⟩:=e;obtain⟨g,i⟩:=GU d;exact⟨c++g,by rw[i,f,XY]⟩
theorem iD.end'{z out dn sm er at' en}(h:iD z out dn sm er at' en):∃a t,Run z 0 St.start a t/\rX z a t/\t.o=out /\
  ((gn z a t/\dn=false/\sm=false/\er=0)\/(∃f p,f≠0/\Fails z a t f p/\sm=false/\er=f/\at'=aB z p/\(dn=false\/t.ph=.sum)) \/
   (t.ph=.fin/\a<=8*z.length/\dn=true/\sm=true/\en=aB z a/\er=(if a<8*z.length then 20 else 0)/\at'=(if a<8*z.length then pAt z (a/8) else 0))):=by
 rcases h with⟨t,s,e,b,i,c,j⟩|⟨a,d,e,b,i,c,j,k,l,m,q⟩|⟨a,d,e,b,i,c,j,k,l,m,q⟩
 .cases s using Px.Stop.cs with
  | cut n d h g o=>exact⟨n,d,h,g.stuck,o,L ⟨g,e,b,c⟩⟩
  | err n d f a h g o r u=>
   refine⟨n,d,h,g.stuck,o,R (L ⟨f,a,r,g,b,c,?_,L e⟩)⟩;rw[j,N r]
 .exact⟨a,d,e,c.stuck,i,R (L ⟨19,_,Xh,c,k,l,m,R b⟩)⟩
 .exact⟨a,d,e,Fin.stuck b,i,R (R ⟨b,c,j,k,l,m,q⟩)⟩
end Px
namespace Go.Proofs.YtgooinallljbpaaGreatDoor
open Go.RowKit Px Tryz
def Vd(r0:Rw)(out:List One)(dn sm:Bool)(er at' en e p:Nat)(r:Rw):Prop:=
 cC r0 out p e r\/(bu r0 out=(r,0)/\((dn=true/\sm=true/\aW r=false/\e=18/\p=en)\/(¬(dn=true/\sm=true/\aW r=false)/\e=er/\p=at')))
theorem Vd.st{r0 r out dn sm er at' en e p}(h:Vd r0 out dn sm er at' en e p r):(bu r0 out).1=r:=by
 rcases h with h|h
 .rw[h.go]
 .rw[h.1]
theorem zk{r0 rr z out dn sm er at' en e a}(h:Mh r0 z e a rr)(k:iD z out dn sm er at' en):Vd r0 out dn sm er at' en e (aB z a) rr:=by
 obtain⟨w,x,i,j,l,n⟩:=k.end';obtain⟨y,⟨o,p,g,d,m⟩|⟨o,p,g,d⟩⟩:=h
 .obtain⟨rfl,rfl⟩:=run_end g i d.stuck j
  rw[l] at m
  right
  refine⟨m,R ?_⟩;rcases n with⟨c,_⟩|⟨A,B,_,c,q,r,s,C⟩|⟨c,_⟩
  .exact absurd d (λf=>uK c f)
  .obtain⟨rfl,rfl⟩:=Fm d c
   exact⟨(by rw[q];rintro⟨_,f,_⟩;cases f),r.symm,s.symm⟩
  .exfalso
   cases d using Px.Fails.cs with
   | num b D t=>rw[c] at b;cases b
   | sym b u t=>rw[c] at b;cases b
   | bad b u=>rw[c] at b;cases b
 .left
  obtain⟨f,v⟩:=(zK g i j).ext;rw[<-l,v];exact d.more f
structure SK (r0:Rw) (z:List One) (k:Nat) (s:St) (r:Rw):Prop where
 sim:Sim r0 z (8*k) s r
 whole:s.part=10->aW r=true
theorem Dq{r0 z i s r}(h:Sim r0 z i s r)(f:s.part=10):∃a,Run z 0 Px.St.start i a/\a.ph=.fin/\Cm r0 s r a:=by
 obtain⟨g,a,b⟩:=h;have c:=b.ph;have d:a.ph=.fin:=by
  cases e:a.ph using Px.Ph.cs with
  | fin=>rfl
  | _=>exfalso;rw[e] at c;have:=c.1;omega
 obtain⟨rfl,_⟩:=b.fin d;exact⟨a,b.run,d,b.cm⟩
def ni(s:St)(r:Rw)(x:Nat):Nat:=if(takeB s r x).2.2≠0 then(takeB s r x).2.2 else if decide ((takeB s r x).1.part=10) && !aW (takeB s r x).2.1 then 18 else 0
theorem zy{r0 z k s r}(Q:Cap r0)(S:k<z.length)(h:SK r0 z k s r):(ni s r (vAt z k)=0/\(takeB s r (vAt z k)).2.2=0/\SK r0 z (k+1) (takeB s r (vAt z k)).1 (takeB s r (vAt z k)).2.1) \/
  (ni s r (vAt z k)≠0/\∀i j l m n o,iD z i j l m n o->Vd r0 i j l m n o (ni s r (vAt z k)) (pAt z k) (takeB s r (vAt z k)).2.1):=by
 unfold ni;rcases JC Q S h.sim with⟨e,f⟩|⟨e,f⟩
 .rw[N (by rw[e];decide)]
  by_cases p:(takeB s r (vAt z k)).1.part=10
  .by_cases t:aW (takeB s r (vAt z k)).2.1=true
   .rw[N (by rw[t];simp)]
    exact L ⟨rfl,e,f,λ_=>t⟩
   .have D:aW (takeB s r (vAt z k)).2.1=false:=by simpa using t
    rw[I (by rw[D,K p];rfl)];refine R ⟨Xh,λi j l m n o d => ?_⟩;obtain⟨T,u,b,v⟩:=Dq f p;obtain⟨E,U,w,x,y,A⟩:=d.end';obtain⟨rfl,rfl⟩:=run_end u w (Fin.stuck b) x
    right
    refine⟨by rw[<-y];exact v.rows,L ?_⟩;rcases A with⟨c,_⟩|⟨V,W,_,c,_⟩|⟨c,_,F,G,H,_⟩
    .exfalso
     cases c using Px.gn.cs with
     | num a B=>rw[b] at a;cases a
     | sym a g=>rw[b] at a;cases a
    .exfalso
     cases c using Px.Fails.cs with
     | num a B C=>rw[b] at a;cases a
     | sym a g C=>rw[b] at a;cases a
     | bad a g=>rw[b] at a;cases a
    .refine⟨F,G,D,rfl,?_⟩
     rw[H];unfold aB;rw[show(8*(k+1)-1)/8=k from O]
  .rw[N (by rw[J p];simp)]
   exact L ⟨rfl,e,f,λd=>absurd d p⟩
 .rw[I e]
  refine R ⟨e,λi j l m n o d => ?_⟩;rcases f with⟨q,X,a1,E,Y⟩|⟨q,Z⟩
  .have:=zk Y d
   unfold aB at this;rw[show(X-1)/8=k from O] at this;exact this
  .rw[Z]
   obtain⟨T,u,b,v⟩:=Dq h.sim q;obtain⟨E,U,w,x,y,A⟩:=d.end';obtain⟨rfl,rfl⟩:=run_end u w (Fin.stuck b) x;have a0:(takeB s r (vAt z k)).2.1=r:=by unfold takeB;rw[I q]
   rw[a0]
   right
   refine⟨by rw[<-y];exact v.rows,R ?_⟩;rcases A with⟨c,_⟩|⟨V,W,_,c,_⟩|⟨c,_,F,G,H,M,P⟩
   .exfalso
    cases c using Px.gn.cs with
    | num a B=>rw[b] at a;cases a
    | sym a g=>rw[b] at a;cases a
   .exfalso
    cases c using Px.Fails.cs with
    | num a B C=>rw[b] at a;cases a
    | sym a g C=>rw[b] at a;cases a
    | bad a g=>rw[b] at a;cases a
   .rw[I] at M P
    refine⟨?_,M.symm,?_⟩
    .rw[h.whole q];rintro⟨_,_,d⟩;cases d
    .rw[P,show 8*k/8=k from O]
theorem eC{r0 z out s r dn sm er at' en}(h:SK r0 z z.length s r)(q:iD z out dn sm er at' en):bu r0 out=(r,0)/\er=0/\dn=decide (s.part=10)/\sm=dn/\¬(dn=true/\sm=true/\aW r=false):=by
 obtain⟨j,d,e⟩:=h.sim;obtain⟨E,F,x,y,A,o⟩:=q.end';have p:rX z j d/\((gn z j d/\s.part≠10)\/d.ph=.fin):=by
  have k:=e.und;cases f:item d.ph using Px.Item.cs with
  | num t=>
   rw[f] at k;obtain⟨_,G,_⟩:=k;have H:=e.le;have g:gn z j d := .num f O
   have:=(uk e.ph f).1
   exact⟨g.stuck,L ⟨g,O⟩⟩
  | code I=>
   rw[f] at k;have g:gn z j d := .sym f k.1
   have:=(xd e.ph f).1
   exact⟨g.stuck,L ⟨g,O⟩⟩
  | none=>
   have b:d.ph=.fin:=by
    cases B:d.ph using Px.Ph.cs with
    | fin=>rfl
    | _=>rw[B] at f;cases f
   exact⟨Fin.stuck b,R b⟩
 obtain⟨rfl,rfl⟩:=run_end e.run x p.1 y;rw[<-A];refine⟨e.cm.rows,?_⟩;rcases p.2 with⟨g,l⟩|b
 .rcases o with⟨_,i,m,u⟩|⟨C,t,_,c,_⟩|⟨c,_⟩
  .rw[J l]
   exact⟨u,i,by rw[i,m],by rw[i];rintro⟨q,_⟩;cases q⟩
  .exact absurd c (λq=>uK g q)
  .exfalso
   cases g using Px.gn.cs with
   | num a v=>rw[c] at a;cases a
   | sym a n=>rw[c] at a;cases a
 .have l:s.part=10:=by have:=e.ph;rw[b] at this;exact this
  obtain⟨M,_⟩:=e.fin b;rcases o with⟨c,_⟩|⟨C,t,_,c,_⟩|⟨c,_,i,m,u,w,P⟩
  .exfalso
   cases c using Px.gn.cs with
   | num a v=>rw[b] at a;cases a
   | sym a n=>rw[b] at a;cases a
  .exfalso
   cases c using Px.Fails.cs with
   | num a v D=>rw[b] at a;cases a
   | sym a n D=>rw[b] at a;cases a
   | bad a n=>rw[b] at a;cases a
  .rw[N] at w
   refine⟨w,by rw[i,K l],by rw[i,m],?_⟩;rw[h.whole l];rintro⟨_,_,q⟩;cases q
theorem lh r0 z:SK r0 z 0 St.start r0:=by
 refine⟨⟨0,Px.St.start,.refl _ _,E _,⟨rfl,rfl,rfl,λc b=>by simp[Px.St.start] at b,rfl,rfl⟩,⟨rfl,rfl⟩,⟨rfl,Xh,rfl⟩,(λa=>by cases a),(λa=>by cases a)⟩,λa=>by cases a⟩
structure RS (h:Hd) (C:Nat) (r:Rw) (p k m:Nat) (up:Nat->Nat):Prop where
 hd:r.hd=h
 colours:r.colours=C
 pass:r.pass=(p:Int)
 line:r.line=k
 columns:r.columns=bd h p
 lines:r.lines=dt h p
 size:r.size=aC h p
 taken:r.taken=m
 above:∀j,j<aC h p->r.above j=(if k=0 then λ_=>0 else up) j
theorem RS.nw{h C r p k m up}(s:RS h C r p k m up)(a:p<aq h.L):aW r=false:=by
 unfold aW;rw[s.hd,s.pass];exact J
structure RT (h:Hd) (C:Nat) (r:Rw) (p k m t:Nat) (up:Nat->Nat) (o:List One):Prop where
 rs:RS h C r p k (m+1) up
 filter:r.filter=t
 row:∀j,j<m->r.row j=eH (bZ h) t (if k=0 then λ_=>0 else up) (oAt o) m j
theorem zL{h C r p k up}(s:RS h C r p k 0 up)(a:p<aq h.L)t(c:t<=4)o:(r.take t).2=0/\RT h C (r.take t).1 p k 0 t up o:=by
 have b:r.take t=({r with taken:=1,filter:=t},0):=by
  unfold Rw.take;rw[s.nw a,N Xh,I s.taken];unfold Rw.takeF;rw[N]
 rw[b];exact⟨rfl,⟨s.hd,s.colours,s.pass,s.line,s.columns,s.lines,s.size,rfl,s.above⟩,rfl,λd e=>O⟩
theorem Ds{h C r p k m t up o}(s:RT h C r p k m t up o)(e:m<aC h p)(q:Rw)(f:q.hd=r.hd/\q.row=r.row/\q.above=r.above/\q.filter=r.filter):∀a,a<m+1->(q.lay m (oAt o m)).row a=eH (bZ h) t (if k=0 then λ_=>0 else up) (oAt o) (m+1) a:=by
 obtain⟨g,d,i,j⟩:=f;intro a l;show upd q.row m (zn q m (oAt o m)) a=_
 rw[eH];by_cases c:a=m
 .subst c
  rw[upd_same,upd_same];unfold zn lx lE;rw[g,d,i,j,s.filter,s.rs.hd,s.rs.above a e];by_cases b:bZ h<=a
  .have n:1<=bZ h:=by unfold bZ;omega
   rw[I b,I b,I b,I b,s.row (a-bZ h) O,s.rs.above (a-bZ h) O]
  .rw[N b,N b,N b,N b]
 .rw[upd_ne _ _ _ c,upd_ne _ _ _ c,d]
  exact s.row a O
theorem Hf{h C r p k m t up o}(s:RT h C r p k m t up o)(a:p<aq h.L)(c:m+1<aC h p):(r.take (oAt o m)).2=0/\RT h C (r.take (oAt o m)).1 p k (m+1) t up o:=by
 have b:r.take (oAt o m)=(({r with taken:=r.taken+1}:Rw).lay m (oAt o m),0):=by
  unfold Rw.take;rw[s.rs.nw a,N Xh,N (by rw[s.rs.taken];omega),I (by rw[s.rs.taken,s.rs.size];omega),s.rs.taken];rfl
 rw[b];refine⟨rfl,⟨s.rs.hd,s.rs.colours,s.rs.pass,s.rs.line,s.rs.columns,s.rs.lines,s.rs.size,by show r.taken+1=_;rw[s.rs.taken],s.rs.above⟩,s.filter,Ds s O _ ⟨rfl,rfl,rfl,rfl⟩⟩
theorem tW{h C r p k t up o}(s:RT h C r p k 0 t up o)(b:p<aq h.L):∀a,a<aC h p->a<=o.length->(bu r (o.take a)).2=0/\RT h C (bu r (o.take a)).1 p k a t up o
 | 0,_,_=>⟨rfl,s⟩
 | a+1,c,m=>by
  obtain⟨d,e⟩:=tW s b a O O;have f:o.take (a+1)=o.take a++[o[a]' O]:=by rw[XM]
  have g:(o[a]' O).1=oAt o a:=by unfold oAt;rw[G,Xt O];rfl
  obtain⟨i,j⟩:=Hf e b c;have l:bu r (o.take a)=((bu r (o.take a)).1,0):=Y7 rfl d;rw[f,dV l,g,I i];exact⟨rfl,j⟩
theorem GY{h p i x y}(c:okD h.D)(g:i<bd h p*chn h.K)(e:∀b,b<aC h p->x b=y b):cU h.D x i=cU h.D y i:=by
 have d:(i+1)*h.D<=bd h p*chn h.K*h.D:=XS _ g;have f:aC h p=(bd h p*chn h.K*h.D+7)/8:=by unfold aC bo;rw[Y3]
 rw[YO,Zi] at d;unfold cU;have j:1<=h.D:=by unfold okD at c;omega
 rw[e (i*h.D/8) (by rw[f];omega)];by_cases a:h.D<16
 .rw[I a,I a]
 .rw[N a,N a]
  have:h.D=16:=by unfold okD at c;omega
  rw[e (i*h.D/8+1) (by rw[f];rw[this] at d ⊢;omega)]
def tr(r:Rw):Rw:=if r.lines<=r.line+1 then r.laid.next else r.laid
theorem Hg{h C r p k m t up o}(s:RT h C r p k m t up o)(i:p<aq h.L)(j:m+1=aC h p)(l:okD h.D):∃a,RT h C a p k (m+1) t up o/\a=({r with taken:=r.taken+1}:Rw).lay m (oAt o m)/\r.take (oAt o m)=if eh h C p (bw h p k t up o) then(a,16) else(tr a,0):=by
 have n:r.take (oAt o m)=(({r with taken:=r.taken+1}:Rw).lay m (oAt o m)).endRow:=by
  unfold Rw.take;rw[s.rs.nw i,N Xh,N (by rw[s.rs.taken];omega),N (by rw[s.rs.taken,s.rs.size];omega),s.rs.taken];rfl
 obtain⟨a,e⟩:∃a,a=({r with taken:=r.taken+1}:Rw).lay m (oAt o m):=⟨_,rfl⟩;have c:RT h C a p k (m+1) t up o:=by
  rw[e];exact⟨⟨s.rs.hd,s.rs.colours,s.rs.pass,s.rs.line,s.rs.columns,s.rs.lines,s.rs.size,by show r.taken+1=_;rw[s.rs.taken],s.rs.above⟩,s.filter,(Ds s O ({r with taken:=r.taken+1}:Rw) ⟨rfl,rfl,rfl,rfl⟩)⟩
 refine⟨a,c,e,?_⟩;rw[n,<-e];have q:a.bad=eh h C p (bw h p k t up o):=by
  unfold Rw.bad eh;rw[c.rs.hd];by_cases f:h.K=3
  .rw[K f,YH,YH]
   have u:chn h.K=1:=by rw[f];rfl
   unfold wm;rw[c.rs.columns,X4];simp only[Zl,List.any_eq_true,List.all_eq_false,Yi,XL,Yh];have g:∀b,b<bd h p->cG a b=cU h.D (bw h p k t up o) b:=λb d=>by
    have v:cG a b=cU h.D a.row b:=by unfold cG cU;rw[c.rs.hd]
    rw[v];refine GY (p:=p) l (by rw[u];omega) (λw y => ?_);rw[c.row w O];unfold bw;rw[j]
   constructor
   .rintro⟨b,d,x⟩
    exact⟨b,d,by rw[<-g b d,<-c.rs.colours];omega⟩
   .rintro⟨b,d,x⟩
    exact⟨b,d,by rw[g b d,c.rs.colours];omega⟩
  .rw[J f,YM,YM]
 unfold Rw.endRow tr;rw[q]
def AtR(h:Hd)(C:Nat)(rs:List (Nat×Nat))(r:Rw)(up:Nat->Nat):Prop:=
 (rs=[]/\aW r=true)\/∃p k n,p+n+1=aq h.L/\k<dt h p/\0<bd h p/\rs=dg h p k++au h n (p+1)/\RS h C r p k 0 up
theorem wH h p k(a:k<dt h p):dg h p k=(p,k)::dg h p (k+1):=by
 unfold dg;rw[show dt h p-k=dt h p-(k+1)+1 from O,List.range'_succ];rfl
theorem zV h p k(a:dt h p<=k):dg h p k=[]:=by
 unfold dg;rw[show dt h p-k=0 from O];rfl
theorem Ih{h C}up:∀(f n:Nat) (r:Rw) (p:Nat),r.hd=h->r.colours=C->r.taken=0->r.pass=(p:Int)->p+n=aq h.L->n<f->AtR h C (au h n p) (DF (dO f r)) up
 | 0,n,r,p,_,_,_,_,_,l=>O
 | f+1,n,r,p,a,e,g,b,o,l=>by
  have i:r.ps=ah h.L p:=by unfold Rw.ps;rw[a,b];rfl
  have d:(bQ r).columns=bd h p:=by show bq r.ps.cf r.ps.cs r.hd.W=_;rw[i,a];rfl
  have j:(bQ r).lines=dt h p:=by show bq r.ps.rf r.ps.rs r.hd.H=_;rw[i,a];rfl
  rw[dO];cases n with
  | zero=>
   rw[N (by rw[a,b];omega)]
   left
   refine⟨rfl,?_⟩;unfold aW;exact K (by show(aq r.hd.L:Int)<=r.pass;rw[a,b];omega)
  | succ n=>
   rw[I (by rw[a,b];omega),d,j,au];by_cases c:0<bd h p/\0<dt h p
   .rw[I c,I c.1]
    right
    refine⟨p,0,n,O,c.2,c.1,rfl,a,e,b,rfl,d,j,?_,g,λq s => ?_⟩
    .show((bQ r).columns*bo (bQ r).hd+7)/8=_
     rw[d];show(bd h p*bo r.hd+7)/8=_
     rw[a];rfl
    .rfl
   .rw[N c]
    have m:(if 0<bd h p then dg h p 0 else[])=[]:=by
     by_cases k:0<bd h p
     .rw[I k];exact zV h p 0 O
     .rw[N k]
    rw[m];exact(Ih (h:=h) (C:=C) up f n {bQ r with pass:=r.pass+1} (p+1) a e g (by show r.pass+1=_;rw[b];rfl) O O)
theorem Jz L:1<=aq L/\aq L<=7:=by unfold aq;split<;>omega
theorem pJ h C up:AtR h C (au h (aq h.L) 0) (Rw.start h C) up:=by
 have:=Jz h.L
 exact Ih up 8 (aq h.L) _ 0 rfl rfl rfl rfl O O
theorem I9{h C r1 p k t n up o}(s:RT h C r1 p k (aC h p) t up o)(f:p+n+1=aq h.L)(r:k<dt h p)(g:0<bd h p):AtR h C (dg h p (k+1)++au h n (p+1)) (tr r1) (bw h p k t up o):=by
 obtain⟨b,c,d,u,i,j,l,v,w,m,x⟩:=(eI r1 r1.columns);have y:=Jz h.L;unfold tr;rw[s.rs.lines,s.rs.line];by_cases a:dt h p<=k+1
 .rw[I a,zV h p (k+1) a,Ze]
  refine Ih _ 8 n _ (p+1) ?_ ?_ rfl ?_ O O
  .show(bj r1 r1.columns).hd=h
   rw[b];exact s.rs.hd
  .show(bj r1 r1.columns).colours=C
   rw[c];exact s.rs.colours
  .show(bj r1 r1.columns).pass+1=_
   rw[d,s.rs.pass];rfl
 .rw[N a]
  right
  refine⟨p,k+1,n,f,O,g,rfl,?_,?_,?_,?_,?_,?_,?_,rfl,λe q => ?_⟩
  .show(bj r1 r1.columns).hd=h
   rw[b];exact s.rs.hd
  .show(bj r1 r1.columns).colours=C
   rw[c];exact s.rs.colours
  .show(bj r1 r1.columns).pass=_
   rw[d,s.rs.pass]
  .show r1.line+1=_
   rw[s.rs.line]
  .show(bj r1 r1.columns).columns=_
   rw[i,s.rs.columns]
  .show(bj r1 r1.columns).lines=_
   rw[j,s.rs.lines]
  .show(bj r1 r1.columns).size=_
   rw[l,s.rs.size]
  .show(bj r1 r1.columns).row e=_
   rw[m,N,s.row e q];rfl
def Gu(r:Rw)(out:List One):ImR->Prop
 | .inl (_,e,p)=>∃rr,cC r out p e rr
 | .inr (.inl _)=>∃r',bu r out=(r',0)/\aW r'=false
 | .inr (.inr _)=>∃r',bu r out=(r',0)/\aW r'=true
theorem cC.pre{r r' rr l out p e}(h:bu r l=(r',0))(k:cC r' out p e rr):cC r (l++out) p e rr:=by
 obtain⟨a,b,c,d,f,rfl,g,i⟩:=k;refine⟨a,l++b,c,d,f,Xi,?_,i⟩;rw[fW,h];exact g
theorem Gu.pre{r r' l out q x}(h:bu r l=(r',0))(k:Gu r' out q):Gu r (l++out) (q.cons x):=by
 cases q using ImR.cs with
 | bad d f g=>obtain⟨e,k⟩:=k;exact⟨e,cC.pre h k⟩
 | part d=>obtain⟨a,b,c⟩:=k;exact⟨a,by rw[fW,h];exact b,c⟩
 | full d=>obtain⟨a,b,c⟩:=k;exact⟨a,by rw[fW,h];exact b,c⟩
theorem zD{h p}(a:1<=bo h)(b:0<bd h p):0<aC h p:=by
 unfold aC
 have:1*1<=bd h p*bo h:=XF b a
 omega
theorem DR{h C}(t:okD h.D)(u:1<=bo h):∀(n:Nat) (rs:List (Nat×Nat)) (r:Rw) (e:Nat->Nat) (out:List One),rs.length<n->AtR h C rs r e->Gu r out (aH h C rs e out)
 | 0,rs,r,e,out,hN,v=>absurd hN O
 | n+1,rs,r,e,out,hN,v=>by
  rcases v with⟨rfl,w⟩|⟨a,g,J,K,y,z,rfl,i⟩
  .cases out with
   | nil=>rw[aH];exact⟨r,rfl,w⟩
   | cons c b=>
    rw[aH];refine rq ⟨Xh,[],c.1,b,r,rfl,rfl,?_⟩;unfold Rw.take;rw[w];rfl
  .have f:a<aq h.L:=O
   have T:=zD u z;rw[wH h a g y] at hN ⊢;rw[Ye] at hN ⊢;cases out with
   | nil=>rw[aH];exact⟨r,rfl,i.nw f⟩
   | cons c b=>
    rw[aH];by_cases o:4<c.1
    .rw[I o]
     refine rq ⟨Xh,[],c.1,b,r,rfl,rfl,?_⟩;unfold Rw.take;rw[i.nw f,N Xh,I i.taken];unfold Rw.takeF;rw[I o]
    rw[N o];obtain⟨L,A⟩:=zL i f c.1 O b;have p:∀q,bu r (c::q)=bu (r.take c.1).1 q:=λq=>by rw[bu,I L]
    by_cases s:b.length<aC h a
    .rw[I s]
     obtain⟨j,k⟩:=tW A f b.length s (E _);rw[List.take_length] at j k;exact⟨_,by rw[p];exact Y7 rfl j,k.rs.nw f⟩
    rw[N s];obtain⟨j,k⟩:=tW A f (aC h a-1) O O;have B:bu (r.take c.1).1 (b.take (aC h a-1))=((bu (r.take c.1).1 (b.take (aC h a-1))).1,0):=Y7 rfl j;obtain⟨D,F,-,l⟩:=Hg k f O t;rw[show aC h a-1+1=aC h a from O] at F;have d:aC h a-1<b.length:=O;have H:(b[aC h a-1]'d).1=oAt b (aC h a-1):=by unfold oAt;rw[G,Xt d];rfl
    have M:(b.getD (aC h a-1) (0,0))=b[aC h a-1]'d:=by rw[G,Xt d];rfl
    have P:b=b.take (aC h a-1)++(b[aC h a-1]'d)::b.drop (aC h a):=by
     have:=X7 (aC h a-1) b
     rw[Yy d,show aC h a-1+1=aC h a from O] at this;exact this.symm
    by_cases m:eh h C a (bw h a g c.1 e b)=true
    .rw[I m]
     rw[I m] at l;refine rq ⟨Xh,c::b.take (aC h a-1),oAt b (aC h a-1),b.drop (aC h a),(bu (r.take c.1).1 (b.take (aC h a-1))).1,?_,?_,?_⟩
     .rw[M,Ye]
      conv=>lhs;rw[P]
      rw[<-H]
     .rw[p];exact B
     .rw[l]
    .rw[N m]
     rw[N m] at l;have Q:b.take (aC h a)=b.take (aC h a-1)++[b[aC h a-1]'d]:=by
      have:=XM d
      rw[show aC h a-1+1=aC h a from O] at this;exact this
     have R:bu r (c::b.take (aC h a))=(tr D,0):=by
      rw[p,Q,dV B,H,l];rfl
     have S:=I9 F K y z
     have:=Gu.pre (x:=bw h a g c.1 e b) R (DR t u (rs:=dg h a (g+1)++au h J (a+1)) n (tr D) (bw h a g c.1 e b) (b.drop (aC h a)) (by simp at hN ⊢;omega) S)
     rw[Ye,X7] at this;exact this
theorem Ci{h C}(a:okD h.D)(b:1<=bo h)N rs r up out(d:rs.length<=N)(c:AtR h C rs r up):Gu r out (aH h C rs up out) :=
 DR a b (N+1) rs r up out O c
theorem DS h C:∀(rs:List (Nat×Nat)) (a:Nat->Nat) (out:List One),(∃b,aH h C rs a out=.part b/\out.length<aN h rs)\/(∃b,aH h C rs a out=.full b/\out.length=aN h rs)\/(∃b f p,aH h C rs a out=.bad b f p)
 | [],a,[]=>R (L ⟨[],by rw[aH],rfl⟩)
 | [],a,x::c=>R (R ⟨[],17,x.2,by rw[aH]⟩)
 | (p,k)::rs,a,[]=>L ⟨[],by rw[aH],by rw[aN];simp;omega⟩
 | (p,k)::rs,a,x::c=>by
  rw[aH];by_cases g:4<x.1
  .rw[I g];exact R (R ⟨_,_,_,rfl⟩)
  rw[N g];by_cases i:c.length<aC h p
  .rw[I i];exact L ⟨_,rfl,by rw[aN];simp;omega⟩
  rw[N i];by_cases j:eh h C p (bw h p k x.1 a c)=true
  .rw[I j];exact R (R ⟨_,_,_,rfl⟩)
  rw[N j];rcases DS h C rs (bw h p k x.1 a c) (c.drop (aC h p)) with⟨b,d,e⟩|⟨b,d,e⟩|⟨b,f,l,d⟩
  .rw[d];exact L ⟨_,rfl,by rw[aN];simp at e ⊢;omega⟩
  .rw[d];exact R (L ⟨_,rfl,by rw[aN];simp at e ⊢;omega⟩)
  .rw[d];exact R (R ⟨_,_,_,rfl⟩)
theorem cC.err{r rr out p e}(h:cC r out p e rr):(bu r out).2=e/\e≠0:=⟨by rw[h.go],h.1⟩
theorem BS{r rr rr' out p e p' e'}(h:cC r out p e rr)(k:cC r out p' e' rr'):e=e'/\p=p':=by
 refine⟨by rw[<-h.err.1,<-k.err.1],?_⟩;obtain⟨B,m,n,o,q,rfl,s,C⟩:=h;obtain⟨D,t,u,v,w,f,x,E⟩:=k;have y:∀(a b:List One) (c g:One) (z i:List One) (j A:Rw),a++c::z=b++g::i->bu r a=(j,0)->(j.take c.1).2≠0->bu r b=(A,0)->¬a.length<b.length:=by
  intro a b c g z i j A F G d l J;have H:b.take (a.length+1)=a++[c]:=by
   have:(b++g::i).take (a.length+1)=b.take (a.length+1):=by rw[List.take_append_of_le_length O]
   rw[<-this,<-F,List.take_append];simp;exact X6 O
  have I:b=(a++[c])++b.drop (a.length+1):=by rw[<-H,X7]
  rw[I,fW,dV G,N d] at l;rw[N d] at l;rw[l] at d;exact d rfl
 have K:=y m t (n,p) (u,p') o v q w f s (by rw[C];exact B) x;have L:=y t m (u,p') (n,p) v o w q f.symm x (by rw[E];exact D) s
 have:=List.append_inj f O
 have e:=this.2;simp at e;exact e.1.2
theorem Bi{r0 r r' out dn sm er at' en e p e' p'}(h:Vd r0 out dn sm er at' en e p r)(k:Vd r0 out dn sm er at' en e' p' r'):e=e'/\p=p':=by
 rcases h with h|⟨l,o⟩
 .rcases k with k|⟨d,f⟩
  .exact BS h k
  .have:=h.err;rw[d] at this;exact absurd this.1.symm this.2
 .rcases k with k|⟨d,f⟩
  .have:=k.err;rw[l] at this;exact absurd this.1.symm this.2
  .rw[l] at d
   obtain rfl:r=r':=by injection d
   rcases o with⟨g,i,j,q,s⟩|⟨g,i,j⟩
   .rcases f with⟨a,b,c,m,n⟩|⟨a,b,c⟩
    .exact⟨by rw[q,m],by rw[s,n]⟩
    .exact absurd ⟨g,i,j⟩ a
   .rcases f with⟨a,b,c,m,n⟩|⟨a,b,c⟩
    .exact absurd ⟨a,b,c⟩ g
    .exact⟨by rw[i,b],by rw[j,c]⟩
def ofV(im:ImR)(dn sm:Bool)(er at' en:Nat):Nat×Nat:=
 match im with
 | .inl (_,e,p)=>(e,p)
 | .inr (.inl _)=>if(dn&&sm)=true then(18,en) else(er,at')
 | .inr (.inr _)=>(er,at')
theorem MU{h C}(g:okD h.D)(i:1<=bo h)up out dn sm er at' en:∃j,Vd (Rw.start h C) out dn sm er at' en (ofV (aH h C (au h (aq h.L) 0) up out) dn sm er at' en).1 (ofV (aH h C (au h (aq h.L) 0) up out) dn sm er at' en).2 j:=by
 have a:=Ci g i _ _ _ up out (E _) (pJ h C up);generalize aH h C (au h (aq h.L) 0) up out=k at a;cases k using ImR.cs with
 | bad f p q=>obtain⟨l,a⟩:=a;exact⟨l,L a⟩
 | part f=>
  obtain⟨c,d,e⟩:=a;refine⟨c,R ⟨d,?_⟩⟩;unfold ofV;by_cases b:(dn&&sm)=true
  .rw[I b]
   simp at b;exact L ⟨b.1,b.2,e,rfl,rfl⟩
  .rw[N b]
   refine R ⟨?_,rfl,rfl⟩;rintro⟨m,n,_⟩;exact b (by rw[m,n];rfl)
 | full f=>
  obtain⟨c,d,e⟩:=a;refine⟨c,R ⟨d,R ⟨?_,rfl,rfl⟩⟩⟩;rw[e];rintro⟨_,_,o⟩;cases o
theorem GJ h p k:aN h (dg h p k)=(dt h p-k)*(1+aC h p):=by
 have:∀a k,aN h ((List.range' k a).map λb=>(p,b))=a*(1+aC h p):=by
  intro a
  induction a with
  | zero=>intro k;simp[aN]
  | succ a c=>intro k;rw[List.range'_succ,List.map_cons,aN,c,Nat.succ_mul];show 1+aC h p+_=_;omega
 exact this _ _
theorem wx{f s m n}(h:m<=n):bq f s m<=bq f s n:=by
 unfold bq;by_cases a:m<=f
 .rw[I a];exact X3 _
 .rw[N a,N]
  have:(m-f-1)/s<=(n-f-1)/s:=Nat.div_le_div_right O
  omega
theorem JG{h}(a:h.D<=16):bo h<=64:=XF (ev _) a
theorem MS{h}(a:h.W<=16)(b:h.H<=16)(d:h.D<=16)p:aN h (if 0<bd h p then dg h p 0 else[])<=bq (ah h.L p).rf (ah h.L p).rs 16*(1+(bq (ah h.L p).cf (ah h.L p).cs 16*64+7)/8):=by
 split
 .rw[GJ]
  refine XF ?_ ?_
  .show dt h p-0<=_
   exact wx b
  .have e:bd h p*bo h<=bq (ah h.L p).cf (ah h.L p).cs 16*64:=XF (wx a) (JG d)
   unfold aC
   have:=Nat.div_le_div_right (c:=8) (show bd h p*bo h+7<=bq (ah h.L p).cf (ah h.L p).cs 16*64+7 from O)
   omega
 .exact X3 _
theorem MB{h}(f:h.W<=16)(g:h.H<=16)(i:h.D<=16):aN h (au h (aq h.L) 0)<=2078:=by
 have a:=MS f g i;by_cases b:h.L=1
 .rw[b] at a
  have d:aq h.L=7:=by rw[b];rfl
  rw[d];simp only[au,kA,XN];have c:=a 0;have j:aN h (if 0<bd h (0+1) then dg h (0+1) 0 else[])<=_:=a 1;have k:aN h (if 0<bd h (0+1+1) then dg h (0+1+1) 0 else[])<=_:=a 2;have l:aN h (if 0<bd h (0+1+1+1) then dg h (0+1+1+1) 0 else[])<=_:=a 3;have m:aN h (if 0<bd h (0+1+1+1+1) then dg h (0+1+1+1+1) 0 else[])<=_:=a 4;have n:aN h (if 0<bd h (0+1+1+1+1+1) then dg h (0+1+1+1+1+1) 0 else[])<=_:=a 5;have o:aN h (if 0<bd h (0+1+1+1+1+1+1) then dg h (0+1+1+1+1+1+1) 0 else[])<=_:=a 6;have e:bq (ah 1 0).rf (ah 1 0).rs 16*(1+(bq (ah 1 0).cf (ah 1 0).cs 16*64+7)/8)=34:=Xh;have p:bq (ah 1 1).rf (ah 1 1).rs 16*(1+(bq (ah 1 1).cf (ah 1 1).cs 16*64+7)/8)=34:=Xh;have q:bq (ah 1 2).rf (ah 1 2).rs 16*(1+(bq (ah 1 2).cf (ah 1 2).cs 16*64+7)/8)=66:=Xh;have r:bq (ah 1 3).rf (ah 1 3).rs 16*(1+(bq (ah 1 3).cf (ah 1 3).cs 16*64+7)/8)=132:=Xh;have s:bq (ah 1 4).rf (ah 1 4).rs 16*(1+(bq (ah 1 4).cf (ah 1 4).cs 16*64+7)/8)=260:=Xh;have t:bq (ah 1 5).rf (ah 1 5).rs 16*(1+(bq (ah 1 5).cf (ah 1 5).cs 16*64+7)/8)=520:=Xh;have u:bq (ah 1 6).rf (ah 1 6).rs 16*(1+(bq (ah 1 6).cf (ah 1 6).cs 16*64+7)/8)=1032:=Xh;rw[e] at c;rw[p] at j;rw[q] at k;rw[r] at l;rw[s] at m;rw[t] at n;rw[u] at o;omega
 .have d:aq h.L=1:=by unfold aq;rw[N b]
  have v:ah h.L 0=⟨0,1,1,0,1,1⟩:=by unfold ah;rw[N (λw=>b w.1)]
  rw[d];simp only[au,kA,XN];have c:=a 0;rw[v] at c;have e:bq 0 1 16*(1+(bq 0 1 16*64+7)/8)=2064:=Xh;have x:aN h (if 0<bd h 0 then dg h 0 0 else[])<=bq 0 1 16*(1+(bq 0 1 16*64+7)/8):=c;rw[e] at x;omega
theorem Gh{h C}(i:h.W<=16)(j:h.H<=16)(f:okD h.D)(k:1<=bo h):Cap (Rw.start h C):=by
 intro c l a m n;have o:h.D<=16:=by unfold okD at f;omega
 have p:bu (Rw.start h C) (c++[(a,0)])=((l.take a).1,0):=by rw[dV m,I n]
 have b:=Ci f k _ _ _ (λ_=>0) (c++[(a,0)]) (E _) (pJ h C (λ_=>0));have q:=MB i j o;rcases DS h C (au h (aq h.L) 0) (λ_=>0) (c++[(a,0)]) with⟨g,d,e⟩|⟨g,d,e⟩|⟨g,r,s,d⟩
 .simp at e;omega
 .simp at e;omega
 .rw[d] at b
  obtain⟨t,b⟩:=b
  have:=b.err
  rw[p] at this;exact absurd this.1.symm this.2
end Go.Proofs.YtgooinallljbpaaGreatDoor
namespace Px
theorem J5 z d i(h:i<z.length):vAt (z++d) i=vAt z i:=by
 unfold vAt;rw[G,G,XV h]
theorem KM z d i(h:i<z.length):pAt (z++d) i=pAt z i:=by
 unfold pAt;rw[G,G,XV h]
theorem xi z d i(h:i<8*z.length):bs (z++d) i=bs z i:=by
 unfold bs;rw[J5 z d _ O]
theorem wJ z d a b(h:a+b<=8*z.length):ab (z++d) a b=ab z a b:=by
 induction b with
 | zero=>rfl
 | succ b c=>rw[ab,ab,c O,xi z d _ O]
theorem tD z d a b(h:a+b<=8*z.length):msb (z++d) a b=msb z a b:=by
 induction b with
 | zero=>rfl
 | succ b c=>rw[msb,msb,c O,xi z d _ O]
theorem zT z d a(b:0<z.length)(h:a<=8*z.length):aB (z++d) a=aB z a:=by
 unfold aB;rw[KM z d _ O]
theorem wA{z d a l n}(h:a+n<=8*z.length)(k:cP z a l n):cP (z++d) a l n:=λb c e=>by
 rw[tD z d a b O];exact k b c e
theorem BJ{z d a l c n}(k:bH z a l c n):bH (z++d) a l c n:=by
 obtain⟨e,b,f,g,h,i⟩:=k;refine⟨e,Xf,wA O f,g,?_,?_⟩
 .rw[tD z d a n b];exact h
 .rw[tD z d a n b];exact i
theorem Step.pre{z d a b s t}(f:0<z.length)(k:Step z a s b t):Step (z++d) a s b t:=by
 cases k using Px.Step.cs with
 | num c g e=>
  refine Step.num c Xf ?_;rw[wJ z d a _ g,zT z d _ f g];exact e
 | sym c h e=>
  refine Step.sym c (BJ h) ?_;rw[zT z d _ f h.2.1];exact e
theorem Run.pre{z d a b s t}(c:0<z.length)(k:Run z a s b t):Run (z++d) a s b t:=by
 induction k using Px.Run.cs with
 | refl=>exact .refl _ _
 | tail _ e f=>exact .tail f (e.pre c)
end Px
namespace Go.Proofs.YtgooinallljbpaaGreatDoor
open Go.RowKit Px Tryz
theorem Under.pre{z d a i s it}(f:i<=8*z.length)(g:a<=i)(h:Under z a i s it):Under (z++d) a i s it:=by
 cases it using Px.Item.cs with
 | num j=>obtain⟨b,c,e⟩:=h;exact⟨b,c,by rw[wJ z d a _ O];exact e⟩
 | code k=>obtain⟨b,c,e⟩:=h;exact⟨wA O b,by rw[tD z d a _ O];exact c,e⟩
 | none=>trivial
theorem SK.pre{r0 z d k s r}(b:0<z.length)(g:k<=z.length)(h:SK r0 z k s r):SK r0 (z++d) k s r:=by
 obtain⟨⟨c,e,a⟩,f⟩:=h;exact⟨⟨c,e,a.run.pre b,a.le,a.cm,a.ph,a.und.pre O a.le,a.sum,a.fin⟩,f⟩
def cD(s:St)(r:Rw):List Nat->(St×Rw×Nat)
 | []=>(s,r,0)
 | x::l=>if ni s r x=0 then cD (takeB s r x).1 (takeB s r x).2.1 l else((takeB s r x).1,(takeB s r x).2.1,ni s r x)
def stN(s:St)(r:Rw):List Nat->Nat
 | []=>0
 | x::l=>if ni s r x=0 then stN (takeB s r x).1 (takeB s r x).2.1 l+1 else 0
theorem Ct{z k}(a:k<z.length):(z.drop k).map Prod.fst=vAt z k::(z.drop (k+1)).map Prod.fst:=by
 rw[Yy a,List.map_cons]
 congr 1
 unfold vAt;rw[G,Xt a];rfl
theorem nD{r0}(i:Cap r0)z:∀(m k:Nat) (s:St) (r:Rw),k+m=z.length->SK r0 z k s r ->
  ((cD s r ((z.drop k).map Prod.fst)).2.2=0/\SK r0 z z.length (cD s r ((z.drop k).map Prod.fst)).1 (cD s r ((z.drop k).map Prod.fst)).2.1) \/
  ((cD s r ((z.drop k).map Prod.fst)).2.2≠0/\stN s r ((z.drop k).map Prod.fst)<m/\∀b c d e f g,iD z b c d e f g->Vd r0 b c d e f g (cD s r ((z.drop k).map Prod.fst)).2.2 (pAt z (k+stN s r ((z.drop k).map Prod.fst))) (cD s r ((z.drop k).map Prod.fst)).2.1)
 | 0,k,s,r,n,h=>by
  have:z.drop k=[]:=Y8.2 O
  rw[this];have o:k=z.length:=O;subst o;exact L ⟨rfl,h⟩
 | m+1,k,s,r,n,h=>by
  have j:k<z.length:=O;rw[Ct j,cD,stN];rcases zy i j h with⟨a,l,p⟩|⟨a,l⟩
  .rw[I a,I a]
   rcases nD i z m (k+1) _ _ O p with q|⟨t,w,u⟩
   .exact L q
   .refine R ⟨t,O,λb c d e f g v => ?_⟩
    have:=u b c d e f g v
    rw[show k+1+stN (takeB s r (vAt z k)).1 (takeB s r (vAt z k)).2.1 ((z.drop (k+1)).map Prod.fst)=k+(stN (takeB s r (vAt z k)).1 (takeB s r (vAt z k)).2.1 ((z.drop (k+1)).map Prod.fst)+1) from O] at this;exact this
  .rw[N a,N a]
   exact R ⟨a,O,l⟩
