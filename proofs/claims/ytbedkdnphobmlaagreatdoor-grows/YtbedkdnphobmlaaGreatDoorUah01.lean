import Derived.Test.YtbedkdnphobmlaaGreatDoorProg
import Derived.Test.YtbedkdnphobmlaaGreatDoorUaa00
import Derived.Test.YtbedkdnphobmlaaGreatDoorUaa01
import Derived.Test.YtbedkdnphobmlaaGreatDoorUaa02
import Derived.Test.YtbedkdnphobmlaaGreatDoorUaa04
import Derived.Test.YtbedkdnphobmlaaGreatDoorUaa05
import Derived.Test.YtbedkdnphobmlaaGreatDoorUaa06
import Derived.Test.YtbedkdnphobmlaaGreatDoorUaa07
import Derived.Test.YtbedkdnphobmlaaGreatDoorUaa08
import Derived.Test.YtbedkdnphobmlaaGreatDoorUaa09
import Derived.Test.YtbedkdnphobmlaaGreatDoorUaa10
import Derived.Test.YtbedkdnphobmlaaGreatDoorUaa11
import Derived.Test.YtbedkdnphobmlaaGreatDoorUaa12
import Derived.Test.YtbedkdnphobmlaaGreatDoorUaa13
import Derived.Test.YtbedkdnphobmlaaGreatDoorUaa15
import Derived.Test.YtbedkdnphobmlaaGreatDoorUaa16
import Derived.Test.YtbedkdnphobmlaaGreatDoorUaa17
import Derived.Test.YtbedkdnphobmlaaGreatDoorUaa18
import Derived.Test.YtbedkdnphobmlaaGreatDoorUaa19
import Derived.Test.YtbedkdnphobmlaaGreatDoorUaa23
import Derived.Test.YtbedkdnphobmlaaGreatDoorUaa27
import Derived.Test.YtbedkdnphobmlaaGreatDoorUaa33
import Derived.Test.YtbedkdnphobmlaaGreatDoorUaa34
import Derived.Test.YtbedkdnphobmlaaGreatDoorUab00
import Derived.Test.YtbedkdnphobmlaaGreatDoorUac00
import Derived.Test.YtbedkdnphobmlaaGreatDoorUac01
import Derived.Test.YtbedkdnphobmlaaGreatDoorUac02
import Derived.Test.YtbedkdnphobmlaaGreatDoorUad00
import Derived.Test.YtbedkdnphobmlaaGreatDoorUaf00
import Derived.Test.YtbedkdnphobmlaaGreatDoorUah00
set_option linter.all false
set_option maxRecDepth 100000
set_option maxHeartbeats 0
namespace Go.Proofs.YtbedkdnphobmlaaGreatDoor
open Go.RowKit Px Tryz
def inG(L q X Y:Nat):Bool:=decide ((ae L q).cf<=X)&&decide ((X-(ae L q).cf)%(ae L q).cs=0)&&decide ((ae L q).rf<=Y)&&decide ((Y-(ae L q).rf)%(ae L q).rs=0)
theorem yB:∀a,a<16->∀b,b<16->∀c,c<7->∀d,d<7->(inG 1 c a b&&inG 1 d a b)=true->c=d:=Xl
theorem An{L X Y q q'}(h:L<=1)(d:X<16)(e:Y<16)(a:q<av L)(b:q'<av L)(f:inG L q X Y=true)(g:inG L q' X Y=true):q=q':=by
 unfold av at a b;by_cases c:L=1
 .subst c
  rw[I rfl] at a b;exact yB X d Y e q a q' b (by rw[f,g];rfl)
 .rw[N c] at a b
  omega
theorem Hm{h q l i q' l' i'}(f:h.L<=1)(t:h.W<=16)(u:h.H<=16)(g:q<av h.L)(j:q'<av h.L)(k:l<ao h q)(m:i<aH h q)(n:l'<ao h q')(o:i'<aH h q')(e:ptP h q l i=ptP h q' l' i'):q=q'/\l=l':=by
 have a:=cr h.L q;have b:=cr h.L q';have v:=dQ a.2.1 m;have w:=dQ a.2.2.2.2.2.1 k;have x:=dQ b.2.1 o;have y:=dQ b.2.2.2.2.2.1 n;unfold ptP at e;have p:(ae h.L q).cf+i*(ae h.L q).cs=(ae h.L q').cf+i'*(ae h.L q').cs:=O;have r:(ae h.L q).rf+l*(ae h.L q).rs=(ae h.L q').rf+l'*(ae h.L q').rs:=O;have c:∀q l i,inG h.L q ((ae h.L q).cf+i*(ae h.L q).cs) ((ae h.L q).rf+l*(ae h.L q).rs)=true:=λq l i=>by
  unfold inG;rw[K (show(ae h.L q).cf<=(ae h.L q).cf+i*(ae h.L q).cs from O),YT,Nat.mul_mod_left,K (show(ae h.L q).rf<=(ae h.L q).rf+l*(ae h.L q).rs from O),YT,Nat.mul_mod_left];rfl
 have d:=c q' l' i';rw[<-p,<-r] at d;have s:=An f O O g j (c q l i) d;subst s;refine⟨rfl,?_⟩
 have:l*(ae h.L q).rs=l'*(ae h.L q).rs:=O
 exact Nat.eq_of_mul_eq_mul_right O this
structure RwK (r:Rw):Prop where
 L:r.hd.L<=1
 W:r.hd.W<=16
 H:r.hd.H<=16
 p0:0<=r.pass
 geo:aN r=false->r.columns=aH r.hd r.pass.toNat/\r.lines=ao r.hd r.pass.toNat/\r.line<ao r.hd r.pass.toNat
 kn:∀a,r.known a=true->∃q l i,q<av r.hd.L/\l<ao r.hd q/\i<aH r.hd q/\a=ptP r.hd q l i/\((q:Int)<r.pass\/((q:Int)=r.pass/\l<r.line))
def eR(r r':Rw):Prop:=∀a,r.known a=true->r'.known a=true/\∀c,c<4->r'.smp (4*a+c)=r.smp (4*a+c)
theorem eR.refl r:eR r r:=λb a=>⟨a,λc _=>rfl⟩
theorem eR.trans{a b c}(h:eR a b)(k:eR b c):eR a c:=λd e=>⟨(k d (h d e).1).1,λf g=>((k d (h d e).1).2 f g).trans ((h d e).2 f g)⟩
theorem eR.same{r r'}(a:r'.known=r.known)(b:r'.smp=r.smp):eR r r':=λd c=>⟨by rw[a];exact c,λe _=>by rw[b]⟩
theorem RwK.same{r r'}(h:RwK r)(a:r'.hd=r.hd)(b:r'.pass=r.pass)(f:r'.columns=r.columns)(g:r'.lines=r.lines)(d:r'.line=r.line)(i:r'.known=r.known):RwK r' :=
 ⟨by rw[a];exact h.L,by rw[a];exact h.W,by rw[a];exact h.H,by rw[b];exact h.p0,λc=>by
  have:aN r=false:=by unfold aN at c ⊢;rw[a,b] at c;exact c
  rw[a,b,f,g,d];exact h.geo this,λj e=>by rw[a,b,d];rw[i] at e;exact h.kn j e⟩
theorem npK:∀(n:Nat) (r:Rw) (p:Nat),r.pass=(p:Int)->av r.hd.L<p+n->(cj n r).hd=r.hd/\(cj n r).known=r.known/\r.pass<=(cj n r).pass/\(aN (cj n r)=false->(cj n r).columns=aH r.hd (cj n r).pass.toNat/\(cj n r).lines=ao r.hd (cj n r).pass.toNat/\0<ao r.hd (cj n r).pass.toNat)
 | 0,r,p,d,hc=>⟨rfl,rfl,Int.le_refl _,λa=>by
   unfold aN at a
   have:=of_decide_eq_false a
   replace this:¬(av r.hd.L:Int)<=r.pass:=this
   omega⟩
 | n+1,r,p,d,hc=>by
  have f:cj (n+1) r=if r.pass<(av r.hd.L:Int) then(if 0<(bB r).columns/\0<(bB r).lines then bB r else cj n {bB r with pass:=r.pass+1}) else r:=rfl
  rw[f];by_cases e:r.pass<(av r.hd.L:Int)
  .rw[I e]
   by_cases c:0<(bB r).columns/\0<(bB r).lines
   .rw[I c]
    exact⟨rfl,rfl,Int.le_refl _,λ_=>⟨rfl,rfl,c.2⟩⟩
   .rw[N c]
    have b:=npK n {bB r with pass:=r.pass+1} (p+1) (by show r.pass+1=((p+1:Nat):Int);rw[d];omega) (by show av r.hd.L<p+1+n;omega);refine⟨b.1,b.2.1,?_,b.2.2.2⟩
    have:=b.2.2.1
    replace this:r.pass+1<=_:=this;omega
  .rw[N e]
   refine⟨rfl,rfl,Int.le_refl _,λa => ?_⟩;unfold aN at a
   have:=of_decide_eq_false a
   replace this:¬(av r.hd.L:Int)<=r.pass:=this;omega
theorem Aw{r:Rw}(i:r.hd.L<=1)(k:r.hd.W<=16)(l:r.hd.H<=16)(p:Nat)(m:r.pass+1=(p:Int))(n:∀a,r.known a=true->∃q c d,q<av r.hd.L/\c<ao r.hd q/\d<aH r.hd q/\a=ptP r.hd q c d/\(q:Int)<(p:Int)):RwK r.next:=by
 have A:=tB i;obtain⟨g,h,j,o⟩:=npK 8 {r with pass:=r.pass+1} p m (by show av r.hd.L<p+8;omega);replace g:(cj 8 {r with pass:=r.pass+1}).hd=r.hd:=g;replace h:(cj 8 {r with pass:=r.pass+1}).known=r.known:=h;replace j:r.pass+1<=(cj 8 {r with pass:=r.pass+1}).pass:=j;unfold Rw.next;generalize cj 8 {r with pass:=r.pass+1}=e at *;have b:(ll e).hd=r.hd:=g;refine⟨by rw[b];exact i,by rw[b];exact k,by rw[b];exact l,?_,λs => ?_,λa f => ?_⟩
 .show 0<=e.pass
  omega
 .obtain⟨t,u,v⟩:=o s
  rw[b];exact⟨t,u,v⟩
 .replace f:e.known a=true:=f
  rw[h] at f;obtain⟨q,c,d,w,x,y,z,B⟩:=n a f;rw[b];refine⟨q,c,d,w,x,y,z,L ?_⟩;show(q:Int)<e.pass
  omega
theorem CH{h C}(a:h.L<=1)(b:h.W<=16)(c:h.H<=16):RwK (Rw.start h C):=Aw (r:=rw0 h C) a b c 0 (by show(-1:Int)+1=0;decide) (λe d=>absurd (show false=true from d) Xh)
theorem G3{r}(k:RwK r)x:RwK (r.take x).1/\eR r (r.take x).1:=by
 unfold Rw.take;by_cases s:aN r=true
 .rw[I s];exact⟨k,eR.refl _⟩
 rw[N s];have H:aN r=false:=by cases J:aN r with|false=>rfl|true=>exact absurd J s
 split
 .unfold Rw.takeF
  split
  .exact⟨k.same rfl rfl rfl rfl rfl rfl,eR.same rfl rfl⟩
  .exact⟨k.same rfl rfl rfl rfl rfl rfl,eR.same rfl rfl⟩
 split
 .exact⟨k.same rfl rfl rfl rfl rfl rfl,eR.same rfl rfl⟩
 obtain⟨a,j⟩:∃a,a=({r with taken:=r.taken+1}:Rw).lay (r.taken-1) x:=⟨_,rfl⟩;rw[<-j];have d:RwK a:=by rw[j];exact k.same rfl rfl rfl rfl rfl rfl
 have t:eR r a:=by rw[j];exact eR.same rfl rfl
 have u:aN a=false:=by rw[j];exact H
 clear j;unfold Rw.endRow;by_cases z:a.bad=true
 .rw[I z];exact⟨d,t⟩
 rw[N z];obtain⟨v,K,A⟩:=d.geo u;have Z:a.pass<(av a.hd.L:Int):=by
  unfold aN at u
  have:=of_decide_eq_false u
  omega
 have L:=d.p0;have a0:=cr a.hd.L a.pass.toNat;have p:∀b,a.pt b=ptP a.hd a.pass.toNat a.line b:=λb=>rfl
 obtain⟨a1,a2,B⟩:=gu a (gN _) (λb M P=>by
  rw[p,p];unfold ptP
  have:b*(ae a.hd.L a.pass.toNat).cs<M*(ae a.hd.L a.pass.toNat).cs:=Nat.mul_lt_mul_of_pos_right P O
  omega) a.columns
 have C:eR a a.laid:=λc e=>by
  obtain⟨f,h,b,l,m,n,o,D⟩:=d.kn c e;have Q:∀w,w<a.columns->c≠a.pt w:=λw S i=>by
   rw[p,o] at i;obtain⟨a3,a4⟩:=Hm d.L d.W d.H l O m n A (by rw[<-v];exact S) i;omega
  obtain⟨T,U⟩:=B c Q;exact⟨T.trans e,U⟩
 have E:∀c,a.laid.known c=true->∃f h b,f<av a.hd.L/\h<ao a.hd f/\b<aH a.hd f/\c=ptP a.hd f h b/\((f:Int)<a.pass\/((f:Int)=a.pass/\h<a.line+1)):=λc e=>by
  replace e:(aP a a.columns).known c=true:=e;by_cases F:∃b,b<a.columns/\c=a.pt b
  .obtain⟨b,y,i⟩:=F
   exact⟨a.pass.toNat,a.line,b,O,A,by rw[<-v];exact y,i.trans (p b),R ⟨O,O⟩⟩
  .rw[(B c (λb y i=>F ⟨b,y,i⟩)).1] at e
   obtain⟨f,h,b,l,m,n,o,D⟩:=d.kn c e;exact⟨f,h,b,l,m,n,o,O⟩
 obtain⟨V,a5,W,a6,X,Y,a7,a8,a9,b0,b1⟩:=dV a a.columns;have g:a.laid.hd=a.hd:=V;have q:a.laid.pass=a.pass:=W;show RwK (if a.lines<=a.line+1 then a.laid.next else a.laid)/\eR r (if a.lines<=a.line+1 then a.laid.next else a.laid)
 by_cases G:a.lines<=a.line+1
 .rw[I G]
  refine⟨Aw (by rw[g];exact d.L) (by rw[g];exact d.W) (by rw[g];exact d.H) (a.pass.toNat+1) (by rw[q];omega) (λc e => ?_),(t.trans C).trans (eR.same (eA _) (hS _))⟩;obtain⟨f,h,b,l,m,n,o,D⟩:=E c e;rw[g];exact⟨f,h,b,l,m,n,o,O⟩
 .rw[N G]
  refine⟨⟨by rw[g];exact d.L,by rw[g];exact d.W,by rw[g];exact d.H,by rw[q];exact L,λ_ => ?_,λc e => ?_⟩,t.trans C⟩
  .rw[g,q]
   refine⟨X.trans v,Y.trans K,?_⟩;show a.line+1<_
   omega
  .rw[g,q];exact E c e
def Mn(r r':Rw):Prop:=RwK r->RwK r'/\eR r r'
theorem Mn.refl r:Mn r r:=λa=>⟨a,eR.refl _⟩
theorem Mn.trans{a b c}(h:Mn a b)(k:Mn b c):Mn a c:=λd=>⟨(k (h d).1).1,(h d).2.trans (k (h d).1).2⟩
theorem jR s r x:Mn r (aB s r x).2.1:=λa=>by
 have:=G3 a x
 unfold aB;split
 .split
  .exact this
  .exact this
 .exact this
theorem po:∀(k D:Nat) (s:St) (r:Rw),Mn r (bT k D s r).2.1
 | 0,_,_,_=>Mn.refl _
 | k+1,D,s,r=>by
  unfold bT;split
  .exact(jR _ _ _).trans (po k D _ _)
  .exact jR _ _ _
theorem tz s r D:Mn r (cz s r D).2.1:=by
 unfold cz;split
 .exact Mn.refl _
 .exact po _ _ _ _
theorem Bs s r σ:Mn r (cJ s r σ).2.1:=by
 unfold cJ;split
 .exact Mn.refl _
 split
 .exact Mn.refl _
 split
 .exact tz _ _ _
 .exact Mn.refl _
theorem Dl s r v:Mn r (aL s r v).2.1:=by
 unfold aL;split
 .exact Mn.refl _
 split
 .exact Mn.refl _
 split
 .exact Mn.refl _
 split
 .have:=jR s r v
  unfold cm;split
  .exact this
  .exact this
 split
 .exact Mn.refl _
 split
 .exact Mn.refl _
 split
 .exact Mn.refl _
 split
 .exact Mn.refl _
 split
 .exact tz _ _ _
 .exact Mn.refl _
theorem CB s r t:Mn r (gY s r t).2.1:=by
 unfold gY dB;split
 .exact Mn.refl _
 split
 .exact Mn.refl _
 split
 .exact Mn.refl _
 split
 .exact Mn.refl _
 .exact jR _ _ _
theorem xS s r t:Mn r (ba s r t).2.1:=by
 unfold ba;split
 .exact CB _ _ _
 split
 .exact Mn.refl _
 split
 .exact Bs _ _ _
 split
 .exact Mn.refl _
 .exact Dl _ _ _
theorem pC x:∀(n i:Nat) (s:St) (r:Rw),Mn r (bN n i s r x).2.1
 | 0,_,_,_=>Mn.refl _
 | n+1,i,s,r=>by
  unfold bN;split
  .exact Mn.refl _
  .split
   .exact(xS _ _ _).trans (pC x n (i+1) _ _)
   .exact xS _ _ _
theorem zO s r x:Mn r (takeB s r x).2.1:=by
 unfold takeB;split
 .exact Mn.refl _
 .exact pC x 8 0 _ _
structure GrI (s:Rd):Prop where
 kf:s.sd=false->∀a,s.rw.known a=false
 kt:s.sd=true->RwK s.rw
 hc:s.hd.W≠0->(s.part=3\/s.part=4)->s.ctype≠bt
 tc:s.sd=true->s.part=3->s.ctype≠bC/\s.ctype≠aT
 hs:s.sd=true->s.hd.W≠0
 ic:s.part=3->s.ctype=ar->s.sd=true
structure GrS (s t:Rd):Prop where
 inv:GrI t
 mono:eR s.rw t.rw
 hd:s.hd.W≠0->t.hd=s.hd
 tl:s.sd=true->t.sd=true/\t.tl=s.tl
theorem GrI.mono0{s t:Rd}(h:GrI s)(e:s.sd=false):eR s.rw t.rw:=λb a=>by rw[h.kf e b] at a;exact absurd a Xh
theorem GrI.plain{s t}(h:GrI s)(a:t.sd=s.sd)(b:t.rw=s.rw)(c:t.hd=s.hd)(d:t.tl=s.tl)(e:s.hd.W≠0->(t.part=3\/t.part=4)->t.ctype≠bt)(f:s.sd=true->t.part=3->t.ctype≠bC/\t.ctype≠aT)(g:t.part=3->t.ctype=ar->s.sd=true):GrS s t:=
 ⟨⟨by rw[a,b];exact h.kf,by rw[a,b];exact h.kt,by rw[c];exact e,by rw[a];exact f,by rw[a,c];exact h.hs,by rw[a];exact g⟩,by rw[b];exact eR.refl _,λ_=>c,λi=>⟨a.trans i,d⟩⟩
theorem DP{t:Rd}(d:t.hd.W≠0)(a:t.checkType=0):t.ctype≠bt:=by
 intro e;unfold Rd.checkType at a;by_cases b:tyB t.ctype=false
 .rw[I b] at a;exact absurd a Xh
 rw[N b,N d] at a;by_cases c:t.short=true
 .rw[I c] at a;exact absurd a Xh
 rw[N c] at a;unfold Rd.checkKind at a;rw[I e] at a;exact absurd a Xh
theorem vu{t:Rd}(d:t.hd.W=0)(a:t.checkType=0):t.ctype=bt:=by
 unfold Rd.checkType at a;by_cases b:tyB t.ctype=false
 .rw[I b] at a;exact absurd a Xh
 rw[N b,I d] at a;unfold Rd.checkFirst at a;by_cases c:t.ctype≠bt
 .rw[I c] at a;exact absurd a Xh
 .exact Decidable.not_not.1 c
theorem sJ(t:Rd):t.note.ctype=t.ctype/\t.note.hd=t.hd/\t.note.part=t.part:=by
 have a:t.note1.ctype=t.ctype/\t.note1.hd=t.hd/\t.note1.part=t.part:=by
  unfold Rd.note1;split
  .exact⟨rfl,rfl,rfl⟩
  .split
   .exact⟨rfl,rfl,rfl⟩
   .split
    .unfold Rd.begin
     split
     .exact⟨rfl,rfl,rfl⟩
     .exact⟨rfl,rfl,rfl⟩
    .exact⟨rfl,rfl,rfl⟩
 unfold Rd.note Rd.note2;split
 .exact a
 .exact a
theorem GrI.note{s}(h:GrI s)(f:lB s)(g:s.checkType=0)p:GrS s (s.note.enter p):=by
 obtain⟨n,i,B⟩:=sJ s;have o:s.hd.W≠0->((s.note.enter p).part=3\/(s.note.enter p).part=4)->(s.note.enter p).ctype≠bt:=λb _=>by
  show s.note.ctype≠bt
  rw[n];exact DP b g
 by_cases d:s.sd=true
 .obtain⟨j,k⟩:=wE d g
  obtain⟨v,w,x⟩:=wU d j k;have y:s.note.rw=s.rw:=by
   have l:s.note1=s:=by
    unfold Rd.note1;rw[N j,N k];split
    .unfold Rd.begin;rw[I d]
    .rfl
   unfold Rd.note;rw[l];unfold Rd.note2;split
   .rfl
   .rfl
  exact h.plain (w.trans d.symm) y i v o (λ_ _=>by show s.note.ctype≠bC/\s.note.ctype≠aT;rw[x];exact⟨j,k⟩) (λ_ _=>d)
 .have c:s.sd=false:=by cases a:s.sd with|false=>rfl|true=>exact absurd a d
  have q:∀{z:Prop},s.sd=true->z:=λa=>absurd a d
  by_cases e:s.ctype=ar
  .have A:s.hd.W≠0:=λb=>by
    have:=vu b g
    rw[e] at this;exact absurd this Xh
   have l:=mT e c;rw[l];refine⟨⟨λa=>absurd (show true=false from a) Xh,λ_=>CH f.L f.W f.H,λb a => ?_,λ_ _ => ?_,λ_=>A,λ_ _=>rfl⟩,h.mono0 c,λ_=>rfl,q⟩
   .show s.ctype≠bt
    rw[e];decide
   .show s.ctype≠bC/\s.ctype≠aT
    rw[e];exact⟨Xh,Xh⟩
  .have r:s.note.sd=false/\s.note.rw=s.rw:=by
    have t:s.note1.sd=false/\s.note1.rw=s.rw:=by
     unfold Rd.note1;split
     .exact⟨c,rfl⟩
     .split
      .exact⟨c,rfl⟩
      .first|(rw[N e];exact⟨c,rfl⟩)|exact⟨c,rfl⟩
    unfold Rd.note Rd.note2;split
    .exact t
    .exact t
   have m:(s.note.enter p).sd=false:=r.1;refine⟨⟨λ_ u => ?_,λa => ?_,?_,λa => ?_,λa => ?_,λ_ a=>absurd (n.symm.trans a) e⟩,h.mono0 c,λ_=>i,q⟩
   .show s.note.rw.known u=false
    rw[r.2];exact h.kf c u
   .rw[m] at a;exact absurd a Xh
   .intro b
    replace b:s.note.hd.W≠0:=b;rw[i] at b;exact o b
   .rw[m] at a;exact absurd a Xh
   .rw[m] at a;exact absurd a Xh
theorem GrS.enter{s t}(h:GrS s t)u(a:u.sd=t.sd)(e:u.rw=t.rw)(b:u.hd=t.hd)(c:u.tl=t.tl)(f:t.hd.W≠0->(u.part=3\/u.part=4)->u.ctype≠bt)(g:t.sd=true->u.part=3->u.ctype≠bC/\u.ctype≠aT)(i:u.part=3->u.ctype=ar->t.sd=true):GrS s u:=by
 have:=h.inv.plain a e b c f g i
 exact⟨this.inv,h.mono.trans this.mono,λj=>by rw[b];exact h.hd j,λd=>⟨a.trans (h.tl d).1,c.trans (h.tl d).2⟩⟩
theorem GrI.keep{s}(h:GrI s)x(j:s.part=3):GrS s (s.keep x).1:=by
 unfold Rd.keep;by_cases k:s.ctype=bt
 .rw[I k]
  exact h.plain rfl rfl rfl rfl (λc a=>h.hc c a) (λa d=>h.tc a d) h.ic
 rw[N k];have l:(s.ctype=bC\/s.ctype=aT)->s.sd=false:=λa=>by
  cases n:s.sd with
  | false=>rfl
  | true=>
   have:=h.tc n j
   rcases a with a|a
   .exact absurd a this.1
   .exact absurd a this.2
 by_cases e:s.ctype=bC
 .rw[I e]
  have b:=l (L e);exact⟨⟨h.kf,h.kt,h.hc,h.tc,h.hs,h.ic⟩,h.mono0 b,λ_=>rfl,λa=>by rw[b] at a;exact absurd a Xh⟩
 rw[N e];by_cases f:s.ctype=aT
 .rw[I f]
  have b:=l (R f);exact⟨⟨h.kf,h.kt,h.hc,h.tc,h.hs,h.ic⟩,h.mono0 b,λ_=>rfl,λa=>by rw[b] at a;exact absurd a Xh⟩
 rw[N f];by_cases g:s.ctype=ar
 .rw[I g]
  have m:=h.ic j g;obtain⟨o,p⟩:=zO s.st s.rw x (h.kt m);have i:GrS s (s.streamed x):=⟨⟨λa=>by replace a:s.sd=false:=a;rw[m] at a;exact absurd a Xh,λ_=>o,h.hc,h.tc,h.hs,h.ic⟩,p,λ_=>rfl,λa=>⟨a,rfl⟩⟩;unfold Rd.takeStream;split
  .exact i
  .split
   .exact i
   .exact i
 .rw[N g]
  exact h.plain rfl rfl rfl rfl (λc a=>h.hc c a) (λa d=>h.tc a d) h.ic
theorem GrI.take{s x}(h:GrI s)(k:cB s x)(c:(s.take x).2=0):GrS s (s.take x).1:=by
 unfold Rd.take at c ⊢;have e:∀f:Rd,f.sd=s.sd->f.rw=s.rw->f.hd=s.hd->f.tl=s.tl->f.part≠3->f.part≠4->GrS s f:=λf F G H J l K=>h.plain F G H J (λ_ a=>O) (λ_ a=>absurd a l) (λa=>absurd a l)
 by_cases B:s.part=0
 .rw[I B]
  unfold Rd.takeSign;split
  .exact e _ rfl rfl rfl rfl (show s.part≠3 from O) (show s.part≠4 from O)
  .split
   .exact e _ rfl rfl rfl rfl (show(1:Nat)≠3 from Xh) (show(1:Nat)≠4 from Xh)
   .exact e _ rfl rfl rfl rfl (show s.part≠3 from O) (show s.part≠4 from O)
 rw[N B] at c ⊢;by_cases C:s.part=1
 .rw[I C]
  unfold Rd.takeLength;split
  .exact e _ rfl rfl rfl rfl (show s.part≠3 from O) (show s.part≠4 from O)
  .split
   .exact e _ rfl rfl rfl rfl (show s.part≠3 from O) (show s.part≠4 from O)
   .exact e _ rfl rfl rfl rfl (show(2:Nat)≠3 from Xh) (show(2:Nat)≠4 from Xh)
 rw[N C] at c ⊢;by_cases D:s.part=2
 .rw[I D] at c ⊢
  unfold Rd.takeType at c ⊢;by_cases m:s.taken+1≠4
  .rw[I m];exact e _ rfl rfl rfl rfl (show s.part≠3 from O) (show s.part≠4 from O)
  rw[N m] at c ⊢;by_cases i:(s.typed x).checkType≠0
  .rw[I i] at c;exact absurd c i
  rw[N i];have M:GrS s (s.typed x):=e _ rfl rfl rfl rfl (show s.part≠3 from O) (show s.part≠4 from O);have o:=λb=>M.inv.note (p:=b) ⟨k.hd.W,k.hd.H,k.hd.D,k.hd.K,k.hd.L⟩ O
  have n:∀b,GrS s ((s.typed x).note.enter b):=λb=>⟨(o b).inv,(o b).mono,(o b).hd,(o b).tl⟩
  split
  .exact n 4
  .exact n 3
 rw[N D] at c ⊢;by_cases j:s.part=3
 .rw[I j]
  have P:GrS s (s.summed x):=h.plain rfl rfl rfl rfl h.hc h.tc h.ic;have q:=GrI.keep P.inv x (show(s.summed x).part=3 from j);have g:GrS s ((s.summed x).keep x).1:=⟨q.inv,q.mono,q.hd,q.tl⟩;have r:=(kO (s.summed x) x).trans j;unfold Rd.takeData;split
  .exact g
  .show GrS s ((s.summed x).keep x).1.dataEnd
   unfold Rd.dataEnd;split
   .exact g.enter _ rfl rfl rfl rfl (λd _=>g.inv.hc d (L r)) (λ_ a=>absurd (show(4:Nat)=3 from a) Xh) (λa=>absurd (show(4:Nat)=3 from a) Xh)
   .exact g.enter _ rfl rfl rfl rfl (λd _=>g.inv.hc d (L r)) (λa _=>g.inv.tc a r) (λ_ a=>g.inv.ic r a)
 rw[N j] at c ⊢;by_cases t:s.part=4
 .rw[I t] at c ⊢
  have E:GrS s (s.num x):=h.plain rfl rfl rfl rfl (λd _=>h.hc d (R t)) (λ_ a=>absurd (show s.part=3 from a) j) (λa=>absurd (show s.part=3 from a) j);obtain⟨Q,S⟩:=fw (s.num x);have w:(s.num x).accept.1.rw=s.rw/\(s.hd.W≠0->(s.num x).accept.1.hd=s.hd)/\(s.sd=true->(s.num x).accept.1.hd.W≠0):=by
   unfold Rd.accept;by_cases y:(s.num x).ctype=bt
   .have u:¬s.hd.W≠0:=λd=>h.hc d (R t) y
    rw[I y];unfold Rd.acceptHead;split
    .exact⟨rfl,λd=>absurd d u,λa=>absurd (h.hs a) u⟩
    .exact⟨rfl,λd=>absurd d u,λa=>absurd (h.hs a) u⟩
   .rw[N y]
    split
    .exact⟨rfl,λ_=>rfl,λa=>h.hs a⟩
    .exact⟨rfl,λ_=>rfl,λa=>h.hs a⟩
  have n:∀b,b≠3->b≠4->GrS s ((s.num x).accept.1.enter b):=λb l K=>by
   have v:((s.num x).accept.1.enter b).sd=s.sd:=S;have z:((s.num x).accept.1.enter b).rw=s.rw:=w.1;refine⟨⟨by rw[v,z];exact h.kf,by rw[v,z];exact h.kt,λ_ a=>absurd a (by show ¬(b=3\/b=4);omega),λ_ a=>absurd (show b=3 from a) l,λa=>w.2.2 (by rw[<-v];exact a),λa=>absurd (show b=3 from a) l⟩,by rw[z];exact eR.refl _,λd=>w.2.1 d,λa=>⟨by rw[v];exact a,Q⟩⟩
  unfold Rd.takeSum at c ⊢;by_cases m:s.taken+1≠4
  .rw[I m];exact E
  rw[N m] at c ⊢;by_cases i:s.number*256+x≠aC s.sum
  .rw[I i];exact E
  rw[N i] at c ⊢;by_cases A:(s.num x).accept.2≠0
  .rw[I A] at c;exact absurd c A
  rw[N A];split
  .exact n 5 Xh Xh
  .exact n 1 Xh Xh
 .rw[N t]
  exact h.plain rfl rfl rfl rfl h.hc h.tc h.ic
theorem GrS.refl{s}(h:GrI s):GrS s s:=h.plain rfl rfl rfl rfl h.hc h.tc h.ic
theorem Rn.grow:∀{l:List Nat} {s b:Rd},Rn s l b->GrI s->GrS s b
 | [],s,b,c,k=>by cases c;exact GrS.refl k
 | x::l,s,b,c,k=>by
  have a:=k.take c.1 c.2.1;have d:=Rn.grow c.2.2 a.inv;exact⟨d.inv,a.mono.trans d.mono,λf=>by
   have g:=a.hd f;rw[d.hd (by rw[g];exact f),g],λe=>⟨(d.tl (a.tl e).1).1,((d.tl (a.tl e).1).2).trans (a.tl e).2⟩⟩
theorem I5:GrI rd0:=⟨λ_ c=>rfl,λa=>absurd (show false=true from a) Xh,λb=>absurd (show(0:Nat)≠0 from b) Xh,λa=>absurd (show false=true from a) Xh,λa=>absurd (show false=true from a) Xh,λa=>absurd (show(0:Nat)=3 from a) Xh⟩
def flg(j x y:Nat):Bool:=(aX (ae 1 j).cf (ae 1 j).cs (ae 1 j).cb x).2&&(aX (ae 1 j).rf (ae 1 j).rs (ae 1 j).rb y).2
def ogx(j x:Nat):Nat:=(aX (ae 1 j).cf (ae 1 j).cs (ae 1 j).cb x).1
def ogy(j y:Nat):Nat:=(aX (ae 1 j).rf (ae 1 j).rs (ae 1 j).rb y).1
def AJ(p x y k:Nat):Bool:=flg k x y&&decide (ogx k x=x-x%dxP p)&&decide (ogy k y=y-y%dyP p)&&(List.range 7).all (λj=>decide (j<=k) || !(flg j x y) || !(decide (ogx j x%dxP p=0)&&decide (ogy j y%dyP p=0)))
theorem IY:∀a,a<7->∀b,b<16->∀c,c<16->∃d,d<7/\AJ a b c d=true:=Xl
theorem oM{r t h x y k}(e:h.L=1):∀c,k<c->(∀j,j<c->k<j->(flg j x y&&r.known (ogy j y*16+ogx j x))=false)->fB r t h x y c=fB r t h x y (k+1)
 | 0,f,_=>O
 | c+1,f,d=>by
  by_cases q:c=k
  .rw[q]
  .have:=d c O O
   rw[jC (a:=ogx c x) (b:=ogy c y) (A:=(aX (ae 1 c).cf (ae 1 c).cs (ae 1 c).cb x).2) (B:=(aX (ae 1 c).rf (ae 1 c).rs (ae 1 c).rb y).2) (by rw[e];rfl) (by rw[e];rfl) this];exact oM e c O (λj i g=>d j O g)
theorem wS f s q p:(aX f s q p).1<=p:=by unfold aX;split<;>(show _<=_)<;>omega
theorem CT{r t h p x y}(e:h.L=1)(m:p<7)(E:x<h.W)(F:y<h.H)(G:h.W<=16)(H:h.H<=16)(l:∀d f,d<h.W->f<h.H->r.known (f*16+d)=(decide (d%dxP p=0)&&decide (f%dyP p=0))):shP r t h x y=pxP r t h (x-x%dxP p) (y-y%dyP p):=by
 obtain⟨b,n,g⟩:=IY p m x O y O;unfold AJ at g;rw[Bool.and_eq_true,Bool.and_eq_true,Bool.and_eq_true] at g;obtain⟨⟨⟨c,i⟩,j⟩,o⟩:=g;have i:=Yr i;have j:=Yr j;have q:av h.L=7:=by unfold av;rw[I e]
 have s:∀a,ogx a x<=x:=λa=>wS _ _ _ _
 have u:∀a,ogy a y<=y:=λa=>wS _ _ _ _
 unfold shP;rw[q,oM (k:=b) e 7 n (λa v L => ?_)]
 .unfold flg at c
  rw[Bool.and_eq_true] at c;have w:aX (ae h.L b).cf (ae h.L b).cs (ae h.L b).cb x=(x-x%dxP p,true):=by rw[e];exact Y7 i c.1
  have z:aX (ae h.L b).rf (ae h.L b).rs (ae h.L b).rb y=(y-y%dyP p,true):=by rw[e];exact Y7 j c.2
  refine eO w z ?_;rw[l _ _ O O];have A:(x-x%dxP p)%dxP p=0:=by
   have:=Nat.div_add_mod x (dxP p)
   rw[show x-x%dxP p=dxP p*(x/dxP p) from O];exact Nat.mul_mod_right _ _
  have B:(y-y%dyP p)%dyP p=0:=by
   have:=Nat.div_add_mod y (dyP p)
   rw[show y-y%dyP p=dyP p*(y/dyP p) from O];exact Nat.mul_mod_right _ _
  rw[K A,K B];rfl
 .have:=Za.1 o a (Yi.2 v)
  rw[J,Bool.false_or] at this;have M:=s a;have N:=u a;rw[l _ _ O O];cases C:flg a x y with
  | false=>rfl
  | true=>
   rw[C] at this;cases D:(decide (ogx a x%dxP p=0)&&decide (ogy a y%dyP p=0)) with
   | false=>rfl
   | true=>
    rw[D] at this;exact absurd this Xh
theorem vG{wd H K D L s0 s1 s2 s3 k pal clr pix t}(o:cu wd H K D pal clr pix)(z:fN K pal clr t)(f:∀p,t.clear p<256)(q:∀p,t.pal p<256)(s:k<wd*H)(u:SmK K pix k s0 s1 s2 s3)i:0<=dY t ⟨wd,H,D,K,L⟩ s0 s1 s2 s3 i/\dY t ⟨wd,H,D,K,L⟩ s0 s1 s2 s3 i<=65535:=by
 have v:∀b,b<chan K->k*chan K+b<pix.length:=λb f=>by
  rw[o.pixL]
  have:(k+1)*chan K<=wd*H*chan K:=XS _ s
  rw[YO,Zi] at this;omega
 have w:=o.lg.d;have d:∀(b a:Nat),b<chan K->aG (s0:Int) s1 s2 s3 b=(a:Int)->a<2^D:=λb a f A=>by
  have B:=u b f;have C:=fF o _ (az (v b f));omega
 have e:∀a,a<2^D->a*aY D<=65535:=λa h=>by
  rcases w with rfl|rfl|rfl|rfl|rfl
  .have:a<2:=h
   show a*65535<=65535;omega
  .have:a<4:=h
   show a*21845<=65535;omega
  .have:a<16:=h
   show a*4369<=65535;omega
  .have:a<256:=h
   show a*257<=65535;omega
  .have:a<65536:=h
   show a*1<=65535;omega
 have r:0<=alP t (chn K) (aG s0 s1 s2 s3)/\alP t (chn K) (aG s0 s1 s2 s3)<=65535:=by
  unfold alP;split
  .omega
  .split<;>omega
 have j:∀l m b n:Int,(0<=l/\l<=65535)->(0<=m/\m<=65535)->(0<=b/\b<=65535)->(0<=n/\n<=65535)->0<=aG l m b n i/\aG l m b n i<=65535:=λl m b n x d f y=>by
  unfold aG;split
  .exact x
  .split
   .exact d
   .split
    .exact f
    .exact y
 have c:∀a:Nat,a<=65535->0<=(a:Int)/\(a:Int)<=65535:=λa h=>O
 rcases gF o.lg with rfl|rfl|rfl|rfl|rfl
 .rw[rq rfl]
  have g:=c _ (e s0 (d 0 s0 Xh rfl));exact j _ _ _ _ g g g r
 .rw[rp rfl]
  exact j _ _ _ _ (c _ (e s0 (d 0 s0 Xh rfl))) (c _ (e s1 (d 1 s1 Xh rfl))) (c _ (e s2 (d 2 s2 Xh rfl))) r
 .rw[rn rfl]
  unfold gU;split
  .refine j _ _ _ _ (c _ ?_) (c _ ?_) (c _ ?_) (c _ ?_)
   .have:=q (3*s0);omega
   .have:=q (3*s0+1);omega
   .have:=q (3*s0+2);omega
   .have:=f s0
    split<;>omega
  .exact⟨Int.le_refl _,by show(0:Int)<=65535;omega⟩
 .rw[rm rfl]
  have g:=c _ (e s0 (d 0 s0 Xh rfl));exact j _ _ _ _ g g g (c _ (e s1 (d 1 s1 Xh rfl)))
 .rw[rl (show(6:Nat)≠3 from Xh) (show(6:Nat)≠0 from Xh) (show(6:Nat)≠4 from Xh) (show(6:Nat)≠2 from Xh)]
  exact j _ _ _ _ (c _ (e s0 (d 0 s0 Xh rfl))) (c _ (e s1 (d 1 s1 Xh rfl))) (c _ (e s2 (d 2 s2 Xh rfl))) (c _ (e s3 (d 3 s3 Xh rfl)))
theorem mE{r t h x y}(d:x<16)(e:y<16)(f:∀b c a,b<16->c<16->0<=pxP r t h b c a/\pxP r t h b c a<=65535)a:∀n,0<=fB r t h x y n a/\fB r t h x y n a<=65535
 | 0=>⟨Int.le_refl _,by show(0:Int)<=65535;omega⟩
 | n+1=>by
  have g:fB r t h x y (n+1)=if((aX (ae h.L n).cf (ae h.L n).cs (ae h.L n).cb x).2&&(aX (ae h.L n).rf (ae h.L n).rs (ae h.L n).rb y).2&&r.known ((aX (ae h.L n).rf (ae h.L n).rs (ae h.L n).rb y).1*16+(aX (ae h.L n).cf (ae h.L n).cs (ae h.L n).cb x).1))=true then pxP r t h (aX (ae h.L n).cf (ae h.L n).cs (ae h.L n).cb x).1 (aX (ae h.L n).rf (ae h.L n).rs (ae h.L n).rb y).1 else fB r t h x y n:=rfl
  rw[g];split
  .exact f _ _ a (lJ d) (lJ e)
  .exact mE d e f a n
structure vP (W H D K L:Nat) (pal clr pix:List Int) (b a:Rd):Prop where
 none:a.hd.W=0->∀j,a.rw.known j=false
 hd:a.hd.W≠0->a.hd=⟨W,H,D,K,L⟩
 mono:eR a.rw b.rw
 tab:∀j,a.rw.known j=true->a.tl=b.tl
theorem IS{W H D K L pal clr pix l m a b}(j:Rn rd0 l a)(k:Rn a m b)(n:ev W H D K L pal clr pix b):vP W H D K L pal clr pix b a:=by
 have d:=(j.grow I5).inv;have e:=k.grow d;have h:a.sd=false\/a.sd=true:=by cases a.sd<;>simp
 refine⟨λf g => ?_,λf => ?_,e.mono,λg i => ?_⟩
 .rcases h with c|c
  .exact d.kf c g
  .exact absurd f (d.hs c)
 .rw[<-e.hd f];exact n.hd
 .rcases h with c|c
  .rw[d.kf c g] at i;exact absurd i Xh
  .exact(e.tl c).2.symm
structure Jj (f:ByteArray) (k:Nat) (a a':Rd):Prop where
 ok:bm dc0 (aj (f.extract 0 k))
 fed:dc0.feed (aj (f.extract 0 k))=⟨a,k,0,0⟩
 ok2:bm ⟨a,k,0,0⟩ (aj (f.extract k (k+1)))
 fed2:(⟨a,k,0,0⟩:Dc).feed (aj (f.extract k (k+1)))=⟨a',k+1,0,0⟩
 part:a.part≠5
 part2:a'.part=5↔k+1=f.size
 sh:cC a
 sh2:cC a'
 pl:aI a
 pl2:aI a'
 mono:eR a.rw a'.rw
 hd:a.hd.W≠0->a'.hd=a.hd
theorem H9{W H D K L P V pal clr pix fl kl cl s}(h:dp W H D K L P V pal clr pix fl kl s)(G:cu W H K D pal clr pix)(I:rG L P V fl kl cl):∃g,ev W H D K L pal clr pix g/\∀a,a<s.size->∃l J,Jj s a l J/\vP W H D K L pal clr pix g l:=by
 obtain⟨g,f,t,M,a1,u,N,Q⟩:=nJ h G I;have n:ev W H D K L pal clr pix g:=⟨t,M,⟨u.hd,u.clear,f.smI yp⟩,f.palI (dG s) jJ,N,Q⟩;have a2:=(bM h).2;have e:=aF s;refine⟨g,n,λa j => ?_⟩;obtain⟨l,c,R,v,S⟩:=kK f a (by rw[e];exact j);obtain⟨b,T,w,x,U⟩:=f.at a (aj s)[a] (Xt (by rw[e];exact j));have X:=T.det c;subst X;have y:aj (s.extract 0 a)=(aj s).take a:=by rw[cM,List.drop_zero,Nat.sub_zero]
 have z:aj (s.extract a (a+1))=[(aj s)[a]]:=by
  rw[cM,show a+1-a=1 from O,Yy (by rw[e];exact j)];rfl
 have A:((aj s).take a).length=a:=by rw[Yd,e];omega
 have k:Rn b [(aj s)[a]] (b.take (aj s)[a]).1:=⟨w,x,rfl⟩;have o:Rn rd0 ((aj s).take (a+1)) (b.take (aj s)[a]).1:=by
  rw[XM (by rw[e];exact j)];exact c.append k
 have i:(aj s)[a]<256:=dG s _ (YU _);have B:cC (b.take (aj s)[a]).1/\((b.take (aj s)[a]).1.part=5↔a+1=s.size):=by
  by_cases C:a+1=s.size
  .have:(aj s).take (a+1)=aj s:=X6 (by rw[e];omega)
   rw[this] at o;have p:=o.det f;rw[p];exact⟨n.show',λ_=>C,λ_=>t⟩
  .obtain⟨a3,Y,Z,E,a0⟩:=kK f (a+1) (by rw[e];omega)
   have p:=o.det Y;rw[p];exact⟨⟨E.hd,E.clear,a0⟩,λq=>absurd q Z,λq=>absurd q C⟩
 have F:=k.grow (c.grow I5).inv;refine⟨b,(b.take (aj s)[a]).1,⟨?_,?_,?_,?_,R,B.2,⟨v.hd,v.clear,S⟩,B.1,c.palI (λr i=>dG s r (YE i)) jJ,(c.palI (λr i=>dG s r (YE i)) jJ).take i,F.mono,F.hd⟩,IS c (m:=(aj s)[a]::(aj s).drop (a+1)) ⟨w,x,U⟩ n⟩
 .rw[y];exact Rn.ok (d:=dc0) c rfl (by rw[A];show 0+a<=_;omega)
 .rw[y,Rn.feed (d:=dc0) c rfl,A]
  show(⟨b,0+a,0,0⟩:Dc)=_
  rw[XD]
 .rw[z];exact Rn.ok (d:=⟨b,a,0,0⟩) k rfl (by show a+1<=_;omega)
 .rw[z,Rn.feed (d:=⟨b,a,0,0⟩) k rfl]
  rfl
theorem zv x pk s0 s1 s2 s3 s4 s5 s6 s7 s9 s10 w(l:w.cell? ⟨x,7,none⟩=some (.int .i64 1)):Calls prog 28 #[.pointer (some ⟨x,0,none⟩),.agg #[s0,s1,s2,s3,s4,s5,s6,s7,.slice pk 0 0,s9,s10]] w λv y=>v=.returned (.bool true)/\Kept w y:=by
 have i:Kept w (w.alloc (Obj.cells #[s0,s1,s2,s3,s4,s5,s6,s7,.slice pk 0 0,s9,s10] 50)):=Xw (Xs _ _) (E _) _;have z:=(i.cell (p:=⟨x,7,none⟩) (B _ _ l)).trans l;have Q:(w.alloc (Obj.cells #[s0,s1,s2,s3,s4,s5,s6,s7,.slice pk 0 0,s9,s10] 50)).cell? ⟨w.heap.size,8,none⟩=some (.slice pk 0 0):=(Xr _ _ _ _ rfl).trans rfl;replace i:Z _:=i;clear l;go_enter func28,ntmps28;go_upto_region 1 with fail
 generalize (w.alloc (Obj.cells #[s0,s1,s2,s3,s4,s5,s6,s7,.slice pk 0 0,s9,s10] 50))=A at *;go_wp2_with fail;clear z;go_loopg [5,6,7,8,9,10,11,12,13,14,15] 7 (λm C D G r s H t I J K L d=>∃a:Nat,m=7-a/\a<=7/\G=.int .i64 a/\C=.int .i64 (dxP a)/\D=.int .i64 (dyP a)/\d=A)
 case atStart=>exact⟨0,O,O,rfl,rfl,rfl,rfl⟩
 case round=>
  obtain⟨a,j,R,rfl,rfl,rfl,rfl⟩:=hrel;replace j:Z _:=j;by_cases n:a<7
  .have M:(a:Int)<7:=O
   have N:Z _:=xH a n;have P:Z _:=Bv a n;obtain⟨S,T,U,V⟩:=(xG a n);generalize dxP a=o at *;generalize dyP a=q at *;go_wp2_with fail;go_loopg [8,9,10] 1 (λm r s H d=>s=.int .i64 0/\r=.bool false/\d=wr)
   case atStart=>exact⟨rfl,rfl,rfl⟩
   case round=>
    obtain⟨rfl,rfl,rfl⟩:=hrel;go_wp2_with fail;go_loopg [11,12,13,14,15] 1 (λm t I J K L d=>t=.int .i64 0/\d=wr)
    case atStart=>exact⟨rfl,rfl⟩
    case round=>
     obtain⟨rfl,rfl⟩:=hrel;obtain⟨b,k⟩:∃b,b=a%2:=⟨_,rfl⟩;have W:(a:Int).tmod 2=(b:Int):=by rw[XU O,k];exact(Yo _ _).symm
     have X:(a:Int)%2=(b:Int):=by rw[k];exact(Yo _ _).symm
     obtain⟨e,f⟩:∃e,e=o/2:=⟨_,rfl⟩;obtain⟨g,h⟩:∃g,g=q/2:=⟨_,rfl⟩;have Y:(o:Int).tdiv 2=(e:Int):=by rw[XZ O,f];exact(YB _ _).symm
     have a0:(o:Int)/2=(e:Int):=by rw[f];exact(YB _ _).symm
     have a1:(q:Int).tdiv 2=(g:Int):=by rw[XZ O,h];exact(YB _ _).symm
     have a2:(q:Int)/2=(g:Int):=by rw[h];exact(YB _ _).symm
     have a3:b<2:=O;have a4:e<=8:=O;have a5:g<=8:=O;by_cases u:b=0
     .have c:Z _:=N.o O
      rw[<-f] at c;subst u;clear k f h;go_wp2_with fail;go_roundg (7-(a+1))
      case measure=>rw[j.o];omega
      case rel=>exact⟨a+1,rfl,O,Xj,by rw[c.o.1],by rw[c.o.2],rfl⟩
     .have c:Z _:=P.o O
      rw[<-h] at c;have a6:((b:Int)==0)=false:=Xa;clear k f h u;go_wp2_with fail;go_roundg (7-(a+1))
      case measure=>rw[j.o];omega
      case rel=>exact⟨a+1,rfl,O,Xj,by rw[c.o.1],by rw[c.o.2],rfl⟩
  .have M:¬(a:Int)<7:=O
   go_wp2_with fail;go_ret;exact⟨rfl,i.o⟩
def SlC(W:World)(p:Option Addr)(N:Nat)(f:Nat->Int):Prop:=∀j,j<N->∃g,p=some ⟨g,0,none⟩/\W.cell? ⟨g,j,none⟩=some (.int .i64 (f j))
theorem SlC.kept{W W' p N f}(h:SlC W p N f)(k:Kept W W'):SlC W' p N f:=λa d=>by
 obtain⟨b,e,c⟩:=h a d;exact⟨b,e,(k.cell (p:=⟨b,a,none⟩) (B _ _ c)).trans c⟩
theorem SlC.fr{W W' p N g f}(h:SlC W p N f)(k:Fr1 g W W')(d:∀a,p=some ⟨a,0,none⟩->a≠g):SlC W' p N f:=λe i=>by
 obtain⟨a,b,c⟩:=h e i;exact⟨a,b,(k.cell (B _ _ c) (d a b)).trans c⟩
theorem SlC.lat{W p N c f}(h:SlC W p N f):LAt W .i64 (.slice p ((List.range N).map f).length c) ((List.range N).map f):=by
 have b:((List.range N).map f).length=N:=by rw[List.length_map,List.length_range]
 refine⟨⟨_,_,rfl⟩,λl m d e a => ?_⟩
 injection d with g _ _
 rw[b] at a;obtain⟨i,j,k⟩:=h e a;refine⟨i,0,g.symm.trans j,?_⟩;rw[XD,k,G,XQ,Yp a];rfl
theorem SlC.at{W p N f}(h:SlC W p N f)(d:0<N):∃a,p=some ⟨a,0,none⟩/\∀j,j<N->W.cell? ⟨a,j,none⟩=some (.int .i64 (f j)):=by
 obtain⟨a,c,_⟩:=h 0 d;refine⟨a,c,λj e => ?_⟩;obtain⟨k,b,g⟩:=h j e;rw[c] at b
 injection b with b
 injection b with i
 subst i;exact g
theorem SlC.of{W lo g N f}(h:bO W lo g N f):SlC W (some ⟨g,0,none⟩) N f:=λa b=>⟨g,rfl,h.2.2 a b⟩
def nA(a:Rd):Nat:=if a.hd.W=0 then 0 else a.hd.W*a.hd.H
def pxA(a:Rd)(j:Nat):Int:=pxP a.rw a.tl a.hd (j/4%a.hd.W) (j/4/a.hd.W) (j%4)
def shA(a:Rd)(j:Nat):Int:=shP a.rw a.tl a.hd (j/4%a.hd.W) (j/4/a.hd.W) (j%4)
def SnG(w:World)(a:Rd)(DN:Bool)(n n4:Nat)(e:Ending)(w':World):Prop:=∃v3 v4 v5 v6 v7:Int,∃pk pp ps:Option Addr,e=.returned (.agg #[.int .i64 0,.int .i64 0,.bool DN,.int .i64 v3,.int .i64 v4,.int .i64 v5,.int .i64 v6,.int .i64 v7,.slice pk n n,.slice pp n4 n4,.slice ps n4 n4])/\(SlC w' pk n (knP a.rw a.hd)/\SlC w' pp n4 (pxA a)/\SlC w' ps n4 (shA a))/\(∀q,q=pk\/q=pp\/q=ps->∀g',q=some ⟨g',0,none⟩->w.heap.size<=g')/\Kept w w'
theorem zX{w W g k a}(h:DI w W g ⟨a,k,0,0⟩)(s:cC a)(t:aI a)(u:aS w):Calls prog 24 #[.pointer (some ⟨g,0,none⟩)] W λb i=>SnG W a (decide (a.part=5)) (nA a) (4*nA a) b i:=by
 refine(jb h s t u).mono ?_;rintro b i ⟨k,⟨c,d⟩|⟨c,j,l,m,d,n,o,p⟩⟩
 .replace c:a.hd.W=0:=c
  have e:nA a=0:=I c;rw[e];refine⟨0,0,0,0,0,none,none,none,?_,⟨λq r=>O,λq r=>O,λq r=>O⟩,λc f v b=>(by rcases f with rfl|rfl|rfl<;>cases b),k⟩;rw[d];unfold rX;show Ending.returned (Value.agg #[.int .i64 0,.int .i64 0,.bool (decide ((0:Nat)=0)&&decide (a.part=5)),.int .i64 0,.int .i64 0,.int .i64 0,.int .i64 0,.int .i64 0,.slice none 0 0,.slice none 0 0,.slice none 0 0])=_
  rw[K rfl,YH]
 .replace c:a.hd.W≠0:=c
  have e:nA a=a.hd.W*a.hd.H:=N c;rw[e];refine⟨(a.hd.W:Int),(a.hd.H:Int),(a.hd.K:Int),(a.hd.D:Int),(a.hd.L:Int),some ⟨j,0,none⟩,some ⟨l,0,none⟩,some ⟨m,0,none⟩,?_,⟨SlC.of n,SlC.of o,SlC.of p⟩,?_,k⟩
  .rw[d]
   unfold snW;show Ending.returned (Value.agg #[.int .i64 0,.int .i64 0,.bool (decide ((0:Nat)=0)&&decide (a.part=5)),.int .i64 a.hd.W,.int .i64 a.hd.H,.int .i64 a.hd.K,.int .i64 a.hd.D,.int .i64 a.hd.L,.slice (some ⟨j,0,none⟩) (a.hd.W*a.hd.H) (a.hd.W*a.hd.H),.slice (some ⟨l,0,none⟩) (4*(a.hd.W*a.hd.H)) (4*(a.hd.W*a.hd.H)),.slice (some ⟨m,0,none⟩) (4*(a.hd.W*a.hd.H)) (4*(a.hd.W*a.hd.H))])=_
   rw[K rfl,YH]
  .intro c f v b
   rcases f with rfl|rfl|rfl
   .injection b with b;injection b with b;subst b;exact n.1
   .injection b with b;injection b with b;subst b;exact o.1
   .injection b with b;injection b with b;subst b;exact p.1
theorem wD{W H D K L pal clr pix b}(c:cu W H K D pal clr pix)(e:ev W H D K L pal clr pix b){x y}(g:x<W)(f:y<H):SmK K pix (y*W+x) (b.rw.smp (4*(y*16+x))) (b.rw.smp (4*(y*16+x)+1)) (b.rw.smp (4*(y*16+x)+2)) (b.rw.smp (4*(y*16+x)+3)):=by
 have m:=c.w2;have n:=c.h2;obtain⟨_,_,h⟩:=e.seen.1 x y O O (e.seen.2 x y g f);intro a i;have o:=bI (K:=K);have d:=h a i;replace d:b.rw.smp (4*(y*16+x)+a)=(pix.getD ((y*W+x)*chan K+a) 0).toNat:=d;have j:y*W+x<W*H:=by
  have:(y+1)*W<=H*W:=XS _ f
  rw[YO,Zi,Zk H] at this;omega
 have k:(y*W+x)*chan K+a<pix.length:=by
  rw[c.pixL]
  have:(y*W+x+1)*chan K<=W*H*chan K:=XS _ j
  rw[YO,Zi] at this;omega
 have p:=fF c _ (az k);have l:(b.rw.smp (4*(y*16+x)+a):Int)=pix.getD ((y*W+x)*chan K+a) 0:=by rw[d];omega
 rw[<-l]
 match a,(show a<4 from O) with
 | 0,_=>rfl
 | 1,_=>rfl
 | 2,_=>rfl
 | 3,_=>rfl
theorem uL{W H D K L pal clr pix a b}(f:ev W H D K L pal clr pix b)(d:vP W H D K L pal clr pix b a){x y}(h:x<16)(i:y<16)(c:a.rw.known (y*16+x)=true):x<W/\y<H/\pxP a.rw a.tl a.hd x y=pxP b.rw b.tl b.hd x y:=by
 obtain⟨g,e⟩:=d.mono _ c;obtain⟨j,k,_⟩:=f.seen.1 x y h i g;refine⟨j,k,?_⟩;have l:a.hd.W≠0:=λm=>by rw[d.none m] at c;exact absurd c Xh
 unfold pxP;rw[I c,I g,d.tab _ c,d.hd l,f.hd,e 1 O,e 2 O,e 3 O]
 have:=e 0 O
 rw[X5] at this;rw[this]
theorem sw{W H D K L pal clr pix a b}(e:cu W H K D pal clr pix)(c:ev W H D K L pal clr pix b)(f:vP W H D K L pal clr pix b a)x y i(h:x<16)(j:y<16):0<=pxP a.rw a.tl a.hd x y i/\pxP a.rw a.tl a.hd x y i<=65535:=by
 cases d:a.rw.known (y*16+x) with
 | false=>
  unfold pxP;rw[d,N Xh];exact⟨Int.le_refl _,by show(0:Int)<=65535;omega⟩
 | true=>
  obtain⟨k,g,l⟩:=uL c f h j d;rw[l];unfold pxP;rw[I ((f.mono _ d).1),c.hd];have m:y*W+x<W*H:=by
   have:(y+1)*W<=H*W:=XS _ g
   rw[YO,Zi,Zk H] at this;omega
  exact vG e c.tab c.show'.clear c.palI m (wD e c k g) i
theorem ET r h j:knP r h j=0\/knP r h j=1:=by unfold knP;split<;>simp
theorem oU r h j:knP r h j=1↔r.known (j/h.W*16+j%h.W)=true:=by
 unfold knP;split
 .rename_i a;exact⟨λ_=>a,λ_=>rfl⟩
 .rename_i a;exact⟨λb=>absurd b Xh,λb=>absurd b a⟩
theorem Hg{W H D K L pal clr pix a b}(d:cu W H K D pal clr pix)(u:L<=1)(n:ev W H D K L pal clr pix b)(h:vP W H D K L pal clr pix b a)s0 s1 s2 s3 s4 s5 s6 s7 pk pp ps w(o:SlC w pk (nA a) (knP a.rw a.hd))(p:SlC w pp (4*nA a) (pxA a))(q:SlC w ps (4*nA a) (shA a)):Calls prog 26 #[.agg #[s0,s1,s2,s3,s4,s5,s6,s7,.slice pk (nA a) (nA a),.slice pp (4*nA a) (4*nA a),.slice ps (4*nA a) (4*nA a)]] w λv x=>v=.returned (.bool true)/\Kept w x:=by
 by_cases i:a.hd.W=0
 .have j:nA a=0:=I i
  rw[j];exact CW _ _ _ _ _ _ _ _ _ _ _ w
 .have k:=h.hd i
  have j:nA a=W*H:=by unfold nA;rw[N i,k]
  have r:=d.w1;have y:=d.h1;have z:=Nat.mul_pos r y;have A:W*H<=256:=Xz (XF d.w2 d.h2) Xh;have Z:=d.w2;have a0:=d.h2;rw[j] at o p q ⊢;obtain⟨B,C,E⟩:=o.at z;obtain⟨F,G,J⟩:=p.at O;obtain⟨M,P,Q⟩:=q.at O;rw[C,G,P];have l:∀c,c<4*(W*H)->c/4%W<W/\c/4/W<H:=λc e=>⟨YD _ r,YN O⟩
  have f:a.hd.W=W:=by rw[k]
  have R:a.hd.L=L:=by rw[k]
  refine Hf (W*H) (4*(W*H)) B F M s0 s1 s2 s3 s4 s5 s6 s7 _ _ _ w A rfl E J Q (λc _=>ET _ _ c) (λc e g => ?_) (λc e g => ?_) (λc e => ?_) (λc e => ?_)
  .have m:¬a.rw.known (c/4/a.hd.W*16+c/4%a.hd.W)=true:=λS=>by rw[(oU _ _ _).2 S] at g;exact absurd g Xh
   unfold pxA pxP;rw[N m]
  .have m:=(oU _ _ _).1 g
   obtain⟨s,t⟩:=l c e;unfold shA pxA;rw[sj (by rw[R];exact u) (by rw[f];omega) (by rw[f];omega) m]
  .obtain⟨s,t⟩:=l c e
   exact sw d n h _ _ _ (by rw[f];omega) (by rw[f];omega)
  .obtain⟨s,t⟩:=l c e
   exact mE (by rw[f];omega) (by rw[f];omega) (λT U V X Y=>sw d n h T U V X Y) _ _
def CF(b:Rd)(wd k:Nat):Nat->Int:=pxP b.rw b.tl b.hd (k%wd) (k/wd)
theorem tA x wd H K D L P V Z pp qp xp fp kp cp pc qc xc fc kc cc pal clr pix fl kl cl k b w(h:Dk w x wd H K D L P V Z pp qp xp fp kp cp pc qc xc fc kc cc pal clr pix fl kl cl)(a:ev wd H D K L pal clr pix b)(d:k<wd*H):Calls prog 29 #[.pointer (some ⟨x,0,none⟩),.int .i64 k] w λe c=>∃f,e=.returned (.slice (some ⟨f,0,none⟩) 4 4)/\(∀g,Kept c g->LAt g .i64 (.slice (some ⟨f,0,none⟩) ((List.range 4).map (CF b wd k)).length 4) ((List.range 4).map (CF b wd k)))/\Kept w c:=by
 have i:=h.im;have j:k%wd<wd:=YD _ i.w1;have l:=YN d;have n:k/wd*wd+k%wd=k:=by rw[Zk];exact Nat.div_add_mod k wd
 have m:=wD i a j l;rw[n] at m
 have:=iP x wd H K D L P V Z k _ _ _ _ pp qp xp fp kp cp pc qc xc fc kc cc pal clr pix fl kl cl b.tl w h a.tab d m
 have o:CF b wd k=dY b.tl ⟨wd,H,D,K,L⟩ (b.rw.smp (4*(k/wd*16+k%wd))) (b.rw.smp (4*(k/wd*16+k%wd)+1)) (b.rw.smp (4*(k/wd*16+k%wd)+2)) (b.rw.smp (4*(k/wd*16+k%wd)+3)):=by
  unfold CF pxP;rw[I (a.seen.2 _ _ j l),a.hd]
 rw[o];exact this.mono (λe c p=>p.lat)
theorem Ez x wd H K D L P V Z pp qp xp fp kp cp pc qc xc fc kc cc pal clr pix fl kl cl a b s0 s1 s2 s3 s4 s5 s6 s7 s9 pk ps w(h:Dk w x wd H K D L P V Z pp qp xp fp kp cp pc qc xc fc kc cc pal clr pix fl kl cl)(F:ev wd H D K L pal clr pix b)(G:vP wd H D K L pal clr pix b a)(M:SlC w pk (nA a) (knP a.rw a.hd))(Q:SlC w ps (4*nA a) (shA a)):Calls prog 28 #[.pointer (some ⟨x,0,none⟩),.agg #[s0,s1,s2,s3,s4,s5,s6,s7,.slice pk (nA a) (nA a),s9,.slice ps (4*nA a) (4*nA a)]] w λa0 a1=>a0=.returned (.bool true)/\Kept w a1:=by
 have j:=h.im;have c3:=h.ch.l;have u:=h.c7;by_cases a2:L=0
 .subst a2
  exact B7 x _ _ _ _ _ _ _ _ _ _ _ w u
 have a3:L=1:=O;subst a3;by_cases v:a.hd.W=0
 .have y:nA a=0:=I v
  rw[y];exact zv x pk _ _ _ _ _ _ _ _ _ _ w u
 have k:=G.hd v;have y:nA a=wd*H:=by unfold nA;rw[N v,k]
 have n:=j.w1;have a4:=j.h1;have a5:=Nat.mul_pos n a4;have a6:wd*H<=256:=Xz (XF j.w2 j.h2) Xh;have R:=j.w2;have a7:=j.h2;have o:a.hd.W=wd:=by rw[k]
 rw[y] at M Q ⊢;obtain⟨a8,a9,b0⟩:=Q.at O;have b1:∀e,e<wd*H->e%wd<wd/\e/wd<H:=λe q=>⟨YD _ n,YN q⟩
 refine Ey x wd (wd*H) (4*(wd*H)) pk ps s0 s1 s2 s3 s4 s5 s6 s7 s9 (knP a.rw a.hd) (λe=>shP a.rw a.tl a.hd (e%wd) (e/wd)) w h.c0 u n R a6 a5 rfl M (λf z _ S e q => ?_) (λf z _ S e q=>⟨a8,a9,λr c4 => ?_⟩)
 .obtain⟨c5,c6,c7,c8⟩:=xG f z
  obtain⟨T,U⟩:=b1 e q;have W:∀d c,d<wd->c<H->a.rw.known (c*16+d)=(decide (d%dxP f=0)&&decide (c%dyP f=0)):=λd c l m=>by
   have b2:c*wd+d<wd*H:=by
    have:(c+1)*wd<=H*wd:=XS _ m
    rw[YO,Zi,Zk H] at this;omega
   have s:(c*wd+d)%wd=d:=by rw[Zk,Nat.mul_add_mod,X1 l]
   have t:(c*wd+d)/wd=c:=by rw[Zk,Nat.mul_add_div n,Nat.div_eq_of_lt l,X5]
   have A:=S _ b2;unfold onB at A;rw[s,t] at A;rw[A];have B:=oU a.rw a.hd (c*wd+d);rw[o,s,t] at B;cases p:a.rw.known (c*16+d) with
   | true=>exact(decide_eq_true (B.2 p)).symm
   | false=>exact(J (λb3=>by rw[B.1 b3] at p;exact absurd p Xh)).symm
  obtain⟨d,l⟩:∃d,d=e%wd:=⟨_,rfl⟩;obtain⟨c,m⟩:∃c,c=e/wd:=⟨_,rfl⟩;rw[<-l] at T;rw[<-m] at U;have c9:d%dxP f<=d:=Zg _ _;have b4:c%dyP f<=c:=Zg _ _;obtain⟨i,C⟩:∃i,i=d-d%dxP f:=⟨_,rfl⟩;obtain⟨g,E⟩:∃g,g=c-c%dyP f:=⟨_,rfl⟩;have b5:g*wd+i<wd*H:=by
   have:(g+1)*wd<=H*wd:=XS _ O
   rw[YO,Zi,Zk H] at this;omega
  have s:(g*wd+i)%wd=i:=by rw[Zk,Nat.mul_add_mod,X1 O]
  have t:(g*wd+i)/wd=g:=by rw[Zk,Nat.mul_add_div n,Nat.div_eq_of_lt O,X5]
  have b6:i%dxP f=0:=by
   have:=Nat.div_add_mod d (dxP f)
   rw[C,show d-d%dxP f=dxP f*(d/dxP f) from O];exact Nat.mul_mod_right _ _
  have b7:g%dyP f=0:=by
   have:=Nat.div_add_mod c (dyP f)
   rw[E,show c-c%dyP f=dyP f*(c/dyP f) from O];exact Nat.mul_mod_right _ _
  have p:a.rw.known (g*16+i)=true:=by rw[W i g O O,decide_eq_true b6,decide_eq_true b7];rfl
  have b8:shP a.rw a.tl a.hd (e%wd) (e/wd)=CF b wd (g*wd+i):=by
   rw[<-l,<-m,CT (by rw[k]) z (by rw[o];exact T) (by rw[k];exact U) (by rw[o];exact R) (by rw[k];exact a7) (λb9 c0 X Y=>W b9 c0 (by rw[o] at X;exact X) (by rw[k] at Y;exact Y)),<-C,<-E,(uL F G O O p).2.2];unfold CF;rw[s,t]
  refine⟨g*wd+i,by rw[<-m];exact b4,?_,λc1 c2 => ?_⟩
  .unfold Hq
   rw[<-l,<-m,<-E,C];omega
  .have:=tA x wd H K D 1 P V Z pp qp xp fp kp cp pc qc xc fc kc cc pal clr pix fl kl cl (g*wd+i) b c1 (h.kept c2) F b5
   rw[<-b8] at this;exact this
 .have:=b0 (4*e+r) O
  rw[this];unfold shA;rw[show(4*e+r)/4=e from O,show(4*e+r)%4=r from O,o]
theorem Hh{wd H D K L pal clr pix a b}(r:ev wd H D K L pal clr pix b)(f:vP wd H D K L pal clr pix b a)(e:cu wd H K D pal clr pix)(q:a.hd.W≠0)i g g' m w(s:i<wd*H)(E:m=4*(wd*H))(t:SlC w (some ⟨g,0,none⟩) m (pxA a))(u:LAt w .i64 (.slice (some ⟨g',0,none⟩) ((List.range 4).map (CF b wd i)).length 4) ((List.range 4).map (CF b wd i))):Calls prog 27 #[.slice (some ⟨g,4*i,none⟩) 4 (m-4*i),.slice (some ⟨g',0,none⟩) 4 4] w λh j=>(∃k:Bool,h=.returned (.bool k)/\(knP a.rw a.hd i=1->k=true))/\Kept w j:=by
 have F:=e.w2;have G:=e.h2;have v:=e.w1;have l:a.hd.W=wd:=by rw[f.hd q]
 have n:((List.range 4).map (CF b wd i)).length=4:=rfl;have o:((List.range 4).map (λc=>pxA a (4*i+c))).length=4:=rfl;have x:LAt w .i64 (.slice (some ⟨g,4*i,none⟩) ((List.range 4).map (λc=>pxA a (4*i+c))).length (m-4*i)) ((List.range 4).map (λc=>pxA a (4*i+c))):=dW (λy I=>by
  obtain⟨J,d,z⟩:=t (4*i+y) O
  injection d with d
  injection d with d
  subst d;exact z)
 refine(bY (some ⟨g,4*i,none⟩) (some ⟨g',0,none⟩) 4 4 (m-4*i) 4 _ _ w o.symm n.symm x u (by rw[o];omega) (by rw[n];omega)).mono ?_;rintro h j ⟨rfl,A⟩;refine⟨⟨_,rfl,λB=>decide_eq_true (List.map_congr_left (λc C => ?_))⟩,A⟩;have M:=Yi.1 C;have p:=(oU a.rw a.hd i).1 B;have N:i%wd<wd:=YD _ v;have P:=YN s;rw[l] at p;unfold pxA CF;rw[show(4*i+c)/4=i from O,show(4*i+c)%4=c from O,l,(uL r f O O p).2.2]
