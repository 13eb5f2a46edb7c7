import Derived.Test.YtbedkdnphobmlaaGreatDoorProg
import Derived.Test.YtbedkdnphobmlaaGreatDoorUaa00
import Derived.Test.YtbedkdnphobmlaaGreatDoorUaa01
import Derived.Test.YtbedkdnphobmlaaGreatDoorUaa04
import Derived.Test.YtbedkdnphobmlaaGreatDoorUaa05
import Derived.Test.YtbedkdnphobmlaaGreatDoorUaa07
import Derived.Test.YtbedkdnphobmlaaGreatDoorUaa08
import Derived.Test.YtbedkdnphobmlaaGreatDoorUaa09
import Derived.Test.YtbedkdnphobmlaaGreatDoorUaa10
import Derived.Test.YtbedkdnphobmlaaGreatDoorUaa11
import Derived.Test.YtbedkdnphobmlaaGreatDoorUaa12
set_option linter.all false
namespace Go.Proofs.YtbedkdnphobmlaaGreatDoor
open Go.RowKit Px Tryz
theorem rP{f s n i}(c:1<=s)(a:i<dh f s n):f+i*s<n:=by
 unfold dh at a
 split at a
 .omega
 .have b:i<=(n-f-1)/s:=O
  have d:i*s<=(n-f-1)/s*s:=XS _ b;have e:=Nat.div_mul_le_self (n-f-1) s;omega
theorem BM L:1<=av L/\av L<=7:=by unfold av;split<;>omega
structure RwJ (r:Rw):Prop where
 ok:eU r
 dd:okD r.hd.D
 col:r.columns<=16
 lns:r.lines<=16
 line:r.line<=16
 size:r.size<=128
 tk:r.taken<=128
 p0:0<=r.pass
 p7:r.pass<=7
 colours:r.colours<=256
 geo:aN r=false->r.columns=dh r.ps.cf r.ps.cs r.hd.W/\r.line<dh r.ps.rf r.ps.rs r.hd.H/\r.lines=dh r.ps.rf r.ps.rs r.hd.H
theorem RwJ.good{r}(j:RwJ r):eH r:=by
 have a:=cr r.hd.L r.pass.toNat;refine⟨⟨j.ok,j.dd,j.col,j.lns,j.line,?_,j.size,by have:=j.tk;omega,j.p0,j.p7,j.colours⟩,j.tk,λc => ?_⟩
 .have f:=XF j.col (iA j.ok)
  omega
 .obtain⟨d,e,g⟩:=j.geo c
  refine⟨λh b => ?_,?_⟩
  .rw[d] at b
   exact Xq (rP a.2.1 b) j.ok.W
  .exact Xq (rP a.2.2.2.2.2.1 e) j.ok.H
structure NpJ (r q:Rw):Prop where
 hd:q.hd=r.hd
 colours:q.colours=r.colours
 taken:q.taken=r.taken
 col:q.columns<=16
 lns:q.lines<=16
 p0:0<=q.pass
 p7:q.pass<=(av r.hd.L:Int)
 geo:aN q=false->q.columns=dh q.ps.cf q.ps.cs r.hd.W/\0<dh q.ps.rf q.ps.rs r.hd.H/\q.lines=dh q.ps.rf q.ps.rs r.hd.H
theorem npJ:∀(n:Nat) (r:Rw) (p:Nat),r.pass=(p:Int)->p<=av r.hd.L->av r.hd.L<p+n->r.hd.W<=16->r.hd.H<=16->r.columns<=16->r.lines<=16->NpJ r (cj n r)
 | 0,r,p,c,k,l,_,_,_,_=>O
 | n+1,r,p,c,k,l,d,e,hc,m=>by
  have f:=cr r.hd.L r.pass.toNat;have o:cj (n+1) r=if r.pass<(av r.hd.L:Int) then(if 0<(bB r).columns/\0<(bB r).lines then bB r else cj n {bB r with pass:=r.pass+1}) else r:=rfl
  have g:(bB r).columns<=16:=jw f.2.1 d;have h:(bB r).lines<=16:=jw f.2.2.2.2.2.1 e;rw[o];by_cases i:r.pass<(av r.hd.L:Int)
  .rw[I i]
   by_cases b:0<(bB r).columns/\0<(bB r).lines
   .rw[I b]
    exact⟨rfl,rfl,rfl,g,h,by show 0<=r.pass;omega,by show r.pass<=_;omega,λ_=>⟨rfl,b.2,rfl⟩⟩
   .rw[N b]
    have a:=npJ n {bB r with pass:=r.pass+1} (p+1) (by show r.pass+1=((p+1:Nat):Int);rw[c];omega) (by show p+1<=av r.hd.L;omega) (by show av r.hd.L<p+1+n;omega) d e g h;exact⟨a.hd,a.colours,a.taken,a.col,a.lns,a.p0,a.p7,a.geo⟩
  .rw[N i]
   refine⟨rfl,rfl,rfl,hc,m,O,O,λj => ?_⟩;unfold aN at j
   have:=of_decide_eq_false j
   omega
theorem Ax{r}(b:eU r)(g:okD r.hd.D)(h:r.columns<=16)(i:r.lines<=16)(m:r.taken<=128)(n:r.colours<=256)(p:Nat)(j:r.pass+1=(p:Int))(k:p<=av r.hd.L):RwJ r.next:=by
 have o:=BM r.hd.L;have c:=npJ 8 {r with pass:=r.pass+1} p j k (by show av r.hd.L<p+8;omega) b.W b.H h i;have d:=qy 8 {r with pass:=r.pass+1} ⟨b.W,b.H,b.D,b.K,b.L,b.filter,b.row,b.above⟩;unfold Rw.next;generalize cj 8 {r with pass:=r.pass+1}=a at *;have f:a.hd=r.hd:=c.hd;have q:a.colours=r.colours:=c.colours;have s:a.taken=r.taken:=c.taken;have t:a.pass<=(av r.hd.L:Int):=c.p7;have e:=c.geo;replace e:aN a=false->a.columns=dh a.ps.cf a.ps.cs r.hd.W/\0<dh a.ps.rf a.ps.rs r.hd.H/\a.lines=dh a.ps.rf a.ps.rs r.hd.H:=e;rw[<-f] at e;refine⟨⟨d.W,d.H,d.D,d.K,d.L,d.filter,d.row,λu=>Xp⟩,by show okD a.hd.D;rw[f];exact g,c.col,c.lns,by show 0<=16;omega,?_,by show a.taken<=128;omega,c.p0,by show a.pass<=7;omega,by show a.colours<=256;omega,λl=>e l⟩;have v:=XF c.col (iA d);show(a.columns*ck a.hd+7)/8<=128
 omega
theorem RwJ.start{h C}(a:h.W<=16)(b:h.H<=16)(c:h.D<=16)(d:h.K<=6)(e:h.L<=1)(f:okD h.D)(g:C<=256):RwJ (Rw.start h C) :=
 Ax (r:=rw0 h C) ⟨a,b,c,d,e,Xp,λi=>Xp,λi=>Xp⟩ f (by show 0<=16;omega) (by show 0<=16;omega) (by show 0<=128;omega) g 0 (by show(-1:Int)+1=0;decide) O
theorem eU.lay{r}(h:eU r)i x:eU (r.lay i x):=⟨h.W,h.H,h.D,h.K,h.L,h.filter,λa=>by
 show upd r.row i (lu r i x) a<256
 by_cases b:a=i
 .subst b;rw[upd_same];exact YD _ O
 .rw[upd_ne _ _ _ b];exact h.row a,h.above⟩
theorem RwJ.take{r x}(j:RwJ r)(c:(r.take x).2=0):RwJ (r.take x).1:=by
 unfold Rw.take at c ⊢;by_cases g:aN r=true
 .rw[I g] at c;exact absurd c (by show ¬17=0;omega)
 rw[N g] at c ⊢;have l:aN r=false:=by cases B:aN r with|false=>rfl|true=>exact absurd B g
 have b:=j.ok;by_cases m:r.taken=0
 .rw[I m] at c ⊢
  unfold Rw.takeF at c ⊢;by_cases n:4<x
  .rw[I n] at c;exact absurd c (by show ¬15=0;omega)
  .rw[N n]
   exact⟨⟨b.W,b.H,b.D,b.K,b.L,by show x<256;omega,b.row,b.above⟩,j.dd,j.col,j.lns,j.line,j.size,by show 1<=128;omega,j.p0,j.p7,j.colours,j.geo⟩
 rw[N m] at c ⊢;by_cases o:r.taken+1<=r.size
 .rw[I o]
  have h:eU {r with taken:=r.taken+1}:=⟨b.W,b.H,b.D,b.K,b.L,b.filter,b.row,b.above⟩;have Q:=j.size;exact⟨h.lay _ _,j.dd,j.col,j.lns,j.line,j.size,by show r.taken+1<=128;omega,j.p0,j.p7,j.colours,j.geo⟩
 rw[N o] at c ⊢;obtain⟨a,d⟩:∃a,a=({r with taken:=r.taken+1}:Rw).lay (r.taken-1) x:=⟨_,rfl⟩;have C:eU a:=by
  have h:eU {r with taken:=r.taken+1}:=⟨b.W,b.H,b.D,b.K,b.L,b.filter,b.row,b.above⟩;rw[d];exact h.lay _ _
 have p:okD a.hd.D:=by rw[d];exact j.dd
 have q:a.columns<=16:=by rw[d];exact j.col
 have s:a.lines<=16:=by rw[d];exact j.lns
 have D:a.size<=128:=by rw[d];exact j.size
 have E:0<=a.pass:=by rw[d];exact j.p0
 have F:a.pass<=7:=by rw[d];exact j.p7
 have t:a.colours<=256:=by rw[d];exact j.colours
 have u:aN a=false:=by rw[d];exact l
 have v:a.columns=dh a.ps.cf a.ps.cs a.hd.W/\a.line<dh a.ps.rf a.ps.rs a.hd.H/\a.lines=dh a.ps.rf a.ps.rs a.hd.H:=by rw[d];exact j.geo l
 rw[<-d] at c ⊢;clear d;unfold Rw.endRow at c ⊢;by_cases w:a.bad=true
 .rw[I w] at c;exact absurd c (by show ¬16=0;omega)
 rw[N w];show RwJ (if a.lines<=a.line+1 then a.laid.next else a.laid)
 obtain⟨G,H,J,R,K,L,M,S,T,U,V⟩:=dV a a.columns;have y:=xn C;have e:a.laid.hd=a.hd:=G;have z:a.laid.colours=a.colours:=H;have f:a.laid.pass=a.pass:=J;have i:a.laid.columns=a.columns:=K;have k:a.laid.lines=a.lines:=L;have O:a.laid.size=a.size:=M;have W:a.pass<(av a.hd.L:Int):=by
  unfold aN at u
  have:=of_decide_eq_false u
  omega
 by_cases A:a.lines<=a.line+1
 .rw[I A]
  exact Ax y (by rw[e];exact p) (by rw[i];exact q) (by rw[k];exact s) (by show 0<=128;omega) (by rw[z];exact t) (a.pass.toNat+1) (by rw[f];omega) (by rw[e];omega)
 .rw[N A]
  have P:a.laid.ps=a.ps:=by show ae a.laid.hd.L a.laid.pass.toNat=ae a.hd.L a.pass.toNat;rw[e,f]
  refine⟨y,by rw[e];exact p,by rw[i];exact q,by rw[k];exact s,by show a.line+1<=16;omega,by rw[O];exact D,by show 0<=128;omega,by rw[f];exact E,by rw[f];exact F,by rw[z];exact t,λ_ => ?_⟩;rw[i,k,P,e];refine⟨v.1,?_,v.2.2⟩;show a.line+1<_
  omega
structure StK (s:St):Prop where
 lit:gB s.lit
 dist:gB s.dist
 short:gB s.tb.short
 sym:∀i,s.tb.short.sym i<=18
 len:s.length<=300
 base:s.base<=30000
 win:s.window<=32768
 cnt:s.count<=2078
 hist:∀j,s.hist j<256
 sum:s.sum<4294967296
 sl:∀i,s.tb.sl i<256
 ls:∀i,s.tb.ls i<256
 left:s.left<=65535
structure Wnt (p w:Nat):Prop where
 w0:p=0->w=16
 w1:p=1->w=3
 w2:p=2->w=32
 w3:p=3->w=8
 w4:p=4->w=14
 w5:p=5->w=3
 w6:p=6->1<=w/\w<=7
 w7:p=7->1<=w/\w<=5
 w8:p=8->1<=w/\w<=13
 w9:p=9->w=32
structure StP (s:St):Prop where
 part:s.part<=13
 want:Wnt s.part s.wanted
 left:s.part=3->1<=s.left
 l7:s.part=7->s.length<=258
 t5:s.part=5->s.tb.told<s.tb.shorts/\s.tb.shorts<=19
 tb:s.part=5\/s.part=6\/s.part=11->257<=s.tb.literals/\s.tb.literals<=286/\1<=s.tb.distances/\s.tb.distances<=30
 td:s.part=6\/s.part=11->s.tb.told<=s.tb.literals+s.tb.distances
 rep:s.part=6->s.tb.rep=16\/s.tb.rep=17\/s.tb.rep=18
structure PtJ (p:Pt):Prop where
 bits:p.bits<=14
 offset:p.offset<2^p.bits
 ahead:p.ahead<=288*p.bits
structure StJ (s:St):Prop where
 k:StK s
 p:StP s
 got:s.part<=9->s.got<s.wanted
 num:s.number<2^s.got
 path:PtJ s.path
theorem PtJ.ok{p}(h:PtJ p):Cd p:=by
 have a:=h.bits;have b:=h.offset;have c:=h.ahead;have d:2^p.bits<=2^14:=XH O a;exact⟨O,O,O⟩
theorem CS.step_more{c p t}(a:gB c)(b:PtJ p)(g:t<=1)(h:(c.step p t).2 = -1):PtJ (c.step p t).1:=by
 unfold CS.step at h ⊢;by_cases d:c.longest<p.bits+1\/15<p.bits+1
 .rw[I d] at h;exact absurd h (by show ¬(-2:Int) = -1;decide)
 rw[N d] at h ⊢;by_cases e:2*p.offset+t<c.count (p.bits+1)
 .rw[I e] at h
  replace h:c.symbol (p.ahead+(2*p.offset+t)) = -1:=h;unfold CS.symbol at h
  split at h
  .exact absurd h Xh
  .omega
 rw[N e] at h ⊢;replace h:(if p.bits+1=c.longest then(-2:Int) else -1) = -1:=h;by_cases f:p.bits+1=c.longest
 .rw[I f] at h;exact absurd h Xh
 have i:=a.longest;have j:=a.count (p.bits+1) O;have k:=b.offset;have l:=b.ahead;refine⟨by show p.bits+1<=14;omega,?_,?_⟩
 .show 2*p.offset+t-c.count (p.bits+1)<2^(p.bits+1)
  rw[Ya];omega
 .show p.ahead+c.count (p.bits+1)<=288*(p.bits+1)
  omega
theorem CS.step_lo(c:CS)p t: -2<=(c.step p t).2:=by
 unfold CS.step;split
 .show(-2:Int) <= -2;decide
 split
 .show(-2:Int)<=c.symbol _
  unfold CS.symbol;split
  .decide
  .omega
 .show(-2:Int)<=(if p.bits+1=c.longest then(-2:Int) else -1)
  split<;>decide
theorem CS.step_hi(c:CS)p t M(h:∀a,a<288->c.sym a<=M):(c.step p t).2<=M:=by
 unfold CS.step;split
 .show(-2:Int)<=M;omega
 split
 .show c.symbol _<=M
  unfold CS.symbol;split
  .omega
  .rename_i b
   have:=h (p.ahead+(2*p.offset+t)) O
   omega
 .show(if p.bits+1=c.longest then(-2:Int) else -1)<=M
  split<;>omega
theorem StK.enter{s}(k:StK s)p w:StK (s.enter p w):=⟨k.lit,k.dist,k.short,k.sym,k.len,k.base,k.win,k.cnt,k.hist,k.sum,k.sl,k.ls,k.left⟩
theorem ik{s p w}(k:StK s)(q:StP (s.enter p w)):StJ (s.enter p w):=by
 refine⟨k.enter p w,q,λc => ?_,by show 0<2^0;decide,⟨by show 0<=14;omega,by show 0<2^0;decide,by show 0<=288*0;omega⟩⟩;show 0<w
 have b:=q.want;replace b:Wnt p w:=b;replace c:p<=9:=c
 have:p=0\/p=1\/p=2\/p=3\/p=4\/p=5\/p=6\/p=7\/p=8\/p=9:=O
 rcases this with a|a|a|a|a|a|a|a|a|a
 .have:=b.w0 a;omega
 .have:=b.w1 a;omega
 .have:=b.w2 a;omega
 .have:=b.w3 a;omega
 .have:=b.w4 a;omega
 .have:=b.w5 a;omega
 .have:=b.w6 a;omega
 .have:=b.w7 a;omega
 .have:=b.w8 a;omega
 .have:=b.w9 a;omega
theorem eo{s p w}(k:StK s)(b:p<=13)(c:Wnt p w)(d:p≠3)(e:p≠5)(f:p≠6)(g:p≠7)(h:p≠11):StJ (s.enter p w) :=
 ik k ⟨b,c,λa=>absurd a d,λa=>absurd a g,λa=>absurd a e,λa=>by rcases a with a|a|a<;>exact absurd a (by assumption),λa=>by rcases a with a|a<;>exact absurd a (by assumption),λa=>absurd a f⟩
theorem Wnt.any{p w}(h:10<=p):Wnt p w:=⟨λa=>O,λa=>O,λa=>O,λa=>O,λa=>O,λa=>O,λa=>O,λa=>O,λa=>O,λa=>O⟩
theorem Wnt.w_1:Wnt 1 3:=⟨O,O,O,O,O,O,O,O,O,O⟩
theorem Wnt.w_2:Wnt 2 32:=⟨O,O,O,O,O,O,O,O,O,O⟩
theorem Wnt.w_3:Wnt 3 8:=⟨O,O,O,O,O,O,O,O,O,O⟩
theorem Wnt.w_4:Wnt 4 14:=⟨O,O,O,O,O,O,O,O,O,O⟩
theorem Wnt.w_5:Wnt 5 3:=⟨O,O,O,O,O,O,O,O,O,O⟩
theorem Wnt.w_6{w}(a:1<=w)(b:w<=7):Wnt 6 w:=⟨O,O,O,O,O,O,O,O,O,O⟩
theorem Wnt.w_7{w}(a:1<=w)(b:w<=5):Wnt 7 w:=⟨O,O,O,O,O,O,O,O,O,O⟩
theorem Wnt.w_8{w}(a:1<=w)(b:w<=13):Wnt 8 w:=⟨O,O,O,O,O,O,O,O,O,O⟩
theorem Wnt.w_9:Wnt 9 32:=⟨O,O,O,O,O,O,O,O,O,O⟩
theorem Wnt.w_0:Wnt 0 16:=⟨O,O,O,O,O,O,O,O,O,O⟩
theorem lR:gB oC:=⟨λ_ _=>by show 0<=288;omega,λ_ _=>by show 0<288;omega,by show 0<=288;omega,by show 0<=15;omega⟩
theorem StJ.start:StJ St.start:=by
 refine eo (s:=st0 1) ⟨lR,lR,lR,λ_=>by show 0<=18;omega,by show 0<=300;omega,by show 0<=30000;omega,by show 0<=32768;omega,by show 0<=2078;omega,λ_=>Xp,by show 1<4294967296;omega,λ_=>Xp,λ_=>Xp,by show 0<=65535;omega⟩ O Wnt.w_0 O O O O O
theorem DX:gB iT:=by
 refine⟨λa _ => ?_,λa b => ?_,Xh,Xh⟩
 .show kP a<=288;unfold kP;split<;>(try split)<;>(try split)<;>omega
 .show cI a<288;unfold cI;split<;>(try split)<;>(try split)<;>omega
theorem DY:gB iU:=by
 refine⟨λa _ => ?_,λa b => ?_,Xh,Xh⟩
 .show(if a=5 then 32 else 0)<=288;split<;>omega
 .show(if a<32 then a else 0)<288;split<;>omega
theorem kQ{s}(k:StK s):StJ s.endBlock:=by
 unfold St.endBlock;split
 .exact eo (s:={s with skip:=true}) ⟨k.lit,k.dist,k.short,k.sym,k.len,k.base,k.win,k.cnt,k.hist,k.sum,k.sl,k.ls,k.left⟩ O Wnt.w_9 O O O O O
 .exact eo k O Wnt.w_1 O O O O O
theorem I6{s}(k:StK s){x}(c:x<256)(d:s.count<2078):StK (s.give x) :=
 ⟨k.lit,k.dist,k.short,k.sym,k.len,k.base,k.win,by show s.count+1<=2078;omega,λa=>by
  show upd s.hist s.count x a<256
  by_cases b:a=s.count
  .rw[b,upd_same];exact c
  .rw[upd_ne _ _ _ b];exact k.hist a,vO _ _,k.sl,k.ls,k.left⟩
theorem lM{s r x}(k:StK s)(j:RwJ r)(d:x<256)(a:(aB s r x).2.2=0):aB s r x=(s.give x,(r.take x).1,0)/\StK (s.give x)/\RwJ (r.take x).1/\s.count<2078:=by
 unfold aB at a ⊢;by_cases b:(r.take x).2=0
 .rw[I b] at a ⊢
  by_cases c:2078<=s.count
  .rw[I c] at a;exact absurd a (by show ¬17=0;omega)
  .rw[N c];exact⟨rfl,I6 k d O,j.take b,O⟩
 .rw[N b] at a;exact absurd a b
theorem jY:∀(n D:Nat) (s:St) (r:Rw),StK s->RwJ r->D<=s.count->eW n D s r/\((bT n D s r).2.2=0->StJ (bT n D s r).1/\RwJ (bT n D s r).2.1)
 | 0,D,s,r,k,j,e=>⟨trivial,λ_=>⟨eo k O (Wnt.any O) O O O O O,j⟩⟩
 | n+1,D,s,r,k,j,e=>by
  have f:=k.hist (s.count-D);refine⟨⟨⟨j.good,k.sum,k.cnt,e,k.hist⟩,λa => ?_⟩,?_⟩
  .obtain⟨b,c,d,g⟩:=lM k j f a
   rw[b];exact(jY n D _ _ c d (by show D<=s.count+1;omega)).1
  .unfold bT
   by_cases a:(aB s r (s.hist (s.count-D))).2.2=0
   .rw[I a]
    obtain⟨b,c,d,g⟩:=lM k j f a;rw[b];exact(jY n D _ _ c d (by show D<=s.count+1;omega)).2
   .rw[N a]
    exact λh=>absurd h a
theorem lT{s r D}(k:StK s)(j:RwJ r):(1<=D->D<=s.count->D<=s.window->eW s.length D s r)/\((cz s r D).2.2=0->StJ (cz s r D).1/\RwJ (cz s r D).2.1):=by
 refine⟨λ_ b _=>(jY _ _ s r k j b).1,λa => ?_⟩;unfold cz at a ⊢;by_cases b:D<1\/s.count<D\/s.window<D
 .rw[I b] at a;exact absurd a (by show ¬14=0;omega)
 .rw[N b] at a ⊢
  exact(jY _ _ s r k j O).2 a
theorem D6{s r σ}(k:StK s)(j:RwJ r)(d:σ ≠ -1)(a:(cJ s r σ).2.2=0):StJ (cJ s r σ).1/\RwJ (cJ s r σ).2.1:=by
 unfold cJ at a ⊢;rw[N d] at a ⊢;by_cases b:σ<0\/30<=σ
 .rw[I b] at a;exact absurd a (by show ¬13=0;omega)
 rw[N b] at a ⊢;have e:=xA σ.toNat O;by_cases c:σ.toNat/2-1=0
 .rw[I c] at a ⊢
  exact(lT k j).2 a
 .rw[N c]
  refine⟨eo (s:={s with base:=fQ.getD σ.toNat 0}) ⟨k.lit,k.dist,k.short,k.sym,k.len,by show fQ.getD σ.toNat 0<=30000;omega,k.win,k.cnt,k.hist,k.sum,k.sl,k.ls,k.left⟩ O (Wnt.w_8 O O) O O O O O,j⟩
theorem Ja{s n}(k:StK s)(h:n<29):StJ (s.copy n):=by
 have b:=xg n h;unfold St.copy;have c:StK {s with length:=fa.getD n 0}:=⟨k.lit,k.dist,k.short,k.sym,by show fa.getD n 0<=300;omega,k.base,k.win,k.cnt,k.hist,k.sum,k.sl,k.ls,k.left⟩;split
 .exact eo c O (Wnt.any O) O O O O O
 .rename_i d
  refine ik c ⟨by show 7<=13;omega,Wnt.w_7 (by show 1<=gT.getD n 0;omega) b.2.2,λa=>absurd a (by show ¬7=3;omega),λ_=>b.2.1,λa=>absurd a (by show ¬7=5;omega),λa=>absurd a (by show ¬(7=5\/7=6\/7=11);omega),λa=>absurd a (by show ¬(7=6\/7=11);omega),λa=>absurd a (by show ¬7=6;omega)⟩
theorem z4 f N(a:0<N)i:(cw f N).sym i<N:=uU f _ _ N (λ_=>a) N (E _) i
theorem uX{s}(k:StK s)(f:257<=s.tb.literals)(g:s.tb.literals<=286)(h:s.tb.literals<s.tb.told)(i:s.tb.told<=s.tb.literals+30)(a:s.makeCodes.2=0):StJ s.makeCodes.1:=by
 have c:StK s.mkLit.mkDist:=⟨iJ _ _ O O,iJ _ _ (by show 0<s.tb.told-s.tb.literals;omega) (by show s.tb.told-s.tb.literals<=288;omega),k.short,k.sym,k.len,k.base,k.win,k.cnt,k.hist,k.sum,k.sl,k.ls,k.left⟩;unfold St.makeCodes at a ⊢;generalize s.mkLit.mkDist=j at *;split
 .rename_i b;rw[I b] at a;exact absurd a (by show ¬12=0;omega)
 rename_i d
 rw[N d] at a;split
 .rename_i b;rw[I b] at a;exact absurd a (by show ¬12=0;omega)
 rename_i e
 rw[N e] at a;split
 .rename_i b;rw[I b] at a;exact absurd a (by show ¬12=0;omega)
 exact eo c O (Wnt.any O) O O O O O
theorem AY:∀(n x:Nat) (s:St),StK s->x<256->StK (St.layN n x s)/\(St.layN n x s).tb.literals=s.tb.literals/\(St.layN n x s).tb.distances=s.tb.distances/\(St.layN n x s).tb.told=s.tb.told+n
 | 0,_,s,k,_=>⟨k,rfl,rfl,rfl⟩
 | n+1,x,s,k,b=>by
  have d:StK (s.lay1 x):=⟨k.lit,k.dist,k.short,k.sym,k.len,k.base,k.win,k.cnt,k.hist,k.sum,k.sl,λa=>by
   show upd s.tb.ls s.tb.told x a<256
   by_cases c:a=s.tb.told
   .rw[c,upd_same];exact b
   .rw[upd_ne _ _ _ c];exact k.ls a,k.left⟩
  obtain⟨e,f,g,h⟩:=AY n x (s.lay1 x) d b;refine⟨e,f,g,h.trans ?_⟩;show s.tb.told+1+n=_
  omega
theorem Dw{s x n}(k:StK s)(f:x<256)(g:257<=s.tb.literals)(h:s.tb.literals<=286)(i:1<=s.tb.distances)(j:s.tb.distances<=30)(c:(s.lay x n).2=0):StJ (s.lay x n).1:=by
 unfold St.lay at c ⊢;by_cases a:s.tb.literals+s.tb.distances<s.tb.told+n
 .rw[I a] at c;exact absurd c (by show ¬12=0;omega)
 rw[N a] at c ⊢;obtain⟨d,l,m,o⟩:=AY n x s k f;generalize St.layN n x s=b at *;by_cases e:b.tb.told<s.tb.literals+s.tb.distances
 .rw[I e]
  refine ik d ⟨by show 11<=13;omega,Wnt.any (by show 10<=11;omega),λa=>absurd a (by show ¬11=3;omega),λa=>absurd a (by show ¬11=7;omega),λa=>absurd a (by show ¬11=5;omega),λ_ => ?_,λ_ => ?_,λa=>absurd a (by show ¬11=6;omega)⟩
  .show 257<=b.tb.literals/\b.tb.literals<=286/\1<=b.tb.distances/\b.tb.distances<=30
   omega
  .show b.tb.told<=b.tb.literals+b.tb.distances
   omega
 .rw[N e] at c ⊢
  exact uX d O O O O c
theorem StK.setRep{s}(k:StK s)σ:StK (s.setRep σ):=⟨k.lit,k.dist,k.short,k.sym,k.len,k.base,k.win,k.cnt,k.hist,k.sum,k.sl,k.ls,k.left⟩
theorem ra{s w}(k:StK s)(b:257<=s.tb.literals)(c:s.tb.literals<=286)(d:1<=s.tb.distances)(e:s.tb.distances<=30)(f:s.tb.told<=s.tb.literals+s.tb.distances)(g:s.tb.rep=16\/s.tb.rep=17\/s.tb.rep=18)(h:1<=w)(i:w<=7):StJ (s.enter 6 w) :=
 ik k ⟨by show 6<=13;omega,Wnt.w_6 h i,λa=>absurd a (by show ¬6=3;omega),λa=>absurd a (by show ¬6=7;omega),λa=>absurd a (by show ¬6=5;omega),λ_=>⟨b,c,d,e⟩,λ_=>f,λ_=>g⟩
theorem BK{s σ}(k:StK s)(t:iE s.tb)(i : -2<=σ)(j:σ<=18)(h:σ ≠ -1)(a:(s.codeLen σ).2=0):StJ (s.codeLen σ).1:=by
 have b:=k.setRep σ;unfold St.codeLen at a ⊢;rw[N h] at a ⊢;by_cases f:σ = -2
 .rw[I f] at a;exact absurd a (by show ¬13=0;omega)
 rw[N f] at a ⊢;by_cases c:σ=16
 .rw[I c] at a ⊢
  by_cases g:s.tb.told=0
  .rw[I g] at a;exact absurd a (by show ¬12=0;omega)
  .rw[N g]
   exact ra b t.l1 t.l2 t.d1 t.d2 t.td (L c) O O
 rw[N c] at a ⊢;by_cases d:σ=17
 .rw[I d]
  exact ra b t.l1 t.l2 t.d1 t.d2 t.td (R (L d)) O O
 rw[N d] at a ⊢;by_cases e:σ=18
 .rw[I e]
  exact ra b t.l1 t.l2 t.d1 t.d2 t.td (R (R e)) O O
 rw[N e] at a ⊢;exact Dw b O t.l1 t.l2 t.d1 t.d2 a
theorem C3{s v}(k:StK s)(t:iE s.tb)(a:(s.repeat v).2=0):StJ (s.repeat v).1:=by
 unfold St.repeat at a ⊢;by_cases b:s.tb.rep=17
 .rw[I b] at a ⊢;exact Dw k O t.l1 t.l2 t.d1 t.d2 a
 rw[N b] at a ⊢;by_cases c:s.tb.rep=18
 .rw[I c] at a ⊢;exact Dw k O t.l1 t.l2 t.d1 t.d2 a
 rw[N c] at a ⊢;by_cases d:s.tb.told<1
 .rw[I d] at a;exact absurd a (by show ¬12=0;omega)
 rw[N d] at a ⊢;exact Dw k (k.ls _) t.l1 t.l2 t.d1 t.d2 a
theorem CR{s v}(k:StK s)(c:v<256):StK (s.short1 v):=⟨k.lit,k.dist,k.short,k.sym,k.len,k.base,k.win,k.cnt,k.hist,k.sum,λa=>by
 show upd s.tb.sl (cy.getD s.tb.told 0) v a<256
 by_cases b:a=cy.getD s.tb.told 0
 .rw[b,upd_same];exact c
 .rw[upd_ne _ _ _ b];exact k.sl a,k.ls,k.left⟩
theorem ys{s v}(k:StK s)(l:v<256)(e:257<=s.tb.literals)(f:s.tb.literals<=286)(g:1<=s.tb.distances)(h:s.tb.distances<=30)(m:s.tb.shorts<=19)(c:(s.shortLen v).2=0):StJ (s.shortLen v).1:=by
 have b:=CR k l;unfold St.shortLen at c ⊢;by_cases d:s.tb.told+1<s.tb.shorts
 .rw[I d]
  exact ik b ⟨by show 5<=13;omega,Wnt.w_5,λa=>absurd a (by show ¬5=3;omega),λa=>absurd a (by show ¬5=7;omega),λ_=>⟨d,m⟩,λ_=>⟨e,f,g,h⟩,λa=>absurd a (by show ¬(5=6\/5=11);omega),λa=>absurd a (by show ¬5=6;omega)⟩
 rw[N d] at c ⊢;by_cases i:(s.short1 v).short2.tb.short.full=true
 .rw[I i]
  have n:StK {(s.short1 v).short2 with tb:={(s.short1 v).short2.tb with told:=0}}:=⟨b.lit,b.dist,iJ _ _ O O,λj=>by have:=z4 (s.short1 v).tb.sl 19 O j;show(cw (s.short1 v).tb.sl 19).sym j<=18;omega,b.len,b.base,b.win,b.cnt,b.hist,b.sum,b.sl,b.ls,b.left⟩;exact ik n ⟨by show 11<=13;omega,Wnt.any (by show 10<=11;omega),λa=>absurd a (by show ¬11=3;omega),λa=>absurd a (by show ¬11=7;omega),λa=>absurd a (by show ¬11=5;omega),λ_=>⟨e,f,g,h⟩,λ_=>by show 0<=_;omega,λa=>absurd a (by show ¬11=6;omega)⟩
 .rw[N i] at c;exact absurd c (by show ¬12=0;omega)
theorem Eb{s v}(k:StK s)(d:v<16384)(b:(s.counts v).2=0):StJ (s.counts v).1:=by
 unfold St.counts at b ⊢;by_cases a:286<v%32+257\/30<v/32%32+1
 .rw[I a] at b;exact absurd b (by show ¬12=0;omega)
 rw[N a];have c:StK {s with tb:=tbN (v%32+257) (v/32%32+1) (v/1024+4)}:=⟨k.lit,k.dist,lR,λ_=>by show 0<=18;omega,k.len,k.base,k.win,k.cnt,k.hist,k.sum,λ_=>Xp,λ_=>Xp,k.left⟩;refine ik c ⟨by show 5<=13;omega,Wnt.w_5,λa=>absurd a (by show ¬5=3;omega),λa=>absurd a (by show ¬5=7;omega),λ_ => ?_,λ_ => ?_,λa=>absurd a (by show ¬(5=6\/5=11);omega),λa=>absurd a (by show ¬5=6;omega)⟩
 .show 0<v/1024+4/\v/1024+4<=19
  omega
 .show 257<=v%32+257/\v%32+257<=286/\1<=v/32%32+1/\v/32%32+1<=30
  omega
theorem Ir{s v}(k:StK s)(b:v<8)(a:dL v=0):StJ (s.block v):=by
 unfold dL at a;unfold St.block;split
 .exact eo (s:={s with last:=decide (v%2=1),skip:=true}) ⟨k.lit,k.dist,k.short,k.sym,k.len,k.base,k.win,k.cnt,k.hist,k.sum,k.sl,k.ls,k.left⟩ O Wnt.w_2 O O O O O
 split
 .exact eo (s:={s with last:=decide (v%2=1),lit:=iT,dist:=iU}) ⟨DX,DY,k.short,k.sym,k.len,k.base,k.win,k.cnt,k.hist,k.sum,k.sl,k.ls,k.left⟩ O (Wnt.any O) O O O O O
 split
 .exact eo (s:=s.lastIs v) ⟨k.lit,k.dist,k.short,k.sym,k.len,k.base,k.win,k.cnt,k.hist,k.sum,k.sl,k.ls,k.left⟩ O Wnt.w_4 O O O O O
 .split at a
  .omega
  .omega
theorem yi{s v}(k:StK s)(a:(s.takeHead v).2=0):StJ (s.takeHead v).1:=by
 unfold St.takeHead at a ⊢;by_cases b:kY v=true
 .rw[I b]
  have c:2^(v%256/16)<=2^7:=XH O (Yr b).2.1;exact eo (s:={s with window:=256*2^(v%256/16)}) ⟨k.lit,k.dist,k.short,k.sym,k.len,k.base,by show 256*2^(v%256/16)<=32768;omega,k.cnt,k.hist,k.sum,k.sl,k.ls,k.left⟩ O Wnt.w_1 O O O O O
 .rw[N b] at a;exact absurd a (by show ¬10=0;omega)
theorem xt{s}(k:StK s)(h:1<=s.left):StJ (s.enter 3 8) :=
 ik k ⟨by show 3<=13;omega,Wnt.w_3,λ_=>h,λa=>absurd a (by show ¬3=7;omega),λa=>absurd a (by show ¬3=5;omega),λa=>absurd a (by show ¬(3=5\/3=6\/3=11);omega),λa=>absurd a (by show ¬(3=6\/3=11);omega),λa=>absurd a (by show ¬3=6;omega)⟩
theorem StK.setLeft{s}(k:StK s){n}(h:n<=65535):StK {s with left:=n}:=⟨k.lit,k.dist,k.short,k.sym,k.len,k.base,k.win,k.cnt,k.hist,k.sum,k.sl,k.ls,h⟩
theorem yh{s v}(k:StK s)(a:(s.takeSize v).2=0):StJ (s.takeSize v).1:=by
 unfold St.takeSize at a ⊢;by_cases b:v%65536+v/65536=65535
 .rw[I b]
  have c:StK {s with left:=v%65536}:=k.setLeft O;show StJ (if v%65536=0 then({s with left:=v%65536}:St).endBlock else({s with left:=v%65536}:St).enter 3 8)
  by_cases d:v%65536=0
  .rw[I d];exact kQ c
  .rw[N d];exact xt c (by show 1<=v%65536;omega)
 .rw[N b] at a;exact absurd a (by show ¬11=0;omega)
theorem Ao{s}(k:StK s):StJ s.oneLess:=by
 have b:=k.left;have a:StK {s with left:=s.left-1}:=k.setLeft O;unfold St.oneLess;split
 .exact kQ a
 .rename_i c;exact xt a (by show 1<=s.left-1;omega)
theorem zR{s r x}(k:StK s)(j:RwJ r)(c:x<256)(b:(cm s r x).2.2=0):StJ (cm s r x).1/\RwJ (cm s r x).2.1:=by
 unfold cm at b ⊢;by_cases a:(aB s r x).2.2=0
 .rw[I a]
  obtain⟨d,e,f,g⟩:=lM k j c a;rw[d];exact⟨Ao e,f⟩
 .rw[N a] at b;exact absurd b a
theorem zN{s v}(k:StK s)(a:(s.takeSum v).2=0):StJ (s.takeSum v).1:=by
 unfold St.takeSum at a ⊢;by_cases b:dm v=s.sum
 .rw[I b];exact eo k O (Wnt.any O) O O O O O
 .rw[N b] at a;exact absurd a (by show ¬19=0;omega)
theorem sR{s v}(k:StK s)(a:s.length<=258)(b:v<32):StJ (s.lengthRest v) :=
 eo (s:={s with length:=s.length+v}) ⟨k.lit,k.dist,k.short,k.sym,by show s.length+v<=300;omega,k.base,k.win,k.cnt,k.hist,k.sum,k.sl,k.ls,k.left⟩ O (Wnt.any O) O O O O O
theorem IF{s r σ}(k:StK s)(j:RwJ r)(f:σ ≠ -1)(a:(dB s r σ).2.2=0):StJ (dB s r σ).1/\RwJ (dB s r σ).2.1:=by
 unfold dB at a ⊢;rw[N f] at a ⊢;by_cases b:σ<0\/286<=σ
 .rw[I b] at a;exact absurd a (by show ¬13=0;omega)
 rw[N b] at a ⊢;by_cases c:σ=256
 .rw[I c];exact⟨kQ k,j⟩
 rw[N c] at a ⊢;by_cases d:257<=σ
 .rw[I d]
  have e:σ.toNat-257<29:=O;generalize σ.toNat-257=l at e ⊢;exact⟨Ja k e,j⟩
 rw[N d] at a ⊢;obtain⟨g,h,i,m⟩:=lM (k.enter 12 0) j O a;rw[g];refine⟨?_,i⟩
 have:StJ (s.enter 12 0):=eo k O (Wnt.any O) O O O O O
 exact⟨h,⟨this.p.part,this.p.want,this.p.left,this.p.l7,this.p.t5,this.p.tb,this.p.td,this.p.rep⟩,this.got,this.num,this.path⟩
theorem lI{v w n}(h:v<2^w)(a:w<=n):v<2^n:=Xq h (XH O a)
theorem As{s r v}(k:StK s)(p:StP s)(j:RwJ r)(f:s.part<=9)(d:v<2^s.wanted):eY s r v:=by
 have c:=p.want;have h:=k.len;have i:=k.base;have l:=k.win;refine⟨f,λa => ?_,λa => ?_,λa => ?_,λa => ?_,λa => ?_,λa => ?_,λ_=>O,λa => ?_,?_,λa=>p.left a,λ_=>k.left,λ_=>j.good,k.sum⟩
 .rw[c.w0 a] at d;exact d
 .rw[c.w1 a] at d;exact d
 .rw[c.w3 a] at d;exact d
 .rw[c.w4 a] at d;exact d
 .rw[c.w5 a] at d
  have e:=p.t5 a;exact⟨O,O,e.2,λg _=>k.sl g⟩
 .have e:=p.tb (R (L a))
  have m:=lI d (c.w6 a).2;exact⟨O,p.rep a,e.1,e.2.1,e.2.2.1,e.2.2.2,p.td (L a),k.ls⟩
 .have n:=lI d (c.w8 a).2
  exact⟨O,O,k.cnt,O,O,(lT k j).1⟩
 .have:s.wanted<=32:=by
   have:s.part=0\/s.part=1\/s.part=2\/s.part=3\/s.part=4\/s.part=5\/s.part=6\/s.part=7\/s.part=8\/s.part=9:=O
   rcases this with b|b|b|b|b|b|b|b|b|b
   .have:=c.w0 b;omega
   .have:=c.w1 b;omega
   .have:=c.w2 b;omega
   .have:=c.w3 b;omega
   .have:=c.w4 b;omega
   .have:=c.w5 b;omega
   .have:=c.w6 b;omega
   .have:=c.w7 b;omega
   .have:=c.w8 b;omega
   .have:=c.w9 b;omega
  exact lI d this
theorem prE{a:St×Nat}{r}(h:((a.1,r,a.2):St×Rw×Nat).2.2=0):a.2=0:=h
theorem prJ{a:St×Nat}{r}(h:StJ a.1)(j:RwJ r):StJ ((a.1,r,a.2):St×Rw×Nat).1/\RwJ ((a.1,r,a.2):St×Rw×Nat).2.1:=⟨h,j⟩
theorem prF{A r e}(h:((A,r,e):St×Rw×Nat).2.2=0):e=0:=h
theorem prK{A r e}(h:StJ A)(j:RwJ r):StJ ((A,r,e):St×Rw×Nat).1/\RwJ ((A,r,e):St×Rw×Nat).2.1:=⟨h,j⟩
theorem IV{s r v}(k:StK s)(p:StP s)(j:RwJ r)(q:s.part<=9)(l:v<2^s.wanted)(a:(aL s r v).2.2=0):StJ (aL s r v).1/\RwJ (aL s r v).2.1:=by
 have b:=As k p j q l;unfold aL at a ⊢;by_cases m:s.part=0
 .rw[I m] at a ⊢;exact prJ (yi k (prE a)) j
 rw[N m] at a ⊢;by_cases f:s.part=1
 .rw[I f] at a ⊢;exact prK (Ir k (b.v1 f) (prF a)) j
 rw[N f] at a ⊢;by_cases n:s.part=2
 .rw[I n] at a ⊢;exact prJ (yh k (prE a)) j
 rw[N n] at a ⊢;by_cases g:s.part=3
 .rw[I g] at a ⊢;exact zR k j (b.v3 g) a
 rw[N g] at a ⊢;by_cases h:s.part=4
 .rw[I h] at a ⊢;exact prJ (Eb k (b.v4 h) (prE a)) j
 rw[N h] at a ⊢;by_cases c:s.part=5
 .rw[I c] at a ⊢
  have d:=p.tb (L c);exact prJ (ys k (b.v5 c).vl d.1 d.2.1 d.2.2.1 d.2.2.2 (p.t5 c).2 (prE a)) j
 rw[N c] at a ⊢;by_cases i:s.part=6
 .rw[I i] at a ⊢;exact prJ (C3 k (b.v6 i).tb (prE a)) j
 rw[N i] at a ⊢;by_cases e:s.part=7
 .rw[I e] at a ⊢;exact prK (sR k (p.l7 e) (lI l (p.want.w7 e).2)) j
 rw[N e] at a ⊢;by_cases o:s.part=8
 .rw[I o] at a ⊢;exact(lT k j).2 a
 rw[N o] at a ⊢;exact prJ (zN k (prE a)) j
theorem StK.setPath{s}(k:StK s)p:StK {s with path:=p}:=⟨k.lit,k.dist,k.short,k.sym,k.len,k.base,k.win,k.cnt,k.hist,k.sum,k.sl,k.ls,k.left⟩
theorem StJ.setPath{s}(h:StJ s){p}(a:PtJ p):StJ {s with path:=p}:=⟨h.k.setPath p,⟨h.p.part,h.p.want,h.p.left,h.p.l7,h.p.t5,h.p.tb,h.p.td,h.p.rep⟩,h.got,h.num,a⟩
theorem StJ.wle{s}(h:StJ s)(c:s.part<=9):s.wanted<=32:=by
 have b:=h.p.want
 have:s.part=0\/s.part=1\/s.part=2\/s.part=3\/s.part=4\/s.part=5\/s.part=6\/s.part=7\/s.part=8\/s.part=9:=O
 rcases this with a|a|a|a|a|a|a|a|a|a
 .have:=b.w0 a;omega
 .have:=b.w1 a;omega
 .have:=b.w2 a;omega
 .have:=b.w3 a;omega
 .have:=b.w4 a;omega
 .have:=b.w5 a;omega
 .have:=b.w6 a;omega
 .have:=b.w7 a;omega
 .have:=b.w8 a;omega
 .have:=b.w9 a;omega
theorem iE.of{s}(k:StK s)(p:StP s)(h:s.part=11):iE s.tb:=by
 have a:=p.tb (R (R h));exact⟨a.1,a.2.1,a.2.2.1,a.2.2.2,p.td (R h),k.ls⟩
theorem B0{m g t}(b:m<2^g)(a:t<=1):m+t*2^g<2^(g+1):=by
 have:t*2^g<=1*2^g:=XS _ a
 rw[Ya];omega
theorem Is{s r t}(h:StJ s)(j:RwJ r)(l:s.part≠10)(b:t<=1):pF s r t:=by
 have m:=h.p.part;have n:=h.k.len;have o:=h.k.win;refine⟨O,λa => ?_,λa => ?_,λa => ?_,λa => ?_,λa=>h.wle a,λ_=>h.num,b,λa p => ?_⟩
 .exact⟨h.k.lit,h.path.ok,b,CS.step_lo _ _ _,by have:=CS.step_hi s.lit s.path t 288 (λc d=>by have:=h.k.lit.sym c d;omega);omega,j.good,h.k.sum⟩
 .exact⟨h.k.short,h.path.ok,b,CS.step_lo _ _ _,CS.step_hi _ _ _ 18 (λc _=>h.k.sym c),iE.of h.k h.p a⟩
 .exact⟨h.k.dist,h.path.ok,b,CS.step_lo _ _ _,by have:=CS.step_hi s.dist s.path t 288 (λc d=>by have:=h.k.dist.sym c d;omega);omega,h.k.cnt,O,O,λe f g i=>(lT (D:=e) (h.k.setPath (s.dist.step s.path t).1) j).1 f g i⟩
 .have:=h.got a;have:=h.wle a;omega
 .have q:=h.got a
  have k:s.got+1=s.wanted:=O;refine As (s:=s.oneBit t) ⟨h.k.lit,h.k.dist,h.k.short,h.k.sym,h.k.len,h.k.base,h.k.win,h.k.cnt,h.k.hist,h.k.sum,h.k.sl,h.k.ls,h.k.left⟩ ⟨h.p.part,h.p.want,h.p.left,h.p.l7,h.p.t5,h.p.tb,h.p.td,h.p.rep⟩ j a ?_;show s.number+t*2^s.got<2^s.wanted
  rw[<-k];exact B0 h.num b
theorem Jb{s r t}(h:StJ s)(j:RwJ r)(u:s.part≠10)(e:t<=1)(a:(ba s r t).2.2=0):StJ (ba s r t).1/\RwJ (ba s r t).2.1:=by
 have v:=h.p.part;unfold ba at a ⊢;by_cases i:s.part=12
 .rw[I i] at a ⊢
  by_cases b:(s.lit.step s.path t).2 = -1
  .have d:gY s r t=({s with path:=(s.lit.step s.path t).1},r,0):=by unfold gY dB;rw[I b]
   rw[d];exact⟨h.setPath (CS.step_more h.k.lit h.path e b),j⟩
  .exact IF (h.k.setPath _) j b a
 rw[N i] at a ⊢;by_cases f:s.part=11
 .rw[I f] at a ⊢
  refine⟨?_,j⟩;replace a:(clP s t).2=0:=a;show StJ (clP s t).1
  by_cases b:(s.tb.short.step s.path t).2 = -1
  .have d:(clP s t).1=({s with path:=(s.tb.short.step s.path t).1}:St).setRep (s.tb.short.step s.path t).2:=by unfold clP St.codeLen;rw[I b]
   rw[d];have c:=h.setPath (CS.step_more h.k.short h.path e b);refine⟨c.k.setRep _,⟨c.p.part,c.p.want,c.p.left,c.p.l7,c.p.t5,c.p.tb,c.p.td,λk => ?_⟩,c.got,c.num,c.path⟩;replace k:s.part=6:=k;omega
  .exact BK (h.k.setPath _) (iE.of (s:=s) h.k h.p f) (CS.step_lo _ _ _) (CS.step_hi _ _ _ 18 (λq _=>h.k.sym q)) b a
 rw[N f] at a ⊢;by_cases l:s.part=13
 .rw[I l] at a ⊢
  by_cases b:(s.dist.step s.path t).2 = -1
  .have d:dsP s r t=({s with path:=(s.dist.step s.path t).1},r,0):=by unfold dsP cJ;rw[I b]
   rw[d];exact⟨h.setPath (CS.step_more h.k.dist h.path e b),j⟩
  .exact D6 (h.k.setPath _) j b a
 rw[N l] at a ⊢;have m:s.part<=9:=O;have w:=h.got m;have n:StK (s.oneBit t):=⟨h.k.lit,h.k.dist,h.k.short,h.k.sym,h.k.len,h.k.base,h.k.win,h.k.cnt,h.k.hist,h.k.sum,h.k.sl,h.k.ls,h.k.left⟩;have o:StP (s.oneBit t):=⟨h.p.part,h.p.want,h.p.left,h.p.l7,h.p.t5,h.p.tb,h.p.td,h.p.rep⟩;have p:=B0 h.num e;by_cases g:s.got+1<s.wanted
 .rw[I g]
  exact⟨⟨n,o,λ_=>g,p,h.path⟩,j⟩
 .rw[N g] at a ⊢
  have d:s.got+1=s.wanted:=O;refine IV n o j m ?_ a;show s.number+t*2^s.got<2^s.wanted
  rw[<-d];exact p
theorem StJ.skip{s}(h:StJ s)b:StJ {s with skip:=b}:=⟨⟨h.k.lit,h.k.dist,h.k.short,h.k.sym,h.k.len,h.k.base,h.k.win,h.k.cnt,h.k.hist,h.k.sum,h.k.sl,h.k.ls,h.k.left⟩,⟨h.p.part,h.p.want,h.p.left,h.p.l7,h.p.t5,h.p.tb,h.p.td,h.p.rep⟩,h.got,h.num,h.path⟩
structure PN (s:St):Prop where
 n10:s.part≠10
 n9:s.part=9->s.skip=true/\s.got=0
theorem bu(s:St){p w}(a:p≠9)(b:p≠10):PN (s.enter p w):=⟨b,λc=>absurd c a⟩
theorem ir(s:St):PN s.endBlock:=by
 unfold St.endBlock;split
 .exact⟨by show 9≠10;omega,λ_=>⟨rfl,rfl⟩⟩
 .exact bu _ O O
theorem jQ{s}(h:PN s)r x:PN (aB s r x).1:=by
 unfold aB;split
 .split
  .exact h
  .exact⟨h.n10,h.n9⟩
 .exact h
theorem pn:∀(k D:Nat) (s:St) (r:Rw),PN s->PN (bT k D s r).1
 | 0,_,s,_,_=>bu s O O
 | k+1,D,s,r,h=>by
  unfold bT;split
  .exact pn k D _ _ (jQ h _ _)
  .exact jQ h _ _
theorem tx{s}(h:PN s)r D:PN (cz s r D).1:=by
 unfold cz;split
 .exact h
 .exact pn _ _ _ _ h
theorem PN.same{s s'}(h:PN s)(a:s'.part=s.part)(b:s'.skip=s.skip)(c:s'.got=s.got):PN s':=⟨by rw[a];exact h.n10,λd=>by rw[b,c];exact h.n9 (by rw[<-a];exact d)⟩
theorem xm:∀(n x:Nat) (s:St),PN s->PN (St.layN n x s)
 | 0,_,_,h=>h
 | n+1,x,s,h=>xm n x (s.lay1 x) (h.same rfl rfl rfl)
theorem qE{s}(h:PN s):PN s.makeCodes.1:=by
 have a:PN s.mkLit.mkDist:=h.same rfl rfl rfl;unfold St.makeCodes;split
 .exact a
 split
 .exact a
 split
 .exact a
 .exact bu _ O O
theorem qJ{s}(h:PN s)x n:PN (s.lay x n).1:=by
 unfold St.lay;split
 .exact h
 split
 .exact bu _ O O
 .exact qE (xm n x s h)
theorem vH{s}(h:PN s)σ:PN (s.codeLen σ).1:=by
 have a:PN (s.setRep σ):=h.same rfl rfl rfl;unfold St.codeLen;split
 .exact a
 split
 .exact a
 split
 .split
  .exact a
  .exact bu _ O O
 split
 .exact bu _ O O
 split
 .exact bu _ O O
 .exact qJ a _ _
theorem yx{s}(h:PN s)v:PN (s.repeat v).1:=by
 unfold St.repeat;split
 .exact qJ h _ _
 split
 .exact qJ h _ _
 split
 .exact h
 .exact qJ h _ _
theorem si{s}(h:PN s)v:PN (s.shortLen v).1:=by
 unfold St.shortLen;split
 .exact bu _ O O
 split
 .exact bu _ O O
 .exact h.same rfl rfl rfl
theorem zg{s}(h:PN s)v:PN (s.counts v).1:=by
 unfold St.counts;split
 .exact h.same rfl rfl rfl
 .exact bu _ O O
theorem Ed(s:St)j:PN (s.copy j):=by
 unfold St.copy;split
 .exact bu _ O O
 .exact bu _ O O
theorem Dj{s}(h:PN s)(a:s.part≠9)(h':s.part<=9)r v:PN (aL s r v).1:=by
 unfold aL;split
 .unfold St.takeHead
  split
  .exact bu _ O O
  .exact h
 split
 .show PN (s.block v)
  unfold St.block;split
  .exact bu _ O O
  split
  .exact bu _ O O
  split
  .exact bu _ O O
  .exact h.same rfl rfl rfl
 split
 .show PN (s.takeSize v).1
  unfold St.takeSize;split
  .show PN (if v%65536=0 then({s with left:=v%65536}:St).endBlock else({s with left:=v%65536}:St).enter 3 8)
   split
   .exact ir _
   .exact bu _ O O
  .exact h
 split
 .unfold cm
  split
  .show PN (aB s r v).1.oneLess
   unfold St.oneLess;split
   .exact ir _
   .exact bu _ O O
  .exact jQ h _ _
 split
 .exact zg h v
 split
 .exact si h v
 split
 .exact yx h v
 split
 .exact bu _ O O
 split
 .exact tx h _ _
 .rename_i b c d e f g i j k
  omega
theorem xR{s}(c:s.part≠9)(d:s.part≠10)(f:s.part<=13)r t:PN (ba s r t).1:=by
 have e:PN s:=⟨d,λb=>absurd b c⟩;unfold ba;split
 .have a:PN {s with path:=(s.lit.step s.path t).1}:=e.same rfl rfl rfl
  unfold gY dB;split
  .exact a
  split
  .exact a
  split
  .exact ir _
  split
  .generalize (s.lit.step s.path t).2.toNat-257=g
   exact Ed _ _
  .exact jQ (bu _ O O) _ _
 split
 .exact vH (s:={s with path:=(s.tb.short.step s.path t).1}) (e.same rfl rfl rfl) _
 split
 .have a:PN {s with path:=(s.dist.step s.path t).1}:=e.same rfl rfl rfl
  unfold dsP cJ;split
  .exact a
  split
  .exact a
  split
  .exact tx a _ _
  .exact bu _ O O
 split
 .exact⟨d,λb=>absurd b c⟩
 .exact Dj (s:=s.oneBit t) ⟨d,λb=>absurd b c⟩ c (by show s.part<=9;omega) _ _
theorem tJ x:∀(k i:Nat) (s:St) (r:Rw),i+k=8->StJ s->RwJ r->(s.part=10->k=0)->(s.part=9->(s.skip=true->s.got=0)/\(s.skip=false->s.got%8=i%8))->eL k i s r x/\((bN k i s r x).2.2=0->StJ (bN k i s r x).1/\RwJ (bN k i s r x).2.1/\((bN k i s r x).1.part=9->(bN k i s r x).1.got%8=0))
 | 0,i,s,r,y,f,j,_,m=>⟨trivial,λ_=>⟨f,j,λc=>by
   replace c:s.part=9:=c;show s.got%8=0
   obtain⟨a,p⟩:=m c;cases g:s.skip with
   | true=>rw[a g]
   | false=>have:=p g;omega⟩⟩
 | k+1,i,s,r,y,f,j,z,m=>by
  have n:s.part≠10:=λc=>absurd (z c) O
  by_cases g:s.skip=true
  .refine⟨L g,?_⟩
   unfold bN;rw[I g];exact λ_=>⟨f,j,λc=>by show s.got%8=0;rw[(m c).1 g]⟩
  .have q:s.skip=false:=by cases A:s.skip with|false=>rfl|true=>exact absurd A g
   have t:x/2^i%2<=1:=O;generalize u:x/2^i%2=b at *;have v:(ba s r b).2.2=0->eL k (i+1) (ba s r b).1 (ba s r b).2.1 x/\((bN k (i+1) (ba s r b).1 (ba s r b).2.1 x).2.2=0->StJ (bN k (i+1) (ba s r b).1 (ba s r b).2.1 x).1/\RwJ (bN k (i+1) (ba s r b).1 (ba s r b).2.1 x).2.1/\((bN k (i+1) (ba s r b).1 (ba s r b).2.1 x).1.part=9->(bN k (i+1) (ba s r b).1 (ba s r b).2.1 x).1.got%8=0)):=λd=>by
    obtain⟨B,C⟩:=Jb f j n t d;refine tJ x k (i+1) _ _ O B C ?_ ?_
    .by_cases h:s.part=9
     .intro l
      have D:=(m h).2 q;have E:=f.p.want.w9 h;have F:=f.got O;unfold ba at l;rw[N,N,N] at l;by_cases o:s.got+1<s.wanted
      .rw[I o] at l
       replace l:s.part=10:=l;omega
      .omega
     .intro l
      exact absurd l (xR h n f.p.part r b).n10
    .by_cases h:s.part=9
     .intro e
      have D:=(m h).2 q;unfold ba at e d ⊢;rw[N,N,N] at e d ⊢;by_cases o:s.got+1<s.wanted
      .rw[I o]
       refine⟨λc => ?_,λ_ => ?_⟩
       .replace c:s.skip=true:=c
        exact absurd c g
       .show(s.got+1)%8=(i+1)%8
        omega
      .exfalso
       rw[N o] at e d;unfold aL at e d;have G:(s.oneBit b).part=9:=h;rw[N,N,N,N,N,N,N,N,N] at e d;unfold St.takeSum at e d;by_cases w:dm (s.number+b*2^s.got)=(s.oneBit b).sum
       .rw[I w] at e
        exact absurd e (by show ¬10=9;omega)
       .rw[N w] at d
        exact absurd d (by show ¬19=0;omega)
     .intro e
      obtain⟨a,p⟩:=(xR h n f.p.part r b).n9 e;exact⟨λ_=>p,λc=>by rw[a] at c;cases c⟩
   refine⟨?_,?_⟩
   .refine R ?_
    rw[u];exact⟨(Is f j n t),λd=>(v d).1⟩
   .unfold bN
    rw[N g,u];by_cases d:(ba s r b).2.2=0
    .rw[I d];exact(v d).2
    .rw[N d];exact λc=>absurd c d
structure StB (s:St):Prop where
 j:StJ s
 al:s.part=9->s.got%8=0
theorem StB.start:StB St.start:=⟨StJ.start,λa=>absurd a (by show ¬0=9;omega)⟩
theorem jx{s r x}(h:StB s)(j:RwJ r):(s.part≠10->eL 8 0 {s with skip:=false} r x)/\((takeB s r x).2.2=0->StB (takeB s r x).1/\RwJ (takeB s r x).2.1):=by
 have d:s.part≠10->_:=λa=>tJ x 8 0 {s with skip:=false} r rfl (h.j.skip false) j (λc=>absurd c a) (λc=>⟨λe=>(by cases e),λ_=>h.al c⟩)
 refine⟨λa=>(d a).1,λb => ?_⟩;unfold takeB at b ⊢;by_cases a:s.part=10
 .rw[I a] at b;exact absurd b (by show ¬20=0;omega)
 .rw[N a] at b ⊢
  obtain⟨f,g,i⟩:=(d a).2 b;exact⟨⟨f,i⟩,g⟩
