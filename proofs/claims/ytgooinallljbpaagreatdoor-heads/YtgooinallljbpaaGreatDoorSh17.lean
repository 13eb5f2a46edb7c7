import Derived.Test.YtgooinallljbpaaGreatDoorSh00
import Derived.Test.YtgooinallljbpaaGreatDoorSh16
import Derived.Test.YtgooinallljbpaaGreatDoorSh01
set_option linter.all false
namespace Go.Proofs.YtgooinallljbpaaGreatDoor
open Go.RowKit Px Tryz
theorem zj{f s n i}(c:1<=s)(a:i<bq f s n):f+i*s<n:=by
 unfold bq at a
 split at a
 .omega
 .have b:i<=(n-f-1)/s:=O
  have d:i*s<=(n-f-1)/s*s:=XS _ b;have e:=Nat.div_mul_le_self (n-f-1) s;omega
theorem Jy L:1<=aq L/\aq L<=7:=by unfold aq;split<;>omega
structure RwJ (r:Rw):Prop where
 ok:gE r
 dd:okD r.hd.D
 col:r.columns<=16
 lns:r.lines<=16
 line:r.line<=16
 size:r.size<=128
 tk:r.taken<=128
 p0:0<=r.pass
 p7:r.pass<=7
 colours:r.colours<=256
 geo:aW r=false->r.columns=bq r.ps.cf r.ps.cs r.hd.W/\r.line<bq r.ps.rf r.ps.rs r.hd.H/\r.lines=bq r.ps.rf r.ps.rs r.hd.H
theorem RwJ.good{r}(j:RwJ r):jK r:=by
 have a:=bK r.hd.L r.pass.toNat;refine⟨⟨j.ok,j.dd,j.col,j.lns,j.line,?_,j.size,by have:=j.tk;omega,j.p0,j.p7,j.colours⟩,j.tk,λc => ?_⟩
 .have f:=XF j.col (lH j.ok)
  omega
 .obtain⟨d,e,g⟩:=j.geo c
  refine⟨λh b => ?_,?_⟩
  .rw[d] at b
   exact Xq (zj a.2.1 b) j.ok.W
  .exact Xq (zj a.2.2.2.2.2.1 e) j.ok.H
structure NpJ (r q:Rw):Prop where
 hd:q.hd=r.hd
 colours:q.colours=r.colours
 taken:q.taken=r.taken
 col:q.columns<=16
 lns:q.lines<=16
 p0:0<=q.pass
 p7:q.pass<=(aq r.hd.L:Int)
 geo:aW q=false->q.columns=bq q.ps.cf q.ps.cs r.hd.W/\0<bq q.ps.rf q.ps.rs r.hd.H/\q.lines=bq q.ps.rf q.ps.rs r.hd.H
theorem npJ:∀(n:Nat) (r:Rw) (p:Nat),r.pass=(p:Int)->p<=aq r.hd.L->aq r.hd.L<p+n->r.hd.W<=16->r.hd.H<=16->r.columns<=16->r.lines<=16->NpJ r (dO n r)
 | 0,r,p,c,k,l,_,_,_,_=>O
 | n+1,r,p,c,k,l,d,e,hc,m=>by
  have f:=bK r.hd.L r.pass.toNat;have o:dO (n+1) r=if r.pass<(aq r.hd.L:Int) then(if 0<(bQ r).columns/\0<(bQ r).lines then bQ r else dO n {bQ r with pass:=r.pass+1}) else r:=rfl
  have g:(bQ r).columns<=16:=ed f.2.1 d;have h:(bQ r).lines<=16:=ed f.2.2.2.2.2.1 e;rw[o];by_cases i:r.pass<(aq r.hd.L:Int)
  .rw[I i]
   by_cases b:0<(bQ r).columns/\0<(bQ r).lines
   .rw[I b]
    exact⟨rfl,rfl,rfl,g,h,by show 0<=r.pass;omega,by show r.pass<=_;omega,λ_=>⟨rfl,b.2,rfl⟩⟩
   .rw[N b]
    have a:=npJ n {bQ r with pass:=r.pass+1} (p+1) (by show r.pass+1=((p+1:Nat):Int);rw[c];omega) (by show p+1<=aq r.hd.L;omega) (by show aq r.hd.L<p+1+n;omega) d e g h;exact⟨a.hd,a.colours,a.taken,a.col,a.lns,a.p0,a.p7,a.geo⟩
  .rw[N i]
   refine⟨rfl,rfl,rfl,hc,m,O,O,λj => ?_⟩;unfold aW at j
   have:=of_decide_eq_false j
   omega
theorem Ii{r}(b:gE r)(g:okD r.hd.D)(h:r.columns<=16)(i:r.lines<=16)(m:r.taken<=128)(n:r.colours<=256)(p:Nat)(j:r.pass+1=(p:Int))(k:p<=aq r.hd.L):RwJ r.next:=by
 have o:=Jy r.hd.L;have c:=npJ 8 {r with pass:=r.pass+1} p j k (by show aq r.hd.L<p+8;omega) b.W b.H h i;have d:=yl 8 {r with pass:=r.pass+1} ⟨b.W,b.H,b.D,b.K,b.L,b.filter,b.row,b.above⟩;unfold Rw.next;generalize dO 8 {r with pass:=r.pass+1}=a at *;have f:a.hd=r.hd:=c.hd;have q:a.colours=r.colours:=c.colours;have s:a.taken=r.taken:=c.taken;have t:a.pass<=(aq r.hd.L:Int):=c.p7;have e:=c.geo;replace e:aW a=false->a.columns=bq a.ps.cf a.ps.cs r.hd.W/\0<bq a.ps.rf a.ps.rs r.hd.H/\a.lines=bq a.ps.rf a.ps.rs r.hd.H:=e;rw[<-f] at e;refine⟨⟨d.W,d.H,d.D,d.K,d.L,d.filter,d.row,λu=>Xp⟩,by show okD a.hd.D;rw[f];exact g,c.col,c.lns,by show 0<=16;omega,?_,by show a.taken<=128;omega,c.p0,by show a.pass<=7;omega,by show a.colours<=256;omega,λl=>e l⟩;have v:=XF c.col (lH d);show(a.columns*bo a.hd+7)/8<=128
 omega
theorem RwJ.start{h C}(a:h.W<=16)(b:h.H<=16)(c:h.D<=16)(d:h.K<=6)(e:h.L<=1)(f:okD h.D)(g:C<=256):RwJ (Rw.start h C) :=
 Ii (r:=rw0 h C) ⟨a,b,c,d,e,Xp,λi=>Xp,λi=>Xp⟩ f (by show 0<=16;omega) (by show 0<=16;omega) (by show 0<=128;omega) g 0 (by show(-1:Int)+1=0;decide) O
theorem gE.lay{r}(h:gE r)i x:gE (r.lay i x):=⟨h.W,h.H,h.D,h.K,h.L,h.filter,λa=>by
 show upd r.row i (zn r i x) a<256
 by_cases b:a=i
 .subst b;rw[upd_same];exact YD _ O
 .rw[upd_ne _ _ _ b];exact h.row a,h.above⟩
theorem RwJ.take{r x}(j:RwJ r)(c:(r.take x).2=0):RwJ (r.take x).1:=by
 unfold Rw.take at c ⊢;by_cases g:aW r=true
 .rw[I g] at c;exact absurd c (by show ¬17=0;omega)
 rw[N g] at c ⊢;have l:aW r=false:=by cases B:aW r with|false=>rfl|true=>exact absurd B g
 have b:=j.ok;by_cases m:r.taken=0
 .rw[I m] at c ⊢
  unfold Rw.takeF at c ⊢;by_cases n:4<x
  .rw[I n] at c;exact absurd c (by show ¬15=0;omega)
  .rw[N n]
   exact⟨⟨b.W,b.H,b.D,b.K,b.L,by show x<256;omega,b.row,b.above⟩,j.dd,j.col,j.lns,j.line,j.size,by show 1<=128;omega,j.p0,j.p7,j.colours,j.geo⟩
 rw[N m] at c ⊢;by_cases o:r.taken+1<=r.size
 .rw[I o]
  have h:gE {r with taken:=r.taken+1}:=⟨b.W,b.H,b.D,b.K,b.L,b.filter,b.row,b.above⟩;have Q:=j.size;exact⟨h.lay _ _,j.dd,j.col,j.lns,j.line,j.size,by show r.taken+1<=128;omega,j.p0,j.p7,j.colours,j.geo⟩
 rw[N o] at c ⊢;obtain⟨a,d⟩:∃a,a=({r with taken:=r.taken+1}:Rw).lay (r.taken-1) x:=⟨_,rfl⟩;have C:gE a:=by
  have h:gE {r with taken:=r.taken+1}:=⟨b.W,b.H,b.D,b.K,b.L,b.filter,b.row,b.above⟩;rw[d];exact h.lay _ _
 have p:okD a.hd.D:=by rw[d];exact j.dd
 have q:a.columns<=16:=by rw[d];exact j.col
 have s:a.lines<=16:=by rw[d];exact j.lns
 have D:a.size<=128:=by rw[d];exact j.size
 have E:0<=a.pass:=by rw[d];exact j.p0
 have F:a.pass<=7:=by rw[d];exact j.p7
 have t:a.colours<=256:=by rw[d];exact j.colours
 have u:aW a=false:=by rw[d];exact l
 have v:a.columns=bq a.ps.cf a.ps.cs a.hd.W/\a.line<bq a.ps.rf a.ps.rs a.hd.H/\a.lines=bq a.ps.rf a.ps.rs a.hd.H:=by rw[d];exact j.geo l
 rw[<-d] at c ⊢;clear d;unfold Rw.endRow at c ⊢;by_cases w:a.bad=true
 .rw[I w] at c;exact absurd c (by show ¬16=0;omega)
 rw[N w];show RwJ (if a.lines<=a.line+1 then a.laid.next else a.laid)
 obtain⟨G,H,J,R,K,L,M,S,T,U,V⟩:=eI a a.columns;have y:=DM C;have e:a.laid.hd=a.hd:=G;have z:a.laid.colours=a.colours:=H;have f:a.laid.pass=a.pass:=J;have i:a.laid.columns=a.columns:=K;have k:a.laid.lines=a.lines:=L;have O:a.laid.size=a.size:=M;have W:a.pass<(aq a.hd.L:Int):=by
  unfold aW at u
  have:=of_decide_eq_false u
  omega
 by_cases A:a.lines<=a.line+1
 .rw[I A]
  exact Ii y (by rw[e];exact p) (by rw[i];exact q) (by rw[k];exact s) (by show 0<=128;omega) (by rw[z];exact t) (a.pass.toNat+1) (by rw[f];omega) (by rw[e];omega)
 .rw[N A]
  have P:a.laid.ps=a.ps:=by show ah a.laid.hd.L a.laid.pass.toNat=ah a.hd.L a.pass.toNat;rw[e,f]
  refine⟨y,by rw[e];exact p,by rw[i];exact q,by rw[k];exact s,by show a.line+1<=16;omega,by rw[O];exact D,by show 0<=128;omega,by rw[f];exact E,by rw[f];exact F,by rw[z];exact t,λ_ => ?_⟩;rw[i,k,P,e];refine⟨v.1,?_,v.2.2⟩;show a.line+1<_
  omega
structure StK (s:St):Prop where
 lit:kL s.lit
 dist:kL s.dist
 short:kL s.tb.short
 sym:∀i,s.tb.short.sym i<=18
 len:s.length<=300
 base:s.base<=30000
 win:s.window<=32768
 cnt:s.count<=2078
 hist:∀j,s.hist j<256
 sum:s.sum<4294967296
 sl:∀i,s.tb.sl i<256
 ls:∀i,s.tb.ls i<256
 left:s.left<=65535
structure Wnt (p w:Nat):Prop where
 w0:p=0->w=16
 w1:p=1->w=3
 w2:p=2->w=32
 w3:p=3->w=8
 w4:p=4->w=14
 w5:p=5->w=3
 w6:p=6->1<=w/\w<=7
 w7:p=7->1<=w/\w<=5
 w8:p=8->1<=w/\w<=13
 w9:p=9->w=32
structure StP (s:St):Prop where
 part:s.part<=13
 want:Wnt s.part s.wanted
 left:s.part=3->1<=s.left
 l7:s.part=7->s.length<=258
 t5:s.part=5->s.tb.told<s.tb.shorts/\s.tb.shorts<=19
 tb:s.part=5\/s.part=6\/s.part=11->257<=s.tb.literals/\s.tb.literals<=286/\1<=s.tb.distances/\s.tb.distances<=30
 td:s.part=6\/s.part=11->s.tb.told<=s.tb.literals+s.tb.distances
 rep:s.part=6->s.tb.rep=16\/s.tb.rep=17\/s.tb.rep=18
structure PtJ (p:Pt):Prop where
 bits:p.bits<=14
 offset:p.offset<2^p.bits
 ahead:p.ahead<=288*p.bits
structure StJ (s:St):Prop where
 k:StK s
 p:StP s
 got:s.part<=9->s.got<s.wanted
 num:s.number<2^s.got
 path:PtJ s.path
theorem PtJ.ok{p}(h:PtJ p):JX p:=by
 have a:=h.bits;have b:=h.offset;have c:=h.ahead;have d:2^p.bits<=2^14:=XH O a;exact⟨O,O,O⟩
theorem CS.step_more{c p t}(a:kL c)(b:PtJ p)(g:t<=1)(h:(c.step p t).2 = -1):PtJ (c.step p t).1:=by
 unfold CS.step at h ⊢;by_cases d:c.longest<p.bits+1\/15<p.bits+1
 .rw[I d] at h;exact absurd h (by show ¬(-2:Int) = -1;decide)
 rw[N d] at h ⊢;by_cases e:2*p.offset+t<c.count (p.bits+1)
 .rw[I e] at h
  replace h:c.symbol (p.ahead+(2*p.offset+t)) = -1:=h;unfold CS.symbol at h
  split at h
  .exact absurd h Xh
  .omega
 rw[N e] at h ⊢;replace h:(if p.bits+1=c.longest then(-2:Int) else -1) = -1:=h;by_cases f:p.bits+1=c.longest
 .rw[I f] at h;exact absurd h Xh
 have i:=a.longest;have j:=a.count (p.bits+1) O;have k:=b.offset;have l:=b.ahead;refine⟨by show p.bits+1<=14;omega,?_,?_⟩
 .show 2*p.offset+t-c.count (p.bits+1)<2^(p.bits+1)
  rw[Ya];omega
 .show p.ahead+c.count (p.bits+1)<=288*(p.bits+1)
  omega
theorem CS.step_lo(c:CS)p t: -2<=(c.step p t).2:=by
 unfold CS.step;split
 .show(-2:Int) <= -2;decide
 split
 .show(-2:Int)<=c.symbol _
  unfold CS.symbol;split
  .decide
  .omega
 .show(-2:Int)<=(if p.bits+1=c.longest then(-2:Int) else -1)
  split<;>decide
theorem CS.step_hi(c:CS)p t M(h:∀a,a<288->c.sym a<=M):(c.step p t).2<=M:=by
 unfold CS.step;split
 .show(-2:Int)<=M;omega
 split
 .show c.symbol _<=M
  unfold CS.symbol;split
  .omega
  .rename_i b
   have:=h (p.ahead+(2*p.offset+t)) O
   omega
 .show(if p.bits+1=c.longest then(-2:Int) else -1)<=M
  split<;>omega
theorem StK.enter{s}(k:StK s)p w:StK (s.enter p w):=⟨k.lit,k.dist,k.short,k.sym,k.len,k.base,k.win,k.cnt,k.hist,k.sum,k.sl,k.ls,k.left⟩
theorem lC{s p w}(k:StK s)(q:StP (s.enter p w)):StJ (s.enter p w):=by
 refine⟨k.enter p w,q,λc => ?_,by show 0<2^0;decide,⟨by show 0<=14;omega,by show 0<2^0;decide,by show 0<=288*0;omega⟩⟩;show 0<w
 have b:=q.want;replace b:Wnt p w:=b;replace c:p<=9:=c
 have:p=0\/p=1\/p=2\/p=3\/p=4\/p=5\/p=6\/p=7\/p=8\/p=9:=O
 rcases this with a|a|a|a|a|a|a|a|a|a
 .have:=b.w0 a;omega
 .have:=b.w1 a;omega
 .have:=b.w2 a;omega
 .have:=b.w3 a;omega
 .have:=b.w4 a;omega
 .have:=b.w5 a;omega
 .have:=b.w6 a;omega
 .have:=b.w7 a;omega
 .have:=b.w8 a;omega
 .have:=b.w9 a;omega
theorem ep{s p w}(k:StK s)(b:p<=13)(c:Wnt p w)(d:p≠3)(e:p≠5)(f:p≠6)(g:p≠7)(h:p≠11):StJ (s.enter p w) :=
 lC k ⟨b,c,λa=>absurd a d,λa=>absurd a g,λa=>absurd a e,λa=>by rcases a with a|a|a<;>exact absurd a (by assumption),λa=>by rcases a with a|a<;>exact absurd a (by assumption),λa=>absurd a f⟩
theorem Wnt.any{p w}(h:10<=p):Wnt p w:=⟨λa=>O,λa=>O,λa=>O,λa=>O,λa=>O,λa=>O,λa=>O,λa=>O,λa=>O,λa=>O⟩
theorem Wnt.w_1:Wnt 1 3:=⟨O,O,O,O,O,O,O,O,O,O⟩
theorem Wnt.w_2:Wnt 2 32:=⟨O,O,O,O,O,O,O,O,O,O⟩
theorem Wnt.w_3:Wnt 3 8:=⟨O,O,O,O,O,O,O,O,O,O⟩
theorem Wnt.w_4:Wnt 4 14:=⟨O,O,O,O,O,O,O,O,O,O⟩
theorem Wnt.w_5:Wnt 5 3:=⟨O,O,O,O,O,O,O,O,O,O⟩
theorem Wnt.w_6{w}(a:1<=w)(b:w<=7):Wnt 6 w:=⟨O,O,O,O,O,O,O,O,O,O⟩
theorem Wnt.w_7{w}(a:1<=w)(b:w<=5):Wnt 7 w:=⟨O,O,O,O,O,O,O,O,O,O⟩
theorem Wnt.w_8{w}(a:1<=w)(b:w<=13):Wnt 8 w:=⟨O,O,O,O,O,O,O,O,O,O⟩
theorem Wnt.w_9:Wnt 9 32:=⟨O,O,O,O,O,O,O,O,O,O⟩
theorem Wnt.w_0:Wnt 0 16:=⟨O,O,O,O,O,O,O,O,O,O⟩
theorem tJ:kL wq:=⟨λ_ _=>by show 0<=288;omega,λ_ _=>by show 0<288;omega,by show 0<=288;omega,by show 0<=15;omega⟩
theorem StJ.start:StJ St.start:=by
 refine ep (s:=st0 1) ⟨tJ,tJ,tJ,λ_=>by show 0<=18;omega,by show 0<=300;omega,by show 0<=30000;omega,by show 0<=32768;omega,by show 0<=2078;omega,λ_=>Xp,by show 1<4294967296;omega,λ_=>Xp,λ_=>Xp,by show 0<=65535;omega⟩ O Wnt.w_0 O O O O O
theorem Lv:kL nL:=by
 refine⟨λa _ => ?_,λa b => ?_,Xh,Xh⟩
 .show rD a<=288;unfold rD;split<;>(try split)<;>(try split)<;>omega
 .show cA a<288;unfold cA;split<;>(try split)<;>(try split)<;>omega
theorem Lw:kL nM:=by
 refine⟨λa _ => ?_,λa b => ?_,Xh,Xh⟩
 .show(if a=5 then 32 else 0)<=288;split<;>omega
 .show(if a<32 then a else 0)<288;split<;>omega
theorem rF{s}(k:StK s):StJ s.endBlock:=by
 unfold St.endBlock;split
 .exact ep (s:={s with skip:=true}) ⟨k.lit,k.dist,k.short,k.sym,k.len,k.base,k.win,k.cnt,k.hist,k.sum,k.sl,k.ls,k.left⟩ O Wnt.w_9 O O O O O
 .exact ep k O Wnt.w_1 O O O O O
theorem Ol{s}(k:StK s){x}(c:x<256)(d:s.count<2078):StK (s.give x) :=
 ⟨k.lit,k.dist,k.short,k.sym,k.len,k.base,k.win,by show s.count+1<=2078;omega,λa=>by
  show upd s.hist s.count x a<256
  by_cases b:a=s.count
  .rw[b,upd_same];exact c
  .rw[upd_ne _ _ _ b];exact k.hist a,Nr _ _,k.sl,k.ls,k.left⟩
theorem tG{s r x}(k:StK s)(j:RwJ r)(d:x<256)(a:(aF s r x).2.2=0):aF s r x=(s.give x,(r.take x).1,0)/\StK (s.give x)/\RwJ (r.take x).1/\s.count<2078:=by
 unfold aF at a ⊢;by_cases b:(r.take x).2=0
 .rw[I b] at a ⊢
  by_cases c:2078<=s.count
  .rw[I c] at a;exact absurd a (by show ¬17=0;omega)
  .rw[N c];exact⟨rfl,Ol k d O,j.take b,O⟩
 .rw[N b] at a;exact absurd a b
theorem qi:∀(n D:Nat) (s:St) (r:Rw),StK s->RwJ r->D<=s.count->gq n D s r/\((ck n D s r).2.2=0->StJ (ck n D s r).1/\RwJ (ck n D s r).2.1)
 | 0,D,s,r,k,j,e=>⟨trivial,λ_=>⟨ep k O (Wnt.any O) O O O O O,j⟩⟩
 | n+1,D,s,r,k,j,e=>by
  have f:=k.hist (s.count-D);refine⟨⟨⟨j.good,k.sum,k.cnt,e,k.hist⟩,λa => ?_⟩,?_⟩
  .obtain⟨b,c,d,g⟩:=tG k j f a
   rw[b];exact(qi n D _ _ c d (by show D<=s.count+1;omega)).1
  .unfold ck
   by_cases a:(aF s r (s.hist (s.count-D))).2.2=0
   .rw[I a]
    obtain⟨b,c,d,g⟩:=tG k j f a;rw[b];exact(qi n D _ _ c d (by show D<=s.count+1;omega)).2
   .rw[N a]
    exact λh=>absurd h a
theorem tK{s r D}(k:StK s)(j:RwJ r):(1<=D->D<=s.count->D<=s.window->gq s.length D s r)/\((cZ s r D).2.2=0->StJ (cZ s r D).1/\RwJ (cZ s r D).2.1):=by
 refine⟨λ_ b _=>(qi _ _ s r k j b).1,λa => ?_⟩;unfold cZ at a ⊢;by_cases b:D<1\/s.count<D\/s.window<D
 .rw[I b] at a;exact absurd a (by show ¬14=0;omega)
 .rw[N b] at a ⊢
  exact(qi _ _ s r k j O).2 a
theorem LI{s r σ}(k:StK s)(j:RwJ r)(d:σ ≠ -1)(a:(cF s r σ).2.2=0):StJ (cF s r σ).1/\RwJ (cF s r σ).2.1:=by
 unfold cF at a ⊢;rw[N d] at a ⊢;by_cases b:σ<0\/30<=σ
 .rw[I b] at a;exact absurd a (by show ¬13=0;omega)
 rw[N b] at a ⊢;have e:=D8 σ.toNat O;by_cases c:σ.toNat/2-1=0
 .rw[I c] at a ⊢
  exact(tK k j).2 a
 .rw[N c]
  refine⟨ep (s:={s with base:=qe.getD σ.toNat 0}) ⟨k.lit,k.dist,k.short,k.sym,k.len,by show qe.getD σ.toNat 0<=30000;omega,k.win,k.cnt,k.hist,k.sum,k.sl,k.ls,k.left⟩ O (Wnt.w_8 O O) O O O O O,j⟩
theorem Ot{s n}(k:StK s)(h:n<29):StJ (s.copy n):=by
 have b:=DH n h;unfold St.copy;have c:StK {s with length:=pX.getD n 0}:=⟨k.lit,k.dist,k.short,k.sym,by show pX.getD n 0<=300;omega,k.base,k.win,k.cnt,k.hist,k.sum,k.sl,k.ls,k.left⟩;split
 .exact ep c O (Wnt.any O) O O O O O
 .rename_i d
  refine lC c ⟨by show 7<=13;omega,Wnt.w_7 (by show 1<=tq.getD n 0;omega) b.2.2,λa=>absurd a (by show ¬7=3;omega),λ_=>b.2.1,λa=>absurd a (by show ¬7=5;omega),λa=>absurd a (by show ¬(7=5\/7=6\/7=11);omega),λa=>absurd a (by show ¬(7=6\/7=11);omega),λa=>absurd a (by show ¬7=6;omega)⟩
theorem Hc f N(a:0<N)i:(bR f N).sym i<N:=B6 f _ _ N (λ_=>a) N (E _) i
theorem B9{s}(k:StK s)(f:257<=s.tb.literals)(g:s.tb.literals<=286)(h:s.tb.literals<s.tb.told)(i:s.tb.told<=s.tb.literals+30)(a:s.makeCodes.2=0):StJ s.makeCodes.1:=by
 have c:StK s.mkLit.mkDist:=⟨lS _ _ O O,lS _ _ (by show 0<s.tb.told-s.tb.literals;omega) (by show s.tb.told-s.tb.literals<=288;omega),k.short,k.sym,k.len,k.base,k.win,k.cnt,k.hist,k.sum,k.sl,k.ls,k.left⟩;unfold St.makeCodes at a ⊢;generalize s.mkLit.mkDist=j at *;split
 .rename_i b;rw[I b] at a;exact absurd a (by show ¬12=0;omega)
 rename_i d
 rw[N d] at a;split
 .rename_i b;rw[I b] at a;exact absurd a (by show ¬12=0;omega)
 rename_i e
 rw[N e] at a;split
 .rename_i b;rw[I b] at a;exact absurd a (by show ¬12=0;omega)
 exact ep c O (Wnt.any O) O O O O O
theorem IF:∀(n x:Nat) (s:St),StK s->x<256->StK (St.layN n x s)/\(St.layN n x s).tb.literals=s.tb.literals/\(St.layN n x s).tb.distances=s.tb.distances/\(St.layN n x s).tb.told=s.tb.told+n
 | 0,_,s,k,_=>⟨k,rfl,rfl,rfl⟩
 | n+1,x,s,k,b=>by
  have d:StK (s.lay1 x):=⟨k.lit,k.dist,k.short,k.sym,k.len,k.base,k.win,k.cnt,k.hist,k.sum,k.sl,λa=>by
   show upd s.tb.ls s.tb.told x a<256
   by_cases c:a=s.tb.told
   .rw[c,upd_same];exact b
   .rw[upd_ne _ _ _ c];exact k.ls a,k.left⟩
  obtain⟨e,f,g,h⟩:=IF n x (s.lay1 x) d b;refine⟨e,f,g,h.trans ?_⟩;show s.tb.told+1+n=_
  omega
theorem Lf{s x n}(k:StK s)(f:x<256)(g:257<=s.tb.literals)(h:s.tb.literals<=286)(i:1<=s.tb.distances)(j:s.tb.distances<=30)(c:(s.lay x n).2=0):StJ (s.lay x n).1:=by
 unfold St.lay at c ⊢;by_cases a:s.tb.literals+s.tb.distances<s.tb.told+n
 .rw[I a] at c;exact absurd c (by show ¬12=0;omega)
 rw[N a] at c ⊢;obtain⟨d,l,m,o⟩:=IF n x s k f;generalize St.layN n x s=b at *;by_cases e:b.tb.told<s.tb.literals+s.tb.distances
 .rw[I e]
  refine lC d ⟨by show 11<=13;omega,Wnt.any (by show 10<=11;omega),λa=>absurd a (by show ¬11=3;omega),λa=>absurd a (by show ¬11=7;omega),λa=>absurd a (by show ¬11=5;omega),λ_ => ?_,λ_ => ?_,λa=>absurd a (by show ¬11=6;omega)⟩
  .show 257<=b.tb.literals/\b.tb.literals<=286/\1<=b.tb.distances/\b.tb.distances<=30
   omega
  .show b.tb.told<=b.tb.literals+b.tb.distances
   omega
 .rw[N e] at c ⊢
  exact B9 d O O O O c
theorem StK.setRep{s}(k:StK s)σ:StK (s.setRep σ):=⟨k.lit,k.dist,k.short,k.sym,k.len,k.base,k.win,k.cnt,k.hist,k.sum,k.sl,k.ls,k.left⟩
theorem yF{s w}(k:StK s)(b:257<=s.tb.literals)(c:s.tb.literals<=286)(d:1<=s.tb.distances)(e:s.tb.distances<=30)(f:s.tb.told<=s.tb.literals+s.tb.distances)(g:s.tb.rep=16\/s.tb.rep=17\/s.tb.rep=18)(h:1<=w)(i:w<=7):StJ (s.enter 6 w) :=
 lC k ⟨by show 6<=13;omega,Wnt.w_6 h i,λa=>absurd a (by show ¬6=3;omega),λa=>absurd a (by show ¬6=7;omega),λa=>absurd a (by show ¬6=5;omega),λ_=>⟨b,c,d,e⟩,λ_=>f,λ_=>g⟩
theorem Jv{s σ}(k:StK s)(t:lK s.tb)(i : -2<=σ)(j:σ<=18)(h:σ ≠ -1)(a:(s.codeLen σ).2=0):StJ (s.codeLen σ).1:=by
 have b:=k.setRep σ;unfold St.codeLen at a ⊢;rw[N h] at a ⊢;by_cases f:σ = -2
 .rw[I f] at a;exact absurd a (by show ¬13=0;omega)
 rw[N f] at a ⊢;by_cases c:σ=16
 .rw[I c] at a ⊢
  by_cases g:s.tb.told=0
  .rw[I g] at a;exact absurd a (by show ¬12=0;omega)
  .rw[N g]
   exact yF b t.l1 t.l2 t.d1 t.d2 t.td (L c) O O
 rw[N c] at a ⊢;by_cases d:σ=17
 .rw[I d]
  exact yF b t.l1 t.l2 t.d1 t.d2 t.td (R (L d)) O O
 rw[N d] at a ⊢;by_cases e:σ=18
 .rw[I e]
  exact yF b t.l1 t.l2 t.d1 t.d2 t.td (R (R e)) O O
 rw[N e] at a ⊢;exact Lf b O t.l1 t.l2 t.d1 t.d2 a
theorem KE{s v}(k:StK s)(t:lK s.tb)(a:(s.repeat v).2=0):StJ (s.repeat v).1:=by
 unfold St.repeat at a ⊢;by_cases b:s.tb.rep=17
 .rw[I b] at a ⊢;exact Lf k O t.l1 t.l2 t.d1 t.d2 a
 rw[N b] at a ⊢;by_cases c:s.tb.rep=18
 .rw[I c] at a ⊢;exact Lf k O t.l1 t.l2 t.d1 t.d2 a
 rw[N c] at a ⊢;by_cases d:s.tb.told<1
 .rw[I d] at a;exact absurd a (by show ¬12=0;omega)
 rw[N d] at a ⊢;exact Lf k (k.ls _) t.l1 t.l2 t.d1 t.d2 a
theorem Kv{s v}(k:StK s)(c:v<256):StK (s.short1 v):=⟨k.lit,k.dist,k.short,k.sym,k.len,k.base,k.win,k.cnt,k.hist,k.sum,λa=>by
 show upd s.tb.sl (rA.getD s.tb.told 0) v a<256
 by_cases b:a=rA.getD s.tb.told 0
 .rw[b,upd_same];exact c
 .rw[upd_ne _ _ _ b];exact k.sl a,k.ls,k.left⟩
theorem Ew{s v}(k:StK s)(l:v<256)(e:257<=s.tb.literals)(f:s.tb.literals<=286)(g:1<=s.tb.distances)(h:s.tb.distances<=30)(m:s.tb.shorts<=19)(c:(s.shortLen v).2=0):StJ (s.shortLen v).1:=by
 have b:=Kv k l;unfold St.shortLen at c ⊢;by_cases d:s.tb.told+1<s.tb.shorts
 .rw[I d]
  exact lC b ⟨by show 5<=13;omega,Wnt.w_5,λa=>absurd a (by show ¬5=3;omega),λa=>absurd a (by show ¬5=7;omega),λ_=>⟨d,m⟩,λ_=>⟨e,f,g,h⟩,λa=>absurd a (by show ¬(5=6\/5=11);omega),λa=>absurd a (by show ¬5=6;omega)⟩
 rw[N d] at c ⊢;by_cases i:(s.short1 v).short2.tb.short.full=true
 .rw[I i]
  have n:StK {(s.short1 v).short2 with tb:={(s.short1 v).short2.tb with told:=0}}:=⟨b.lit,b.dist,lS _ _ O O,λj=>by have:=Hc (s.short1 v).tb.sl 19 O j;show(bR (s.short1 v).tb.sl 19).sym j<=18;omega,b.len,b.base,b.win,b.cnt,b.hist,b.sum,b.sl,b.ls,b.left⟩;exact lC n ⟨by show 11<=13;omega,Wnt.any (by show 10<=11;omega),λa=>absurd a (by show ¬11=3;omega),λa=>absurd a (by show ¬11=7;omega),λa=>absurd a (by show ¬11=5;omega),λ_=>⟨e,f,g,h⟩,λ_=>by show 0<=_;omega,λa=>absurd a (by show ¬11=6;omega)⟩
 .rw[N i] at c;exact absurd c (by show ¬12=0;omega)
theorem LP{s v}(k:StK s)(d:v<16384)(b:(s.counts v).2=0):StJ (s.counts v).1:=by
 unfold St.counts at b ⊢;by_cases a:286<v%32+257\/30<v/32%32+1
 .rw[I a] at b;exact absurd b (by show ¬12=0;omega)
 rw[N a];have c:StK {s with tb:=tbN (v%32+257) (v/32%32+1) (v/1024+4)}:=⟨k.lit,k.dist,tJ,λ_=>by show 0<=18;omega,k.len,k.base,k.win,k.cnt,k.hist,k.sum,λ_=>Xp,λ_=>Xp,k.left⟩;refine lC c ⟨by show 5<=13;omega,Wnt.w_5,λa=>absurd a (by show ¬5=3;omega),λa=>absurd a (by show ¬5=7;omega),λ_ => ?_,λ_ => ?_,λa=>absurd a (by show ¬(5=6\/5=11);omega),λa=>absurd a (by show ¬5=6;omega)⟩
 .show 0<v/1024+4/\v/1024+4<=19
  omega
 .show 257<=v%32+257/\v%32+257<=286/\1<=v/32%32+1/\v/32%32+1<=30
  omega
theorem Nl{s v}(k:StK s)(b:v<8)(a:dj v=0):StJ (s.block v):=by
 unfold dj at a;unfold St.block;split
 .exact ep (s:={s with last:=decide (v%2=1),skip:=true}) ⟨k.lit,k.dist,k.short,k.sym,k.len,k.base,k.win,k.cnt,k.hist,k.sum,k.sl,k.ls,k.left⟩ O Wnt.w_2 O O O O O
 split
 .exact ep (s:={s with last:=decide (v%2=1),lit:=nL,dist:=nM}) ⟨Lv,Lw,k.short,k.sym,k.len,k.base,k.win,k.cnt,k.hist,k.sum,k.sl,k.ls,k.left⟩ O (Wnt.any O) O O O O O
 split
 .exact ep (s:=s.lastIs v) ⟨k.lit,k.dist,k.short,k.sym,k.len,k.base,k.win,k.cnt,k.hist,k.sum,k.sl,k.ls,k.left⟩ O Wnt.w_4 O O O O O
 .split at a
  .omega
  .omega
theorem Em{s v}(k:StK s)(a:(s.takeHead v).2=0):StJ (s.takeHead v).1:=by
 unfold St.takeHead at a ⊢;by_cases b:nk v=true
 .rw[I b]
  have c:2^(v%256/16)<=2^7:=XH O (Yr b).2.1;exact ep (s:={s with window:=256*2^(v%256/16)}) ⟨k.lit,k.dist,k.short,k.sym,k.len,k.base,by show 256*2^(v%256/16)<=32768;omega,k.cnt,k.hist,k.sum,k.sl,k.ls,k.left⟩ O Wnt.w_1 O O O O O
 .rw[N b] at a;exact absurd a (by show ¬10=0;omega)
theorem D6{s}(k:StK s)(h:1<=s.left):StJ (s.enter 3 8) :=
 lC k ⟨by show 3<=13;omega,Wnt.w_3,λ_=>h,λa=>absurd a (by show ¬3=7;omega),λa=>absurd a (by show ¬3=5;omega),λa=>absurd a (by show ¬(3=5\/3=6\/3=11);omega),λa=>absurd a (by show ¬(3=6\/3=11);omega),λa=>absurd a (by show ¬3=6;omega)⟩
theorem StK.setLeft{s}(k:StK s){n}(h:n<=65535):StK {s with left:=n}:=⟨k.lit,k.dist,k.short,k.sym,k.len,k.base,k.win,k.cnt,k.hist,k.sum,k.sl,k.ls,h⟩
theorem El{s v}(k:StK s)(a:(s.takeSize v).2=0):StJ (s.takeSize v).1:=by
 unfold St.takeSize at a ⊢;by_cases b:v%65536+v/65536=65535
 .rw[I b]
  have c:StK {s with left:=v%65536}:=k.setLeft O;show StJ (if v%65536=0 then({s with left:=v%65536}:St).endBlock else({s with left:=v%65536}:St).enter 3 8)
  by_cases d:v%65536=0
  .rw[I d];exact rF c
  .rw[N d];exact D6 c (by show 1<=v%65536;omega)
 .rw[N b] at a;exact absurd a (by show ¬11=0;omega)
theorem H5{s}(k:StK s):StJ s.oneLess:=by
 have b:=k.left;have a:StK {s with left:=s.left-1}:=k.setLeft O;unfold St.oneLess;split
 .exact rF a
 .rename_i c;exact D6 a (by show 1<=s.left-1;omega)
theorem GS{s r x}(k:StK s)(j:RwJ r)(c:x<256)(b:(bV s r x).2.2=0):StJ (bV s r x).1/\RwJ (bV s r x).2.1:=by
 unfold bV at b ⊢;by_cases a:(aF s r x).2.2=0
 .rw[I a]
  obtain⟨d,e,f,g⟩:=tG k j c a;rw[d];exact⟨H5 e,f⟩
 .rw[N a] at b;exact absurd b a
theorem GL{s v}(k:StK s)(a:(s.takeSum v).2=0):StJ (s.takeSum v).1:=by
 unfold St.takeSum at a ⊢;by_cases b:qj v=s.sum
 .rw[I b];exact ep k O (Wnt.any O) O O O O O
 .rw[N b] at a;exact absurd a (by show ¬19=0;omega)
theorem Ab{s v}(k:StK s)(a:s.length<=258)(b:v<32):StJ (s.lengthRest v) :=
 ep (s:={s with length:=s.length+v}) ⟨k.lit,k.dist,k.short,k.sym,by show s.length+v<=300;omega,k.base,k.win,k.cnt,k.hist,k.sum,k.sl,k.ls,k.left⟩ O (Wnt.any O) O O O O O
theorem NX{s r σ}(k:StK s)(j:RwJ r)(f:σ ≠ -1)(a:(dz s r σ).2.2=0):StJ (dz s r σ).1/\RwJ (dz s r σ).2.1:=by
 unfold dz at a ⊢;rw[N f] at a ⊢;by_cases b:σ<0\/286<=σ
 .rw[I b] at a;exact absurd a (by show ¬13=0;omega)
 rw[N b] at a ⊢;by_cases c:σ=256
 .rw[I c];exact⟨rF k,j⟩
 rw[N c] at a ⊢;by_cases d:257<=σ
 .rw[I d]
  have e:σ.toNat-257<29:=O;generalize σ.toNat-257=l at e ⊢;exact⟨Ot k e,j⟩
 rw[N d] at a ⊢;obtain⟨g,h,i,m⟩:=tG (k.enter 12 0) j O a;rw[g];refine⟨?_,i⟩
 have:StJ (s.enter 12 0):=ep k O (Wnt.any O) O O O O O
 exact⟨h,⟨this.p.part,this.p.want,this.p.left,this.p.l7,this.p.t5,this.p.tb,this.p.td,this.p.rep⟩,this.got,this.num,this.path⟩
theorem tC{v w n}(h:v<2^w)(a:w<=n):v<2^n:=Xq h (XH O a)
theorem Ie{s r v}(k:StK s)(p:StP s)(j:RwJ r)(f:s.part<=9)(d:v<2^s.wanted):gy s r v:=by
 have c:=p.want;have h:=k.len;have i:=k.base;have l:=k.win;refine⟨f,λa => ?_,λa => ?_,λa => ?_,λa => ?_,λa => ?_,λa => ?_,λ_=>O,λa => ?_,?_,λa=>p.left a,λ_=>k.left,λ_=>j.good,k.sum⟩
 .rw[c.w0 a] at d;exact d
 .rw[c.w1 a] at d;exact d
 .rw[c.w3 a] at d;exact d
 .rw[c.w4 a] at d;exact d
 .rw[c.w5 a] at d
  have e:=p.t5 a;exact⟨O,O,e.2,λg _=>k.sl g⟩
 .have e:=p.tb (R (L a))
  have m:=tC d (c.w6 a).2;exact⟨O,p.rep a,e.1,e.2.1,e.2.2.1,e.2.2.2,p.td (L a),k.ls⟩
 .have n:=tC d (c.w8 a).2
  exact⟨O,O,k.cnt,O,O,(tK k j).1⟩
 .have:s.wanted<=32:=by
   have:s.part=0\/s.part=1\/s.part=2\/s.part=3\/s.part=4\/s.part=5\/s.part=6\/s.part=7\/s.part=8\/s.part=9:=O
   rcases this with b|b|b|b|b|b|b|b|b|b
   .have:=c.w0 b;omega
   .have:=c.w1 b;omega
   .have:=c.w2 b;omega
   .have:=c.w3 b;omega
   .have:=c.w4 b;omega
   .have:=c.w5 b;omega
   .have:=c.w6 b;omega
   .have:=c.w7 b;omega
   .have:=c.w8 b;omega
   .have:=c.w9 b;omega
  exact tC d this
theorem prE{a:St×Nat}{r}(h:((a.1,r,a.2):St×Rw×Nat).2.2=0):a.2=0:=h
theorem prJ{a:St×Nat}{r}(h:StJ a.1)(j:RwJ r):StJ ((a.1,r,a.2):St×Rw×Nat).1/\RwJ ((a.1,r,a.2):St×Rw×Nat).2.1:=⟨h,j⟩
theorem prF{A r e}(h:((A,r,e):St×Rw×Nat).2.2=0):e=0:=h
theorem prK{A r e}(h:StJ A)(j:RwJ r):StJ ((A,r,e):St×Rw×Nat).1/\RwJ ((A,r,e):St×Rw×Nat).2.1:=⟨h,j⟩
theorem Oe{s r v}(k:StK s)(p:StP s)(j:RwJ r)(q:s.part<=9)(l:v<2^s.wanted)(a:(aJ s r v).2.2=0):StJ (aJ s r v).1/\RwJ (aJ s r v).2.1:=by
 have b:=Ie k p j q l;unfold aJ at a ⊢;by_cases m:s.part=0
 .rw[I m] at a ⊢;exact prJ (Em k (prE a)) j
 rw[N m] at a ⊢;by_cases f:s.part=1
 .rw[I f] at a ⊢;exact prK (Nl k (b.v1 f) (prF a)) j
 rw[N f] at a ⊢;by_cases n:s.part=2
 .rw[I n] at a ⊢;exact prJ (El k (prE a)) j
 rw[N n] at a ⊢;by_cases g:s.part=3
 .rw[I g] at a ⊢;exact GS k j (b.v3 g) a
 rw[N g] at a ⊢;by_cases h:s.part=4
 .rw[I h] at a ⊢;exact prJ (LP k (b.v4 h) (prE a)) j
 rw[N h] at a ⊢;by_cases c:s.part=5
 .rw[I c] at a ⊢
  have d:=p.tb (L c);exact prJ (Ew k (b.v5 c).vl d.1 d.2.1 d.2.2.1 d.2.2.2 (p.t5 c).2 (prE a)) j
 rw[N c] at a ⊢;by_cases i:s.part=6
 .rw[I i] at a ⊢;exact prJ (KE k (b.v6 i).tb (prE a)) j
 rw[N i] at a ⊢;by_cases e:s.part=7
 .rw[I e] at a ⊢;exact prK (Ab k (p.l7 e) (tC l (p.want.w7 e).2)) j
 rw[N e] at a ⊢;by_cases o:s.part=8
 .rw[I o] at a ⊢;exact(tK k j).2 a
 rw[N o] at a ⊢;exact prJ (GL k (prE a)) j
theorem StK.setPath{s}(k:StK s)p:StK {s with path:=p}:=⟨k.lit,k.dist,k.short,k.sym,k.len,k.base,k.win,k.cnt,k.hist,k.sum,k.sl,k.ls,k.left⟩
theorem StJ.setPath{s}(h:StJ s){p}(a:PtJ p):StJ {s with path:=p}:=⟨h.k.setPath p,⟨h.p.part,h.p.want,h.p.left,h.p.l7,h.p.t5,h.p.tb,h.p.td,h.p.rep⟩,h.got,h.num,a⟩
theorem StJ.wle{s}(h:StJ s)(c:s.part<=9):s.wanted<=32:=by
 have b:=h.p.want
 have:s.part=0\/s.part=1\/s.part=2\/s.part=3\/s.part=4\/s.part=5\/s.part=6\/s.part=7\/s.part=8\/s.part=9:=O
 rcases this with a|a|a|a|a|a|a|a|a|a
 .have:=b.w0 a;omega
 .have:=b.w1 a;omega
 .have:=b.w2 a;omega
 .have:=b.w3 a;omega
 .have:=b.w4 a;omega
 .have:=b.w5 a;omega
 .have:=b.w6 a;omega
 .have:=b.w7 a;omega
 .have:=b.w8 a;omega
 .have:=b.w9 a;omega
theorem lK.of{s}(k:StK s)(p:StP s)(h:s.part=11):lK s.tb:=by
 have a:=p.tb (R (R h));exact⟨a.1,a.2.1,a.2.2.1,a.2.2.2,p.td (R h),k.ls⟩
theorem JJ{m g t}(b:m<2^g)(a:t<=1):m+t*2^g<2^(g+1):=by
 have:t*2^g<=1*2^g:=XS _ a
 rw[Ya];omega
theorem Nn{s r t}(h:StJ s)(j:RwJ r)(l:s.part≠10)(b:t<=1):xp s r t:=by
 have m:=h.p.part;have n:=h.k.len;have o:=h.k.win;refine⟨O,λa => ?_,λa => ?_,λa => ?_,λa => ?_,λa=>h.wle a,λ_=>h.num,b,λa p => ?_⟩
 .exact⟨h.k.lit,h.path.ok,b,CS.step_lo _ _ _,by have:=CS.step_hi s.lit s.path t 288 (λc d=>by have:=h.k.lit.sym c d;omega);omega,j.good,h.k.sum⟩
 .exact⟨h.k.short,h.path.ok,b,CS.step_lo _ _ _,CS.step_hi _ _ _ 18 (λc _=>h.k.sym c),lK.of h.k h.p a⟩
 .exact⟨h.k.dist,h.path.ok,b,CS.step_lo _ _ _,by have:=CS.step_hi s.dist s.path t 288 (λc d=>by have:=h.k.dist.sym c d;omega);omega,h.k.cnt,O,O,λe f g i=>(tK (D:=e) (h.k.setPath (s.dist.step s.path t).1) j).1 f g i⟩
 .have:=h.got a;have:=h.wle a;omega
 .have q:=h.got a
  have k:s.got+1=s.wanted:=O;refine Ie (s:=s.oneBit t) ⟨h.k.lit,h.k.dist,h.k.short,h.k.sym,h.k.len,h.k.base,h.k.win,h.k.cnt,h.k.hist,h.k.sum,h.k.sl,h.k.ls,h.k.left⟩ ⟨h.p.part,h.p.want,h.p.left,h.p.l7,h.p.t5,h.p.tb,h.p.td,h.p.rep⟩ j a ?_;show s.number+t*2^s.got<2^s.wanted
  rw[<-k];exact JJ h.num b
theorem Ou{s r t}(h:StJ s)(j:RwJ r)(u:s.part≠10)(e:t<=1)(a:(bm s r t).2.2=0):StJ (bm s r t).1/\RwJ (bm s r t).2.1:=by
 have v:=h.p.part;unfold bm at a ⊢;by_cases i:s.part=12
 .rw[I i] at a ⊢
  by_cases b:(s.lit.step s.path t).2 = -1
  .have d:nB s r t=({s with path:=(s.lit.step s.path t).1},r,0):=by unfold nB dz;rw[I b]
   rw[d];exact⟨h.setPath (CS.step_more h.k.lit h.path e b),j⟩
  .exact NX (h.k.setPath _) j b a
 rw[N i] at a ⊢;by_cases f:s.part=11
 .rw[I f] at a ⊢
  refine⟨?_,j⟩;replace a:(clP s t).2=0:=a;show StJ (clP s t).1
  by_cases b:(s.tb.short.step s.path t).2 = -1
  .have d:(clP s t).1=({s with path:=(s.tb.short.step s.path t).1}:St).setRep (s.tb.short.step s.path t).2:=by unfold clP St.codeLen;rw[I b]
   rw[d];have c:=h.setPath (CS.step_more h.k.short h.path e b);refine⟨c.k.setRep _,⟨c.p.part,c.p.want,c.p.left,c.p.l7,c.p.t5,c.p.tb,c.p.td,λk => ?_⟩,c.got,c.num,c.path⟩;replace k:s.part=6:=k;omega
  .exact Jv (h.k.setPath _) (lK.of (s:=s) h.k h.p f) (CS.step_lo _ _ _) (CS.step_hi _ _ _ 18 (λq _=>h.k.sym q)) b a
 rw[N f] at a ⊢;by_cases l:s.part=13
 .rw[I l] at a ⊢
  by_cases b:(s.dist.step s.path t).2 = -1
  .have d:dsP s r t=({s with path:=(s.dist.step s.path t).1},r,0):=by unfold dsP cF;rw[I b]
   rw[d];exact⟨h.setPath (CS.step_more h.k.dist h.path e b),j⟩
  .exact LI (h.k.setPath _) j b a
 rw[N l] at a ⊢;have m:s.part<=9:=O;have w:=h.got m;have n:StK (s.oneBit t):=⟨h.k.lit,h.k.dist,h.k.short,h.k.sym,h.k.len,h.k.base,h.k.win,h.k.cnt,h.k.hist,h.k.sum,h.k.sl,h.k.ls,h.k.left⟩;have o:StP (s.oneBit t):=⟨h.p.part,h.p.want,h.p.left,h.p.l7,h.p.t5,h.p.tb,h.p.td,h.p.rep⟩;have p:=JJ h.num e;by_cases g:s.got+1<s.wanted
 .rw[I g]
  exact⟨⟨n,o,λ_=>g,p,h.path⟩,j⟩
 .rw[N g] at a ⊢
  have d:s.got+1=s.wanted:=O;refine Oe n o j m ?_ a;show s.number+t*2^s.got<2^s.wanted
  rw[<-d];exact p
theorem StJ.skip{s}(h:StJ s)b:StJ {s with skip:=b}:=⟨⟨h.k.lit,h.k.dist,h.k.short,h.k.sym,h.k.len,h.k.base,h.k.win,h.k.cnt,h.k.hist,h.k.sum,h.k.sl,h.k.ls,h.k.left⟩,⟨h.p.part,h.p.want,h.p.left,h.p.l7,h.p.t5,h.p.tb,h.p.td,h.p.rep⟩,h.got,h.num,h.path⟩
structure PN (s:St):Prop where
 n10:s.part≠10
 n9:s.part=9->s.skip=true/\s.got=0
theorem bk(s:St){p w}(a:p≠9)(b:p≠10):PN (s.enter p w):=⟨b,λc=>absurd c a⟩
theorem lD(s:St):PN s.endBlock:=by
 unfold St.endBlock;split
 .exact⟨by show 9≠10;omega,λ_=>⟨rfl,rfl⟩⟩
 .exact bk _ O O
theorem pY{s}(h:PN s)r x:PN (aF s r x).1:=by
 unfold aF;split
 .split
  .exact h
  .exact⟨h.n10,h.n9⟩
 .exact h
theorem xa:∀(k D:Nat) (s:St) (r:Rw),PN s->PN (ck k D s r).1
 | 0,_,s,_,_=>bk s O O
 | k+1,D,s,r,h=>by
  unfold ck;split
  .exact xa k D _ _ (pY h _ _)
  .exact pY h _ _
theorem Az{s}(h:PN s)r D:PN (cZ s r D).1:=by
 unfold cZ;split
 .exact h
 .exact xa _ _ _ _ h
theorem PN.same{s s'}(h:PN s)(a:s'.part=s.part)(b:s'.skip=s.skip)(c:s'.got=s.got):PN s':=⟨by rw[a];exact h.n10,λd=>by rw[b,c];exact h.n9 (by rw[<-a];exact d)⟩
theorem DK:∀(n x:Nat) (s:St),PN s->PN (St.layN n x s)
 | 0,_,_,h=>h
 | n+1,x,s,h=>DK n x (s.lay1 x) (h.same rfl rfl rfl)
theorem yn{s}(h:PN s):PN s.makeCodes.1:=by
 have a:PN s.mkLit.mkDist:=h.same rfl rfl rfl;unfold St.makeCodes;split
 .exact a
 split
 .exact a
 split
 .exact a
 .exact bk _ O O
theorem yq{s}(h:PN s)x n:PN (s.lay x n).1:=by
 unfold St.lay;split
 .exact h
 split
 .exact bk _ O O
 .exact yn (DK n x s h)
theorem CA{s}(h:PN s)σ:PN (s.codeLen σ).1:=by
 have a:PN (s.setRep σ):=h.same rfl rfl rfl;unfold St.codeLen;split
 .exact a
 split
 .exact a
 split
 .split
  .exact a
  .exact bk _ O O
 split
 .exact bk _ O O
 split
 .exact bk _ O O
 .exact yq a _ _
theorem EB{s}(h:PN s)v:PN (s.repeat v).1:=by
 unfold St.repeat;split
 .exact yq h _ _
 split
 .exact yq h _ _
 split
 .exact h
 .exact yq h _ _
theorem zF{s}(h:PN s)v:PN (s.shortLen v).1:=by
 unfold St.shortLen;split
 .exact bk _ O O
 split
 .exact bk _ O O
 .exact h.same rfl rfl rfl
theorem FI{s}(h:PN s)v:PN (s.counts v).1:=by
 unfold St.counts;split
 .exact h.same rfl rfl rfl
 .exact bk _ O O
theorem LQ(s:St)j:PN (s.copy j):=by
 unfold St.copy;split
 .exact bk _ O O
 .exact bk _ O O
theorem KY{s}(h:PN s)(a:s.part≠9)(h':s.part<=9)r v:PN (aJ s r v).1:=by
 unfold aJ;split
 .unfold St.takeHead
  split
  .exact bk _ O O
  .exact h
 split
 .show PN (s.block v)
  unfold St.block;split
  .exact bk _ O O
  split
  .exact bk _ O O
  split
  .exact bk _ O O
  .exact h.same rfl rfl rfl
 split
 .show PN (s.takeSize v).1
  unfold St.takeSize;split
  .show PN (if v%65536=0 then({s with left:=v%65536}:St).endBlock else({s with left:=v%65536}:St).enter 3 8)
   split
   .exact lD _
   .exact bk _ O O
  .exact h
 split
 .unfold bV
  split
  .show PN (aF s r v).1.oneLess
   unfold St.oneLess;split
   .exact lD _
   .exact bk _ O O
  .exact pY h _ _
 split
 .exact FI h v
 split
 .exact zF h v
 split
 .exact EB h v
 split
 .exact bk _ O O
 split
 .exact Az h _ _
 .rename_i b c d e f g i j k
  omega
theorem Ec{s}(c:s.part≠9)(d:s.part≠10)(f:s.part<=13)r t:PN (bm s r t).1:=by
 have e:PN s:=⟨d,λb=>absurd b c⟩;unfold bm;split
 .have a:PN {s with path:=(s.lit.step s.path t).1}:=e.same rfl rfl rfl
  unfold nB dz;split
  .exact a
  split
  .exact a
  split
  .exact lD _
  split
  .generalize (s.lit.step s.path t).2.toNat-257=g
   exact LQ _ _
  .exact pY (bk _ O O) _ _
 split
 .exact CA (s:={s with path:=(s.tb.short.step s.path t).1}) (e.same rfl rfl rfl) _
 split
 .have a:PN {s with path:=(s.dist.step s.path t).1}:=e.same rfl rfl rfl
  unfold dsP cF;split
  .exact a
  split
  .exact a
  split
  .exact Az a _ _
  .exact bk _ O O
 split
 .exact⟨d,λb=>absurd b c⟩
 .exact KY (s:=s.oneBit t) ⟨d,λb=>absurd b c⟩ c (by show s.part<=9;omega) _ _
theorem AN x:∀(k i:Nat) (s:St) (r:Rw),i+k=8->StJ s->RwJ r->(s.part=10->k=0)->(s.part=9->(s.skip=true->s.got=0)/\(s.skip=false->s.got%8=i%8))->jL k i s r x/\((bt k i s r x).2.2=0->StJ (bt k i s r x).1/\RwJ (bt k i s r x).2.1/\((bt k i s r x).1.part=9->(bt k i s r x).1.got%8=0))
 | 0,i,s,r,y,f,j,_,m=>⟨trivial,λ_=>⟨f,j,λc=>by
   replace c:s.part=9:=c;show s.got%8=0
   obtain⟨a,p⟩:=m c;cases g:s.skip with
   | true=>rw[a g]
   | false=>have:=p g;omega⟩⟩
 | k+1,i,s,r,y,f,j,z,m=>by
  have n:s.part≠10:=λc=>absurd (z c) O
  by_cases g:s.skip=true
  .refine⟨L g,?_⟩
   unfold bt;rw[I g];exact λ_=>⟨f,j,λc=>by show s.got%8=0;rw[(m c).1 g]⟩
  .have q:s.skip=false:=by cases A:s.skip with|false=>rfl|true=>exact absurd A g
   have t:x/2^i%2<=1:=O;generalize u:x/2^i%2=b at *;have v:(bm s r b).2.2=0->jL k (i+1) (bm s r b).1 (bm s r b).2.1 x/\((bt k (i+1) (bm s r b).1 (bm s r b).2.1 x).2.2=0->StJ (bt k (i+1) (bm s r b).1 (bm s r b).2.1 x).1/\RwJ (bt k (i+1) (bm s r b).1 (bm s r b).2.1 x).2.1/\((bt k (i+1) (bm s r b).1 (bm s r b).2.1 x).1.part=9->(bt k (i+1) (bm s r b).1 (bm s r b).2.1 x).1.got%8=0)):=λd=>by
    obtain⟨B,C⟩:=Ou f j n t d;refine AN x k (i+1) _ _ O B C ?_ ?_
    .by_cases h:s.part=9
     .intro l
      have D:=(m h).2 q;have E:=f.p.want.w9 h;have F:=f.got O;unfold bm at l;rw[N,N,N] at l;by_cases o:s.got+1<s.wanted
      .rw[I o] at l
       replace l:s.part=10:=l;omega
      .omega
     .intro l
      exact absurd l (Ec h n f.p.part r b).n10
    .by_cases h:s.part=9
     .intro e
      have D:=(m h).2 q;unfold bm at e d ⊢;rw[N,N,N] at e d ⊢;by_cases o:s.got+1<s.wanted
      .rw[I o]
       refine⟨λc => ?_,λ_ => ?_⟩
       .replace c:s.skip=true:=c
        exact absurd c g
       .show(s.got+1)%8=(i+1)%8
        omega
      .exfalso
       rw[N o] at e d;unfold aJ at e d;have G:(s.oneBit b).part=9:=h;rw[N,N,N,N,N,N,N,N,N] at e d;unfold St.takeSum at e d;by_cases w:qj (s.number+b*2^s.got)=(s.oneBit b).sum
       .rw[I w] at e
        exact absurd e (by show ¬10=9;omega)
       .rw[N w] at d
        exact absurd d (by show ¬19=0;omega)
     .intro e
      obtain⟨a,p⟩:=(Ec h n f.p.part r b).n9 e;exact⟨λ_=>p,λc=>by rw[a] at c;cases c⟩
   refine⟨?_,?_⟩
   .refine R ?_
    rw[u];exact⟨(Nn f j n t),λd=>(v d).1⟩
   .unfold bt
    rw[N g,u];by_cases d:(bm s r b).2.2=0
    .rw[I d];exact(v d).2
    .rw[N d];exact λc=>absurd c d
structure StB (s:St):Prop where
 j:StJ s
 al:s.part=9->s.got%8=0
theorem StB.start:StB St.start:=⟨StJ.start,λa=>absurd a (by show ¬0=9;omega)⟩
theorem Dm{s r x}(h:StB s)(j:RwJ r):(s.part≠10->jL 8 0 {s with skip:=false} r x)/\((takeB s r x).2.2=0->StB (takeB s r x).1/\RwJ (takeB s r x).2.1):=by
 have d:s.part≠10->_:=λa=>AN x 8 0 {s with skip:=false} r rfl (h.j.skip false) j (λc=>absurd c a) (λc=>⟨λe=>(by cases e),λ_=>h.al c⟩)
 refine⟨λa=>(d a).1,λb => ?_⟩;unfold takeB at b ⊢;by_cases a:s.part=10
 .rw[I a] at b;exact absurd b (by show ¬20=0;omega)
 .rw[N a] at b ⊢
  obtain⟨f,g,i⟩:=(d a).2 b;exact⟨⟨f,i⟩,g⟩
structure dC (C:CS) (l:List Nat):Prop where
 short:∀s,l.getD s 0<=15
 count:∀n,1<=n->n<=15->C.count n=bM l n l.length
 sym:∀s,s<l.length->1<=l.getD s 0->C.symbol (xL l (l.getD s 0)+bM l (l.getD s 0) s)=(s:Int)
 long:∀s,s<l.length->l.getD s 0<=C.longest
 longest:C.longest<=15
 full:C.longest<=1\/eL l 15=32768
structure nT (l:List Nat) (n v:Nat) (p:Pt):Prop where
 bits:p.bits=n
 off:v=eL l n+p.offset
 ahead:p.ahead=xL l (n+1)
theorem nT.start l:nT l 0 0 ⟨0,0,0⟩:=⟨rfl,by rw[yI];rfl,rfl⟩
theorem FQ{C l}(h:dC C l){n v t p}(q:nT l n v p)(x:v<2^n)(y:t<2)(z:n<=14):((C.step p t).2 = -1/\dW l (n+1) (2*v+t) l.length/\dP l (n+1) (2*v+t) l.length/\nT l (n+1) (2*v+t) (C.step p t).1/\n+1<=14) \/
  (∃c:Nat,(C.step p t).2=(c:Int)/\c<l.length/\dW l (n+1) (2*v+t) c/\fZ l (n+1) (2*v+t) c) \/
  ((C.step p t).2 = -2/\dW l (n+1) (2*v+t) l.length/\¬dP l (n+1) (2*v+t) l.length):=by
 obtain⟨r,A,j⟩:=q;have s:=M8 l n;have B:=h.longest;unfold CS.step;rw[r];by_cases u:C.longest<n+1
 .rw[I (L u)]
  refine R (R ⟨rfl,λa b e => ?_,z4 λa b => ?_⟩)
  .have:=h.long a b
   rw[lX b O] at e;omega
  .have:=h.long a b;omega
 .rw[N]
  rw[(h.count (n+1) O O)];have k:2*v+t=gL l (n+1) l.length+(2*p.offset+t):=by rw[s];omega
  by_cases f:2*p.offset+t<bM l (n+1) l.length
  .rw[I f]
   obtain⟨a,d,g,c⟩:=yQ l (n+1) l.length _ f;refine R (L ⟨a,?_,d,?_,?_⟩)
   .have:=h.sym a d O
    rw[g,c] at this;show C.symbol (p.ahead+(2*p.offset+t))=_
    rw[j];exact this
   .refine M5 d O ?_
    rw[lX d O];exact⟨g,by rw[k,c]⟩
   .rw[lX d O]
    exact⟨g,by rw[k,c]⟩
  .rw[N f]
   have m:dW l (n+1) (2*v+t) l.length:=λa b e=>by
    rw[lX b O] at e
    have:=mh l (n+1) b e.1
    omega
   by_cases i:n+1=C.longest
   .refine R (R ⟨?_,m,z4 λa b => ?_⟩)
    .show(if n+1=C.longest then(-2:Int) else -1) = -2
     rw[I i]
    .rw[i];exact h.long a b
   .refine L ⟨?_,m,?_,⟨rfl,?_,?_⟩,O⟩
    .show(if n+1=C.longest then(-2:Int) else -1) = -1
     rw[N i]
    .have w:eL l 15=32768:=by
      rcases h.full with o|o
      .omega
      .exact o
     refine Ld w O (by rw[Ya];omega) ?_;rw[qd];omega
    .show 2*v+t=eL l (n+1)+(2*p.offset+t-bM l (n+1) l.length)
     rw[qd];omega
    .show p.ahead+bM l (n+1) l.length=xL l (n+1+1)
     rw[j];rfl
def aD(f:Nat->Nat)(N:Nat):List Nat:=(List.range N).map f
theorem dr f N:(aD f N).length=N:=by simp[aD]
theorem eN f N i(h:i<N):(aD f N).getD i 0=f i:=by
 unfold aD;rw[G,XQ,Yp h];rfl
theorem pV f N(g:∀a,a<N->f a<=15):∀a,a<=N->∀b,1<=b->mkC f a b=bM (aD f N) b a
 | 0,_,b,_=>rfl
 | a+1,j,b,h=>by
  have c:=pV f N g a O b h;have i:=eN f N a O;have k:=g a O;rw[bM,i,mkC];by_cases d:okL (f a)
  .rw[I d]
   by_cases e:f a=b
   .rw[I e,e,upd_same,c]
   .rw[if_neg e,upd_ne _ _ _ O,c];rfl
  .rw[if_neg d,c]
   have:f a=0:=by unfold okL at d;omega
   rw[if_neg O];rfl
theorem Mo f N(a:∀b,b<N->f b<=15):∀k,k<=16->mkX (mkC f N) k=xL (aD f N) k
 | 0,_=>rfl
 | 1,_=>rfl
 | k+2,c=>by
  show mkX (mkC f N) (k+1)+mkC f N (k+1)=xL (aD f N) (k+1)+bM (aD f N) (k+1) (aD f N).length
  rw[Mo f N a (k+1) O,pV f N a N (E _) (k+1) O,dr]
def dm(l:List Nat)(k:Nat):Nat->Nat
 | 0=>0
 | i+1=>dm l k i+if 1<=l.getD i 0/\l.getD i 0<k then 1 else 0
theorem ga l k a(e:1<=k):dm l (k+1) a=dm l k a+bM l k a:=by
 induction a with
 | zero=>rfl
 | succ a d=>
  rw[dm,dm,bM,d];by_cases b:1<=l.getD a 0/\l.getD a 0<k
  .rw[I ⟨b.1,O⟩,I b,N];omega
  .by_cases c:l.getD a 0=k
   .rw[I ⟨O,O⟩,N b,I c];omega
   .rw[N,N b,N c];omega
theorem CJ l a:dm l 1 a=0:=by
 induction a with
 | zero=>rfl
 | succ a b=>rw[dm,b,N]
theorem kY l:∀k,1<=k->xL l k=dm l k l.length
 | 0,a=>O
 | 1,_=>by rw[CJ];rfl
 | k+2,_=>by
  show xL l (k+1)+bM l (k+1) l.length=_
  rw[ga l (k+1) _ O,kY l (k+1) O]
theorem lW f N(c:∀a,a<N->f a<=15):∀a,a<=N->mkT f a=dm (aD f N) 16 a
 | 0,_=>rfl
 | a+1,e=>by
  have d:=eN f N a O;have g:=c a O;rw[dm,d,mkT,(lW f N c a O)];by_cases b:okL (f a)
  .rw[I b,I ⟨b.1,O⟩]
  .rw[if_neg b,if_neg (by unfold okL at b;omega)];omega
theorem iH l c{a b}(h:a<=b):dm l a c<=dm l b c:=by
 induction c with
 | zero=>exact E _
 | succ c e=>
  rw[dm,dm];by_cases d:1<=l.getD c 0/\l.getD c 0<a
  .rw[I d,I ⟨d.1,O⟩];omega
  .rw[N d];omega
theorem pT f N(b:∀c,c<N->f c<=15)s(a:s<N)(d:1<=f s):xL (aD f N) (f s)+bM (aD f N) (f s) s<mkT f N:=by
 have g:=b s a;have e:=eN f N s a;have h:=mh (aD f N) (f s) a e;rw[lW f N b N (E _),kY _ _ d,dr];have i:=ga (aD f N) (f s) N d;have j:=iH (aD f N) N (show f s+1<=16 from O);omega
theorem EE f N s t(b:s<N)(c:t<N)(d:1<=f s)(e:1<=f t)(h:xL (aD f N) (f s)+bM (aD f N) (f s) s=xL (aD f N) (f t)+bM (aD f N) (f t) t):s=t:=by
 have a:=eN f N s b;have g:=eN f N t c;have j:=mh (aD f N) (f s) b a;have k:=mh (aD f N) (f t) c g;have l:=ga (aD f N) (f s) N d;have m:=ga (aD f N) (f t) N e;rw[kY _ _ d,kY _ _ e,dr] at h;by_cases i:f s=f t
 .rw[i] at h a
  exact AD (aD f N) (f t) a g O
 .by_cases n:f s<f t
  .have:=iH (aD f N) N (show f s+1<=f t from O);omega
  .have:=iH (aD f N) N (show f t+1<=f s from O);omega
theorem Mp f N(h:∀a,a<N->f a<=15)(j:N<=288):∀a,a<=N->∀b,1<=b->b<=15->mkN f (mkX (mkC f N)) a b=xL (aD f N) b+bM (aD f N) b a
 | 0,_,b,d,e=>by rw[bM];exact Mo f N h b O
 | a+1,l,b,d,e=>by
  have g:=Mp f N h j a O;rw[bM,(eN f N a O),mkN];by_cases c:okL (f a)
  .have m:=g (f a) c.1 c.2
   have n:=pT f N h a O c.1;have o:=nG f N;rw[I ⟨c,O⟩];by_cases i:f a=b
   .rw[I i,i,upd_same,g b d e];omega
   .rw[if_neg i,upd_ne _ _ _ O,g b d e];omega
  .rw[if_neg (λk=>c k.1),g b d e,if_neg (by unfold okL at c;omega)];omega
theorem It f N(c:∀a,a<N->f a<=15)(g:N<=288)s0:∀a,a<=N->∀s,s<a->1<=f s->mkS f (mkX (mkC f N)) s0 a (xL (aD f N) (f s)+bM (aD f N) (f s) s)=s
 | 0,_,s,i,_=>O
 | a+1,i,s,l,e=>by
  have j:=c a O;have m:=nG f N;rw[mkS];by_cases b:okL (f a)
  .have k:=Mp f N c g a O (f a) b.1 b.2
   have n:=pT f N c a O b.1;rw[I ⟨b,O⟩,k];by_cases d:s=a
   .subst d;rw[upd_same]
   .rw[upd_ne _ _ _ (λh=>d (EE f N s a O O e b.1 h))]
    exact It f N c g s0 a O s O e
  .rw[if_neg (λh=>b h.1)]
   have d:s≠a:=λd=>by subst d;exact b ⟨e,j⟩
   exact It f N c g s0 a O s O e
theorem B8 f N(c:∀a,a<N->f a<=15):∀a,a<=N->∀b,b<a->f b<=mkG f a
 | 0,_,b,g=>O
 | a+1,g,b,h=>by
  have i:=c a O;rw[mkG];by_cases d:okL (f a)
  .rw[I d]
   by_cases e:b=a
   .subst e;omega
   .have:=B8 f N c a O b O;omega
  .rw[if_neg d]
   by_cases e:b=a
   .subst e;unfold okL at d;omega
   .exact B8 f N c a O b O
theorem Ez f N(c:∀e,e<N->f e<=15)(h:N<=288)(i:(bR f N).longest<=1\/eL (aD f N) 15=32768):dC (bR f N) (aD f N):=by
 refine⟨λa => ?_,λj d k => ?_,λa b d => ?_,λa b => ?_,uu f N,i⟩
 .by_cases g:a<N
  .rw[eN f N a g];exact c a g
  .rw[G,XX (by rw[dr];omega)];exact X3 _
 .rw[dr];exact pV f N c N (E _) j d
 .rw[dr] at b
  rw[eN f N a b] at d ⊢;have l:=pT f N c a b d;have m:=nG f N;unfold CS.symbol;rw[if_neg (by show ¬(mkT f N<=_\/_);omega)];show((mkS f (mkX (mkC f N)) (λ_=>0) N _:Nat):Int)=_
  rw[It f N c h _ N (E _) a b d]
 .rw[dr] at b
  rw[eN f N a b];exact B8 f N c N (E _) a b
theorem D1 C l(e:∀n,1<=n->n<=15->C.count n=bM l n l.length):∀n k b,k+n=16->1<=k->b+eL l (k-1)=2^(k-1)->(nK C n b k=true↔eL l 15=32768)
 | 0,k,b,g,h,c=>by
  have:k=16:=O
  subst this;show decide (b=0)=true↔_
  rw[XL];have d:(2:Nat)^(16-1)=32768:=rfl;rw[d] at c;have i:16-1=15:=rfl;rw[i] at c;omega
 | n+1,k,b,g,h,c=>by
  obtain⟨a,rfl⟩:∃a,k=a+1:=⟨k-1,O⟩;rw[YL] at c;have o:=e (a+1) O O;have p:=qd l a;show(if 2*b<C.count (a+1) then false else nK C n (2*b-C.count (a+1)) (a+1+1))=true↔_
  by_cases f:2*b<C.count (a+1)
  .rw[I f]
   have j:=D7 l (a+1) (15-(a+1));have d:a+1+(15-(a+1))=15:=O;rw[d] at j;have m:(2^(a+1)+1)*2^(15-(a+1))<=eL l (a+1)*2^(15-(a+1)):=XS _ O;rw[YO,<-Nat.pow_add,d] at m
   have:0<2^(15-(a+1)):=Nat.pow_pos O
   constructor
   .intro k;cases k
   .intro k;omega
  .rw[N f]
   refine D1 C l e n (a+1+1) _ O O ?_;rw[YL,Ya];omega
theorem An(C:CS)l(b:∀a,1<=a->a<=15->C.count a=bM l a l.length):C.full=true↔eL l 15=32768:=by
 refine D1 C l b 15 1 1 rfl O ?_;show 1+eL l 0=2^0
 rw[yI]
theorem Kq l(d:∀e,l.getD e 0<=15)a:ee l a=gL l 15 a+bM l 15 a:=by
 induction a with
 | zero=>rfl
 | succ a f=>
  have:=d a
  rw[ee,gL,bM,f];by_cases b:0<l.getD a 0
  .rw[I b]
   by_cases c:l.getD a 0=15
   .rw[N,I c,c];omega
   .rw[I ⟨b,O⟩,N c];omega
  .rw[N b,N,N];omega
theorem NY l(a:∀b,l.getD b 0<=15):ee l l.length=eL l 15:=by rw[Kq l a];rfl
theorem AC l(c:∀d,l.getD d 0<=15)a:dJ l a=dm l 16 a:=by
 induction a with
 | zero=>rfl
 | succ a e=>
  have:=c a
  rw[dJ,dm,e];by_cases b:0<l.getD a 0
  .rw[I b,I ⟨O,O⟩]
  .rw[N b,N]
theorem EI l a:iA l a=bM l 1 a:=by
 induction a with
 | zero=>rfl
 | succ a b=>rw[iA,bM,b]
theorem lR f N(g:∀h,h<N->f h<=15)lone none:((bR f N).full||((lone&&(bR f N).lone)||(none&&(bR f N).empty)))=cS (aD f N) lone none:=by
 have i:∀c,(aD f N).getD c 0<=15:=λc=>by
  by_cases d:c<N
  .rw[eN f N c d];exact g c d
  .rw[G,XX (by rw[dr];omega)];exact X3 _
 have j:∀a,1<=a->a<=15->(bR f N).count a=bM (aD f N) a (aD f N).length:=λa m s=>by rw[dr];exact pV f N g N (E _) a m
 have n:(bR f N).full=decide (ee (aD f N) (aD f N).length=32768):=by
  rw[X4,An _ _ j,XL,NY _ i]
 have k:(bR f N).total=dJ (aD f N) (aD f N).length:=by
  rw[AC _ i,dr];exact lW f N g N (E _)
 have o:(bR f N).lone=(decide (dJ (aD f N) (aD f N).length=1)&&decide (iA (aD f N) (aD f N).length=1)):=by
  unfold CS.lone;rw[k,j 1 O O,EI]
 have p:(bR f N).empty=decide (dJ (aD f N) (aD f N).length=0):=by unfold CS.empty;rw[k]
 unfold cS;rw[n,o,p];by_cases e:dJ (aD f N) (aD f N).length=0
 .have q:ee (aD f N) (aD f N).length=0:=by
   have:∀b,dJ (aD f N) b=0->ee (aD f N) b=0:=by
    intro b
    induction b with
    | zero=>intro _;rfl
    | succ b r=>
     intro d;rw[dJ] at d;by_cases l:0<(aD f N).getD b 0
     .rw[I l] at d;omega
     .rw[ee,if_neg l,r O]
   exact this _ e
  rw[I e,q,e];cases lone<;>cases none<;>rfl
 .rw[if_neg e]
  rw[J e];cases lone<;>cases none<;>simp
theorem x8 f N(c:∀a,a<N->f a<=15)(m:N<=288)lone none(h:cS (aD f N) lone none=true):dC (bR f N) (aD f N):=by
 have g:∀d,1<=d->d<=15->(bR f N).count d=bM (aD f N) d (aD f N).length:=λd e w=>by rw[dr];exact pV f N c N (E _) d e
 rw[<-lR f N c] at h;refine Ez f N c m ?_;by_cases i:(bR f N).full=true
 .exact R ((An _ _ g).1 i)
 .left
  have n:∀a,a<=N->mkG f a<=1\/(∃b,b<a/\2<=f b/\f b<=15):=by
   intro a
   induction a with
   | zero=>intro _;left;show(0:Nat)<=1;omega
   | succ a o=>
    intro x;have p:=c a O;rcases o O with j|⟨b,k,l⟩
    .by_cases q:2<=f a
     .exact R ⟨a,O,q,p⟩
     .left
      rw[mkG];split<;>omega
    .exact R ⟨b,O,l⟩
  rcases n N (E _) with j|⟨b,k,l,y⟩
  .exact j
  .exfalso
   have z:(bR f N).total=dm (aD f N) 16 N:=lW f N c N (E _);have A:=pT f N c b k O;have B:(bR f N).total=mkT f N:=rfl;have r:=kY (aD f N) (f b) O;have C:bM (aD f N) 1 N<=xL (aD f N) (f b):=by
    rw[r,dr]
    have:=ga (aD f N) 1 N O
    have:=iH (aD f N) N (show 1+1<=f b from O)
    omega
   have e:=g 1 O O;rw[dr] at e;have s:(bR f N).lone=false:=by
    unfold CS.lone;by_cases t:(bR f N).total=1
    .rw[J (show ¬(bR f N).count 1=1 from O),Y9]
    .rw[J t];rfl
   have u:(bR f N).empty=false:=by unfold CS.empty;exact J
   have v:(bR f N).full=false:=by simpa using i
   rw[v,s,u] at h;cases lone<;>cases none<;>simp at h
theorem Fe:dC nL bc:=by
 refine⟨λa => ?_,λb c g => ?_,λa e c => ?_,λa e => ?_,Xh,R Xl⟩
 .by_cases f:a<288
  .have:∀a,a<288->bc.getD a 0<=15:=by decide +kernel
   exact this a f
  .have d:bc.length=288:=by decide +kernel
   rw[G,XX O];exact X3 _
 .have:∀b,b<16->1<=b->nL.count b=bM bc b bc.length:=by decide +kernel
  exact this b O c
 .have d:bc.length=288:=by decide +kernel
  have:∀a,a<288->nL.symbol (xL bc (bc.getD a 0)+bM bc (bc.getD a 0) a)=(a:Int):=Xl
  exact this a O
 .have d:bc.length=288:=by decide +kernel
  have:∀a,a<288->bc.getD a 0<=nL.longest:=Xl
  exact this a O
theorem Ff:dC nM bL:=by
 refine⟨λa => ?_,λb c g => ?_,λa e c => ?_,λa e => ?_,Xh,R Xl⟩
 .by_cases f:a<32
  .have:∀a,a<32->bL.getD a 0<=15:=by decide +kernel
   exact this a f
  .have d:bL.length=32:=by decide +kernel
   rw[G,XX O];exact X3 _
 .have:∀b,b<16->1<=b->nM.count b=bM bL b bL.length:=by decide +kernel
  exact this b O c
 .have d:bL.length=32:=by decide +kernel
  have:∀a,a<32->nM.symbol (xL bL (bL.getD a 0)+bM bL (bL.getD a 0) a)=(a:Int):=Xl
  exact this a O
 .have d:bL.length=32:=by decide +kernel
  have:∀a,a<32->bL.getD a 0<=nM.longest:=Xl
  exact this a O
def bu(r:Rw):List One->Rw×Nat
 | []=>(r,0)
 | x::l=>if(r.take x.1).2=0 then bu (r.take x.1).1 l else r.take x.1
theorem fW r l m:bu r (l++m)=if(bu r l).2=0 then bu (bu r l).1 m else bu r l:=by
 induction l generalizing r with
 | nil=>rfl
 | cons b l c=>
  show bu r (b::(l++m))=_
  rw[bu,bu];by_cases a:(r.take b.1).2=0
  .rw[I a,I a];exact c _
  .rw[N a,N a,N a]
theorem dV{r r' l}(h:bu r l=(r',0))x:bu r (l++[x])=if(r'.take x.1).2=0 then((r'.take x.1).1,0) else r'.take x.1:=by
 rw[fW,h];rfl
def cC(r0:Rw)(out:List One)(p e:Nat)(rr:Rw):Prop:=e≠0/\∃pre x post r1,out=pre++(x,p)::post/\bu r0 pre=(r1,0)/\r1.take x=(rr,e)
theorem cC.more{r0 out p e rr}(h:cC r0 out p e rr)q:cC r0 (out++q) p e rr:=by
 obtain⟨a,b,c,d,f,rfl,g,i⟩:=h;exact⟨a,b,c,d++q,f,Xi,g,i⟩
theorem cC.go{r0 out p e rr}(h:cC r0 out p e rr):bu r0 out=(rr,e):=by
 obtain⟨c,g,a,i,b,rfl,d,f⟩:=h;rw[fW,d,I rfl,bu];show(if(b.take a).2=0 then _ else b.take a)=_
 rw[f,N c]
theorem rq{r0}{out:List One}{p e}(h:e≠0/\∃b x c a,out=b++(x,p)::c/\bu r0 b=(a,0)/\(a.take x).2=e):∃d,cC r0 out p e d:=by
 obtain⟨f,b,x,c,a,g,i,j⟩:=h;exact⟨(a.take x).1,f,b,x,c,a,g,i,Y7 rfl j⟩
structure Cm (r0:Rw) (s:St) (r:Rw) (t:Px.St):Prop where
 win:s.window=t.window
 last:s.last=t.last
 cnt:s.count=t.o.length
 hist:∀j,j<t.o.length->s.hist j=vAt t.o j
 sum:s.sum=65536*bA t.o+bn t.o
 rows:bu r0 t.o=(r,0)
def Cap(r0:Rw):Prop:=∀out r x,bu r0 out=(r,0)->(r.take x).2=0->out.length<2078
theorem JR l x:65536*bA (l++[x])+bn (l++[x])=adl (65536*bA l+bn l) x.1:=by
 have a:=AS l l.length;rw[xm] at a;have b:bn (l++[x])=(bn l+x.1)%65521:=by unfold bn;rw[Yk];rfl
 have c:bA (l++[x])=(bA l+(bn l+x.1)%65521)%65521:=by
  unfold bA bn;rw[Yk];show((l.foldl _ (1,0)).2+((l.foldl _ (1,0)).1+x.1)%65521)%65521=_
  rw[(Ao l (1,0))]
 rw[b,c];unfold adl;have d:=a.1;have e:=a.2;simp only at d e;have f:(65536*bA l+bn l)/65536=bA l:=O;have g:(65536*bA l+bn l)%65536=bn l:=O;rw[f,g];omega
theorem GD l x j(h:j<(l++[x]).length):vAt (l++[x]) j=if j=l.length then x.1 else vAt l j:=by
 unfold vAt;rw[G,G];simp at h;by_cases a:j=l.length
 .subst a;rw[I rfl,XP (E _)];simp
 .rw[N a,XV O]
theorem yB{r0 s r t}(e:Cap r0)(h:Cm r0 s r t)x p:((aF s r x).2.2=0/\aF s r x=(s.give x,(aF s r x).2.1,0)/\Cm r0 (s.give x) (aF s r x).2.1 (t.give x p))\/((aF s r x).2.2≠0/\cC r0 (t.give x p).o p (aF s r x).2.2 (aF s r x).2.1):=by
 unfold aF;by_cases a:(r.take x).2=0
 .have g:=e t.o r x h.rows a
  have f:=h.cnt;rw[I a,N];refine L ⟨rfl,rfl,h.win,h.last,?_,λb d => ?_,?_,?_⟩
  .show s.count+1=(t.o++[(x,p)]).length
   simp;omega
  .show upd s.hist s.count x b=vAt (t.o++[(x,p)]) b
   rw[GD _ _ _ d,f];have i:b<t.o.length+1:=by simpa[Px.St.give] using d
   by_cases c:b=t.o.length
   .rw[I c,c,upd_same]
   .rw[N c,upd_ne _ _ _ c]
    exact h.hist b O
  .show adl s.sum x=65536*bA (t.o++[(x,p)])+bn (t.o++[(x,p)])
   rw[JR,h.sum]
  .show bu r0 (t.o++[(x,p)])=_
   rw[dV h.rows,I a]
 .rw[N a]
  exact R ⟨a,a,t.o,x,[],r,rfl,h.rows,rfl⟩
theorem rW p D:∀(n:Nat) (a:List One),∃b,aV p D n a=a++b
 | 0,a=>⟨[],by simp[aV]⟩
 | n+1,a=>by
  obtain⟨b,c⟩:=rW p D n (a++[(vAt a (a.length-D),p)]);exact⟨(vAt a (a.length-D),p)::b,by rw[aV,c];simp⟩
theorem Cm.enter{r0 s r t}(h:Cm r0 s r t)p w:Cm r0 (s.enter p w) r t:=⟨h.win,h.last,h.cnt,h.hist,h.sum,h.rows⟩
structure Rest (s s':St):Prop where
 lit:s'.lit=s.lit
 dist:s'.dist=s.dist
 skip:s'.skip=s.skip
 left:s'.left=s.left
theorem Ea{r0}(h:Cap r0)p D(j:1<=D):∀(n:Nat) (s:St) (r:Rw) (t:Px.St),Cm r0 s r t->D<=t.o.length ->
  ((ck n D s r).2.2=0/\(∃a,(ck n D s r).1=a.enter 12 0/\Rest s a/\Cm r0 a (ck n D s r).2.1 {t with o:=aV p D n t.o}))\/((ck n D s r).2.2≠0/\cC r0 (aV p D n t.o) p (ck n D s r).2.2 (ck n D s r).2.1)
 | 0,s,r,t,b,k=>L ⟨rfl,s,rfl,⟨rfl,rfl,rfl,rfl⟩,b⟩
 | n+1,s,r,t,b,k=>by
  have i:s.hist (s.count-D)=vAt t.o (t.o.length-D):=by rw[b.cnt];exact b.hist _ O
  rw[ck,aV];rcases(yB h b (s.hist (s.count-D)) p) with⟨c,d,l⟩|⟨c,d⟩
  .rw[I c]
   have m:(aF s r (s.hist (s.count-D))).1=s.give (s.hist (s.count-D)):=by rw[d]
   rw[m];have e:=Ea h p D j n _ _ _ l (by show D<=(t.o++[_]).length;simp;omega);have g:(t.give (s.hist (s.count-D)) p).o=t.o++[(vAt t.o (t.o.length-D),p)]:=by rw[<-i];rfl
   rw[g] at e;rcases e with⟨o,a,q,f,u⟩|e
   .exact L ⟨o,a,q,⟨f.lit,f.dist,f.skip,f.left⟩,u⟩
   .exact R e
  .rw[N c]
   refine R ⟨c,?_⟩;have g:(t.give (s.hist (s.count-D)) p).o=t.o++[(vAt t.o (t.o.length-D),p)]:=by rw[<-i];rfl
   rw[g] at d;obtain⟨v,w⟩:=rW p D n (t.o++[(vAt t.o (t.o.length-D),p)]);rw[w];exact d.more v
structure AW (s:St) (nl nd:Nat) (sl out:List Nat):Prop where
 lit:s.tb.literals=nl
 dist:s.tb.distances=nd
 b1:257<=nl
 b2:nl<=286
 b3:1<=nd
 b4:nd<=30
 told:s.tb.told=out.length
 ls:∀i,i<out.length->s.tb.ls i=out.getD i 0
 le:∀x∈out,x<=15
 lt:out.length<nl+nd
 code:dC s.tb.short sl
 sl19:sl.length=19
structure CR (s:St) (lit dist:List Nat):Prop where
 lit:dC s.lit lit
 dist:dC s.dist dist
def ez(s:St):Ph->Prop
 | .inl _=>s.part=0/\s.wanted=16
 | .inr (.inl _)=>s.part=1/\s.wanted=3
 | .inr (.inr (.inl _))=>s.part=2/\s.wanted=32
 | .inr (.inr (.inr (.inl left)))=>s.part=3/\s.wanted=8/\s.left=left/\1<=left
 | .inr (.inr (.inr (.inr (.inl _))))=>s.part=4/\s.wanted=14
 | .inr (.inr (.inr (.inr (.inr (.inl (nl,nd,ns,told))))))=>s.part=5/\s.wanted=3/\s.tb.literals=nl/\s.tb.distances=nd/\s.tb.shorts=ns/\s.tb.told=told.length/\told.length<ns/\ns<=19/\(∀i,i<19->s.tb.sl i=(aR told).getD i 0)/\(∀x∈told,x<8)/\257<=nl/\nl<=286/\1<=nd/\nd<=30
 | .inr (.inr (.inr (.inr (.inr (.inr (.inl (nl,nd,sl,out)))))))=>s.part=11/\AW s nl nd sl out
 | .inr (.inr (.inr (.inr (.inr (.inr (.inr (.inl (nl,nd,sl,out,c))))))))=>s.part=6/\s.wanted=cd c/\s.tb.rep=(c:Int)/\(c=16\/c=17\/c=18)/\(c=16->out≠[])/\AW s nl nd sl out
 | .inr (.inr (.inr (.inr (.inr (.inr (.inr (.inr (.inl (lit,dist)))))))))=>s.part=12/\CR s lit dist
 | .inr (.inr (.inr (.inr (.inr (.inr (.inr (.inr (.inr (.inl (lit,dist,base,bits))))))))))=>s.part=7/\s.wanted=bits/\1<=bits/\s.length=base/\CR s lit dist
 | .inr (.inr (.inr (.inr (.inr (.inr (.inr (.inr (.inr (.inr (.inl (lit,dist,len)))))))))))=>s.part=13/\s.length=len/\CR s lit dist
 | .inr (.inr (.inr (.inr (.inr (.inr (.inr (.inr (.inr (.inr (.inr (.inl (lit,dist,len,base,bits))))))))))))=>s.part=8/\s.wanted=bits/\1<=bits/\s.length=len/\s.base=base/\1<=base/\CR s lit dist
 | .inr (.inr (.inr (.inr (.inr (.inr (.inr (.inr (.inr (.inr (.inr (.inr (.inl _))))))))))))=>s.part=9/\s.wanted=32
 | .inr (.inr (.inr (.inr (.inr (.inr (.inr (.inr (.inr (.inr (.inr (.inr (.inr _))))))))))))=>s.part=10
structure Beg (r0:Rw) (s:St) (r:Rw) (t:Px.St):Prop where
 cm:Cm r0 s r t
 ph:ez s t.ph
 got:s.got=0
 num:s.number=0
 path:s.path=⟨0,0,0⟩
def bl(r0:Rw)(o:List One)(R:St×Rw×Nat)(p:Nat):Res->Prop
 | .inl e=>R.2.2=e/\e≠0/\bu r0 o=(R.2.1,0)
 | .inr (t',k)=>(R.2.2=0/\Beg r0 R.1 R.2.1 t'/\R.1.skip=k)\/(R.2.2≠0/\cC r0 t'.o p R.2.2 R.2.1)
theorem yH{o r0 s r t}p(h:Cm r0 s r t)(c:s.skip=false):bl r0 o (s.endBlock,r,0) p t.endBlock:=by
 unfold St.endBlock Px.St.endBlock;have b:=h.last;by_cases a:t.last=true
 .rw[I a,I (by rw[b];exact a)]
  exact L ⟨rfl,⟨⟨h.win,h.last,h.cnt,h.hist,h.sum,h.rows⟩,⟨rfl,rfl⟩,rfl,rfl,rfl⟩,rfl⟩
 .rw[N a,N (by rw[b];exact a)]
  exact L ⟨rfl,⟨⟨h.win,h.last,h.cnt,h.hist,h.sum,h.rows⟩,⟨rfl,rfl⟩,rfl,rfl,rfl⟩,c⟩
theorem Ib{r0 s r t v p}(h:Cm r0 s r t)(a:t.ph=.head)(b:ez s t.ph)(d:s.skip=false):bl r0 t.o (aJ s r v) p (br t v p):=by
 rw[a] at b;unfold aJ br;rw[I b.1,a];show bl r0 t.o ((s.takeHead v).1,r,(s.takeHead v).2) p (if v%256%16≠8\/7<v%256/16\/(256*(v%256)+v/256)%31≠0\/v/256/32%2=1 then _ else _)
 unfold St.takeHead;by_cases c:v%256%16≠8\/7<v%256/16\/(256*(v%256)+v/256)%31≠0\/v/256/32%2=1
 .rw[I c]
  have:nk v=false:=by unfold nk;exact J
  rw[this];exact⟨rfl,Xh,h.rows⟩
 .rw[N c]
  have:nk v=true:=by unfold nk;exact K
  rw[this];refine L ⟨rfl,⟨⟨?_,h.last,h.cnt,h.hist,h.sum,h.rows⟩,⟨rfl,rfl⟩,rfl,rfl,rfl⟩,d⟩;show 256*2^(v%256/16)=2^(8+v%256/16)
  rw[Nat.pow_add]
theorem EP{r0 s r t v p}(h:Cm r0 s r t)(e:t.ph=.block)(d:ez s t.ph)(f:s.skip=false)(g:v<8):bl r0 t.o (aJ s r v) p (br t v p):=by
 rw[e] at d;unfold aJ br;rw[N (by have:=d.1;omega),I d.1,e];show bl r0 t.o (s.block v,r,dj v) p (if v/2=0 then _ else if v/2=1 then _ else if v/2=2 then _ else _)
 unfold St.block dj;by_cases a:v/2=0
 .rw[I a,I a,N]
  exact L ⟨rfl,⟨⟨h.win,rfl,h.cnt,h.hist,h.sum,h.rows⟩,⟨rfl,rfl⟩,rfl,rfl,rfl⟩,rfl⟩
 rw[N a,N a];by_cases b:v/2=1
 .rw[I b,I b,N]
  exact L ⟨rfl,⟨⟨h.win,rfl,h.cnt,h.hist,h.sum,h.rows⟩,⟨rfl,Fe,Ff⟩,rfl,rfl,rfl⟩,f⟩
 rw[N b,N b];by_cases c:v/2=2
 .rw[I c,I c,N]
  exact L ⟨rfl,⟨⟨h.win,rfl,h.cnt,h.hist,h.sum,h.rows⟩,⟨rfl,rfl⟩,rfl,rfl,rfl⟩,f⟩
 rw[N c,N c,I];exact⟨rfl,Xh,h.rows⟩
theorem EK{r0 s r t v p}(h:Cm r0 s r t)(c:t.ph=.ssize)(d:ez s t.ph)(e:s.skip=false):bl r0 t.o (aJ s r v) p (br t v p):=by
 rw[c] at d;have f:=d.1;unfold aJ br;rw[N,N,I f,c];show bl r0 t.o ((s.takeSize v).1,r,(s.takeSize v).2) p (if v%65536+v/65536≠65535 then _ else if v%65536=0 then _ else _)
 unfold St.takeSize;by_cases a:v%65536+v/65536=65535
 .rw[I a,N (show ¬(v%65536+v/65536≠65535) from λg=>g a)]
  by_cases b:v%65536=0
  .rw[I b,I b]
   exact yH p (s:={s with left:=v%65536}) ⟨h.win,h.last,h.cnt,h.hist,h.sum,h.rows⟩ e
  .rw[N b,N b]
   exact L ⟨rfl,⟨⟨h.win,h.last,h.cnt,h.hist,h.sum,h.rows⟩,⟨rfl,rfl,rfl,O⟩,rfl,rfl,rfl⟩,e⟩
 .rw[N a,I (show v%65536+v/65536≠65535 from a)]
  exact⟨rfl,Xh,h.rows⟩
theorem B0{r0 s r t v p left}(i:Cap r0)(h:Cm r0 s r t)(f:t.ph=.stored left)(e:ez s t.ph)(g:s.skip=false):bl r0 t.o (aJ s r v) p (br t v p):=by
 rw[f] at e;have j:=e.1;obtain⟨-,-,k,n⟩:=e;unfold aJ br;rw[N,N,N,I j,f];show bl r0 t.o (bV s r v) p (if left<=1 then(t.give v p).endBlock else(t.give v p).to (.stored (left-1)))
 unfold bV;rcases yB i h v p with⟨b,c,a⟩|⟨b,c⟩
 .rw[I b]
  have l:(aF s r v).1=s.give v:=by rw[c]
  rw[l];unfold St.oneLess;have m:(s.give v).left=left:=k;rw[m];by_cases d:left<=1
  .rw[I d,I]
   exact yH p (s:={s.give v with left:=left-1}) ⟨a.win,a.last,a.cnt,a.hist,a.sum,a.rows⟩ g
  .rw[N d,N]
   exact L ⟨rfl,⟨⟨a.win,a.last,a.cnt,a.hist,a.sum,a.rows⟩,⟨rfl,rfl,rfl,O⟩,rfl,rfl,rfl⟩,g⟩
 .rw[N b]
  by_cases d:left<=1
  .rw[I d]
   unfold Px.St.endBlock;split
   .exact R ⟨b,c⟩
   .exact R ⟨b,c⟩
  .rw[N d]
   exact R ⟨b,c⟩
theorem B2{r0 s r t v p}(h:Cm r0 s r t)(b:t.ph=.counts)(c:ez s t.ph)(d:s.skip=false)(j:v<16384):bl r0 t.o (aJ s r v) p (br t v p):=by
 rw[b] at c;have e:=c.1;unfold aJ br;rw[N,N,N,N,I e,b];show bl r0 t.o ((s.counts v).1,r,(s.counts v).2) p (if 286<v%32+257\/30<v/32%32+1 then _ else _)
 unfold St.counts;by_cases a:286<v%32+257\/30<v/32%32+1
 .rw[I a,I a]
  exact⟨rfl,Xh,h.rows⟩
 .rw[N a,N a]
  refine L ⟨rfl,⟨⟨h.win,h.last,h.cnt,h.hist,h.sum,h.rows⟩,⟨rfl,rfl,rfl,rfl,rfl,rfl,?_,?_,λf g => ?_,(λk i=>by cases i),?_,?_,?_,?_⟩,rfl,rfl,rfl⟩,d⟩
  .show 0<v/1024+4;omega
  .omega
  .show 0=(List.replicate 19 0).getD f 0
   rw[G,Zj,I g];rfl
  .omega
  .omega
  .omega
  .omega
theorem DL:∀(k x:Nat) (s:St),∃b:Nat->Nat,St.layN k x s={s with tb:={s.tb with ls:=b,told:=s.tb.told+k}}/\∀a,b a=if s.tb.told<=a/\a<s.tb.told+k then x else s.tb.ls a
 | 0,x,s=>⟨s.tb.ls,rfl,λa=>by rw[N]⟩
 | k+1,x,s=>by
  obtain⟨b,e,f⟩:=DL k x (s.lay1 x);refine⟨b,?_,λa => ?_⟩
  .rw[St.layN,e]
   show({s with tb:={s.tb with ls:=b,told:=s.tb.told+1+k}}:St)=_
   rw[Yg,Nat.add_comm 1 k]
  .rw[f a]
   show(if s.tb.told+1<=a/\a<s.tb.told+1+k then x else upd s.tb.ls s.tb.told x a)=_
   by_cases c:a=s.tb.told
   .subst c;rw[N,upd_same,I]
   .rw[upd_ne _ _ _ c]
    by_cases d:s.tb.told+1<=a/\a<s.tb.told+1+k
    .rw[I d,I]
    .rw[N d,N]
theorem yC out x k i(h:i<out.length+k):(out++List.replicate k x).getD i 0=if i<out.length then out.getD i 0 else x:=by
 rw[G,G];by_cases a:i<out.length
 .rw[I a,XV a]
 .rw[N a,XP O,Zj,I];rfl
theorem z9 f(out:List Nat)N(c:N<=out.length)(h:∀a,a<N->f a=out.getD a 0):aD f N=out.take N:=by
 apply List.ext_getElem?;intro a;unfold aD;rw[XQ,List.getElem?_take];by_cases b:a<N
 .rw[Yp b,I b,Option.map_some,h a b,G,Xt O];rfl
 .rw[if_neg b,XX Xf];rfl
theorem Ix f(out:List Nat)a N(d:a+N=out.length)(h:∀b,b<N->f b=out.getD (a+b) 0):aD f N=out.drop a:=by
 apply List.ext_getElem?;intro b;unfold aD;rw[XQ,Y1];by_cases c:b<N
 .rw[Yp c,Option.map_some,h b c,G,Xt O];rfl
 .rw[XX Xf,XX O];rfl
theorem tE{r0 s r t nl nd sl out x k p}(h:Cm r0 s r t)(T:AW s nl nd sl out)(a9:x<=15)(F:s.skip=false):bl r0 t.o ((s.lay x k).1,r,(s.lay x k).2) p (if nl+nd<out.length+k then .err 12 else t.lens nl nd sl (out++List.replicate k x)):=by
 obtain⟨q,H,U,V,W,X,u,Y,Z,b0,a0,a1⟩:=T;unfold St.lay;rw[q,H,u];by_cases n:nl+nd<out.length+k
 .rw[I n,I n]
  exact⟨rfl,Xh,h.rows⟩
 rw[N n,N n];obtain⟨v,a2,a3⟩:=DL k x s;rw[a2];have w:(out++List.replicate k x).length=out.length+k:=Xi;have f:∀a,a<out.length+k->v a=(out++List.replicate k x).getD a 0:=λa g=>by
  rw[a3 a,yC _ _ _ _ g,u];by_cases c:a<out.length
  .rw[I c,N om];exact Y a c
  .rw[N c,I om]
 have y:∀z∈out++List.replicate k x,z<=15:=λz J=>by
  rw[XW] at J;rcases J with A|A
  .exact Z z A
  .have:=List.eq_of_mem_replicate A;omega
 unfold Px.St.lens;rw[w];show bl r0 t.o ((if s.tb.told+k<nl+nd then(_,0) else _:St×Nat).1,r,(if s.tb.told+k<nl+nd then(_,0) else _:St×Nat).2) p _
 rw[u];by_cases c:out.length+k<nl+nd
 .rw[I c,I c]
  exact L ⟨rfl,⟨⟨h.win,h.last,h.cnt,h.hist,h.sum,h.rows⟩,⟨rfl,q,H,U,V,W,X,by rw[w];rfl,λa g=>f a om,y,by rw[w];exact c,a0,a1⟩,rfl,rfl,rfl⟩,F⟩
 rw[N c,N c];obtain⟨b,d⟩:∃b:St,b={s with tb:={s.tb with ls:=v,told:=out.length+k}}:=⟨_,rfl⟩;rw[<-d];have K:b.tb.literals=nl:=by rw[d];exact q
 have a4:b.tb.told=nl+nd:=by rw[d];show out.length+k=_;omega
 have l:b.tb.ls=v:=by rw[d]
 have i:Cm r0 b r t:=by rw[d];exact⟨h.win,h.last,h.cnt,h.hist,h.sum,h.rows⟩
 have a5:b.skip=false:=by rw[d];exact F
 clear d;have B:aD b.tb.ls nl=(out++List.replicate k x).take nl:=z9 _ _ _ om (λa g=>by rw[l];exact f a om);have C:aD (λa=>b.tb.ls (nl+a)) (nl+nd-nl)=(out++List.replicate k x).drop nl:=Ix _ _ _ _ om (λa g=>by rw[l];exact f (nl+a) om);have M:∀a,a<nl->b.tb.ls a<=15:=λa g=>by
  rw[l,f a om,G,Xt om];exact y _ (YU _)
 have P:∀a,a<nl+nd-nl->b.tb.ls (nl+a)<=15:=λa g=>by
  rw[l,f (nl+a) om,G,Xt om];exact y _ (YU _)
 have a6:b.tb.ls 256=(out++List.replicate k x).getD 256 0:=by rw[l];exact f 256 om
 have D:=lR b.tb.ls nl M true false;have E:=lR (λa=>b.tb.ls (nl+a)) (nl+nd-nl) P true true;rw[B] at D;rw[C] at E;simp only[YH,YM,YI] at D E;have Q:b.mkLit.mkDist.lit=bR b.tb.ls nl:=by show bR b.tb.ls b.tb.literals=_;rw[K]
 have S:b.mkLit.mkDist.dist=bR (λa=>b.tb.ls (nl+a)) (nl+nd-nl):=by show bR (λa=>b.tb.ls (b.tb.literals+a)) (b.tb.told-b.tb.literals)=_;rw[K,a4]
 unfold St.makeCodes;rw[Q,S,D,E,a6];generalize out++List.replicate k x=O at *;by_cases e:cS (O.take nl) true false=false
 .rw[I e,I (L e)]
  exact⟨rfl,Xh,h.rows⟩
 by_cases j:cS (O.drop nl) true true=false
 .rw[N e,I j,I (R (L j))]
  exact⟨rfl,Xh,h.rows⟩
 by_cases o:O.getD 256 0=0
 .rw[N e,N j,I o,I (R (R o))]
  exact⟨rfl,Xh,h.rows⟩
 rw[N e,N j,N o,N (by rintro(m|m|m);exact e m;exact j m;exact o m)];have a7:dC (bR b.tb.ls nl) (O.take nl):=by rw[<-B];exact x8 _ _ M om true false (by rw[B];simpa using e)
 have a8:dC (bR (λa=>b.tb.ls (nl+a)) (nl+nd-nl)) (O.drop nl):=by rw[<-C];exact x8 _ _ P om true true (by rw[C];simpa using j)
 refine L ⟨rfl,⟨⟨i.win,i.last,i.cnt,i.hist,i.sum,i.rows⟩,⟨rfl,?_,?_⟩,rfl,rfl,rfl⟩,a5⟩
 .show dC b.mkLit.mkDist.lit _
  rw[Q];exact a7
 .show dC b.mkLit.mkDist.dist _
  rw[S];exact a8
theorem EL{r0 s r t v p nl nd ns told}(h:Cm r0 s r t)(k:t.ph=.short nl nd ns told)(m:ez s t.ph)(o:s.skip=false)(R:v<8):bl r0 t.o (aJ s r v) p (br t v p):=by
 rw[k] at m;obtain⟨E,-,q,u,w,x,S,F,H,J,y,z,A,B⟩:=m;unfold aJ br;rw[N om,N om,N om,N om,N om,I E,k];show bl r0 t.o ((s.shortLen v).1,r,(s.shortLen v).2) p (if told.length+1<ns then _ else if cS (aR (told++[v])) false false=false then _ else _)
 have T:rA.getD told.length 0<19:=DC told.length om;have C:∀e∈told++[v],e<8:=λe f=>by
  rw[XW,Y0] at f;rcases f with b|b
  .exact J e b
  .omega
 have g:∀a,a<19->(s.short1 v).tb.sl a=(aR (told++[v])).getD a 0:=λa d=>by
  show upd s.tb.sl (rA.getD s.tb.told 0) v a=_
  rw[pN,x];have U:(aR told).length=19:=lk _ _;have K:yj.getD told.length 0=rA.getD told.length 0:=rfl;rw[K];generalize rA.getD told.length 0=O at *;rw[G,List.getElem?_set];by_cases c:a=O
  .subst c
   rw[upd_same,I rfl,I om];rfl
  .rw[upd_ne _ _ _ c,N (λb=>c b.symm),H a d,G]
 unfold St.shortLen;rw[x,w];by_cases c:told.length+1<ns
 .rw[I c,I c]
  refine L ⟨rfl,⟨⟨h.win,h.last,h.cnt,h.hist,h.sum,h.rows⟩,⟨rfl,rfl,q,u,w,?_,?_,F,g,C,y,z,A,B⟩,rfl,rfl,rfl⟩,o⟩
  .show s.tb.told+1=(told++[v]).length
   simp;omega
  .simp;exact c
 rw[N c,N c];have M:(aR (told++[v])).length=19:=lk _ _;have i:aD (s.short1 v).tb.sl 19=aR (told++[v]):=by
  have:=z9 (s.short1 v).tb.sl (aR (told++[v])) 19 om g
  rw[this,X6 om]
 have D:∀a,a<19->(s.short1 v).tb.sl a<=15:=λa d=>by
  rw[g a d,G,Xt om]
  have:=BO (told++[v]) C _ _ (YU (l:=aR (told++[v])) (n:=a) om)
  exact Yx (Xq this om)
 have j:=lR (s.short1 v).tb.sl 19 D false false;rw[i] at j;simp only[YH,YM,YI] at j;have P:(s.short1 v).short2.tb.short=bR (s.short1 v).tb.sl 19:=rfl;rw[P,j];by_cases b:cS (aR (told++[v])) false false=false
 .rw[I b,N (by rw[b];decide)]
  exact⟨rfl,Xh,h.rows⟩
 rw[N b,I (by simpa using b)];have Q:dC (bR (s.short1 v).tb.sl 19) (aR (told++[v])):=by rw[<-i];exact x8 _ _ D om false false (by rw[i];simpa using b)
 exact L ⟨rfl,⟨⟨h.win,h.last,h.cnt,h.hist,h.sum,h.rows⟩,⟨rfl,q,u,y,z,A,B,rfl,(λa d=>by simp at d),(λe f=>by cases f),Xf,Q,M⟩,rfl,rfl,rfl⟩,o⟩
theorem KX{r0 s r t v p nl nd c sl out}(h:Cm r0 s r t)(e:t.ph=.rep nl nd sl out c)(f:ez s t.ph)(d:s.skip=false):bl r0 t.o (aJ s r v) p (br t v p):=by
 rw[e] at f;obtain⟨g,-,i,j,k,a⟩:=f;unfold aJ br;rw[N,N,N,N,N,N,I g,e];show bl r0 t.o ((s.repeat v).1,r,(s.repeat v).2) p (if nl+nd<out.length+(if c=18 then v+11 else v+3) then _ else t.lens nl nd sl (out++List.replicate (if c=18 then v+11 else v+3) (if c=16 then out.getD (out.length-1) 0 else 0)))
 unfold St.repeat;rw[i];rcases j with b|b|b
 .subst b
  have n:=List.length_pos_iff.2 (k rfl);have l:=a.told;rw[N Xh,N Xh,N,N (show ¬16=18 from Xh),I rfl];have m:s.tb.ls (s.tb.told-1)=out.getD (out.length-1) 0:=by rw[l];exact a.ls _ O
  rw[m];refine tE h a ?_ d;rw[G,Xt O];exact a.le _ (YU _)
 .subst b
  rw[I Xh,N (show ¬17=18 from Xh),N (show ¬17=16 from Xh)];exact tE h a O d
 .subst b
  rw[N Xh,I Xh,I rfl,N (show ¬18=16 from Xh)];exact tE h a O d
theorem EM{r0 s r t v p base bits lit dist}(h:Cm r0 s r t)(a:t.ph=.lrest lit dist base bits)(b:ez s t.ph)(d:s.skip=false):bl r0 t.o (aJ s r v) p (br t v p):=by
 rw[a] at b;obtain⟨e,-,-,f,c⟩:=b;unfold aJ br;rw[N,N,N,N,N,N,N,I e,a];exact L ⟨rfl,⟨⟨h.win,h.last,h.cnt,h.hist,h.sum,h.rows⟩,⟨rfl,by show s.length+v=_;rw[f],c.lit,c.dist⟩,rfl,rfl,rfl⟩,d⟩
theorem wZ{r0 s r t lit dist D p}(i:Cap r0)(h:Cm r0 s r t)(f:CR s lit dist)(j:s.skip=false)(k:1<=D):bl r0 t.o (cZ s r D) p (t.copy lit dist s.length D p):=by
 unfold cZ Px.St.copy;rw[h.cnt,h.win];by_cases g:t.o.length<D\/t.window<D
 .rw[I g,I]
  exact⟨rfl,Xh,h.rows⟩
 rw[N g,N];rcases Ea i p D k s.length s r t h O with⟨c,d,a,e,b⟩|⟨c,a⟩
 .refine L ⟨c,⟨?_,?_,?_,?_,?_⟩,?_⟩
  .rw[a];exact⟨b.win,b.last,b.cnt,b.hist,b.sum,b.rows⟩
  .rw[a];exact⟨rfl,by show dC d.lit _;rw[e.lit];exact f.lit,by show dC d.dist _;rw[e.dist];exact f.dist⟩
  .rw[a];rfl
  .rw[a];rfl
  .rw[a];rfl
  .rw[a];show d.skip=_;rw[e.skip,j]
 .exact R ⟨c,a⟩
theorem EO{r0 s r t v p len base bits lit dist}(c:Cap r0)(h:Cm r0 s r t)(a:t.ph=.drest lit dist len base bits)(b:ez s t.ph)(d:s.skip=false):bl r0 t.o (aJ s r v) p (br t v p):=by
 rw[a] at b;obtain⟨e,-,-,f,g,j,i⟩:=b;unfold aJ br;rw[N,N,N,N,N,N,N,N,I e,a];show bl r0 t.o (cZ s r (s.base+v)) p (t.copy lit dist len (base+v) p)
 rw[<-f,<-g];exact wZ c h i d O
theorem KV{r0 s r t v p}(h:Cm r0 s r t)(b:t.ph=.sum)(c:ez s t.ph)(d:s.skip=false)(g:v<4294967296):bl r0 t.o (aJ s r v) p (br t v p):=by
 rw[b] at c;have i:=c.1;unfold aJ br;rw[N,N,N,N,N,N,N,N,N,b];show bl r0 t.o ((s.takeSum v).1,r,(s.takeSum v).2) p (if eB v≠65536*bA t.o+bn t.o then _ else _)
 unfold St.takeSum;have e:qj v=eB v:=by unfold qj eB;omega
 rw[e,h.sum];by_cases a:eB v=65536*bA t.o+bn t.o
 .rw[I a,N (show ¬(eB v≠_) from λf=>f a)]
  exact L ⟨rfl,⟨⟨h.win,h.last,h.cnt,h.hist,h.sum,h.rows⟩,rfl,rfl,rfl,rfl⟩,d⟩
 .rw[N a,I (show eB v≠_ from a)]
  exact⟨rfl,Xh,h.rows⟩
theorem KW{r0 s r t v p n}(i:Cap r0)(h:Cm r0 s r t)(c:ez s t.ph)(d:s.skip=false)(b:item t.ph=.num n)(e:v<2^n):bl r0 t.o (aJ s r v) p (br t v p):=by
 cases a:t.ph using Px.Ph.cs with
 | head=>exact Ib h a c d
 | block=>rw[a] at b;cases b;exact EP h a c d e
 | ssize=>exact EK h a c d
 | stored left=>exact B0 i h a c d
 | counts=>rw[a] at b;cases b;exact B2 h a c d e
 | short j k w x=>rw[a] at b;cases b;exact EL h a c d e
 | clen j k l m=>rw[a] at b;cases b
 | rep j k l m y=>exact KX h a c d
 | sym f g=>rw[a] at b;cases b
 | lrest f g o q=>exact EM h a c d
 | dist f g u=>rw[a] at b;cases b
 | drest f g u o q=>exact EO i h a c d
 | sum=>rw[a] at b;cases b;exact KV h a c d e
 | fin=>rw[a] at b;cases b
