import Derived.Test.YtbedkdnphobmlaaGreatDoorProg
import Derived.Test.YtbedkdnphobmlaaGreatDoorUaa00
import Derived.Test.YtbedkdnphobmlaaGreatDoorUaa01
import Derived.Test.YtbedkdnphobmlaaGreatDoorUaa02
import Derived.Test.YtbedkdnphobmlaaGreatDoorUaa03
import Derived.Test.YtbedkdnphobmlaaGreatDoorUaa06
import Derived.Test.YtbedkdnphobmlaaGreatDoorUaa07
import Derived.Test.YtbedkdnphobmlaaGreatDoorUaa12
import Derived.Test.YtbedkdnphobmlaaGreatDoorUaa15
import Derived.Test.YtbedkdnphobmlaaGreatDoorUaa16
import Derived.Test.YtbedkdnphobmlaaGreatDoorUaa17
import Derived.Test.YtbedkdnphobmlaaGreatDoorUaa18
set_option linter.all false
namespace Go.Proofs.YtbedkdnphobmlaaGreatDoor
open Go.RowKit Px Tryz
def Rn:Rd->List Nat->Rd->Prop
 | s,[],s'=>s=s'
 | s,x::l,s'=>cB s x/\(s.take x).2=0/\Rn (s.take x).1 l s'
theorem Rn.append:∀{l m:List Nat} {s a b:Rd},Rn s l a->Rn a m b->Rn s (l++m) b
 | [],m,s,a,b,c,k=>by cases c;exact k
 | x::l,m,s,a,b,c,k=>⟨c.1,c.2.1,Rn.append c.2.2 k⟩
theorem Rn.one{s a x}(h:cB s x)(e:s.take x=(a,0)):Rn s [x] a:=⟨h,by rw[e],by rw[e];rfl⟩
theorem Rn.cons{s a b x l}(h:cB s x)(e:s.take x=(a,0))(k:Rn a l b):Rn s (x::l) b:=⟨h,by rw[e],by rw[e];exact k⟩
theorem uP{d:Dc}{x}(b:d.err=0)(h:(d.file.take x).2=0):d.one x={d with file:=(d.file.take x).1,count:=d.count+1}:=by
 unfold Dc.one;rw[N (λa=>a b),N (λa=>a h)]
theorem Rn.feed:∀{l:List Nat} {d:Dc} {b:Rd},Rn d.file l b->d.err=0->d.feed l=⟨b,d.count+l.length,0,d.at1⟩
 | [],d,b,a,c=>by
  have e:d.file=b:=a;show d=_
  rw[<-e];show d=⟨d.file,d.count,0,d.at1⟩
  rw[<-c]
 | x::l,d,b,a,c=>by
  show(d.one x).feed l=_
  rw[uP c a.2.1];rw[Rn.feed (d:={d with file:=(d.file.take x).1,count:=d.count+1}) a.2.2 c];show(⟨b,d.count+1+l.length,0,d.at1⟩:Dc)=_
  rw[Yj,show d.count+1+l.length=d.count+(l.length+1) from O]
theorem Rn.take:∀{l:List Nat} {s b:Rd},Rn s l b->∀(k x:Nat),l[k]? = some x->∃d,Rn s (l.take k) d/\cB d x
 | [],s,b,a,k,x,c=>by simp at c
 | y::l,s,b,a,0,x,c=>by
  simp at c;subst c;exact⟨s,rfl,a.1⟩
 | y::l,s,b,a,k+1,x,c=>by
  obtain⟨d,e,f⟩:=Rn.take a.2.2 k x (by simpa using c);exact⟨d,⟨a.1,a.2.1,e⟩,f⟩
theorem Rn.ok{l d b}(h:Rn d.file l b)(c:d.err=0)(j:d.count+l.length<=4294967296):bm d l:=by
 intro a e f _;obtain⟨k,g,i⟩:=h.take a e f;rw[g.feed c];refine⟨i,?_⟩;show d.count+(l.take a).length<=4294967296
 rw[Yd];omega
structure aZ (s:Rd):Prop where
 hd:lB s
 raw:∀i,s.raw i<256
 clear:∀j,s.tl.clear j<256
 colours:s.tl.colours<=256
def rdS(k:Nat):Rd:={rd0 with taken:=k}
theorem dI:lB rd0:=⟨Xh,Xh,Xh,Xh,Xh⟩
theorem hQ k x(b:k<8):cB (rdS k) x:=
 ⟨by show 0<=5;omega,λ_=>by show k<1000;omega,λa=>by exfalso;revert a;show ¬(0=1\/0=2\/0=4);omega,by show 0<4294967296;omega,λa=>by exfalso;revert a;show ¬(0=2);omega,⟨dI.W,dI.H,dI.D,dI.K,dI.L⟩,λa=>by exfalso;revert a;show ¬(0=3);omega,λa=>by exfalso;revert a;show ¬(0=3);omega,λ_=>Xp,λ_=>Xp⟩
theorem qh:Rn rd0 [137,80,78,71,13,10,26,10] {rd0 with part:=1}:=by
 refine Rn.cons (a:=rdS 1) (hQ 0 _ O) rfl ?_;refine Rn.cons (a:=rdS 2) (hQ 1 _ O) rfl ?_;refine Rn.cons (a:=rdS 3) (hQ 2 _ O) rfl ?_;refine Rn.cons (a:=rdS 4) (hQ 3 _ O) rfl ?_;refine Rn.cons (a:=rdS 5) (hQ 4 _ O) rfl ?_;refine Rn.cons (a:=rdS 6) (hQ 5 _ O) rfl ?_;refine Rn.cons (a:=rdS 7) (hQ 6 _ O) rfl ?_;exact Rn.one (hQ 7 _ O) rfl
def beN(n:Nat):List Nat:=[n/16777216%256,n/65536%256,n/256%256,n%256]
theorem iB n(h:n<4294967296):((n/16777216%256*256+n/65536%256)*256+n/256%256)*256+n%256=n:=O
theorem yE{m a b c d n}(f:m=0)(e:((a*256+b)*256+c)*256+d=n):((((m*256+a)*256+b)*256+c)*256+d)=n:=by subst f;rw[Nat.zero_mul,XD];exact e
theorem iS{s x}(h:aZ s)(e:s.part=1\/s.part=4)(b:s.taken<1000)(c:s.number<16777216)(d:s.sum<4294967296):cB s x:=
 ⟨O,λ_=>b,λ_=>c,d,λa=>O,h.hd,λa=>O,λa=>O,h.raw,h.clear⟩
theorem ok2{s x}(h:aZ s)(f:s.part=2)(a:s.taken<1000)(b:s.number<16777216)(c:s.sum<4294967296)(g:x<256)(d:s.length<2147483648):cB s x:=
 ⟨O,λ_=>a,λ_=>b,c,λ_=>⟨h.colours,h.hd.K,h.hd.D,d,by show s.number*256+x<4294967296;omega⟩,h.hd,λe=>O,λe=>O,h.raw,h.clear⟩
theorem take1{s:Rd}(h:s.part=1)x:s.take x=s.takeLength x:=by unfold Rd.take;rw[N,I h]
theorem take2{s:Rd}(h:s.part=2)x:s.take x=s.takeType x:=by unfold Rd.take;rw[N,N,I h]
theorem take3{s:Rd}(h:s.part=3)x:s.take x=s.takeData x:=by unfold Rd.take;rw[N,N,N,I h]
theorem fS{s:Rd}(h:s.part=4)x:s.take x=s.takeSum x:=by unfold Rd.take;rw[N,N,N,N,I h]
theorem aZ.num{s}(h:aZ s)x:aZ (s.num x):=⟨⟨h.hd.W,h.hd.H,h.hd.D,h.hd.K,h.hd.L⟩,h.raw,h.clear,h.colours⟩
theorem aZ.seen{s}(h:aZ s)x:aZ (s.seen x):=⟨⟨h.hd.W,h.hd.H,h.hd.D,h.hd.K,h.hd.L⟩,h.raw,h.clear,h.colours⟩
def lnS(s:Rd)(n:Nat):Rd:={s with part:=2,taken:=0,number:=0,length:=n,sum:=ag}
theorem hX{s n}(h:aZ s)(d:s.part=1)(l:s.taken=0)(g:s.number=0)(f:s.sum<4294967296)(m:n<2147483648):Rn s (beN n) (lnS s n):=by
 have i:=iB n O;have o:n/16777216%256<256:=O;have p:n/256%256<256:=O;have q:n%256<256:=O;unfold beN;generalize n/16777216%256=b at *;generalize n/65536%256=c at *;generalize n/256%256=e at *;generalize n%256=j at *;refine Rn.cons (a:=s.num b) (iS h (L d) O O f) ?_ ?_
 .rw[take1 d];unfold Rd.takeLength;rw[I]
 refine Rn.cons (a:=(s.num b).num c) (iS (h.num b) (L d) (by show s.taken+1<1000;omega) (by show s.number*256+b<16777216;omega) f) ?_ ?_
 .rw[take1 (s:=s.num b) d];unfold Rd.takeLength;rw[I (by show s.taken+1+1≠4;omega)]
 refine Rn.cons (a:=((s.num b).num c).num e) (iS ((h.num b).num c) (L d) (by show s.taken+1+1<1000;omega) (by show(s.number*256+b)*256+c<16777216;omega) f) ?_ ?_
 .rw[take1 (s:=(s.num b).num c) d];unfold Rd.takeLength;rw[I (by show s.taken+1+1+1≠4;omega)]
 refine Rn.one (iS (((h.num b).num c).num e) (L d) (by show s.taken+1+1+1<1000;omega) (by show((s.number*256+b)*256+c)*256+e<16777216;omega) f) ?_;rw[take1 (s:=((s.num b).num c).num e) d];have k:(((s.num b).num c).num e).number*256+j=n:=yE g i;unfold Rd.takeLength;rw[N (by show ¬(s.taken+1+1+1+1≠4);omega),k,N];rfl
def tyS(s:Rd)(T S:Nat):Rd:={s with sum:=S,number:=T,taken:=4,ctype:=T}
theorem oI{s T}(h:aZ s)(e:s.part=2)(o:s.taken=0)(p:s.number=0)(i:s.sum<4294967296)(y:T<4294967296)(g:s.length<2147483648)(q:(tyS s T (aA s.sum (beN T))).checkType=0):Rn s (beN T) ((tyS s T (aA s.sum (beN T))).note.enter (if(tyS s T (aA s.sum (beN T))).note.length=0 then 4 else 3)):=by
 have r:=iB T O;have j:T/16777216%256<256:=O;have k:T/65536%256<256:=O;have l:T/256%256<256:=O;have t:T%256<256:=O;unfold beN at *;generalize T/16777216%256=b at *;generalize T/65536%256=c at *;generalize T/256%256=d at *;generalize T%256=f at *;have m:=bH _ _ i j;have n:=bH _ _ m k;have u:=bH _ _ n l;refine Rn.cons (a:=s.seen b) (ok2 h e O O i j g) ?_ ?_
 .rw[take2 e];unfold Rd.takeType;rw[I]
 refine Rn.cons (a:=(s.seen b).seen c) (ok2 (h.seen b) e (by show s.taken+1<1000;omega) (by show s.number*256+b<16777216;omega) m k g) ?_ ?_
 .rw[take2 (s:=s.seen b) e];unfold Rd.takeType;rw[I (by show s.taken+1+1≠4;omega)]
 refine Rn.cons (a:=((s.seen b).seen c).seen d) (ok2 ((h.seen b).seen c) e (by show s.taken+1+1<1000;omega) (by show(s.number*256+b)*256+c<16777216;omega) n l g) ?_ ?_
 .rw[take2 (s:=(s.seen b).seen c) e];unfold Rd.takeType;rw[I (by show s.taken+1+1+1≠4;omega)]
 refine Rn.one (ok2 (((h.seen b).seen c).seen d) e (by show s.taken+1+1+1<1000;omega) (by show((s.number*256+b)*256+c)*256+d<16777216;omega) u t g) ?_;rw[take2 (s:=((s.seen b).seen c).seen d) e];have v:=yE p r;have w:(((s.seen b).seen c).seen d).typed f=tyS s T (aA s.sum [b,c,d,f]):=by
  show({s with sum:=aA s.sum [b,c,d,f],number:=((((s.number*256+b)*256+c)*256+d)*256+f),taken:=s.taken+1+1+1+1,ctype:=((((s.number*256+b)*256+c)*256+d)*256+f)}:Rd)=_
  rw[v,o];rfl
 unfold Rd.takeType;rw[N (by show ¬(s.taken+1+1+1+1≠4);omega),w,N (λx=>x q)];split
 .rfl
 .rfl
theorem qw{s n}(h:aZ s)(d:s.part=4)(k:s.taken=0)(l:s.number=0)(f:s.sum<4294967296)(t:n<4294967296)(m:n=aC s.sum){a'}(o:({s with taken:=4,number:=n}:Rd).accept=(a',0))(p:a'.ctype≠aJ):Rn s (beN n) (a'.enter 1):=by
 have q:=iB n O;have u:n/16777216%256<256:=O;have v:n/256%256<256:=O;have w:n%256<256:=O;unfold beN;generalize n/16777216%256=b at *;generalize n/65536%256=c at *;generalize n/256%256=e at *;generalize n%256=g at *;refine Rn.cons (a:=s.num b) (iS h (R d) O O f) ?_ ?_
 .rw[fS d];unfold Rd.takeSum;rw[I]
 refine Rn.cons (a:=(s.num b).num c) (iS (h.num b) (R d) (by show s.taken+1<1000;omega) (by show s.number*256+b<16777216;omega) f) ?_ ?_
 .rw[fS (s:=s.num b) d];unfold Rd.takeSum;rw[I (by show s.taken+1+1≠4;omega)]
 refine Rn.cons (a:=((s.num b).num c).num e) (iS ((h.num b).num c) (R d) (by show s.taken+1+1<1000;omega) (by show(s.number*256+b)*256+c<16777216;omega) f) ?_ ?_
 .rw[fS (s:=(s.num b).num c) d];unfold Rd.takeSum;rw[I (by show s.taken+1+1+1≠4;omega)]
 refine Rn.one (iS (((h.num b).num c).num e) (R d) (by show s.taken+1+1+1<1000;omega) (by show((s.number*256+b)*256+c)*256+e<16777216;omega) f) ?_;rw[fS (s:=((s.num b).num c).num e) d];have j:(((s.num b).num c).num e).number*256+g=n:=yE l q;have r:(((s.num b).num c).num e).num g={s with taken:=4,number:=n}:=by
  show({s with number:=(((s.num b).num c).num e).number*256+g,taken:=s.taken+1+1+1+1}:Rd)=_
  rw[j,k]
 unfold Rd.takeSum;rw[N (by show ¬(s.taken+1+1+1+1≠4);omega),j,N (by show ¬(n≠aC s.sum);exact λi=>i m),r,o,N (λi=>i rfl),N p]
theorem oP n(l:List Nat)(c:l.length=n)(st:Nat->Rd)(h:∀k,k<n->cB (st k) (l.getD k 0)/\(st k).take (l.getD k 0)=(if k+1=n then(st n).enter 4 else st (k+1),0)):∀(m k:Nat),k+m+1=n->Rn (st k) (l.drop k) ((st n).enter 4)
 | 0,k,d=>by
  obtain⟨b,a⟩:=h k O;rw[I] at a;rw[Yy O,List.drop_eq_nil_of_le O];rw[G,Xt O] at b a;exact Rn.one b a
 | m+1,k,d=>by
  obtain⟨b,a⟩:=h k O;rw[N] at a;rw[Yy O];rw[G,Xt O] at b a;exact Rn.cons b a (oP n l c st h m (k+1) O)
theorem jI n l(a:l.length=n)(b:0<n)(st:Nat->Rd)(h:∀k,k<n->cB (st k) (l.getD k 0)/\(st k).take (l.getD k 0)=(if k+1=n then(st n).enter 4 else st (k+1),0)):Rn (st 0) l ((st n).enter 4):=by
 have:=oP n l a st h (n-1) 0 O
 rwa [List.drop_zero] at this
def upN(f:Nat->Nat)(l:List Nat)(k:Nat):Nat->Nat:=λi=>if i<k then l.getD i 0 else f i
theorem mb f l:upN f l 0=f:=by funext a;unfold upN;rw[N]
theorem pN f l k:upd (upN f l k) k (l.getD k 0)=upN f l (k+1):=by
 funext a
 unfold upN upd;by_cases b:a=k
 .subst b;rw[I rfl,I]
 .rw[N b]
  show(if a<k then l.getD a 0 else f a)=_
  by_cases c:a<k
  .rw[I c,I]
  .rw[N c,N]
theorem pO{f l k m}(h:∀a,f a<m)(c:∀d∈l,d<m)(e:0<m)a:upN f l k a<m:=by
 unfold upN;split
 .rw[G]
  by_cases b:a<l.length
  .rw[Xt b];exact c _ (YU b)
  .rw[XX O];exact e
 .exact h a
theorem zd s l x:aA s (l++[x])=bh (aA s l) x:=by unfold aA;rw[Yk];rfl
theorem ix s l m:aA s (l++m)=aA (aA s l) m:=by unfold aA;rw[Yk]
theorem iQ s(l:List Nat)k(a:k<l.length):aA s (l.take (k+1))=bh (aA s (l.take k)) (l.getD k 0):=by
 rw[XM a,zd,G,Xt a];rfl
theorem cX s a(h:s<4294967296)(c:∀b∈a,b<256):aA s a<4294967296:=by
 unfold aA
 induction a generalizing s with
 | nil=>exact h
 | cons b a d=>exact d _ (bH _ _ h (c b Xi)) (λe f=>c e (by simp[f]))
theorem lF{l:List Nat}(h:∀a∈l,a<256)k:∀a∈l.take k,a<256:=λa b=>h a (YE b)
theorem sY{s:Rd}{x}(h:s.ctype=bt):s.keep x=({s with raw:=upd s.raw s.taken x},0):=by unfold Rd.keep;rw[I h]
theorem sZ{s:Rd}{x:Nat}(h:s.ctype=bC):s.keep x=({s with tl:={s.tl with pal:=upd s.tl.pal s.taken x}},0):=by unfold Rd.keep;rw[N (by rw[h];decide),I h]
theorem ta{s:Rd}{x:Nat}(h:s.ctype=aT):s.keep x=({s with tl:={s.tl with clear:=upd s.tl.clear s.taken x}},0):=by unfold Rd.keep;rw[N (by rw[h];decide),N (by rw[h];decide),I h]
theorem yP{s:Rd}{x}(h:s.ctype=ar):s.keep x=s.takeStream x:=by unfold Rd.keep;rw[N (by rw[h];decide),N (by rw[h];decide),N (by rw[h];decide),I h]
def qn(s:Rd)(l:List Nat)(k:Nat):Rd:={s with taken:=k,sum:=aA s.sum (l.take k),raw:=upN s.raw l k}
theorem Hl{s l}(h:aZ s)(d:s.part=3)(g:s.taken=0)(c:s.ctype=bt)(i:l.length=13)(q:s.length=13)(e:∀j∈l,j<256)(k:s.sum<4294967296):Rn s l ((qn s l 13).enter 4):=by
 have m:qn s l 0=s:=by
  have a:({s with taken:=0}:Rd)=s:=by rw[<-g]
  unfold qn;rw[mb];exact a
 have n:=jI 13 l i O (qn s l) (λb r => ?_)
 .rwa [m] at n
 .refine⟨⟨by show s.part<=5;omega,λa=>absurd d a,λa=>by replace a:s.part=1\/s.part=2\/s.part=4:=a;omega,cX _ _ k (lF e b),λa=>by replace a:s.part=2:=a;omega,⟨h.hd.W,h.hd.H,h.hd.D,h.hd.K,h.hd.L⟩,λ_ => ?_,λ_ => ?_,λo=>pO h.raw e O o,h.clear⟩,?_⟩
  .refine⟨λ_=>by show b<13;omega,λa => ?_,λa => ?_,λa _ => ?_⟩
   all_goals(replace a:s.ctype=_:=a;rw[c] at a;exact absurd a Xh)
  .rw[sY (s:=(qn s l b).summed (l.getD b 0)) c];show b<2147483648;omega
  .rw[take3 (s:=qn s l b) d]
   have p:((qn s l b).summed (l.getD b 0)).keep (l.getD b 0)=({s with taken:=b,sum:=aA s.sum (l.take (b+1)),raw:=upN s.raw l (b+1)},0):=by
    rw[sY (s:=(qn s l b).summed (l.getD b 0)) c,iQ _ _ _ O,<-pN];rfl
   unfold Rd.takeData;rw[p,N (λa=>a rfl)];unfold Rd.dataEnd;by_cases f:b+1=13
   .rw[I (show b+1=s.length from O),I f]
    have:b=12:=O
    subst this;rfl
   .rw[N (show ¬b+1=s.length from O),N f];rfl
def qo(s:Rd)(l:List Nat)(k:Nat):Rd:={s with taken:=k,sum:=aA s.sum (l.take k),tl:={s.tl with pal:=upN s.tl.pal l k}}
theorem Hp{s l n}(h:aZ s)(e:s.part=3)(f:s.taken=0)(c:s.ctype=bC)(g:0<n)(r:n<=768)(i:l.length=n)(t:s.length=n)(j:∀k∈l,k<256)(m:s.sum<4294967296):Rn s l ((qo s l n).enter 4):=by
 have o:qo s l 0=s:=by
  have a:({s with taken:=0}:Rd)=s:=by rw[<-f]
  unfold qo;rw[mb];exact a
 have p:=jI n l i g (qo s l) (λb u => ?_)
 .rwa [o] at p
 .refine⟨⟨by show s.part<=5;omega,λa=>absurd e a,λa=>by replace a:s.part=1\/s.part=2\/s.part=4:=a;omega,cX _ _ m (lF j b),λa=>by replace a:s.part=2:=a;omega,⟨h.hd.W,h.hd.H,h.hd.D,h.hd.K,h.hd.L⟩,λ_ => ?_,λ_ => ?_,h.raw,h.clear⟩,?_⟩
  .refine⟨λa => ?_,λ_=>by show b<768;omega,λa => ?_,λa _ => ?_⟩
   all_goals(replace a:s.ctype=_:=a;rw[c] at a;exact absurd a Xh)
  .rw[sZ (s:=(qo s l b).summed (l.getD b 0)) c];show b<2147483648;omega
  .rw[take3 (s:=qo s l b) e]
   have q:((qo s l b).summed (l.getD b 0)).keep (l.getD b 0)=({s with taken:=b,sum:=aA s.sum (l.take (b+1)),tl:={s.tl with pal:=upN s.tl.pal l (b+1)}},0):=by
    rw[sZ (s:=(qo s l b).summed (l.getD b 0)) c,iQ _ _ _ O,<-pN];rfl
   unfold Rd.takeData;rw[q,N (λa=>a rfl)];unfold Rd.dataEnd;by_cases d:b+1=n
   .rw[I (show b+1=s.length from O),I d]
    subst d;rfl
   .rw[N (show ¬b+1=s.length from O),N d];rfl
def rr(s:Rd)(l:List Nat)(k:Nat):Rd:={s with taken:=k,sum:=aA s.sum (l.take k),tl:={s.tl with clear:=upN s.tl.clear l k}}
theorem Ik{s l n}(h:aZ s)(e:s.part=3)(g:s.taken=0)(c:s.ctype=aT)(i:0<n)(t:n<=256)(j:l.length=n)(u:s.length=n)(f:∀k∈l,k<256)(m:s.sum<4294967296):Rn s l ((rr s l n).enter 4):=by
 have o:rr s l 0=s:=by
  have a:({s with taken:=0}:Rd)=s:=by rw[<-g]
  unfold rr;rw[mb];exact a
 have p:=jI n l j i (rr s l) (λb v => ?_)
 .rwa [o] at p
 .refine⟨⟨by show s.part<=5;omega,λa=>absurd e a,λa=>by replace a:s.part=1\/s.part=2\/s.part=4:=a;omega,cX _ _ m (lF f b),λa=>by replace a:s.part=2:=a;omega,⟨h.hd.W,h.hd.H,h.hd.D,h.hd.K,h.hd.L⟩,λ_ => ?_,λ_ => ?_,h.raw,λq=>pO h.clear f O q⟩,?_⟩
  .refine⟨λa => ?_,λa => ?_,λ_=>by show b<256;omega,λa _ => ?_⟩
   all_goals(replace a:s.ctype=_:=a;rw[c] at a;exact absurd a Xh)
  .rw[ta (s:=(rr s l b).summed (l.getD b 0)) c];show b<2147483648;omega
  .rw[take3 (s:=rr s l b) e]
   have r:((rr s l b).summed (l.getD b 0)).keep (l.getD b 0)=({s with taken:=b,sum:=aA s.sum (l.take (b+1)),tl:={s.tl with clear:=upN s.tl.clear l (b+1)}},0):=by
    rw[ta (s:=(rr s l b).summed (l.getD b 0)) c,iQ _ _ _ O,<-pN];rfl
   unfold Rd.takeData;rw[r,N (λa=>a rfl)];unfold Rd.dataEnd;by_cases d:b+1=n
   .rw[I (show b+1=s.length from O),I d]
    subst d;rfl
   .rw[N (show ¬b+1=s.length from O),N d];rfl
def nl(l:List Int):List Nat:=l.map Int.toNat
theorem bR(a b:List Int):nl (a++b)=nl a++nl b:=List.map_append
theorem dU(a:List Int):(nl a).length=a.length:=List.length_map ..
theorem mU{l:List Int}(h:isBytes l):∀x∈nl l,x<256:=by
 intro x hx;unfold nl at hx;rw[List.mem_map] at hx;obtain⟨y,hy,rfl⟩:=hx
 have:=h y hy
 omega
theorem wV n:nl (beB n)=beN n:=rfl
theorem D9 s l:gb s l=aA s (nl l):=by unfold gb aA nl;rw[List.foldl_map]
def chN(T:Nat)(l:List Nat):List Nat:=beN l.length++(beN T++(l++beN (aC (aA ag (beN T++l)))))
theorem fW T l:nl (chB T l)=chN T (nl l):=by
 unfold chB chN;rw[bR,bR,bR,wV,wV,wV,dU,D9,bR,wV]
theorem eD n:∀a∈beN n,a<256:=by
 intro a b;simp only[beN,Y4,List.not_mem_nil,or_false] at b;omega
theorem aQ:ag<4294967296:=Xh
theorem fs s(h:s<4294967296):aC s<4294967296:=YY (n:=32) O Xh
structure Bnd (s:Rd) (h:Hd) (sp sc:Bool) (C:Nat):Prop where
 part:s.part=1
 taken:s.taken=0
 number:s.number=0
 sum:s.sum<4294967296
 inv:aZ s
 hd:s.hd=h
 sp:s.sp=sp
 sc:s.sc=sc
 sd:s.sd=false
 dov:s.dov=false
 col:s.tl.colours=C
theorem C7:Bnd {rd0 with part:=1} hd0 false false 0:=
 ⟨rfl,rfl,rfl,Xh,⟨⟨dI.W,dI.H,dI.D,dI.K,dI.L⟩,λ_=>Xp,λ_=>Xp,Xh⟩,rfl,rfl,rfl,rfl,rfl,rfl⟩
theorem Bnd.ln{s h sp sc C}(b:Bnd s h sp sc C)n:aZ (lnS s n):=⟨⟨b.inv.hd.W,b.inv.hd.H,b.inv.hd.D,b.inv.hd.K,b.inv.hd.L⟩,b.inv.raw,b.inv.clear,b.inv.colours⟩
theorem qu{s h sp sc C T n}(b:Bnd s h sp sc C)(d:n<2147483648)(e:T<4294967296){a}(f:(tyS (lnS s n) T (aA ag (beN T))).checkType=0)(g:(tyS (lnS s n) T (aA ag (beN T))).note=a)(i:a.length=n)(j:n≠0):Rn s (beN n++beN T) (a.enter 3):=by
 refine Rn.append (hX b.inv b.part b.taken b.number b.sum d) ?_;have c:=oI (s:=lnS s n) (T:=T) (b.ln n) rfl rfl rfl aQ e d f;replace c:Rn (lnS s n) (beN T) ((tyS (lnS s n) T (aA ag (beN T))).note.enter (if(tyS (lnS s n) T (aA ag (beN T))).note.length=0 then 4 else 3)):=c;rw[g,i,N j] at c;exact c
theorem nT{s a q a':Rd}{T n l}(o:Rn s (beN n++beN T) (a.enter 3))(f:l.length=n)(g:Rn (a.enter 3) l q)(e:q.sum=aA ag (beN T++l))(h:∀b∈l,b<256)(i:aZ q)(j:q.part=4)(k:q.taken=0)(m:q.number=0)(p:({q with taken:=4,number:=aC q.sum}:Rd).accept=(a',0))(r:a'.ctype≠aJ):Rn s (chN T l) (a'.enter 1)/\q.sum<4294967296:=by
 have c:q.sum<4294967296:=by
  rw[e];exact cX _ _ aQ (λb t=>by rcases XW.1 t with d|d;exact eD _ b d;exact h b d)
 refine⟨?_,c⟩;unfold chN;rw[f,<-XY,<-e];exact o.append (g.append (qw (s:=q) (n:=aC q.sum) (a':=a') i j k m c (fs _ c) rfl p r))
theorem Du{K D}(h:ax K D):ji K D=true:=by
 unfold ax at h;unfold ji;rcases h with⟨rfl,h⟩|⟨rfl,h⟩|⟨h,a⟩
 .rw[I rfl];exact decide_eq_true h
 .rw[N,I rfl];exact decide_eq_true h
 .rw[N,N,I h];exact decide_eq_true a
def hdN(W H D K L:Nat):List Nat:=[0,0,0,W,0,0,0,H,D,K,0,0,L]
theorem EM W H D K L:nl (hdI W H D K L)=hdN W H D K L:=rfl
theorem yV(W H D K L:Nat)(f:Nat->Nat)(hW1:1<=W)(hW:W<=16)(hH1:1<=H)(hH:H<=16)(hL:L<=1)(hk:ax K D)(hf:∀i,i<13->f i=(hdN W H D K L).getD i 0):bL f=(0,⟨W,H,D,K,L⟩):=by
 have f0:f 0=0:=hf 0 om;have f1:f 1=0:=hf 1 om;have f2:f 2=0:=hf 2 om;have f3:f 3=W:=hf 3 om;have f4:f 4=0:=hf 4 om;have f5:f 5=0:=hf 5 om;have f6:f 6=0:=hf 6 om;have f7:f 7=H:=hf 7 om;have f8:f 8=D:=hf 8 om;have f9:f 9=K:=hf 9 om;have f10:f 10=0:=hf 10 om;have f11:f 11=0:=hf 11 om;have f12:f 12=L:=hf 12 om;have ew:wN f=W:=by unfold wN;rw[f0,f1,f2,f3];omega
 have eh:hN f=H:=by unfold hN;rw[f4,f5,f6,f7];omega
 rw[iM,ew,eh,f8,f9,f10,f11,f12,Du hk,if_neg,if_neg om,if_neg om];intro q;rcases q with q|q|q|q|q
 .omega
 .omega
 .omega
 .omega
 .cases q
theorem qU{e H D K L:Nat}(w:1<=e)(o:e<=16)(x:1<=H)(p:H<=16)(q:L<=1)(r:ax K D):∃i,Rn {rd0 with part:=1} (chN bt (hdN e H D K L)) i/\Bnd i ⟨e,H,D,K,L⟩ false false 0/\i.tl=tl0:=by
 have t:=r.k6;have j:∀u∈hdN e H D K L,u<256:=by
  intro u y;simp only[hdN,Y4,List.not_mem_nil,or_false] at y;omega
 obtain⟨f,c⟩:∃f,f=tyS (lnS {rd0 with part:=1} 13) bt (aA ag (beN bt)):=⟨_,rfl⟩;have g:aZ (f.enter 3):=by rw[c];exact⟨⟨dI.W,dI.H,dI.D,dI.K,dI.L⟩,λ_=>Xp,λ_=>Xp,by show 0<=256;omega⟩
 have k:(f.enter 3).ctype=bt:=by rw[c];rfl
 have v:=Hl (s:=f.enter 3) (l:=hdN e H D K L) g rfl rfl k rfl (by rw[c];rfl) j (by rw[c];exact(cX _ _ aQ (eD _)));have z:(f.enter 3).sum=aA ag (beN bt):=by rw[c];rfl
 obtain⟨b,d⟩:∃b,b=(qn (f.enter 3) (hdN e H D K L) 13).enter 4:=⟨_,rfl⟩;have A:b.sum=aA ag (beN bt++hdN e H D K L):=by
  rw[d,ix,<-z];rfl
 rw[<-d] at v;have h:aZ b:=by rw[d];exact⟨⟨g.hd.W,g.hd.H,g.hd.D,g.hd.K,g.hd.L⟩,λm=>pO g.raw j O m,g.clear,g.colours⟩
 have B:bL b.raw=(0,⟨e,H,D,K,L⟩):=by
  refine yV e H D K L _ w o x p q r (λm C => ?_);rw[d];show upN _ _ 13 m=_
  unfold upN;rw[I C]
 obtain⟨E,F⟩:=nT (a':={({b with taken:=4,number:=aC b.sum}:Rd) with hd:=⟨e,H,D,K,L⟩}) (qu (T:=bt) (n:=13) (a:=f) C7 O Xh (by rw[<-c,c];rfl) (by rw[<-c,c];rfl) (by rw[c];rfl) O) rfl v A j h (by rw[d];rfl) (by rw[d];rfl) (by rw[d];rfl) (by
  unfold Rd.accept;rw[I (by rw[d];exact k)];unfold Rd.acceptHead;show(if(bL b.raw).1≠0 then _ else _)=_
  rw[B,N (λb=>b rfl)]) (by
  show b.ctype≠aJ
  rw[d];show(f.enter 3).ctype≠aJ;rw[k];decide)
 refine⟨_,E,⟨rfl,rfl,rfl,F,⟨⟨o,p,t.2,t.1,q⟩,h.raw,h.clear,h.colours⟩,rfl,?_,?_,?_,?_,?_⟩,?_⟩
 .show b.sp=false;rw[d,c];rfl
 .show b.sc=false;rw[d,c];rfl
 .show b.sd=false;rw[d,c];rfl
 .show b.dov=false;rw[d,c];rfl
 .show b.tl.colours=0;rw[d,c];rfl
 .show b.tl=tl0;rw[d,c];rfl
theorem wI{s h n l}(b:Bnd s h false false 0)(H:1<=h.W)(J:h.K=3)(u:l.length=3*n)(K:1<=n)(z:n<=256)(L:n<=2^h.D)(v:∀A∈l,A<256):∃r,Rn s (chN bC l) r/\Bnd r h true false n/\r.tl=⟨upN s.tl.pal l (3*n),s.tl.clear,n,s.tl.clears⟩:=by
 obtain⟨g,f⟩:∃g,g=tyS (lnS s (3*n)) bC (aA ag (beN bC)):=⟨_,rfl⟩;obtain⟨k,d⟩:∃k,k=({g with sp:=true,tl:={g.tl with colours:=n}}:Rd):=⟨_,rfl⟩;have p:g.hd=h:=by rw[f];exact b.hd
 have q:g.sd=false:=by rw[f];exact b.sd
 have B:g.sp=false:=by rw[f];exact b.sp
 have w:g.sc=false:=by rw[f];exact b.sc
 have m:g.ctype=bC:=by rw[f];rfl
 have o:g.length=3*n:=by rw[f];rfl
 have C:=qu (T:=bC) (n:=3*n) (a:=k) b O Xh (by
  rw[<-f];unfold Rd.checkType;rw[N (by rw[m];decide),N (by rw[p];omega),N (by unfold Rd.short;rw[q];simp)];unfold Rd.checkKind;rw[N (by rw[m];decide),I m];unfold Rd.checkPalette;rw[q,B,w,N Xh,N (by rw[p];omega),N (by rw[o];omega),N (by rw[p,o];omega)]) (by
  rw[<-f,d];unfold Rd.note Rd.note1 Rd.note2;rw[I m];rw[N (by show ¬(g.sd&&_)=true;rw[q];simp),o,show 3*n/3=n from O]) (by rw[d];exact o) O
 have i:aZ (k.enter 3):=by rw[d,f];exact⟨⟨b.inv.hd.W,b.inv.hd.H,b.inv.hd.D,b.inv.hd.K,b.inv.hd.L⟩,b.inv.raw,b.inv.clear,z⟩
 have x:(k.enter 3).ctype=bC:=by rw[d];exact m
 have y:=Hp (s:=k.enter 3) (l:=l) (n:=3*n) i rfl rfl x O O u (by rw[d];exact o) v (by rw[d,f];exact(cX _ _ aQ (eD _)));have D:(k.enter 3).sum=aA ag (beN bC):=by rw[d,f];rfl
 obtain⟨c,e⟩:∃c,c=(qo (k.enter 3) l (3*n)).enter 4:=⟨_,rfl⟩;have E:c.sum=aA ag (beN bC++l):=by
  rw[e,ix,<-D];show aA _ (l.take (3*n))=_
  rw[X6 O]
 rw[<-e] at y;have j:aZ c:=by rw[e];exact⟨⟨i.hd.W,i.hd.H,i.hd.D,i.hd.K,i.hd.L⟩,i.raw,i.clear,i.colours⟩
 have t:c.ctype=bC:=by rw[e];exact x
 obtain⟨F,G⟩:=nT (a':=({c with taken:=4,number:=aC c.sum}:Rd)) C u y E v j (by rw[e];rfl) (by rw[e];rfl) (by rw[e];rfl) (by
  unfold Rd.accept;rw[N (by show ¬c.ctype=bt;rw[t];decide),N (by show ¬c.ctype=aT;rw[t];decide)]) (by
  show c.ctype≠aJ
  rw[t];decide)
 refine⟨_,F,⟨rfl,rfl,rfl,G,⟨⟨j.hd.W,j.hd.H,j.hd.D,j.hd.K,j.hd.L⟩,j.raw,j.clear,j.colours⟩,?_,?_,?_,?_,?_,?_⟩,?_⟩
 .show c.hd=h;rw[e,d];exact p
 .show c.sp=true;rw[e,d];rfl
 .show c.sc=false;rw[e,d];exact w
 .show c.sd=false;rw[e,d];exact q
 .show c.dov=false;rw[e,d,f];exact b.dov
 .show c.tl.colours=n;rw[e,d];rfl
 .show c.tl=_;rw[e,d,f];rfl
theorem yF{t:Rd}(h:t.ctype=aT)(a:t.sd=false):t.note={t with sc:=true,tl:={t.tl with clears:=t.length}}:=by
 have b:t.note1={t with sc:=true,tl:={t.tl with clears:=t.length}}:=by unfold Rd.note1;rw[N (by rw[h];decide),I h]
 unfold Rd.note;rw[b];unfold Rd.note2;rw[N (by show ¬(t.sd&&_)=true;rw[a];simp)]
theorem lE{s h n C sp l}(b:Bnd s h sp false C)(Z:1<=h.W)(B:l.length=n)(a0:1<=n)(a1:n<=256)(w:∀L∈l,L<256)(D:((h.K=0\/h.K=2)/\n=2*chn h.K/\∀x,x<chn h.K->l.getD (2*x) 0*256+l.getD (2*x+1) 0<2^h.D)\/(h.K=3/\sp=true/\n<=C)):∃y,Rn s (chN aT l) y/\Bnd y h sp true C/\y.tl=⟨s.tl.pal,upN s.tl.clear l n,s.tl.colours,n⟩:=by
 obtain⟨g,e⟩:∃g,g=tyS (lnS s n) aT (aA ag (beN aT)):=⟨_,rfl⟩;obtain⟨m,f⟩:∃m,m=({g with sc:=true,tl:={g.tl with clears:=n}}:Rd):=⟨_,rfl⟩;have t:g.hd=h:=by rw[e];exact b.hd
 have u:g.sd=false:=by rw[e];exact b.sd
 have F:g.sp=sp:=by rw[e];exact b.sp
 have M:g.sc=false:=by rw[e];exact b.sc
 have o:g.ctype=aT:=by rw[e];rfl
 have q:g.length=n:=by rw[e];rfl
 have G:g.tl.colours=C:=by rw[e];exact b.col
 have P:=qu (T:=aT) (n:=n) (a:=m) b O Xh (by
  rw[<-e];unfold Rd.checkType;rw[N (by rw[o];decide),N (by rw[t];omega),N (by unfold Rd.short;rw[u];simp)];unfold Rd.checkKind;rw[N (by rw[o];decide),N (by rw[o];decide),I o];unfold Rd.checkClear;rw[u,M,N Xh];rcases D with⟨p,v,_⟩|⟨p,v,z⟩
  .rw[t,I p,q,N]
  .rw[t,N,I p]
   unfold Rd.checkAlphas;rw[F,v,N Xh,q,G,N]) (by
  rw[<-e,f];rw[yF o u,q]) (by rw[f];exact q) O
 have j:aZ (m.enter 3):=by rw[f,e];exact⟨⟨b.inv.hd.W,b.inv.hd.H,b.inv.hd.D,b.inv.hd.K,b.inv.hd.L⟩,b.inv.raw,b.inv.clear,b.inv.colours⟩
 have H:(m.enter 3).ctype=aT:=by rw[f];exact o
 have K:=Ik (s:=m.enter 3) (l:=l) (n:=n) j rfl rfl H O O B (by rw[f];exact q) w (by rw[f,e];exact(cX _ _ aQ (eD _)));have Q:(m.enter 3).sum=aA ag (beN aT):=by rw[f,e];rfl
 obtain⟨c,d⟩:∃c,c=(rr (m.enter 3) l n).enter 4:=⟨_,rfl⟩;have R:c.sum=aA ag (beN aT++l):=by
  rw[d,ix,<-Q];show aA _ (l.take n)=_
  rw[X6 O]
 rw[<-d] at K;have k:aZ c:=by rw[d];exact⟨⟨j.hd.W,j.hd.H,j.hd.D,j.hd.K,j.hd.L⟩,j.raw,λi=>pO j.clear w O i,j.colours⟩
 have A:c.ctype=aT:=by rw[d];exact H
 have r:c.hd=h:=by rw[d,f];exact t
 obtain⟨S,U⟩:=nT (a':=({c with taken:=4,number:=aC c.sum}:Rd)) P B K R w k (by rw[d];rfl) (by rw[d];rfl) (by rw[d];rfl) (by
  unfold Rd.accept;rw[N (by show ¬c.ctype=bt;rw[A];decide),I (by show c.ctype=aT;exact A)];have V:({c with taken:=4,number:=aC c.sum}:Rd).acceptClear=0:=by
   unfold Rd.acceptClear;show(if c.hd.K=3 then 0 else _)=0
   rcases D with⟨p,v,z⟩|⟨p,v,z⟩
   .rw[N (by rw[r];omega),tN _ (chn h.K) (by show chn c.hd.K<=_;rw[r];exact E _) (λi W => ?_)]
    .rfl
    .unfold Rd.clearBad
     apply J;show ¬2^c.hd.D<=c.tl.clear (2*i)*256+c.tl.clear (2*i+1)
     have X:c.tl.clear (2*i)=l.getD (2*i) 0:=by rw[d];show upN _ l n (2*i)=_;unfold upN;rw[I]
     have Y:c.tl.clear (2*i+1)=l.getD (2*i+1) 0:=by rw[d];show upN _ l n (2*i+1)=_;unfold upN;rw[I]
     have:=z i W
     rw[X,Y,r];omega
   .rw[r,I p]
  rw[V]) (by
  show c.ctype≠aJ
  rw[A];decide)
 refine⟨_,S,⟨rfl,rfl,rfl,U,⟨⟨k.hd.W,k.hd.H,k.hd.D,k.hd.K,k.hd.L⟩,k.raw,k.clear,k.colours⟩,?_,?_,?_,?_,?_,?_⟩,?_⟩
 .exact r
 .show c.sp=sp;rw[d,f];exact F
 .show c.sc=true;rw[d,f];rfl
 .show c.sd=false;rw[d,f];exact u
 .show c.dov=false;rw[d,f,e];exact b.dov
 .show c.tl.colours=C;rw[d,f];exact G
 .show c.tl=_;rw[d,f,e];rfl
