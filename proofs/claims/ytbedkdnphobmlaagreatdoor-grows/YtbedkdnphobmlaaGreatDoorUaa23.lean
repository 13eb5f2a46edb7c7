import Derived.Test.YtbedkdnphobmlaaGreatDoorProg
import Derived.Test.YtbedkdnphobmlaaGreatDoorUaa00
import Derived.Test.YtbedkdnphobmlaaGreatDoorUaa01
import Derived.Test.YtbedkdnphobmlaaGreatDoorUaa02
import Derived.Test.YtbedkdnphobmlaaGreatDoorUaa04
import Derived.Test.YtbedkdnphobmlaaGreatDoorUaa05
import Derived.Test.YtbedkdnphobmlaaGreatDoorUaa06
import Derived.Test.YtbedkdnphobmlaaGreatDoorUaa07
import Derived.Test.YtbedkdnphobmlaaGreatDoorUaa12
import Derived.Test.YtbedkdnphobmlaaGreatDoorUaa14
import Derived.Test.YtbedkdnphobmlaaGreatDoorUaa15
import Derived.Test.YtbedkdnphobmlaaGreatDoorUaa16
import Derived.Test.YtbedkdnphobmlaaGreatDoorUaa17
import Derived.Test.YtbedkdnphobmlaaGreatDoorUaa19
import Derived.Test.YtbedkdnphobmlaaGreatDoorUaa20
import Derived.Test.YtbedkdnphobmlaaGreatDoorUaa21
import Derived.Test.YtbedkdnphobmlaaGreatDoorUaa22
set_option linter.all false
namespace Go.Proofs.YtbedkdnphobmlaaGreatDoor
open Go.RowKit Px Tryz
structure DA (s:Rd) (st:St) (r:Rw) (h:Hd) (sp:Bool):Prop where
 ctype:s.ctype=ar
 inv:aZ s
 st:s.st=st
 rw:s.rw=r
 hd:s.hd=h
 sd:s.sd=true
 dov:s.dov=false
 sp:s.sp=sp
structure DAt (s:Rd) (st:St) (r:Rw) (h:Hd) (sp:Bool) (S j N:Nat):Prop where
 da:DA s st r h sp
 part:s.part=3
 sum:s.sum=S
 lt:S<4294967296
 taken:s.taken=j
 length:s.length=N
theorem D8{s st st' r r' h sp S j N x}(d:DAt s st r h sp S j N)(n:takeB st r x=(st',r',0))(o:eL 8 0 {st with skip:=false} r x)(z:st.part≠10)(p:st'.part=10->aN r'=true)(q:x<256)(A:j<N)(B:N<2000000):∃c,Rn s [x] c/\DA c st' r' h sp/\c.sum=bh S x/\(j+1<N->DAt c st' r' h sp (bh S x) (j+1) N)/\(j+1=N->c.part=4/\c.taken=0/\c.number=0):=by
 have f:(s.summed x).ctype=ar:=d.da.ctype;have g:(s.summed x).keep x=({s.summed x with st:=st',rw:=r'},0):=by
  rw[yP f];unfold Rd.takeStream;have k:takeB (s.summed x).st (s.summed x).rw x=(st',r',0):=by
   show takeB s.st s.rw x=_
   rw[d.da.st,d.da.rw,n]
  have t:(s.summed x).streamed x={s.summed x with st:=st',rw:=r'}:=by
   unfold Rd.streamed;rw[k]
  rw[k,if_neg (λa=>a rfl),t];by_cases a:st'.part=10
  .rw[K a,p a,if_neg Xh]
  .rw[J a,if_neg Xi]
 have u:cB s x:=by
  have:=d.part;have:=d.da.inv
  refine⟨O,λa=>absurd d.part a,λa=>O,by rw[d.sum];exact d.lt,λa=>O,d.da.inv.hd,λ_ => ?_,λ_ => ?_,d.da.inv.raw,d.da.inv.clear⟩
  .refine⟨λa => ?_,λa => ?_,λa => ?_,λ_ _ => ?_⟩
   .rw[f] at a;exact absurd a Xh
   .rw[f] at a;exact absurd a Xh
   .rw[f] at a;exact absurd a Xh
   .show eL 8 0 {s.st with skip:=false} s.rw x;rw[d.da.st,d.da.rw];exact o
  .rw[g];show s.taken<2147483648;rw[d.taken];omega
 obtain⟨a,e⟩:∃a,a=({s.summed x with st:=st',rw:=r'}:Rd):=⟨_,rfl⟩;rw[<-e] at g;have v:s.take x=(a.dataEnd,0):=by
  rw[take3 d.part];unfold Rd.takeData;rw[g,if_neg (λa=>a rfl)]
 have C:a.taken=j:=by rw[e];exact d.taken
 have w:a.length=N:=by rw[e];exact d.length
 have i:a.sum=bh S x:=by rw[e];show bh s.sum x=_;rw[d.sum]
 have b:DA a st' r' h sp:=by rw[e];exact⟨d.da.ctype,⟨⟨d.da.inv.hd.W,d.da.inv.hd.H,d.da.inv.hd.D,d.da.inv.hd.K,d.da.inv.hd.L⟩,d.da.inv.raw,d.da.inv.clear,d.da.inv.colours⟩,rfl,rfl,d.da.hd,d.da.sd,d.da.dov,d.da.sp⟩
 have y:a.part=3:=by rw[e];exact d.part
 refine⟨a.dataEnd,Rn.one u v,?_⟩;unfold Rd.dataEnd;by_cases l:a.taken+1=a.length
 .rw[I l]
  refine⟨⟨b.ctype,⟨⟨b.inv.hd.W,b.inv.hd.H,b.inv.hd.D,b.inv.hd.K,b.inv.hd.L⟩,b.inv.raw,b.inv.clear,b.inv.colours⟩,b.st,b.rw,b.hd,b.sd,b.dov,b.sp⟩,i,λa=>O,λ_=>⟨rfl,rfl,rfl⟩⟩
 .rw[if_neg l]
  have m:DA {a with taken:=a.taken+1} st' r' h sp:=⟨b.ctype,⟨⟨b.inv.hd.W,b.inv.hd.H,b.inv.hd.D,b.inv.hd.K,b.inv.hd.L⟩,b.inv.raw,b.inv.clear,b.inv.colours⟩,b.st,b.rw,b.hd,b.sd,b.dov,b.sp⟩;refine⟨m,i,λ_=>⟨m,y,i,(bH _ _ d.lt q),by show a.taken+1=_;omega,w⟩,λa=>O⟩
structure ZR (st:St) (r:Rw) (l:List Nat) (st':St) (r':Rw):Prop where
 sb:StB st
 rj:RwJ r
 br:BR 0 st r (bW l) st' r'
 fin:st'.part=10->aN r'=true
theorem ZR.cons{x l st st' r r'}(h:ZR st r (x::l) st' r'):∃s1 a,takeB st r x=(s1,a,0)/\eL 8 0 {st with skip:=false} r x/\st.part≠10/\(s1.part=10->aN a=true)/\ZR s1 a l st' r':=by
 have c:=h.br;rw[cU] at c;obtain⟨s1,a,i,b⟩:=c.split O;rw[aU] at b;obtain⟨d,e⟩:=i.byte;obtain⟨j,f⟩:=jx (x:=x) h.sb h.rj;rw[d] at f;obtain⟨k,m⟩:=f rfl;refine⟨s1,a,d,j e,e,λg => ?_,⟨k,m,b,h.fin⟩⟩;cases l with
 | nil=>
  obtain⟨n,o⟩:=b;subst n o;exact h.fin g
 | cons p l=>
  rw[cU] at b;exact absurd g b.1
theorem ZR.nil{st st' r r'}(h:ZR st r [] st' r'):st=st'/\r=r':=h.br
theorem Bu:∀(l:List Nat) {s:Rd} {b c:St} {r r':Rw} {h:Hd} {e:Bool} {S j N:Nat},l≠[]->DAt s b r h e S j N->ZR b r l c r'->(∀f∈l,f<256)->j+l.length=N->N<2000000->∃a,Rn s l a/\DA a c r' h e/\a.sum=aA S l/\a.part=4/\a.taken=0/\a.number=0
 | [],s,b,c,r,r',h,e,S,j,N,n,_,_,_,_,_=>absurd rfl n
 | f::l,s,b,c,r,r',h,e,S,j,N,_,d,z,i,g,hN=>by
  obtain⟨L,M,o,p,q,t,k⟩:=z.cons;rw[Yj] at g;obtain⟨u,m,v,w,x,y⟩:=D8 d o p q t (i f Xi) O hN;cases l with
  | nil=>
   obtain⟨A,B⟩:=k.nil;subst A B;obtain⟨C,D,E⟩:=y (by rw[<-g];rfl);exact⟨u,m,v,w,C,D,E⟩
  | cons F l=>
   rw[Yj] at g;obtain⟨G,H,I⟩:=Bu (F::l) Xi (x O) k (λJ K=>i J (by simp[K])) (by rw[Yj];omega) hN;exact⟨G,m.append H,I⟩
structure BD (s:Rd) (st:St) (r:Rw) (h:Hd) (sp:Bool):Prop where
 da:DA s st r h sp
 part:s.part=1
 taken:s.taken=0
 number:s.number=0
 sum:s.sum<4294967296
theorem uR{t:Rd}(h:t.ctype=ar)(a:t.sd=true):t.note=t:=by
 have b:t.note1=t:=by
  unfold Rd.note1;rw[N (by rw[h];decide),N (by rw[h];decide),I h];unfold Rd.begin;rw[I a]
 unfold Rd.note;rw[b];unfold Rd.note2;rw[N (by rw[h];simp)]
theorem aZ.put{s t}(h:aZ s)(a:t.hd=s.hd)(c:t.raw=s.raw)(b:t.tl=s.tl):aZ t:=
 ⟨⟨by rw[a];exact h.hd.W,by rw[a];exact h.hd.H,by rw[a];exact h.hd.D,by rw[a];exact h.hd.K,by rw[a];exact h.hd.L⟩,by rw[c];exact h.raw,by rw[b];exact h.clear,by rw[b];exact h.colours⟩
theorem oY{a l st st' r r' h sp s}(p:∀e∈l,e<256)(v:l.length<2000000)(q:ZR st r l st' r')(c:DA a st r h sp)(w:a.length=l.length)(t:a.sum=aA ag (beN ar))(o:Rn s (beN l.length++beN ar) (a.enter (if l.length=0 then 4 else 3))):∃u,Rn s (chN ar l) u/\BD u st' r' h sp:=by
 have x:∃b,Rn (a.enter (if l.length=0 then 4 else 3)) l b/\DA b st' r' h sp/\b.sum=aA ag (beN ar++l)/\b.part=4/\b.taken=0/\b.number=0:=by
  by_cases g:l=[]
  .subst g
   obtain⟨y,z⟩:=q.nil;subst y z;exact⟨a.enter 4,rfl,⟨c.ctype,c.inv.put rfl rfl rfl,c.st,c.rw,c.hd,c.sd,c.dov,c.sp⟩,by rw[XN];exact t,rfl,rfl,rfl⟩
  .have A:l.length≠0:=λb=>g (List.length_eq_zero_iff.1 b)
   rw[if_neg A];obtain⟨b,i,d,f,k⟩:=Bu l (s:=a.enter 3) (S:=aA ag (beN ar)) (j:=0) (N:=l.length) g ⟨⟨c.ctype,c.inv.put rfl rfl rfl,c.st,c.rw,c.hd,c.sd,c.dov,c.sp⟩,rfl,t,(cX _ _ aQ (eD _)),rfl,w⟩ q p O v;exact⟨b,i,d,by rw[f,ix],k⟩
 obtain⟨b,i,d,f,k,B,C⟩:=x;have m:b.sum<4294967296:=by
  rw[f];exact cX _ _ aQ (λe D=>by rcases XW.1 D with h|h;exact eD _ e h;exact p e h)
 have E:=qw (s:=b) (n:=aC b.sum) (a':={b with taken:=4,number:=aC b.sum}) d.inv k B C m (fs _ m) rfl (by
  unfold Rd.accept;rw[if_neg (by show ¬b.ctype=bt;rw[d.ctype];decide),if_neg (by show ¬b.ctype=aT;rw[d.ctype];decide)]) (by show b.ctype≠aJ;rw[d.ctype];decide)
 refine⟨({b with taken:=4,number:=aC b.sum}:Rd).enter 1,?_,⟨⟨d.ctype,d.inv.put rfl rfl rfl,d.st,d.rw,d.hd,d.sd,d.dov,d.sp⟩,rfl,rfl,rfl,m⟩⟩
 .unfold chN
  rw[<-XY,<-f];exact o.append (i.append E)
theorem oX{s:Rd}{l:List Nat}{st st':St}{r r':Rw}{h:Hd}{sp:Bool}(b:BD s st r h sp)(hW:1<=h.W)(hK:h.K=3->sp=true)(hb:∀x∈l,x<256)(hl:l.length<2000000)(z:ZR st r l st' r'):∃s',Rn s (chN ar l) s'/\BD s' st' r' h sp:=by
 obtain⟨t,ht⟩:∃t,t=tyS (lnS s l.length) ar (aA ag (beN ar)):=⟨_,rfl⟩;have t1:t.hd=h:=by rw[ht];exact b.da.hd
 have t2:t.sd=true:=by rw[ht];exact b.da.sd
 have t3:t.sp=sp:=by rw[ht];exact b.da.sp
 have t5:t.ctype=ar:=by rw[ht];rfl
 have t6:t.length=l.length:=by rw[ht];rfl
 have t8:t.dov=false:=by rw[ht];exact b.da.dov
 have il:aZ (lnS s l.length):=b.da.inv.put rfl rfl rfl;have hn:t.note=t:=uR t5 t2;have o1:=hX (n:=l.length) b.da.inv b.part b.taken b.number b.sum om;have o2:=oI (s:=lnS s l.length) (T:=ar) il rfl rfl rfl aQ (by decide) (by show l.length<2147483648;omega) (by
  show(tyS (lnS s l.length) ar (aA ag (beN ar))).checkType=0
  rw[<-ht];unfold Rd.checkType;rw[if_neg (by rw[t5];decide),if_neg (by rw[t1];omega),if_neg (by unfold Rd.short;rw[t5];simp)];unfold Rd.checkKind;rw[if_neg (by rw[t5];decide),if_neg (by rw[t5];decide),if_neg (by rw[t5];decide),if_pos t5];unfold Rd.checkData;rw[t8,t3,t1,if_neg];intro q;by_cases k3:h.K=3
  .rw[hK k3] at q;simp at q
  .rw[decide_eq_false k3] at q;simp at q)
 replace o2:Rn (lnS s l.length) (beN ar) ((tyS (lnS s l.length) ar (aA ag (beN ar))).note.enter (if(tyS (lnS s l.length) ar (aA ag (beN ar))).note.length=0 then 4 else 3)):=o2;rw[<-ht,hn,t6] at o2;exact oY hb hl z ⟨t5,by rw[ht];exact b.da.inv.put rfl rfl rfl,by rw[ht];exact b.da.st,by rw[ht];exact b.da.rw,t1,t2,t8,t3⟩ t6 (by rw[ht];rfl) (o1.append o2)
theorem mT{t:Rd}(h:t.ctype=ar)(a:t.sd=false):t.note={t with sd:=true,st:=St.start,rw:=Rw.start t.hd t.tl.colours}:=by
 have b:t.note1={t with sd:=true,st:=St.start,rw:=Rw.start t.hd t.tl.colours}:=by
  unfold Rd.note1;rw[N (by rw[h];decide),N (by rw[h];decide),I h];unfold Rd.begin;rw[a,N Xh]
 unfold Rd.note;rw[b];unfold Rd.note2;rw[N (by show ¬(true&&decide (t.ctype≠ar))=true;rw[h];decide)]
theorem oW{s:Rd}{n:Nat}{h:Hd}{sp sc:Bool}{C:Nat}(b:Bnd s h sp sc C)(hW:1<=h.W)(hK:h.K=3->sp=true)(hl:n<2000000):∃u:Rd,Rn s (beN n++beN ar) (u.enter (if n=0 then 4 else 3))/\DA u St.start (Rw.start h C) h sp/\u.length=n/\u.sum=aA ag (beN ar)/\u.tl=s.tl:=by
 obtain⟨t,ht⟩:∃t,t=tyS (lnS s n) ar (aA ag (beN ar)):=⟨_,rfl⟩;have t1:t.hd=h:=by rw[ht];exact b.hd
 have t2:t.sd=false:=by rw[ht];exact b.sd
 have t3:t.sp=sp:=by rw[ht];exact b.sp
 have t5:t.ctype=ar:=by rw[ht];rfl
 have t6:t.length=n:=by rw[ht];rfl
 have t7:t.tl.colours=C:=by rw[ht];exact b.col
 have t8:t.dov=false:=by rw[ht];exact b.dov
 have il:aZ (lnS s n):=b.inv.put rfl rfl rfl;have it:aZ t:=by rw[ht];exact b.inv.put rfl rfl rfl
 obtain⟨u,hu⟩:∃u,u=({t with sd:=true,st:=St.start,rw:=Rw.start h C}:Rd):=⟨_,rfl⟩;have er:Rw.start t.hd t.tl.colours=Rw.start h C:=by rw[t1,t7]
 have hn:t.note=u:=by rw[mT t5 t2,er,hu]
 have ul:u.length=n:=by rw[hu];exact t6
 have o1:=hX (n:=n) b.inv b.part b.taken b.number b.sum om;have o2:=oI (s:=lnS s n) (T:=ar) il rfl rfl rfl aQ (by decide) (by show n<2147483648;omega) (by
  show(tyS (lnS s n) ar (aA ag (beN ar))).checkType=0
  rw[<-ht];unfold Rd.checkType;rw[if_neg (by rw[t5];decide),if_neg (by rw[t1];omega),if_neg (by unfold Rd.short;rw[t5];simp)];unfold Rd.checkKind;rw[if_neg (by rw[t5];decide),if_neg (by rw[t5];decide),if_neg (by rw[t5];decide),if_pos t5];unfold Rd.checkData;rw[t8,t3,t1,if_neg];intro q;by_cases k3:h.K=3
  .rw[hK k3] at q;simp at q
  .rw[decide_eq_false k3] at q;simp at q)
 replace o2:Rn (lnS s n) (beN ar) ((tyS (lnS s n) ar (aA ag (beN ar))).note.enter (if(tyS (lnS s n) ar (aA ag (beN ar))).note.length=0 then 4 else 3)):=o2;rw[<-ht,hn,ul] at o2;refine⟨u,o1.append o2,?_,ul,by rw[hu,ht];rfl,by rw[hu,ht];rfl⟩;rw[hu];exact⟨t5,it.put rfl rfl rfl,rfl,rfl,t1,rfl,t8,t3⟩
theorem ns{s l st' r' h sp sc C}(b:Bnd s h sp sc C)(e:1<=h.W)(f:h.K=3->sp=true)(g:∀i∈l,i<256)(c:l.length<2000000)(j:ZR St.start (Rw.start h C) l st' r'):∃d,Rn s (chN ar l) d/\BD d st' r' h sp:=by
 obtain⟨k,m,n,o,p,_⟩:=oW b e f c;exact oY (a:=k) g c j n o p m
structure TlF (T:Tl) (s:Rd):Prop where
 tl:s.tl=T
 sd:s.sd=true
 c:s.part=3->s.ctype≠bC/\s.ctype≠aT
theorem wE{t:Rd}(d:t.sd=true)(a:t.checkType=0):t.ctype≠bC/\t.ctype≠aT:=by
 unfold Rd.checkType at a
 split at a
 .exact absurd a Xh
 .split at a
  .unfold Rd.checkFirst at a
   split at a
   .exact absurd a Xh
   .rename_i c
    have c:=Decidable.not_not.1 c;rw[c];exact⟨Xh,Xh⟩
  .split at a
   .exact absurd a Xh
   .unfold Rd.checkKind at a
    refine⟨λb => ?_,λb => ?_⟩
    .rw[N (by rw[b];decide),I b] at a
     unfold Rd.checkPalette at a;rw[d,I Xi] at a;exact absurd a Xh
    .rw[N (by rw[b];decide),N (by rw[b];decide),I b] at a
     unfold Rd.checkClear at a;rw[d,I Xi] at a;exact absurd a Xh
theorem wU{t:Rd}(a:t.sd=true)(b:t.ctype≠bC)(c:t.ctype≠aT):t.note.tl=t.tl/\t.note.sd=true/\t.note.ctype=t.ctype:=by
 have d:t.note1=t:=by
  unfold Rd.note1;rw[N b,N c];split
  .unfold Rd.begin;rw[I a]
  .rfl
 unfold Rd.note;rw[d];unfold Rd.note2;split
 .exact⟨rfl,a,rfl⟩
 .exact⟨rfl,a,rfl⟩
theorem DE{s:Rd}{x}(a:s.ctype≠bC)(b:s.ctype≠aT):(s.keep x).1.tl=s.tl/\(s.keep x).1.sd=s.sd/\(s.keep x).1.ctype=s.ctype:=by
 unfold Rd.keep;split
 .exact⟨rfl,rfl,rfl⟩
 .first|rw[N a,N b]|skip
  split
  .unfold Rd.takeStream
   split
   .exact⟨rfl,rfl,rfl⟩
   .split
    .exact⟨rfl,rfl,rfl⟩
    .exact⟨rfl,rfl,rfl⟩
  .exact⟨rfl,rfl,rfl⟩
theorem fw(s:Rd):s.accept.1.tl=s.tl/\s.accept.1.sd=s.sd:=by
 unfold Rd.accept;split
 .unfold Rd.acceptHead
  split
  .exact⟨rfl,rfl⟩
  .exact⟨rfl,rfl⟩
 .split
  .exact⟨rfl,rfl⟩
  .exact⟨rfl,rfl⟩
theorem TlF.take{T s x}(h:TlF T s)(b:(s.take x).2=0):TlF T (s.take x).1:=by
 unfold Rd.take at b ⊢;by_cases i:s.part=0
 .rw[I i]
  unfold Rd.takeSign;split
  .exact h
  .split
   .exact⟨h.tl,h.sd,λa=>absurd (show(1:Nat)=3 from a) Xh⟩
   .exact⟨h.tl,h.sd,λa=>by replace a:s.part=3:=a;omega⟩
 rw[N i] at b ⊢;by_cases j:s.part=1
 .rw[I j]
  unfold Rd.takeLength;split
  .exact⟨h.tl,h.sd,λa=>by replace a:s.part=3:=a;omega⟩
  .split
   .exact⟨h.tl,h.sd,λa=>by replace a:s.part=3:=a;omega⟩
   .exact⟨h.tl,h.sd,λa=>absurd (show(2:Nat)=3 from a) Xh⟩
 rw[N j] at b ⊢;by_cases k:s.part=2
 .rw[I k] at b ⊢
  unfold Rd.takeType at b ⊢;by_cases g:s.taken+1≠4
  .rw[I g];exact⟨h.tl,h.sd,λa=>by replace a:s.part=3:=a;omega⟩
  rw[N g] at b ⊢;by_cases e:(s.typed x).checkType≠0
  .rw[I e] at b;exact absurd b e
  rw[N e];obtain⟨l,m⟩:=wE (t:=s.typed x) h.sd O;obtain⟨n,o,u⟩:=wU (t:=s.typed x) h.sd l m;split
  .exact⟨n.trans h.tl,o,λa=>absurd (show(4:Nat)=3 from a) Xh⟩
  .refine⟨n.trans h.tl,o,λ_ => ?_⟩
   show(s.typed x).note.ctype≠bC/\(s.typed x).note.ctype≠aT
   rw[u];exact⟨l,m⟩
 rw[N k] at b ⊢;by_cases f:s.part=3
 .rw[I f]
  obtain⟨c,d,v⟩:=DE (s:=s.summed x) (x:=x) (h.c f).1 (h.c f).2;have p:((s.summed x).keep x).1.ctype≠bC/\((s.summed x).keep x).1.ctype≠aT:=by rw[v];exact h.c f
  unfold Rd.takeData;split
  .exact⟨c.trans h.tl,d.trans h.sd,λ_=>p⟩
  .show TlF T ((s.summed x).keep x).1.dataEnd
   unfold Rd.dataEnd;split
   .exact⟨c.trans h.tl,d.trans h.sd,λa=>absurd (show(4:Nat)=3 from a) Xh⟩
   .exact⟨c.trans h.tl,d.trans h.sd,λ_=>p⟩
 rw[N f] at b ⊢;by_cases q:s.part=4
 .rw[I q] at b ⊢
  obtain⟨c,d⟩:=fw (s.num x);unfold Rd.takeSum at b ⊢;split
  .exact⟨h.tl,h.sd,λa=>by replace a:s.part=3:=a;omega⟩
  .split
   .exact⟨h.tl,h.sd,λa=>by replace a:s.part=3:=a;omega⟩
   .rename_i g e
    rw[N g,N e] at b;split
    .rename_i r
     rw[I r] at b;exact absurd b r
    .split
     .exact⟨c.trans h.tl,d.trans h.sd,λa=>absurd (show(5:Nat)=3 from a) Xh⟩
     .exact⟨c.trans h.tl,d.trans h.sd,λa=>absurd (show(1:Nat)=3 from a) Xh⟩
 .rw[N q];exact h
theorem Rn.tlf{T}:∀{l:List Nat} {s b:Rd},Rn s l b->TlF T s->TlF T b
 | [],s,b,a,k=>by cases a;exact k
 | x::l,s,b,a,k=>Rn.tlf a.2.2 (k.take a.2.1)
theorem Rn.cut:∀{l m:List Nat} {s b:Rd},Rn s (l++m) b->∃c,Rn s l c/\Rn c m b
 | [],m,s,b,a=>⟨s,rfl,a⟩
 | x::l,m,s,b,a=>by
  obtain⟨c,d,e⟩:=Rn.cut (l:=l) a.2.2;exact⟨c,⟨a.1,a.2.1,d⟩,e⟩
theorem Rn.det:∀{l:List Nat} {s a b:Rd},Rn s l a->Rn s l b->a=b
 | [],s,a,b,c,k=>c.symm.trans k
 | x::l,s,a,b,c,k=>Rn.det c.2.2 k.2.2
theorem nH{s s' l m h sp sc C}(b:Bnd s h sp sc C)(e:1<=h.W)(f:h.K=3->sp=true)(i:l.length<2000000)(g:Rn s (chN ar l++m) s'):s'.tl=s.tl:=by
 obtain⟨c,j,a,_,_,k⟩:=oW (n:=l.length) b e f i;have o:chN ar l++m=(beN l.length++beN ar)++(l++(beN (aC (aA ag (beN ar++l)))++m)):=by unfold chN;simp only[XY]
 rw[o] at g;obtain⟨q,p,d⟩:=g.cut;rw[(p.det j)] at d;exact(d.tlf (T:=s.tl) ⟨k,a.sd,λ_=>⟨by show c.ctype≠bC;rw[a.ctype];decide,by show c.ctype≠aT;rw[a.ctype];decide⟩⟩).tl
theorem xo{s st r h sp}(b:BD s st r h sp)(Z:1<=h.W)(H:st.part=10):∃m,Rn s (chN aJ []) m/\m.part=5/\m.hd=h/\m.rw=r/\m.tl=s.tl/\aZ m:=by
 obtain⟨e,g⟩:∃e,e=tyS (lnS s 0) aJ (aA ag (beN aJ)):=⟨_,rfl⟩;have B:e.hd=h:=by rw[g];exact b.da.hd
 have C:e.sd=true:=by rw[g];exact b.da.sd
 have J:e.st=st:=by rw[g];exact b.da.st
 have i:e.ctype=aJ:=by rw[g];rfl
 have D:e.length=0:=by rw[g];rfl
 have K:e.rw=r:=by rw[g];exact b.da.rw
 have L:e.tl=s.tl:=by rw[g];rfl
 have E:aA ag (beN aJ)<4294967296:=cX _ _ aQ (eD _);have M:e.sum=aA ag (beN aJ):=by rw[g];rfl
 have P:aZ e:=by rw[g];exact b.da.inv.put rfl rfl rfl
 obtain⟨o,u⟩:∃o,o=({e with dov:=true}:Rd):=⟨_,rfl⟩;have Q:e.note=o:=by
  have v:e.note1=e:=by unfold Rd.note1;rw[N (by rw[i];decide),N (by rw[i];decide),N (by rw[i];decide)]
  unfold Rd.note;rw[v,u];unfold Rd.note2;rw[I (by rw[C,i];decide)]
 have S:o.length=0:=by rw[u];exact D
 have p:=oI (s:=lnS s 0) (T:=aJ) (b.da.inv.put rfl rfl rfl) rfl rfl rfl aQ Xh (by show 0<2147483648;omega) (by
  show(tyS (lnS s 0) aJ (aA ag (beN aJ))).checkType=0
  rw[<-g];unfold Rd.checkType;rw[N (by rw[i];decide),N (by rw[B];omega),N (by unfold Rd.short;rw[J,H];simp)];unfold Rd.checkKind;rw[N (by rw[i];decide),N (by rw[i];decide),N (by rw[i];decide),N (by rw[i];decide),I i];unfold Rd.checkEnd;rw[C,N Xh,D,N Xh])
 replace p:Rn (lnS s 0) (beN aJ) ((tyS (lnS s 0) aJ (aA ag (beN aJ))).note.enter (if(tyS (lnS s 0) aJ (aA ag (beN aJ))).note.length=0 then 4 else 3)):=p;rw[<-g,Q,S,I rfl] at p;obtain⟨c,F⟩:∃c,c=o.enter 4:=⟨_,rfl⟩;rw[<-F] at p;have j:c=({e with dov:=true}:Rd).enter 4:=by rw[F,u]
 have w:c.sum=aA ag (beN aJ):=by rw[j];exact M
 have x:c.ctype=aJ:=by rw[j];exact i
 have q:aZ c:=by rw[j];exact P.put rfl rfl rfl
 obtain⟨d,y⟩:∃d,d=aC c.sum:=⟨_,rfl⟩;have a0:d<4294967296:=by rw[y,w];exact fs _ E
 have t:c.sum<4294967296:=by rw[w];exact E
 have k:c.part=4:=by rw[j];rfl
 have U:c.taken=0:=by rw[j];rfl
 have V:c.number=0:=by rw[j];rfl
 have W:Rn c (beN d) (({c with taken:=4,number:=d}:Rd).enter 5):=by
  have v:=iB d O;have a1:d/16777216%256<256:=O;have a2:d/256%256<256:=O;have a3:d%256<256:=O;unfold beN;generalize d/16777216%256=f at *;generalize d/65536%256=b at *;generalize d/256%256=l at *;generalize d%256=z at *;refine Rn.cons (a:=c.num f) (iS q (R k) O O t) ?_ ?_
  .rw[fS k];unfold Rd.takeSum;rw[I]
  refine Rn.cons (a:=(c.num f).num b) (iS (q.num f) (R k) (by show c.taken+1<1000;omega) (by show c.number*256+f<16777216;omega) t) ?_ ?_
  .rw[fS (s:=c.num f) k];unfold Rd.takeSum;rw[I (by show c.taken+1+1≠4;omega)]
  refine Rn.cons (a:=((c.num f).num b).num l) (iS ((q.num f).num b) (R k) (by show c.taken+1+1<1000;omega) (by show(c.number*256+f)*256+b<16777216;omega) t) ?_ ?_
  .rw[fS (s:=(c.num f).num b) k];unfold Rd.takeSum;rw[I (by show c.taken+1+1+1≠4;omega)]
  refine Rn.one (iS (((q.num f).num b).num l) (R k) (by show c.taken+1+1+1<1000;omega) (by show((c.number*256+f)*256+b)*256+l<16777216;omega) t) ?_;rw[fS (s:=((c.num f).num b).num l) k];have G:(((c.num f).num b).num l).number*256+z=d:=yE V v;have X:(((c.num f).num b).num l).num z={c with taken:=4,number:=d}:=by
   show({c with number:=(((c.num f).num b).num l).number*256+z,taken:=c.taken+1+1+1+1}:Rd)=_
   rw[G,U]
  have Y:({c with taken:=4,number:=d}:Rd).accept=({c with taken:=4,number:=d},0):=by
   unfold Rd.accept;rw[N (by show ¬c.ctype=bt;rw[x];decide),N (by show ¬c.ctype=aT;rw[x];decide)]
  unfold Rd.takeSum;rw[N (by show ¬(c.taken+1+1+1+1≠4);omega),G,N (by show ¬(d≠aC c.sum);exact λA=>A y),X,Y,N (λA=>A rfl),I (by show c.ctype=aJ;exact x)]
 refine⟨({c with taken:=4,number:=d}:Rd).enter 5,?_,rfl,?_,?_,?_,q.put rfl rfl rfl⟩
 .unfold chN
  show Rn s (beN 0++(beN aJ++([]++beN (aC (aA ag (beN aJ++[])))))) _
  rw[Ze,XN,<-w,<-y];exact(hX (n:=0) b.da.inv b.part b.taken b.number b.sum O).append (p.append W)
 .rw[j];exact B
 .rw[j];exact K
 .rw[j];exact L
def aH(h:Hd)(p:Nat):Nat:=dh (ae h.L p).cf (ae h.L p).cs h.W
def ao(h:Hd)(p:Nat):Nat:=dh (ae h.L p).rf (ae h.L p).rs h.H
def aO(h:Hd)(p:Nat):Nat:=(aH h p*ck h+7)/8
def dk(h:Hd)(p:Nat):Prop:=0<aH h p/\0<ao h p
structure eV (h:Hd) (C:Nat) (rv:Nat->Nat->Nat->Nat) (FF:Nat->Nat->Nat):Prop where
 W1:1<=h.W
 W2:h.W<=16
 H1:1<=h.H
 H2:h.H<=16
 lg:ax h.K h.D
 L:h.L<=1
 c256:C<=256
 lt:∀p k i,rv p k i<256
 f4:∀p k,FF p k<=4
 col:h.K=3->∀p k i,k<ao h p->i<aH h p->gS (rv p k (i*h.D/8)) (i*h.D%8) h.D<C
def upw(rv:Nat->Nat->Nat)(k:Nat):Nat->Nat:=match k with
 | 0=>λ_=>0
 | k+1=>rv k
theorem gf{K D}(h:ax K D):chn K=chan K:=by
 rcases h.k with rfl|rfl|rfl|rfl|rfl<;>rfl
theorem lV{h}(a:ax h.K h.D):1<=ck h/\ck h<=64:=by
 unfold ck;rw[gf a];have b:=bI (K:=h.K);have c:=a.d;have d:chan h.K*h.D<=4*16:=XF b.2 O;have e:1*1<=chan h.K*h.D:=XF b.1 O;omega
theorem nQ{h}(a:h.W<=16)p:aH h p<=16:=jw (cr _ _).2.1 a
theorem iL{h}(a:h.H<=16)p:ao h p<=16:=jw (cr _ _).2.2.2.2.2.1 a
theorem dQ{f s n i}(c:1<=s)(a:i<dh f s n):f+i*s<n:=by
 unfold dh at a
 split at a
 .omega
 .have b:i<=(n-f-1)/s:=O
  have d:i*s<=(n-f-1)/s*s:=XS _ b;have e:=Nat.div_mul_le_self (n-f-1) s;omega
theorem I7{h}(a:ax h.K h.D){c}(b:c<=16):c*ck h<=1024:=by
 have d:=XF b (lV a).2;omega
structure RwP (h:Hd) (C:Nat) (rv:Nat->Nat->Nat->Nat) (FF:Nat->Nat->Nat) (r:Rw) (p k m:Nat):Prop where
 hd:r.hd=h
 colours:r.colours=C
 pass:r.pass=(p:Int)
 line:r.line=k
 columns:r.columns=aH h p
 lines:r.lines=ao h p
 size:r.size=aO h p
 taken:r.taken=m
 filter:1<=m->r.filter=FF p k
 f256:r.filter<256
 row:∀i,i+1<m->r.row i=rv p k i
 row256:∀i,r.row i<256
 above:∀i,i<aO h p->r.above i=upw (rv p) k i
 abv256:∀i,r.above i<256
 smp:∀j,r.smp j<65536
theorem tB{L}(h:L<=1):1<=av L/\av L<=7:=by unfold av;split<;>omega
theorem RwP.ps{h C rv FF r p k m}(s:RwP h C rv FF r p k m):r.ps=ae h.L p:=by
 unfold Rw.ps;rw[s.hd,s.pass,YQ]
theorem RwP.good{h C rv FF r p k m}(e:eV h C rv FF)(s:RwP h C rv FF r p k m)(o:p<av h.L)(i:k<ao h p)(q:m<=aO h p):eH r:=by
 have a:=nQ e.W2 p;have j:=iL e.H2 p;have l:=I7 (c:=aH h p) e.lg a;have b:=e.lg.k6;have t:=tB e.L;have n:aO h p<=128:=by unfold aO;omega
 have d:=s.ps;have f:=cr h.L p;refine⟨⟨⟨by rw[s.hd];exact e.W2,by rw[s.hd];exact e.H2,by rw[s.hd];exact b.2,by rw[s.hd];exact b.1,by rw[s.hd];exact e.L,s.f256,s.row256,s.abv256⟩,by rw[s.hd];exact e.lg.d,by rw[s.columns];exact a,by rw[s.lines];exact j,by rw[s.line];omega,by rw[s.columns,s.hd];exact l,by rw[s.size];exact n,by rw[s.taken];omega,by rw[s.pass];omega,by rw[s.pass];omega,by rw[s.colours];exact e.c256⟩,by rw[s.taken];omega,λ_=>⟨λu g => ?_,?_⟩⟩
 .unfold Rw.px;rw[d];rw[s.columns] at g
  exact Xq (dQ f.2.1 g) e.W2
 .unfold Rw.py;rw[d,s.line]
  exact Xq (dQ f.2.2.2.2.2.1 i) e.H2
theorem RwP.nw{h C rv FF r p k m}(s:RwP h C rv FF r p k m)(a:p<av h.L):aN r=false:=by
 unfold aN;rw[s.hd,s.pass];exact J
structure Bas (h:Hd) (C:Nat) (r:Rw):Prop where
 hd:r.hd=h
 colours:r.colours=C
 f256:r.filter<256
 row256:∀i,r.row i<256
 taken:r.taken=0
 smp:∀j,r.smp j<65536
 col:r.columns<=16
 lns:r.lines<=16
structure vS (r:Rw):Prop where
 whole:aN r=true
 good:eH r
 smp:∀j,r.smp j<65536
def AtP(h:Hd)(C:Nat)(rv:Nat->Nat->Nat->Nat)(FF:Nat->Nat->Nat)(r:Rw)(p:Nat):Prop:=
 (∃q,p<=q/\q<av h.L/\dk h q/\(∀t,p<=t->t<q->¬dk h t)/\RwP h C rv FF r q 0 0)\/((∀t,p<=t->t<av h.L->¬dk h t)/\vS r)
theorem Au{h C rv FF}(e:eV h C rv FF):∀(n:Nat) (r:Rw) (p:Nat),Bas h C r->r.pass=(p:Int)->p<=av h.L->av h.L<p+n->AtP h C rv FF (ll (cj n r)) p
 | 0,r,p,b,a,m,o=>O
 | n+1,r,p,b,a,m,o=>by
  have q:r.ps=ae h.L p:=by unfold Rw.ps;rw[b.hd,a,YQ]
  have w:=nQ e.W2 p;have x:=iL e.H2 p;have y:bB r={r with columns:=aH h p,lines:=ao h p}:=by
   have z:dh r.ps.cf r.ps.cs r.hd.W=aH h p:=by rw[q,b.hd];rfl
   have A:dh r.ps.rf r.ps.rs r.hd.H=ao h p:=by rw[q,b.hd];rfl
   unfold bB;rw[z,A]
  have B:cj (n+1) r=if r.pass<(av r.hd.L:Int) then(if 0<(bB r).columns/\0<(bB r).lines then bB r else cj n {bB r with pass:=r.pass+1}) else r:=rfl
  rw[B,y];by_cases D:p<av h.L
  .rw[I (by rw[b.hd,a];omega)]
   by_cases g:dk h p
   .rw[I (by exact g)]
    refine L ⟨p,E _,D,g,λd m o=>O,?_⟩;unfold ll;exact⟨b.hd,b.colours,a,rfl,rfl,rfl,by show(aH h p*ck r.hd+7)/8=_;rw[b.hd];rfl,b.taken,λf=>O,b.f256,λj f=>O,b.row256,λj _=>rfl,λj=>Xp,b.smp⟩
   .rw[N (by exact g)]
    have F:=Au e n {({r with columns:=aH h p,lines:=ao h p}:Rw) with pass:=r.pass+1} (p+1) ⟨b.hd,b.colours,b.f256,b.row256,b.taken,b.smp,w,x⟩ (by show r.pass+1=((p+1:Nat):Int);rw[a];omega) O O;rcases F with⟨f,s,k,G,H,J⟩|⟨s,k⟩
    .exact L ⟨f,O,k,G,λd t i=>by
      by_cases l:d=p
      .rw[l];exact g
      .exact H d O i,J⟩
    .exact R ⟨λd t i=>by
      by_cases l:d=p
      .rw[l];exact g
      .exact s d O i,k⟩
  .rw[N (by rw[b.hd,a];omega)]
   refine R ⟨λd t i=>O,?_⟩;have u:=e.lg.k6;have P:=tB e.L;have M:=I7 (c:=r.columns) e.lg b.col;have v:aN (ll r)=true:=by
    unfold aN ll;show decide ((av r.hd.L:Int)<=r.pass)=true
    rw[b.hd,a];exact K
   refine⟨v,⟨⟨⟨by show r.hd.W<=16;rw[b.hd];exact e.W2,by show r.hd.H<=16;rw[b.hd];exact e.H2,by show r.hd.D<=16;rw[b.hd];exact u.2,by show r.hd.K<=6;rw[b.hd];exact u.1,by show r.hd.L<=1;rw[b.hd];exact e.L,b.f256,b.row256,λj=>Xp⟩,by show okD r.hd.D;rw[b.hd];exact e.lg.d,b.col,b.lns,by show 0<=16;omega,by show r.columns*ck r.hd<=1024;rw[b.hd];exact M,by show(r.columns*ck r.hd+7)/8<=128;rw[b.hd];omega,by show r.taken<=129;rw[b.taken];omega,by show 0<=r.pass;rw[a];omega,by show r.pass<=7;rw[a];omega,by show r.colours<=256;rw[b.colours];exact e.c256⟩,by show r.taken<=128;rw[b.taken];omega,λf=>by rw[v] at f;cases f⟩,b.smp⟩
theorem mr{h C rv FF}(e:eV h C rv FF):AtP h C rv FF (Rw.start h C) 0:=by
 have a:=tB e.L
 have:=Au e 8 {rw0 h C with pass:=0} 0 ⟨rfl,rfl,Xp,λ_=>Xp,rfl,λ_=>by show 0<65536;omega,by show 0<=16;omega,by show 0<=16;omega⟩ rfl O O
 exact this
def iV(h:Hd)(rv:Nat->Nat->Nat->Nat)(FF:Nat->Nat->Nat)(p k m:Nat):Nat:=if m=0 then FF p k else(rv p k (m-1)+256-jk h.K h.D (FF p k) (rv p k) (upw (rv p) k) (m-1))%256
theorem IG{h}(a:ax h.K h.D):eX h=ly h.K h.D:=by
 unfold eX ly ck;rw[gf a]
 split<;>omega
theorem pQ{h C rv FF r p k m}(e:eV h C rv FF)(s:RwP h C rv FF r p k m)(c:1<=m)(g:m<=aO h p):lu r (m-1) (iV h rv FF p k m)=rv p k (m-1):=by
 have i:1<=eX h:=by unfold eX;omega
 have d:∀b,upw (rv p) k b<256:=λb=>by
  cases k with
  | zero=>show 0<256;omega
  | succ k=>exact e.lt p k b
 have f:gss r.filter (gP r (m-1)) (r.above (m-1)) (gR r (m-1))=jk h.K h.D (FF p k) (rv p k) (upw (rv p) k) (m-1):=by
  unfold jk gP gR;rw[s.filter c,s.above _ O,s.hd,<-IG e.lg];by_cases a:eX h<=m-1
  .rw[I a,I a,I a,I a,s.row _ O,s.above _ O]
  .rw[N a,N a,N a,N a]
 unfold lu iV;rw[f,N];exact Am _ _ (e.lt _ _ _) (xr (e.lt p k) d)
theorem pU{h C rv FF r p k m}(e:eV h C rv FF)(s:RwP h C rv FF r p k m)(c:p<av h.L)(l:dk h p)(n:m<aO h p):∃r',r.take (iV h rv FF p k m)=(r',0)/\RwP h C rv FF r' p k (m+1):=by
 have o:=e.f4 p k;by_cases f:m=0
 .subst f
  refine⟨{r with taken:=1,filter:=FF p k},?_,⟨s.hd,s.colours,s.pass,s.line,s.columns,s.lines,s.size,rfl,λ_=>rfl,by show FF p k<256;omega,λa g=>O,s.row256,s.above,s.abv256,s.smp⟩⟩;unfold iV;rw[I rfl];unfold Rw.take;rw[s.nw c,N Xh,I s.taken];unfold Rw.takeF;rw[N]
 .have i:=pQ e s O O
  generalize iV h rv FF p k m=d at *;refine⟨({r with taken:=r.taken+1}:Rw).lay (r.taken-1) d,?_,?_⟩
  .unfold Rw.take
   rw[s.nw c,N Xh,N (by rw[s.taken];omega),I (by rw[s.taken,s.size];omega)]
  .have j:lu {r with taken:=r.taken+1} (r.taken-1) d=rv p k (m-1):=by rw[s.taken];exact i
   unfold Rw.lay;rw[j,s.taken];refine⟨s.hd,s.colours,s.pass,s.line,s.columns,s.lines,s.size,rfl,λ_=>s.filter O,s.f256,λa g => ?_,λa => ?_,s.above,s.abv256,s.smp⟩
   .show upd r.row (m-1) (rv p k (m-1)) a=_
    by_cases b:a=m-1
    .rw[b,upd_same]
    .rw[upd_ne _ _ _ b];exact s.row a O
   .show upd r.row (m-1) (rv p k (m-1)) a<256
    by_cases b:a=m-1
    .rw[b,upd_same];exact e.lt _ _ _
    .rw[upd_ne _ _ _ b];exact s.row256 a
theorem sU q a f(c:∀k,f k<65536)(d:∀b,q.smp b<65536):∀k b,(cO q a f k).smp b<65536
 | 0,b=>d b
 | k+1,b=>by
  show upd (cO q a f k).smp (4*a+k) (f k) b<65536
  by_cases h:b=4*a+k
  .rw[h,upd_same];exact c k
  .rw[upd_ne _ _ _ h];exact sU q a f c d k b
theorem nd r(b:eU r)(c:∀a,r.smp a<65536):∀m a,(aP r m).smp a<65536
 | 0,a=>c a
 | m+1,a=>sU (aP r m) _ _ (λ_=>wy b _) (nd r b c m) _ a
theorem mi{h C rv FF r p k}(e:eV h C rv FF)(s:RwP h C rv FF r p k (aO h p))(P:p<av h.L)(Q:dk h p)(R:k<ao h p):∃r',r.take (iV h rv FF p k (aO h p))=(r',0)/\(k+1<ao h p->RwP h C rv FF r' p (k+1) 0)/\(k+1=ao h p->AtP h C rv FF r' (p+1)):=by
 have y:1<=aO h p:=by
  unfold aO
  have:=lV e.lg
  have:1*1<=aH h p*ck h:=XF Q.1 this.1
  omega
 obtain⟨c,l⟩:∃c,c=aO h p:=⟨_,rfl⟩;rw[<-l] at s y ⊢;have S:=pQ e s y O;generalize iV h rv FF p k c=q at *;obtain⟨a,z⟩:∃a,a=({r with taken:=r.taken+1}:Rw).lay (r.taken-1) q:=⟨_,rfl⟩;have T:r.take q=a.endRow:=by
  unfold Rw.take;rw[s.nw P,N Xh,N (by rw[s.taken];omega),N (by rw[s.taken,s.size];omega),z]
 have U:lu {r with taken:=r.taken+1} (r.taken-1) q=rv p k (c-1):=by rw[s.taken];exact S
 have d:a={r with taken:=c+1,row:=upd r.row (c-1) (rv p k (c-1))}:=by
  rw[z];unfold Rw.lay;rw[U,s.taken]
 have A:∀b,b<c->a.row b=rv p k b:=λb i=>by
  rw[d];show upd r.row (c-1) (rv p k (c-1)) b=_
  by_cases g:b=c-1
  .rw[g,upd_same]
  .rw[upd_ne _ _ _ g];exact s.row b O
 have m:∀b,a.row b<256:=λb=>by
  rw[d];show upd r.row (c-1) (rv p k (c-1)) b<256
  by_cases g:b=c-1
  .rw[g,upd_same];exact e.lt _ _ _
  .rw[upd_ne _ _ _ g];exact s.row256 b
 have f:a.hd=h:=by rw[d];exact s.hd
 have t:a.columns=aH h p:=by rw[d];exact s.columns
 have u:a.colours=C:=by rw[d];exact s.colours
 have v:a.line=k:=by rw[d];exact s.line
 have n:a.lines=ao h p:=by rw[d];exact s.lines
 have B:a.pass=(p:Int):=by rw[d];exact s.pass
 have V:a.size=c:=by rw[d,l];exact s.size
 have w:a.filter<256:=by rw[d];exact s.f256
 have D:=e.lg.k6;have W:eU a:=⟨by rw[f];exact e.W2,by rw[f];exact e.H2,by rw[f];exact D.2,by rw[f];exact D.1,by rw[f];exact e.L,w,m,by rw[d];exact s.abv256⟩;have X:a.bad=false:=by
  unfold Rw.bad;by_cases x:h.K=3
  .have:oB a=true:=oZ (λb i=>by
    rw[t] at i;have a3:h.D=1\/h.D=2\/h.D=4\/h.D=8:=by have:=e.lg;unfold ax at this;omega
    have Y:ck h=h.D:=by unfold ck;rw[x];show 1*h.D=h.D;omega
    have Z:b*h.D/8<c:=by
     rw[l];unfold aO;rw[Y];have a0:(b+1)*h.D<=aH h p*h.D:=XS _ i;rw[YO,Zi] at a0;omega
    unfold cE;rw[f,u,I,A _ Z];exact e.col x p k b R i)
   rw[this];simp
  .rw[f,J x];rfl
 have E:∀j,a.laid.smp j<65536:=λj=>nd a W (λj=>by rw[d];exact s.smp j) _ j
 have a1:a.endRow=(if a.lines<=a.line+1 then a.laid.next else a.laid,0):=by
  unfold Rw.endRow;rw[X,N Xh]
 obtain⟨F,G,H,a4,K,L,a2,a5,M,o,a6⟩:=dV a a.columns;rw[T,a1];refine⟨_,rfl,λg => ?_,λg => ?_⟩
 .rw[N (by rw[v,n];omega)]
  refine⟨by show(aP a a.columns).hd=h;rw[F];exact f,by show(aP a a.columns).colours=C;rw[G];exact u,by show(aP a a.columns).pass=_;rw[H];exact B,by show a.line+1=k+1;rw[v],by show(aP a a.columns).columns=_;rw[K];exact t,by show(aP a a.columns).lines=_;rw[L];exact n,by show(aP a a.columns).size=_;rw[a2,<-l];exact V,rfl,λa=>O,by show(aP a a.columns).filter<256;rw[M];exact w,λb a=>O,λb=>by show(aP a a.columns).row b<256;rw[o];exact m b,λb i => ?_,λb=>by show(aP a a.columns).row b<256;rw[o];exact m b,E⟩;show(aP a a.columns).row b=rv p k b
  rw[o];exact A b O
 .rw[I (by rw[v,n];omega)]
  have a7:=tB e.L;refine Au e 8 {a.laid with pass:=a.laid.pass+1} (p+1) ⟨by show(aP a a.columns).hd=h;rw[F];exact f,by show(aP a a.columns).colours=C;rw[G];exact u,by show(aP a a.columns).filter<256;rw[M];exact w,λb=>by show(aP a a.columns).row b<256;rw[o];exact m b,rfl,E,by show(aP a a.columns).columns<=16;rw[K,t];exact(nQ e.W2 p),by show(aP a a.columns).lines<=16;rw[L,n];exact(iL e.H2 p)⟩ ?_ O O;show(aP a a.columns).pass+1=((p+1:Nat):Int)
  rw[H,B];omega
def hJ(h:Hd)(rv:Nat->Nat->Nat->Nat)(FF:Nat->Nat->Nat)(p k m:Nat):List Nat:=(List.range m).map (iV h rv FF p k)
theorem row_in{h C rv FF r p k}(e:eV h C rv FF)(s:RwP h C rv FF r p k 0)(a:p<av h.L)(b:dk h p)(c:k<ao h p):∀m,m<=aO h p->∃d,RWL r (hJ h rv FF p k m) d/\RwP h C rv FF d p k m
 | 0,_=>⟨r,rfl,s⟩
 | m+1,n=>by
  obtain⟨o,i,f⟩:=row_in e s a b c m O;obtain⟨j,g,l⟩:=pU e f a b O;refine⟨j,?_,l⟩;unfold hJ;rw[List.range_succ,Zf];exact i.append ⟨f.good e a c O,by rw[g],by rw[g];rfl⟩
theorem C0{h C rv FF r p k}(e:eV h C rv FF)(s:RwP h C rv FF r p k 0)(a:p<av h.L)(d:dk h p)(b:k<ao h p):∃c,RWL r (hJ h rv FF p k (aO h p+1)) c/\(k+1<ao h p->RwP h C rv FF c p (k+1) 0)/\(k+1=ao h p->AtP h C rv FF c (p+1)):=by
 obtain⟨n,i,f⟩:=row_in e s a d b (aO h p) (E _);obtain⟨j,g,l,m⟩:=mi e f a d b;refine⟨j,?_,l,m⟩;unfold hJ;rw[List.range_succ,Zf];exact i.append ⟨f.good e a b (E _),by rw[g],by rw[g];rfl⟩
def fV(h:Hd)(rv:Nat->Nat->Nat->Nat)(FF:Nat->Nat->Nat)(p n:Nat):List Nat:=(List.range n).flatMap (λk=>hJ h rv FF p k (aO h p+1))
theorem wM{h C rv FF r p}(e:eV h C rv FF)(s:RwP h C rv FF r p 0 0)(c:p<av h.L)(a:dk h p):∀k,k<=ao h p->∃b,RWL r (fV h rv FF p k) b/\(k<ao h p->RwP h C rv FF b p k 0)/\(k=ao h p->AtP h C rv FF b (p+1))
 | 0,_=>⟨r,rfl,λ_=>s,λm=>by have:=a.2;omega⟩
 | k+1,n=>by
  obtain⟨o,d,f,_⟩:=wM e s c a k O;obtain⟨g,i,j,l⟩:=C0 e (f O) c a O;refine⟨g,?_,j,l⟩;unfold fV;rw[List.range_succ,List.flatMap_append];refine d.append ?_;rw[List.flatMap_cons,List.flatMap_nil,XN];exact i
def fpN(h:Hd)(rv:Nat->Nat->Nat->Nat)(FF:Nat->Nat->Nat)(p:Nat):List Nat:=if aH h p=0 then[] else fV h rv FF p (ao h p)
theorem jf{h C rv FF}(e:eV h C rv FF):∀(n p:Nat) (r:Rw),p+n=av h.L->AtP h C rv FF r p->∃o,RWL r ((List.range' p n).flatMap (fpN h rv FF)) o/\vS o
 | 0,p,r,t,f=>by
  rcases f with⟨a,c,b,_⟩|⟨_,b⟩
  .omega
  .exact⟨r,rfl,b⟩
 | n+1,p,r,t,f=>by
  rw[List.range'_succ,List.flatMap_cons];by_cases d:dk h p
  .have u:RwP h C rv FF r p 0 0:=by
    rcases f with⟨a,c,b,i,j,g⟩|⟨c,_⟩
    .by_cases q:a=p
     .rw[q] at g;exact g
     .exact absurd d (j p (E _) O)
    .exact absurd d (c p (E _) O)
   obtain⟨v,w,_,x⟩:=wM e u O d (ao h p) (E _);obtain⟨y,z,A⟩:=jf e n (p+1) v O (x rfl);have k:fpN h rv FF p=fV h rv FF p (ao h p):=by unfold fpN;rw[N (by have:=d.1;omega)]
   rw[k];exact⟨y,w.append z,A⟩
  .have k:fpN h rv FF p=[]:=by
    unfold fpN;by_cases s:aH h p=0
    .rw[I s]
    .rw[N s]
     have:ao h p=0:=by
      rcases Nat.eq_zero_or_pos (ao h p) with a|a
      .exact a
      .exact absurd ⟨O,a⟩ d
     rw[this];rfl
   rw[k,Ze];refine jf e n (p+1) r O ?_;rcases f with⟨a,c,b,i,j,g⟩|⟨c,b⟩
   .have q:a≠p:=λB=>d (by rw[<-B];exact i)
    exact L ⟨a,O,b,i,λl D m=>j l O m,g⟩
   .exact R ⟨λl D m=>c l O m,b⟩
theorem sq{h C rv FF}(e:eV h C rv FF):∃a,RWL (Rw.start h C) ((List.range' 0 (av h.L)).flatMap (fpN h rv FF)) a/\vS a:=
 jf e (av h.L) 0 _ O (mr e)
