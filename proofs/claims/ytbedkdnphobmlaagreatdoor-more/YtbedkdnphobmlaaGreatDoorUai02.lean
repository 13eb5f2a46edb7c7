import Derived.Test.YtbedkdnphobmlaaGreatDoorProg
import Derived.Test.YtbedkdnphobmlaaGreatDoorUaa00
import Derived.Test.YtbedkdnphobmlaaGreatDoorUaa01
import Derived.Test.YtbedkdnphobmlaaGreatDoorUaa02
import Derived.Test.YtbedkdnphobmlaaGreatDoorUaa03
import Derived.Test.YtbedkdnphobmlaaGreatDoorUaa04
import Derived.Test.YtbedkdnphobmlaaGreatDoorUaa05
import Derived.Test.YtbedkdnphobmlaaGreatDoorUaa06
import Derived.Test.YtbedkdnphobmlaaGreatDoorUaa07
import Derived.Test.YtbedkdnphobmlaaGreatDoorUaa11
import Derived.Test.YtbedkdnphobmlaaGreatDoorUaa12
import Derived.Test.YtbedkdnphobmlaaGreatDoorUaa13
import Derived.Test.YtbedkdnphobmlaaGreatDoorUaa15
import Derived.Test.YtbedkdnphobmlaaGreatDoorUaa16
import Derived.Test.YtbedkdnphobmlaaGreatDoorUaa17
import Derived.Test.YtbedkdnphobmlaaGreatDoorUaa18
import Derived.Test.YtbedkdnphobmlaaGreatDoorUaa19
import Derived.Test.YtbedkdnphobmlaaGreatDoorUaa20
import Derived.Test.YtbedkdnphobmlaaGreatDoorUaa21
import Derived.Test.YtbedkdnphobmlaaGreatDoorUaa22
import Derived.Test.YtbedkdnphobmlaaGreatDoorUaa23
import Derived.Test.YtbedkdnphobmlaaGreatDoorUaa24
import Derived.Test.YtbedkdnphobmlaaGreatDoorUaa27
import Derived.Test.YtbedkdnphobmlaaGreatDoorUaa32
import Derived.Test.YtbedkdnphobmlaaGreatDoorUaa33
import Derived.Test.YtbedkdnphobmlaaGreatDoorUac00
import Derived.Test.YtbedkdnphobmlaaGreatDoorUai00
import Derived.Test.YtbedkdnphobmlaaGreatDoorUai01
set_option linter.all false
set_option maxRecDepth 100000
set_option maxHeartbeats 0
namespace Go.Proofs.YtbedkdnphobmlaaGreatDoor
open Go.RowKit Px Tryz
theorem DJ{s}(b:Brd s)(F:s.sd=true)(G:s.dov=true\/s.st.part=10):∃l,Rn s (chN aJ []) l/\l.part=5/\l.hd=s.hd/\l.rw=s.rw/\l.tl=s.tl/\aZ l:=by
 obtain⟨e,g⟩:∃e,e=tyS (lnS s 0) aJ (aA ag (beN aJ)):=⟨_,rfl⟩;have z:e.hd=s.hd:=by rw[g];rfl
 have A:e.sd=true:=by rw[g];exact F
 have H:e.st=s.st:=by rw[g];rfl
 have J:e.dov=s.dov:=by rw[g];rfl
 have h:e.ctype=aJ:=by rw[g];rfl
 have B:e.length=0:=by rw[g];rfl
 have K:e.rw=s.rw:=by rw[g];rfl
 have L:e.tl=s.tl:=by rw[g];rfl
 have C:aA ag (beN aJ)<4294967296:=cX _ _ aQ (eD _);have M:e.sum=aA ag (beN aJ):=by rw[g];rfl
 have P:aZ e:=by rw[g];exact b.inv.put rfl rfl rfl
 obtain⟨m,r⟩:∃m,m=({e with dov:=true}:Rd):=⟨_,rfl⟩;have Q:e.note=m:=by
  have t:e.note1=e:=by unfold Rd.note1;rw[N (by rw[h];decide),N (by rw[h];decide),N (by rw[h];decide)]
  unfold Rd.note;rw[t,r];unfold Rd.note2;rw[I (by rw[A,h];decide)]
 have S:m.length=0:=by rw[r];exact B
 have o:=oI (s:=lnS s 0) (T:=aJ) (b.inv.put rfl rfl rfl) rfl rfl rfl aQ Xh (by show 0<2147483648;omega) (by
  show(tyS (lnS s 0) aJ (aA ag (beN aJ))).checkType=0
  rw[<-g];unfold Rd.checkType;rw[N (by rw[h];decide),N (by rw[z];exact b.W),N (by
   unfold Rd.short;rw[H,J];rcases G with c|c
   .rw[c];simp
   .rw[c];simp)]
  unfold Rd.checkKind;rw[N (by rw[h];decide),N (by rw[h];decide),N (by rw[h];decide),N (by rw[h];decide),I h];unfold Rd.checkEnd;rw[A,N Xh,B,N Xh])
 replace o:Rn (lnS s 0) (beN aJ) ((tyS (lnS s 0) aJ (aA ag (beN aJ))).note.enter (if(tyS (lnS s 0) aJ (aA ag (beN aJ))).note.length=0 then 4 else 3)):=o;rw[<-g,Q,S,I rfl] at o;obtain⟨c,D⟩:∃c,c=m.enter 4:=⟨_,rfl⟩;rw[<-D] at o;have i:c=({e with dov:=true}:Rd).enter 4:=by rw[D,r]
 have u:c.sum=aA ag (beN aJ):=by rw[i];exact M
 have v:c.ctype=aJ:=by rw[i];exact h
 have p:aZ c:=by rw[i];exact P.put rfl rfl rfl
 obtain⟨d,w⟩:∃d,d=aC c.sum:=⟨_,rfl⟩;have Z:d<4294967296:=by rw[w,u];exact fs _ C
 have q:c.sum<4294967296:=by rw[u];exact C
 have j:c.part=4:=by rw[i];rfl
 have U:c.taken=0:=by rw[i];rfl
 have V:c.number=0:=by rw[i];rfl
 have W:Rn c (beN d) (({c with taken:=4,number:=d}:Rd).enter 5):=by
  have t:=iB d O;have a0:d/16777216%256<256:=O;have a1:d/256%256<256:=O;have a2:d%256<256:=O;unfold beN;generalize d/16777216%256=f at *;generalize d/65536%256=b at *;generalize d/256%256=k at *;generalize d%256=x at *;refine Rn.cons (a:=c.num f) (iS p (R j) O O q) ?_ ?_
  .rw[fS j];unfold Rd.takeSum;rw[I]
  refine Rn.cons (a:=(c.num f).num b) (iS (p.num f) (R j) (by show c.taken+1<1000;omega) (by show c.number*256+f<16777216;omega) q) ?_ ?_
  .rw[fS (s:=c.num f) j];unfold Rd.takeSum;rw[I (by show c.taken+1+1≠4;omega)]
  refine Rn.cons (a:=((c.num f).num b).num k) (iS ((p.num f).num b) (R j) (by show c.taken+1+1<1000;omega) (by show(c.number*256+f)*256+b<16777216;omega) q) ?_ ?_
  .rw[fS (s:=(c.num f).num b) j];unfold Rd.takeSum;rw[I (by show c.taken+1+1+1≠4;omega)]
  refine Rn.one (iS (((p.num f).num b).num k) (R j) (by show c.taken+1+1+1<1000;omega) (by show((c.number*256+f)*256+b)*256+k<16777216;omega) q) ?_;rw[fS (s:=((c.num f).num b).num k) j];have E:(((c.num f).num b).num k).number*256+x=d:=yE V t;have X:(((c.num f).num b).num k).num x={c with taken:=4,number:=d}:=by
   show({c with number:=(((c.num f).num b).num k).number*256+x,taken:=c.taken+1+1+1+1}:Rd)=_
   rw[E,U]
  have Y:({c with taken:=4,number:=d}:Rd).accept=({c with taken:=4,number:=d},0):=by
   unfold Rd.accept;rw[N (by show ¬c.ctype=bt;rw[v];decide),N (by show ¬c.ctype=aT;rw[v];decide)]
  unfold Rd.takeSum;rw[N (by show ¬(c.taken+1+1+1+1≠4);omega),E,N (by show ¬(d≠aC c.sum);exact λy=>y w),X,Y,N (λy=>y rfl),I (by show c.ctype=aJ;exact v)]
 refine⟨({c with taken:=4,number:=d}:Rd).enter 5,?_,rfl,?_,?_,?_,p.put rfl rfl rfl⟩
 .unfold chN
  show Rn s (beN 0++(beN aJ++([]++beN (aC (aA ag (beN aJ++[])))))) _
  rw[Ze,XN,<-u,<-w];exact(hX (n:=0) b.inv b.part b.taken b.number b.sum O).append (o.append W)
 .rw[i];exact z
 .rw[i];exact K
 .rw[i];exact L
theorem Bnd.brd{s h sp sc C}(b:Bnd s h sp sc C)(a:1<=h.W):Brd s:=⟨b.part,b.taken,b.number,b.sum,b.inv,by rw[b.hd];omega⟩
theorem BD.brd{s st r h sp}(b:BD s st r h sp)(a:1<=h.W):Brd s:=⟨b.part,b.taken,b.number,b.sum,b.da.inv,by rw[b.da.hd];omega⟩
theorem mz{s l h sp sc C}(b:Bnd s h sp sc C)(e:1<=h.W)(f:l.length<=1000)(g:∀i∈l,i<256):∃c,Rn s (chN bJ l) c/\Bnd c h sp sc C/\c.tl=s.tl:=by
 obtain⟨c,j,d,a⟩:=kB (b.brd e) (L b.sd) f g;exact⟨c,j,⟨d.part,d.taken,d.number,d.sum,d.inv,by rw[a.hd];exact b.hd,by rw[a.sp];exact b.sp,by rw[a.sc];exact b.sc,by rw[a.sd];exact b.sd,by rw[a.dov,b.dov,b.sd];rfl,by rw[a.tl];exact b.col⟩,a.tl⟩
def sgN(W H D K L:Nat):List Nat:=nl eu++chN bt (hdN W H D K L)
theorem nu{W H K D L pal clr pix l}(a:cu W H K D pal clr pix)(w:L<=1)(o:l.length<=1000)(p:∀x∈l,x<256)HL(y:HL=sgN W H D K L++(chN bJ l++(nl (palB pal)++nl (dK K clr)))\/HL=sgN W H D K L++(nl (palB pal)++(chN bJ l++nl (dK K clr)))\/HL=sgN W H D K L++(nl (palB pal)++(nl (dK K clr)++chN bJ l))):∃q b,Rn rd0 HL q/\Bnd q ⟨W,H,D,K,L⟩ (decide (K=3)) b (dD K pal)/\fN K pal clr q.tl:=by
 obtain⟨z,A,r,s⟩:=qU (L:=L) a.w1 a.w2 a.h1 a.h2 w a.lg;have t:Rn rd0 (sgN W H D K L) z:=qh.append A;rcases y with rfl|rfl|rfl
 .obtain⟨u,d,e,c⟩:=mz r a.w1 o p
  obtain⟨v,f,g,h,i⟩:=fo a e (c.trans s);obtain⟨n,b,j,k,m⟩:=ft a g h i;exact⟨n,b,t.append (d.append (f.append j)),k,m⟩
 .obtain⟨v,f,g,h,i⟩:=fo a r s
  obtain⟨u,d,e,c⟩:=mz g a.w1 o p;obtain⟨n,b,j,k,m⟩:=ft a e (by rw[c];exact h) (by rw[c];exact i);exact⟨n,b,t.append (f.append (d.append j)),k,m⟩
 .obtain⟨v,f,g,h,i⟩:=fo a r s
  obtain⟨n,b,j,k,m⟩:=ft a g h i;obtain⟨u,d,e,c⟩:=mz k a.w1 o p;exact⟨u,b,t.append (f.append (j.append d)),e,by rw[c];exact m⟩
structure Pcs (W H D K L:Nat) (pal clr pix:List Int) (l0:List Nat) (PL:List (List Nat)) (r':Rw):Prop where
 ok:cu W H K D pal clr pix
 hL:L<=1
 b:∀m∈l0::PL,(∀x∈m,x<256)/\m.length<2000000
 z:∃st',ZR St.start (Rw.start ⟨W,H,D,K,L⟩ (dD K pal)) (l0::PL).flatten st' r'/\st'.part=10
theorem qP{W H K D L pal clr pix}{l b:List Nat}{PL r'}(P:Pcs W H D K L pal clr pix b PL r')HL(h:∃c f,Rn rd0 HL c/\Bnd c ⟨W,H,D,K,L⟩ (decide (K=3)) f (dD K pal)/\fN K pal clr c.tl):∃a,Rn rd0 (HL++(aK (b::PL)++chN aJ [])) a/\a.part=5/\a.hd=⟨W,H,D,K,L⟩/\a.rw=r'/\aZ a/\fN K pal clr a.tl:=by
 obtain⟨i,f,j,g,k⟩:=h;obtain⟨y,m,n⟩:=P.z;obtain⟨o,d,p⟩:=gw g P.ok.w1 (λe=>decide_eq_true e) P.b m;obtain⟨q,r,s,t,u,v,w⟩:=xo p P.ok.w1 n;have x:o.tl=i.tl:=by
  have:aK (b::PL)=chN ar b++aK PL:=by unfold aK;rw[List.flatMap_cons]
  rw[this] at d;exact nH g P.ok.w1 (λe=>decide_eq_true e) (P.b b Xi).2 d
 exact⟨q,j.append (d.append r),s,t,u,w,by rw[v,x];exact k⟩
theorem A5{W H K D L pal clr pix l l0 PL r'}(P:Pcs W H D K L pal clr pix l0 PL r')(i:l.length<=1000)(j:∀k∈l,k<256):∃a,Rn rd0 (du W H D K L pal clr++(aK (l0::PL)++(chN bJ l++chN aJ []))) a/\a.part=5/\a.hd=⟨W,H,D,K,L⟩/\a.rw=r'/\aZ a/\fN K pal clr a.tl:=by
 obtain⟨m,B,n,f,o⟩:=jP P.ok P.hL;obtain⟨C,p,q⟩:=P.z;obtain⟨g,d,b⟩:=gw f P.ok.w1 (λe=>decide_eq_true e) P.b p;have r:g.tl=m.tl:=by
  have:aK (l0::PL)=chN ar l0++aK PL:=by unfold aK;rw[List.flatMap_cons]
  rw[this] at d;exact nH f P.ok.w1 (λe=>decide_eq_true e) (P.b l0 Xi).2 d
 have h:g.st.part=10:=by rw[b.da.st];exact q
 obtain⟨E,s,t,c⟩:=kB (b.brd P.ok.w1) (R (R h)) i j;obtain⟨u,v,w,x,y,z,A⟩:=DJ t (by rw[c.sd];exact b.da.sd) (R (by rw[c.st];exact h));exact⟨u,n.append (d.append (s.append v)),w,by rw[x,c.hd];exact b.da.hd,by rw[y,c.rw];exact b.da.rw,A,by rw[z,c.tl,r];exact o⟩
theorem zH{s T e}(h:aZ s)(f:s.part=2)(p:s.taken=0)(q:s.number=0)(i:s.sum<4294967296)(y:T<4294967296)(g:s.length<2147483648)(j:(tyS s T (aA s.sum (beN T))).checkType=e)(r:e≠0):∃a d,beN T=[T/16777216%256,T/65536%256,T/256%256]++[d]/\Rn s [T/16777216%256,T/65536%256,T/256%256] a/\cB a d/\(a.take d).2=e:=by
 have t:=iB T O;have k:T/16777216%256<256:=O;have l:T/65536%256<256:=O;have m:T/256%256<256:=O;have u:T%256<256:=O;unfold beN at j ⊢;generalize T/16777216%256=a at *;generalize T/65536%256=b at *;generalize T/256%256=c at *;generalize T%256=d at *;have n:=bH _ _ i k;have o:=bH _ _ n l;have v:=bH _ _ o m;refine⟨((s.seen a).seen b).seen c,d,rfl,?_,ok2 (((h.seen a).seen b).seen c) f (by show s.taken+1+1+1<1000;omega) (by show((s.number*256+a)*256+b)*256+c<16777216;omega) v u g,?_⟩
 .refine Rn.cons (a:=s.seen a) (ok2 h f O O i k g) ?_ ?_
  .rw[take2 f];unfold Rd.takeType;rw[I]
  refine Rn.cons (a:=(s.seen a).seen b) (ok2 (h.seen a) f (by show s.taken+1<1000;omega) (by show s.number*256+a<16777216;omega) n l g) ?_ ?_
  .rw[take2 (s:=s.seen a) f];unfold Rd.takeType;rw[I (by show s.taken+1+1≠4;omega)]
  refine Rn.one (ok2 ((h.seen a).seen b) f (by show s.taken+1+1<1000;omega) (by show(s.number*256+a)*256+b<16777216;omega) o m g) ?_;rw[take2 (s:=(s.seen a).seen b) f];unfold Rd.takeType;rw[I (by show s.taken+1+1+1≠4;omega)]
 .rw[take2 (s:=((s.seen a).seen b).seen c) f]
  have w:=yE q t;have x:(((s.seen a).seen b).seen c).typed d=tyS s T (aA s.sum [a,b,c,d]):=by
   show({s with sum:=aA s.sum [a,b,c,d],number:=((((s.number*256+a)*256+b)*256+c)*256+d),taken:=s.taken+1+1+1+1,ctype:=((((s.number*256+a)*256+b)*256+c)*256+d)}:Rd)=_
   rw[w,p];rfl
  unfold Rd.takeType;rw[N (by show ¬(s.taken+1+1+1+1≠4);omega),x,j,I r]
theorem ka T l:(chN T l).length=12+l.length:=by
 unfold chN;rw[Xv,Xv,Xv];show 4+(4+(l.length+4))=_
 omega
theorem lr{pre rest d e a}(h:Rn rd0 pre a)(n:cB a d)(i:(a.take d).2=e)(c:e≠0)(t:pre.length<=4000000000):bm dc0 (pre++d::rest)/\dc0.feed (pre++d::rest)=⟨(a.take d).1,pre.length,e,pre.length⟩:=by
 have j:dc0.feed pre=⟨a,pre.length,0,0⟩:=by
  rw[Rn.feed (d:=dc0) h rfl];show(⟨a,0+pre.length,0,0⟩:Dc)=_
  rw[XD]
 have o:(⟨a,pre.length,0,0⟩:Dc).one d=⟨(a.take d).1,pre.length,e,pre.length⟩:=by
  unfold Dc.one;rw[N (show ¬((0:Nat)≠0) from λp=>p rfl)];show(if(a.take d).2≠0 then _ else _)=_
  rw[I (by rw[i];exact c),i]
 have k:dc0.feed (pre++[d])=⟨(a.take d).1,pre.length,e,pre.length⟩:=by rw[pg,j,o]
 have l:pre++d::rest=(pre++[d])++rest:=Xi;refine⟨λb m g f => ?_,by rw[l,dx,k];exact dw c _⟩;by_cases q:b<pre.length
 .have:=(Rn.ok (d:=dc0) h rfl (by show 0+pre.length<=_;omega)) b m (by rw[<-g,XV q])
  rw[List.take_append_of_le_length O] at f ⊢;exact this f
 .by_cases r:b=pre.length
  .subst r
   rw[XP (E _),YC] at g;have s:d=m:=by simpa using g
   subst s;rw[List.take_left,j];exact⟨n,by show pre.length<=_;omega⟩
  .exfalso
   have:(pre++d::rest).take b=(pre++[d])++rest.take (b-(pre.length+1)):=by
    rw[l,List.take_append,X6 (by rw[Xv];show pre.length+1<=b;omega),Xv];rfl
   rw[this,dx,k,dw (d:=⟨(a.take d).1,pre.length,e,pre.length⟩) c] at f;exact c f
theorem DG{W H K D L pal clr pix l l0 a A B r'}(P:Pcs W H D K L pal clr pix l0 (A++a::B) r')(J:l.length<=1000)(M:∀o∈l,o<256)(a5:(du W H D K L pal clr++aK (l0::A)).length<=3000000000)rest:∃o e m,(e=21\/e=4)/\(du W H D K L pal clr++aK (l0::A)).length+7<=m/\m<(du W H D K L pal clr++aK (l0::A)).length+l.length+20/\bm dc0 ((du W H D K L pal clr++aK (l0::A))++(chN bJ l++(chN ar a++rest)))/\dc0.feed ((du W H D K L pal clr++aK (l0::A))++(chN bJ l++(chN ar a++rest)))=⟨o,m,e,m⟩:=by
 obtain⟨a6,a7,Q,S,a8⟩:=jP P.ok P.hL;obtain⟨a9,C,b0⟩:=P.z;have U:(l0::(A++a::B)).flatten=(l0::A).flatten++(a::B).flatten:=by
  rw[<-Ye,List.flatten_append]
 rw[U] at C;obtain⟨V,b1,X,b2⟩:=C.split;have b3:=P.b a Xi;obtain⟨d,Y,b⟩:=gw S P.ok.w1 (λj=>decide_eq_true j) (λZ a0=>P.b Z (by
  rcases Y4.1 a0 with p|p
  .rw[p];simp
  .simp[p])) X
 have E:=Q.append Y;generalize du W H D K L pal clr++aK (l0::A)=c at *;have F:d.hd.W≠0:=by rw[b.da.hd];have:=P.ok.w1;show W≠0;omega
 have f:Brd d:=⟨b.part,b.taken,b.number,b.sum,b.da.inv,F⟩;by_cases G:V.part=10
 .have q:d.st.part=10:=by rw[b.da.st];exact G
  obtain⟨g,a1,h,a2⟩:=kB f (R (R q)) J M;have r:=hX (n:=a.length) h.inv h.part h.taken h.number h.sum O;have a3:g.dov=true:=by rw[a2.dov,b.da.sd];simp
  obtain⟨a4,k,t,u,j,v⟩:=zH (s:=lnS g a.length) (T:=ar) (e:=4) (h.inv.put rfl rfl rfl) rfl rfl rfl aQ Xh (by show a.length<2147483648;omega) (by
   unfold Rd.checkType;rw[N (by show ¬tyB ar=false;decide),N (by show ¬g.hd.W=0;exact h.W),N (by
    show ¬(decide (ar≠ar)&&g.sd && !g.dov&&decide (g.st.part≠10))=true
    simp)]
   unfold Rd.checkKind;rw[N (by show ¬ar=bt;decide),N (by show ¬ar=bC;decide),N (by show ¬ar=aT;decide),I (by rfl)];unfold Rd.checkData;rw[I (by
    show(g.dov||_)=true
    rw[a3];rfl)]) Xh
  have w:=E.append (a1.append (r.append u));have x:c++(chN bJ l++(chN ar a++rest))=(c++(chN bJ l++(beN a.length++[ar/16777216%256,ar/65536%256,ar/256%256])))++k::(a++beN (aC (aA ag (beN ar++a)))++rest):=by
   have:chN ar a=beN a.length++(([ar/16777216%256,ar/65536%256,ar/256%256]++[k])++(a++beN (aC (aA ag (beN ar++a))))):=by
    rw[<-t];rfl
   rw[this];simp only[XY,Ye,Ze]
  have i:(c++(chN bJ l++(beN a.length++[ar/16777216%256,ar/65536%256,ar/256%256]))).length=c.length+l.length+19:=by
   rw[Xv,Xv,ka];show c.length+(12+l.length+7)=_
   omega
  obtain⟨y,z⟩:=lr (rest:=a++beN (aC (aA ag (beN ar++a)))++rest) w j v Xh (by rw[i];omega);rw[x];exact⟨_,4,_,R rfl,by rw[i];omega,by rw[i];omega,y,z⟩
 .have q:d.st.part≠10:=by rw[b.da.st];exact G
  have r:=hX (n:=l.length) f.inv f.part f.taken f.number f.sum O;obtain⟨a4,k,t,u,j,v⟩:=zH (s:=lnS d l.length) (T:=bJ) (e:=21) (f.inv.put rfl rfl rfl) rfl rfl rfl aQ Xh (by show l.length<2147483648;omega) (by
   unfold Rd.checkType;rw[N (by show ¬tyB bJ=false;decide),N (by show ¬d.hd.W=0;exact F),I (by
    show(decide (bJ≠ar)&&d.sd && !d.dov&&decide (d.st.part≠10))=true
    rw[b.da.sd,b.da.dov,decide_eq_true q];decide)]) Xh
  have w:=E.append (r.append u);have x:c++(chN bJ l++(chN ar a++rest))=(c++(beN l.length++[bJ/16777216%256,bJ/65536%256,bJ/256%256]))++k::(l++beN (aC (aA ag (beN bJ++l)))++(chN ar a++rest)):=by
   have:chN bJ l=beN l.length++(([bJ/16777216%256,bJ/65536%256,bJ/256%256]++[k])++(l++beN (aC (aA ag (beN bJ++l))))):=by
    rw[<-t];rfl
   rw[this];simp only[XY,Ye,Ze]
  have i:(c++(beN l.length++[bJ/16777216%256,bJ/65536%256,bJ/256%256])).length=c.length+7:=by
   rw[Xv];show c.length+7=_
   omega
  obtain⟨y,z⟩:=lr (rest:=l++beN (aC (aA ag (beN bJ++l)))++(chN ar a++rest)) w j v Xh (by rw[i];omega);rw[x];exact⟨_,21,_,Or.inl rfl,by rw[i];omega,by rw[i];omega,y,z⟩
theorem Hn{W H D K L P V pal clr pix fl kl cl s}(h:dp W H D K L P V pal clr pix fl kl s)(a:cu W H K D pal clr pix)(d:rG L P V fl kl cl):∃o e f,aj s=du W H D K L pal clr++(aK (o::e)++chN aJ [])/\Pcs W H D K L pal clr pix o e f/\iZ ⟨W,H,D,K,L⟩ pix f:=by
 obtain⟨e,rfl,g⟩:=h;rw[fu (jV a d.l g.byte)];have i:=d.l;have y:=eE (h:=⟨W,H,D,K,L⟩) (pl:=pix) (R trivial) d.fb (av L);have z:=g.ne;have A:=g.byte;have U:=g.len.2;have j:=g.str;obtain⟨f,p,B⟩:=sq (tr a i d.fb);obtain⟨l,q⟩:∃l,l=dq ⟨W,H,D,K,L⟩ pix fl (av L):=⟨_,rfl⟩;have r:=ko ⟨W,H,D,K,L⟩ pix fl a.lg (av L);rw[<-q] at y j r;have C:l.length<=2078:=by rw[q];exact gA (h:=⟨W,H,D,K,L⟩) a.lg a.w2 a.h2 i pix fl (av L) (E _)
 obtain⟨c,b,rfl⟩:∃c b,e=c::b:=by
  cases e with
  | nil=>exact absurd rfl z
  | cons t u=>exact⟨t,u,rfl⟩
 have F:(nl c::b.map nl).flatten=nl (c::b).flatten:=by
  have:∀b:List (List Int),(b.map nl).flatten=nl b.flatten:=λb=>by
   induction b with
   | nil=>rfl
   | cons t u G=>rw[List.map_cons,List.flatten_cons,G,List.flatten_cons,bR]
  exact this (c::b)
 obtain⟨I,J,M⟩:=j (Rw.start ⟨W,H,D,K,L⟩ (dD K pal)) f (by rw[dU];exact C) (by rw[r];exact p);have N:okD D:=by
  have:=a.lg.d
  unfold okD;omega
 have v:=a.lg.k6;refine⟨nl c,b.map nl,f,by rw[nI];rfl,⟨a,i,λO Q => ?_,I,⟨StB.start,RwJ.start a.w2 a.h2 v.2 v.1 i N (jZ a),by rw[F];exact J,λ_=>B.whole⟩,M⟩,kF a i d.fb p⟩;have S:O∈(c::b).map nl:=Q;obtain⟨m,w,rfl⟩:=YP.1 S;have T:∀k∈m,k∈(c::b).flatten:=λk n=>List.mem_flatten.2 ⟨m,w,n⟩
 refine⟨λk n => ?_,?_⟩
 .obtain⟨x,j,rfl⟩:=YP.1 (show k∈m.map Int.toNat from n)
  have:=A x (T x j)
  omega
 .rw[dU]
  have:=List.Sublist.length_le (List.sublist_flatten_of_mem w)
  omega
def flC(L:List (Nat×List Nat)):List Nat:=L.flatMap (λc=>chN c.1 c.2)
theorem cV A B:flC (A++B)=flC A++flC B:=List.flatMap_append
def oz(pal:List Int):List (Nat×List Nat):=if pal.length=0 then[] else[(bC,nl pal)]
def oD(K:Nat)(clr:List Int):List (Nat×List Nat):=if clr.length=0 then[] else[(aT,nl (if(K:Int)=3 then clr else cQ clr))]
theorem wQ pal:flC (oz pal)=nl (palB pal):=by
 unfold oz palB;split
 .rfl
 .rw[fW];unfold flC;rw[List.flatMap_cons];exact XN _
theorem xM K clr:flC (oD K clr)=nl (dK K clr):=by
 unfold oD dK;split
 .rfl
 .rw[fW];unfold flC;rw[List.flatMap_cons];exact XN _
theorem wO{pal}:∀b∈oz pal,b.1=bC:=by
 unfold oz;split
 .intro b a;cases a
 .intro b a;rw[Y0] at a;rw[a]
theorem xL{K clr}:∀b∈oD K clr,b.1=aT:=by
 unfold oD;split
 .intro b a;cases a
 .intro b a;rw[Y0] at a;rw[a]
theorem Al pal:(oz pal).length<=1:=by unfold oz;split<;>simp
theorem BO K clr:(oD K clr).length<=1:=by unfold oD;split<;>simp
def idC(PL:List (List Nat)):List (Nat×List Nat):=PL.map (λm=>(ar,m))
theorem nt PL:flC (idC PL)=aK PL:=by
 unfold flC idC aK;rw[List.flatMap_map]
def ckL(K:Nat)(pal clr:List Int)(PL:List (List Nat)):List (Nat×List Nat):=(oz pal++oD K clr)++(idC PL++[(aJ,[])])
theorem jT:flC [(aJ,[])]=chN aJ []:=by unfold flC;rw[List.flatMap_cons];exact XN _
theorem xq W H D K L pal clr:du W H D K L pal clr=sgN W H D K L++flC (oz pal++oD K clr):=by
 rw[cV,wQ,xM];unfold du sgN;rw[XY]
theorem DZ W H D K L pal clr PL:du W H D K L pal clr++(aK PL++chN aJ [])=sgN W H D K L++flC (ckL K pal clr PL):=by
 unfold ckL;rw[cV (oz pal++oD K clr),cV (idC PL),nt,jT,xq,XY]
theorem CU W H D K L:(sgN W H D K L).length=33:=by
 unfold sgN;rw[Xv,ka];rfl
def vQ(T:List Nat)(at0 n:Nat):Prop:=∃x e p,(e=21\/e=4)/\at0+7<=p/\p<at0+n+20/\bm dc0 T/\dc0.feed T=⟨x,p,e,p⟩
def rI(W H D K L:Nat)(pal clr pix:List Int)(T:List Nat):Prop:=∃b,bm dc0 T/\dc0.feed T=⟨b,T.length,0,0⟩/\ev W H D K L pal clr pix b
theorem tg{W H D K L pal clr pix T r'}(S:iZ ⟨W,H,D,K,L⟩ pix r')(m:T.length<=3000000000)(f:∀g∈T,g<256)(h:∃a,Rn rd0 T a/\a.part=5/\a.hd=⟨W,H,D,K,L⟩/\a.rw=r'/\aZ a/\fN K pal clr a.tl):rI W H D K L pal clr pix T:=by
 obtain⟨c,b,i,j,k,e,l⟩:=h;refine⟨c,Rn.ok (d:=dc0) b rfl (by show 0+T.length<=_;omega),?_,i,j,⟨e.hd,e.clear,b.smI yp⟩,b.palI f jJ,l,by rw[k];exact S⟩;rw[Rn.feed (d:=dc0) b rfl];show(⟨c,0+T.length,0,0⟩:Dc)=_
 rw[XD]
theorem DH{W H K D L pal clr pix l l0 PL r'}(P:Pcs W H D K L pal clr pix l0 PL r')(S:iZ ⟨W,H,D,K,L⟩ pix r')(t:l.length<=1000)(p:∀b∈l,b<256)(u:(sgN W H D K L++flC (ckL K pal clr (l0::PL))).length<=1000000000)(q:∀b∈sgN W H D K L++flC (ckL K pal clr (l0::PL)),b<256)k(b4:k<(ckL K pal clr (l0::PL)).length)A B(C:A=(ckL K pal clr (l0::PL)).take k)(F:B=(ckL K pal clr (l0::PL)).drop k)T(v:T=(sgN W H D K L++flC A)++(chN bJ l++flC B)):(0<k/\((ckL K pal clr (l0::PL)).getD k (0,[])).1=ar/\((ckL K pal clr (l0::PL)).getD (k-1) (0,[])).1=ar/\vQ T (sgN W H D K L++flC A).length l.length)\/((k=0\/((ckL K pal clr (l0::PL)).getD k (0,[])).1≠ar\/((ckL K pal clr (l0::PL)).getD (k-1) (0,[])).1≠ar)/\rI W H D K L pal clr pix T):=by
 obtain⟨i,a3⟩:∃i,i=ckL K pal clr (l0::PL):=⟨_,rfl⟩;rw[<-a3] at C F u q b4 ⊢;have N:flC i=flC A++flC B:=by rw[<-cV,C,F,X7]
 have c9:(chN bJ l).length=12+l.length:=ka _ _;have a4:T.length<=3000000000:=by
  rw[N] at u;rw[v];simp only[Xv] at u ⊢;omega
 have b5:∀b∈chN bJ l,b<256:=by
  intro b j;unfold chN at j;simp only[XW] at j;rcases j with d|d|d|d
  .exact eD _ b d
  .exact eD _ b d
  .exact p b d
  .exact eD _ b d
 have a5:∀b∈T,b<256:=by
  intro b j;rw[v] at j;rw[N] at q;simp only[XW] at j q;rcases j with(d|d)|d|d
  .exact q b (Or.inl d)
  .exact q b (R (Or.inl d))
  .exact b5 b d
  .exact q b (R (R d))
 have b6:=Al pal;have b7:=BO K clr;obtain⟨a,w⟩:∃b,b=oz pal:=⟨_,rfl⟩;obtain⟨c,x⟩:∃b,b=oD K clr:=⟨_,rfl⟩;have r:i=(a++c)++(idC (l0::PL)++[(aJ,[])]):=by rw[a3,w,x];rfl
 have Q:flC a=nl (palB pal):=by rw[w];exact wQ _
 have U:flC c=nl (dK K clr):=by rw[x];exact xM _ _
 have b8:∀V∈a,V.1=bC:=by rw[w];exact wO
 have b9:∀V∈c,V.1=aT:=by rw[x];exact xL
 rw[<-w] at b6;rw[<-x] at b7;have I:(idC (l0::PL)).length=PL.length+1:=by unfold idC;rw[List.length_map];rfl
 have c0:flC (idC (l0::PL)++[(aJ,[])])=aK (l0::PL)++chN aJ []:=by rw[cV,nt,jT]
 have d0:i.length=a.length+c.length+(PL.length+2):=by
  rw[r,Xv,Xv,Xv,I];rfl
 by_cases d1:k<=a.length+c.length
 .right
  refine⟨?_,?_⟩
  .by_cases m:k=0
   .exact Or.inl m
   .right;right
    have n:k-1<(a++c).length:=by rw[Xv];omega
    have:i.getD (k-1) (0,[])∈a++c:=by
     rw[r,G,XV n,Xt n];exact YU n
    rcases XW.1 this with d|d
    .rw[b8 _ d];decide
    .rw[b9 _ d];decide
  .refine tg S a4 a5 ?_
   have X:∀Y J:List (Nat×List Nat),A=Y->B=J++(idC (l0::PL)++[(aJ,[])])->T=(sgN W H D K L++(flC Y++(chN bJ l++flC J)))++(aK (l0::PL)++chN aJ []):=λY J c1 c2=>by
    rw[v,c1,c2,cV J,c0];simp only[XY]
   have Z:∀y,k=y->y<=(a++c).length->A=(a++c).take y/\B=(a++c).drop y++(idC (l0::PL)++[(aJ,[])]):=λy a0 a6=>by
    rw[C,F,r,a0,List.take_append_of_le_length a6,List.drop_append_of_le_length a6];exact⟨rfl,rfl⟩
   rcases(show k=0\/k=a.length\/k=a.length+c.length from O) with m|m|m
   .obtain⟨f,g⟩:=Z 0 m (X3 _)
    rw[X [] (a++c) f g];refine qP (l:=l) P _ (nu P.ok P.hL t p _ (Or.inl ?_));rw[cV,Q,U];rfl
   .obtain⟨f,g⟩:=Z a.length m (by rw[Xv];omega)
    rw[List.take_left] at f;rw[List.drop_left] at g;rw[X a c f g];refine qP (l:=l) P _ (nu P.ok P.hL t p _ (R (Or.inl ?_)));rw[Q,U]
   .obtain⟨f,g⟩:=Z (a++c).length (by rw[Xv];exact m) (E _)
    rw[List.take_length] at f;rw[List.drop_length] at g;rw[X (a++c) [] f g];refine qP (l:=l) P _ (nu P.ok P.hL t p _ (R (R ?_)));rw[cV,Q,U];show _=_
    simp only[flC,List.flatMap_nil,XN,XY]
 .obtain⟨e,M⟩:∃e,k=(a++c).length+e:=⟨k-(a++c).length,by rw[Xv];omega⟩
  have d2:(a++c).length=a.length+c.length:=Xv;have f:A=(a++c)++(idC (l0::PL)++[(aJ,[])]).take e:=by rw[C,r,M,List.take_length_add_append]
  have g:B=(idC (l0::PL)++[(aJ,[])]).drop e:=by rw[F,r,M,List.drop_length_add_append]
  have a7:sgN W H D K L++flC (a++c)=du W H D K L pal clr:=by rw[xq,w,x]
  have a1:∀h,i.getD ((a++c).length+h) (0,[])=(idC (l0::PL)++[(aJ,[])]).getD h (0,[]):=λh=>by
   rw[r,G,XP O,YT,<-G]
  have a8:∀h,h<PL.length+1->((idC (l0::PL)++[(aJ,[])]).getD h (0,[])).1=ar:=λh d3=>by
   have n:h<(idC (l0::PL)).length:=O;rw[G,XV n,Xt n];obtain⟨d4,_,c3⟩:=YP.1 (YU n);show((idC (l0::PL))[h]).1=ar
   rw[<-c3]
  by_cases a2:e=PL.length+1
  .right
   refine⟨R (Or.inl ?_),?_⟩
   .rw[M,a1,a2,<-I,G,XP (E _),YC]
    show aJ≠ar
    decide
   .refine tg S a4 a5 ?_
    rw[a2,<-I,List.take_left] at f;rw[a2,<-I,List.drop_left] at g
    have:T=du W H D K L pal clr++(aK (l0::PL)++(chN bJ l++chN aJ [])):=by
     rw[v,f,g,cV,nt,jT,<-a7];simp only[XY]
    rw[this];exact A5 P t p
  .left
   have c4:e<PL.length+1:=O;refine⟨O,by rw[M,a1];exact a8 e c4,by rw[show k-1=(a++c).length+(e-1) from O,a1];exact a8 (e-1) O,?_⟩;obtain⟨o,a9⟩:∃o,o=PL.take (e-1):=⟨_,rfl⟩;obtain⟨z,s,c5⟩:∃z s,PL.drop (e-1)=z::s:=by
    cases a0:PL.drop (e-1) with
    | nil=>have:=congrArg List.length a0;rw[Yn] at this;simp at this;omega
    | cons b c6=>exact⟨b,c6,rfl⟩
   have b0:PL=o++z::s:=by rw[a9,<-c5,X7]
   have b1:(idC (l0::o)).length=e:=by
    unfold idC;rw[List.length_map,Yj,a9,Yd];omega
   have b2:idC (l0::PL)++[(aJ,[])]=idC (l0::o)++(idC (z::s)++[(aJ,[])]):=by
    rw[b0];unfold idC;rw[<-Ye,Zf,XY]
   rw[b2,<-b1,List.take_left] at f;rw[b2,<-b1,List.drop_left] at g;have b3:sgN W H D K L++flC A=du W H D K L pal clr++aK (l0::o):=by
    rw[f,cV,<-XY,a7,nt]
   have c7:flC B=chN ar z++(aK s++chN aJ []):=by
    rw[g,cV,nt,jT];unfold aK;rw[List.flatMap_cons,XY]
   rw[b0] at P;have c8:(du W H D K L pal clr++aK (l0::o)).length<=3000000000:=by
    rw[<-b3];rw[N] at u;simp only[Xv] at u ⊢;omega
   have:=DG P t p c8 (aK s++chN aJ [])
   unfold vQ;rw[v,b3,c7];exact this
theorem HV:(prog.info? 4).map (λi=>(i.zero,i.size,i.bytes))=some (some (.bool false),1,1):=Xk
def ow(w:World)(N:Nat)(v:Value)(l:List Bool):Prop:=w.ownsRow N 4 1 v l.length (l.map Value.bool)
theorem ow.nil w N:ow w N (.slice none 0 0) []:=XR _ _ _ _
theorem De{S:Nat->Prop}{w W N v l}(h:ow w N v l)(k:Fr S w W)(d:∀a,v.ownBlock=some a->¬S a):ow W N v l:=by
 refine⟨h.1,?_⟩;rcases h.2 with e|⟨a,f,g,b,i,c,j⟩
 .exact L e
 .refine R ⟨a,f,g,b,i,?_,j⟩
  rw[k.block a ((Array.getElem?_eq_some_iff.1 c).1) (d a (by rw[b];rfl))];exact c
theorem ow.addr{w N v l}(h:ow w N v l)(i:0<l.length):∃b d,v=.slice (some ⟨b,0,none⟩) l.length d/\∀a,a<l.length->w.cell? ⟨b,a,none⟩=some (.bool (l.getD a false)):=by
 rcases h.2 with⟨c,j⟩|⟨b,e,k,c,m,n⟩
 .omega
 .refine⟨b,e,c,λa f => ?_⟩
  have:=h.cells (by rw[c];rfl) a (.bool (l.getD a false)) (by simp[XQ,Xt f,G])
  have g:(Addr.add ⟨b,0,none⟩ a)=⟨b,0+a,none⟩:=by simp[Addr.add];intro h;exact h.symm
  rw[g,XD] at this;exact this
theorem bj.addr0{w N v l}(h:bj w N v l)(i:0<l.length):∃b d,v=.slice (some ⟨b,0,none⟩) l.length d/\∀a,a<l.length->w.cell? ⟨b,a,none⟩=some (.int .i64 (l.getD a 0)):=by
 rcases h.2 with⟨c,j⟩|⟨b,e,k,c,m,n⟩
 .omega
 .refine⟨b,e,c,λa f => ?_⟩
  have:=h.cells (by rw[c];rfl) a (.int .i64 (l.getD a 0)) (by simp[XQ,Xt f,G])
  have g:(Addr.add ⟨b,0,none⟩ a)=⟨b,0+a,none⟩:=by simp[Addr.add];intro h;exact h.symm
  rw[g,XD] at this;exact this
theorem Ep w{ops rest o a}{i:Exit->Act->World->Prop}(n:o.guard=none)s x(p:o.op=Op.call {callee:=Callee.builtin Builtin.append,args:=#[s,x],argTypes:=#[31,31]})N v l(q:a.eval s=v)(r:bj w N v l)g c e(t:a.eval x=.slice (some ⟨g,0,none⟩) 1 c)(u:w.cell? ⟨g,0,none⟩=some (.int .i64 e))(F:l.length+1<=1000000000)(y:N<=w.heap.size)(z:∀b d,bj d N b (l++[e])->Fr (λk=>v.ownBlock=some k) w d->(∀k,b.ownBlock=some k->v.ownBlock=some k\/w.heap.size<=k)->wpList prog ops i rest (a.put o.dst b) d):wpList prog ops i (o::rest) a w:=by
 refine bG w 31 31 3 1 8 (.int .i64 0) underlying31 A7 rfl O n s x p N v l.length (l.map (Value.int .i64)) q r ⟨g,0,none⟩ 1 c [.int .i64 e] t rfl O ?_ ?_ Xn O y ?_ rfl
 .intro j A f
  match j,f with
  | 0,f=>simp at f;subst f;exact u
  | j+1,f=>simp at f
 .intro A m;simp at m;subst m;rfl
 .intro b d B h C
  refine z b d ?_ ⟨h.os,h.tape,h.output,h.size,λk D E=>h.block k D (λe=>E e.symm)⟩ C;show d.ownsRow N 3 1 b (l++[e]).length ((l++[e]).map (Value.int .i64))
  rw[Xv,Zf];exact B
theorem Er w{ops rest o a}{i:Exit->Act->World->Prop}(n:o.guard=none)s x(p:o.op=Op.call {callee:=Callee.builtin Builtin.append,args:=#[s,x],argTypes:=#[58,58]})N v l(q:a.eval s=v)(r:ow w N v l)g c e(t:a.eval x=.slice (some ⟨g,0,none⟩) 1 c)(u:w.cell? ⟨g,0,none⟩=some (.bool e))(F:l.length+1<=1000000000)(y:N<=w.heap.size)(z:∀b d,ow d N b (l++[e])->Fr (λk=>v.ownBlock=some k) w d->(∀k,b.ownBlock=some k->v.ownBlock=some k\/w.heap.size<=k)->wpList prog ops i rest (a.put o.dst b) d):wpList prog ops i (o::rest) a w:=by
 refine bG w 58 58 4 1 1 (.bool false) underlying58 HV rfl O n s x p N v l.length (l.map Value.bool) q r ⟨g,0,none⟩ 1 c [.bool e] t rfl O ?_ ?_ Xn O y ?_ rfl
 .intro j A f
  match j,f with
  | 0,f=>simp at f;subst f;exact u
  | j+1,f=>simp at f
 .intro A m;simp at m;subst m;rfl
 .intro b d B h C
  refine z b d ?_ ⟨h.os,h.tape,h.output,h.size,λk D E=>h.block k D (λe=>E e.symm)⟩ C;show d.ownsRow N 4 1 b (l++[e]).length ((l++[e]).map Value.bool)
  rw[Xv,Zf];exact B
structure kX (w W:World) (v u:Value) (l:List Int) (b:List Bool):Prop where
 kept:Kept w W
 oi:bj W w.heap.size v l
 ob:ow W w.heap.size u b
 ne:∀g,v.ownBlock=some g->u.ownBlock≠some g
theorem kX.start w:kX w w (.slice none 0 0) (.slice none 0 0) [] []:=⟨Kept.refl _,bj.nil _ _,ow.nil _ _,λb a=>by cases a⟩
theorem kX.on{w W W' v u l b}(h:kX w W v u l b)(k:Kept W W'):kX w W' v u l b:=⟨h.kept.trans k,h.oi.kept k,bZ h.ob k,h.ne⟩
theorem kX.growI{w W W' v v' u l l' b}(h:kX w W v u l b)(j:bj W' w.heap.size v' l')(f:Fr (λk=>v.ownBlock=some k) W W')(m:∀k,v'.ownBlock=some k->v.ownBlock=some k\/W.heap.size<=k):kX w W' v' u l' b:=by
 refine⟨?_,j,De h.ob f (λc d a=>h.ne c a d),λc d a => ?_⟩
 .refine⟨f.os.trans h.kept.os,f.tape.trans h.kept.tape,f.output.trans h.kept.output,Xz h.kept.size f.size,λe g => ?_⟩
  rw[f.block e (Xq g h.kept.size) (λa=>by have:=h.oi.ge e a;omega)];exact h.kept.block e g
 .rcases m c d with i|i
  .exact h.ne c i a
  .have:=(World.ownsRow.lt h.ob c a).2;omega
theorem kX.growB{w W W' v u u' l b b'}(h:kX w W v u l b)(j:ow W' w.heap.size u' b')(f:Fr (λk=>u.ownBlock=some k) W W')(m:∀k,u'.ownBlock=some k->u.ownBlock=some k\/W.heap.size<=k):kX w W' v u' l b':=by
 refine⟨?_,dT h.oi f (λa d c=>h.ne a d c),j,λa d c => ?_⟩
 .refine⟨f.os.trans h.kept.os,f.tape.trans h.kept.tape,f.output.trans h.kept.output,Xz h.kept.size f.size,λe g => ?_⟩
  rw[f.block e (Xq g h.kept.size) (λc=>by have:=(World.ownsRow.lt h.ob e c).1;omega)];exact h.kept.block e g
 .rcases m a c with i|i
  .exact h.ne a d i
  .have:=(World.ownsRow.lt h.oi a d).2;omega
theorem BV{s t}(h:aj s=aj t):s=t:=by
 unfold aj at h
 have:s.data.toList=t.data.toList:=(List.map_inj_right (λb c a=>UInt8.toNat_inj.1 a)).1 h
 cases s;cases t
 congr 1
 exact Array.toList_inj.1 this
def ca(C:List (Nat×List Nat))(i:Nat):Nat:=33+(flC (C.take i)).length
theorem kL C i(a:i<C.length):ca C (i+1)=ca C i+12+(C.getD i (0,[])).2.length:=by
 unfold ca;rw[XM a,cV,Xv]
 have:(flC [C[i]]).length=12+(C[i]).2.length:=by
  unfold flC;rw[List.flatMap_cons,List.flatMap_nil,XN,ka]
 rw[this,G,Xt a];show _=_+12+(C[i]).2.length
 omega
structure CkF (ff:ByteArray) (S:List Nat) (C:List (Nat×List Nat)):Prop where
 eq:aj ff=S++flC C
 s33:S.length=33
 ty:∀c∈C,c.1<4294967296/\c.2.length<4294967296
theorem CkF.last{ff S C}(h:CkF ff S C):ca C C.length=ff.size:=by
 unfold ca;rw[List.take_length,<-aF,h.eq,Xv,h.s33]
theorem CkF.size{ff S C}(h:CkF ff S C){i}(a:i<C.length):ca C i+12+(C.getD i (0,[])).2.length<=ff.size:=by
 rw[<-kL C i a,<-h.last];unfold ca
 have:(flC C).length=(flC (C.take (i+1))).length+(flC (C.drop (i+1))).length:=by
  rw[<-Xv,<-cV,X7]
 rw[List.take_length];omega
theorem CkF.at{ff S C}(h:CkF ff S C){i}(a:i<C.length):∃b,(aj ff).drop (ca C i)=chN (C.getD i (0,[])).1 (C.getD i (0,[])).2++b:=by
 refine⟨flC (C.drop (i+1)),?_⟩;have c:C=C.take i++C.getD i (0,[])::C.drop (i+1):=by
  rw[G,Xt a];show C=C.take i++C[i]::C.drop (i+1)
  rw[List.getElem_cons_drop,X7]
 have d:aj ff=(S++flC (C.take i))++flC (C.getD i (0,[])::C.drop (i+1)):=by
  rw[h.eq,XY,<-cV,<-c]
 have e:ca C i=(S++flC (C.take i)).length:=by unfold ca;rw[Xv,h.s33]
 rw[d,e,List.drop_left];unfold flC;rw[List.flatMap_cons]
theorem CkF.num{ff S C}(h:CkF ff S C){i}(b:i<C.length):∃d e f g,(aj ff)[ca C i]? = some d/\(aj ff)[ca C i+1]? = some e/\(aj ff)[ca C i+2]? = some f/\(aj ff)[ca C i+3]? = some g/\16777216*d+65536*e+256*f+g=(C.getD i (0,[])).2.length:=by
 obtain⟨j,k⟩:=h.at b;have l:C.getD i (0,[])∈C:=by rw[G,Xt b];exact YU b
 have a:∀c,(aj ff)[ca C i+c]? = (chN (C.getD i (0,[])).1 (C.getD i (0,[])).2++j)[c]? := λc=>by rw[<-k,Y1]
 refine⟨_,_,_,_,a 0,a 1,a 2,a 3,?_⟩
 have:=iB _ ((h.ty _ l).2)
 omega
theorem CkF.typ{ff S C}(h:CkF ff S C){i}(a:i<C.length):(ff.extract (ca C i+4) (ca C i+8)=⟨#[73,68,65,84]⟩)↔(C.getD i (0,[])).1=ar:=by
 obtain⟨k,f⟩:=h.at a;have g:C.getD i (0,[])∈C:=by rw[G,Xt a];exact YU a
 have j:=(h.ty _ g).1;have b:aj (ff.extract (ca C i+4) (ca C i+8))=beN (C.getD i (0,[])).1:=by
  rw[cM,<-YV,f,show ca C i+8-(ca C i+4)=4 from O];rfl
 generalize (C.getD i (0,[])).1=c at *
 constructor
 .intro d
  rw[d] at b;have e:[73,68,65,84]=beN c:=b
  have:=iB c j
  unfold beN at e;simp only[List.cons.injEq] at e;show c=1229209940
  omega
 .intro d
  apply BV;rw[b,d];rfl
theorem HU t w(b4:t.size<=100000):Calls prog 31 #[.string t] w λM P=>M=.returned (.int .i64 (aC (aA ag (aj t)):Int))/\P=w:=by
 have Q:Z (∀a,aA ag ((aj t).take a)<4294967296):=λa=>by
  have h:∀(l:List Nat) (q:Nat),q<4294967296->(∀m∈l,m<256)->aA q l<4294967296:=λl=>by
   unfold aA
   induction l with
   | nil=>exact λq h _=>h
   | cons m l R=>exact λq h F=>R _ (bH _ _ h (F m Xi)) (λS T=>F S (by simp[T]))
  exact h _ _ Xh (λm u=>dG t m (YE u))
 have U:Z (∀a (h:a<t.size),aA ag ((aj t).take (a+1))=bh (aA ag ((aj t).take a)) t[a].toNat):=λa h=>by
  rw[take_snoc' t a h];unfold aA;rw[Yk];rfl
 have V:Z (aA ag ((aj t).take t.size)=aA ag (aj t)):=by
  show aA ag ((aj t).take t.size)=_
  rw[X6 (by rw[aF];exact E _)]
 have W:Z ((4294967295:Int)=(aA ag ((aj t).take 0):Int)):=rfl;generalize aA ag (aj t)=r at *;go_enter func31,ntmps31;go_wp2_with fail;go_loopg [3,4,5,6] t.size (λv x X G Y y=>∃a:Nat,v=t.size-a/\a<=t.size/\X=.int .i64 a/\x=.int .i64 (aA ag ((aj t).take a):Int)/\y=w)
 case atStart=>exact⟨0,O,O,rfl,by rw[<-W.o],rfl⟩
 case round=>
  obtain⟨a,z,b5,rfl,rfl,rfl⟩:=hrel;replace z:Z _:=z;have A:=Q.o a;by_cases a0:a<t.size
  .have a1:(a:Int)<(t.size:Int):=O
   have b6:(0:Int)<=(a:Int):=O;have u:=t[a].toNat_lt;have a2:Z _:=U.o a a0;generalize aA ag ((aj t).take a)=f at *;have a3:=ie f t[a].toNat A O;obtain⟨d,n⟩:∃d,d=f ^^^ t[a].toNat:=⟨_,rfl⟩;have a4:d<4294967296:=by rw[n];exact fx _ _ A u
   rw[<-n] at a3;have a5:Z (bh f t[a].toNat=bF 8 d):=by show bh f t[a].toNat=_;unfold bh;rw[n]
   replace n:Z _:=n;have a6:Z (∀b,bF (b+1) d=dz (bF b d)):=λb=>rfl
   have a7:Z (bF 0 d=d):=rfl;go_wp2_with fail;go_loopg [3,5,6] 8 (λv x G Y y=>∃b:Nat,v=8-b/\b<=8/\G=.int .i64 b/\x=.int .i64 (bF b d)/\y=wr)
   case atStart=>exact⟨0,O,O,rfl,by rw[a7.o],rfl⟩
   case round=>
    obtain⟨b,s,b7,rfl,rfl,rfl⟩:=hrel;replace s:Z _:=s;by_cases b8:b<8
    .have a8:(b:Int)<8:=O
     have H:=(λb=>eC b d a4) b;have B:Z _:=a6.o b;obtain⟨c,C⟩:∃c,c=bF b d:=⟨_,rfl⟩;rw[<-C] at H B ⊢;replace C:Z _:=C;have k:bits .and .i64 (c:Int) 1=((c%2:Nat):Int):=by
      have:=ti c 1 H O
      rw[show(1:Int)=((1:Nat):Int) from rfl,this]
      congr 1
      exact Nat.and_one_is_mod c
     obtain⟨e,o⟩:∃e,e=c/2:=⟨_,rfl⟩;have a9:(c:Int)/2=(e:Int):=by rw[o];exact(YB _ _).symm
     have b9:(c:Int).tdiv 2=(e:Int):=by rw[XZ O];exact a9
     have b0:e<4294967296:=O;have j:=ie e 3988292384 b0 O;replace j:bits .xor .i64 (e:Int) 3988292384=((e ^^^ 3988292384:Nat):Int):=j;obtain⟨g,i⟩:∃g,g=e ^^^ 3988292384:=⟨_,rfl⟩;rw[<-i] at j;by_cases p:c%2=1
     .rw[p] at k
      have D:Z (dz c=g):=by show dz c=g;unfold dz;rw[I p,i,o]
      replace k:bits .and .i64 (c:Int) 1=1:=k;clear i o p;go_wp2_with fail;go_roundg (8-(b+1))
      case measure=>rw[s.o];omega
      case rel=>exact⟨b+1,rfl,O,Xj,by rw[B.o,D.o],rfl⟩
     .have J:c%2=0:=O
      rw[J] at k;have D:Z (dz c=e):=by show dz c=e;unfold dz;rw[N p,o]
      replace k:bits .and .i64 (c:Int) 1=0:=k;clear i o p J;go_wp2_with fail;go_roundg (8-(b+1))
      case measure=>rw[s.o];omega
      case rel=>exact⟨b+1,rfl,O,Xj,by rw[B.o,D.o],rfl⟩
    .have a8:¬(b:Int)<8:=O
     have K:b=8:=O;have b1:Z (bF b d=bF 8 d):=by show bF b d=_;rw[K]
     clear K;go_wp2_with fail;go_roundg (t.size-(a+1))
     case measure=>rw[z.o];omega
     case rel=>exact⟨a+1,rfl,O,Xj,by rw[a2.o,a5.o,b1.o],rfl⟩
  .have a1:¬(a:Int)<(t.size:Int):=O
   have L:a=t.size:=O;have b2:Z (aA ag ((aj t).take a)=r):=by
    show aA ag ((aj t).take a)=r
    rw[L];exact V.o
   clear L;generalize aA ag ((aj t).take a)=f at *;have j:=ie f 4294967295 A O;replace j:bits .xor .i64 (f:Int) 4294967295=((f ^^^ 4294967295:Nat):Int):=j;obtain⟨g,i⟩:∃g,g=f ^^^ 4294967295:=⟨_,rfl⟩;rw[<-i] at j;have b3:Z (aC r=g):=by show aC r=g;unfold aC;rw[i,b2.o]
   clear i;go_wp2_with fail;go_ret;exact⟨an (by rw[b3.o]),rfl⟩
def Jf(l:List Nat)(e:Ending):Prop:=∃s:ByteArray,e=.returned (.string s)/\aj s=l
theorem H6(v:Nat)w(i:v<4294967296):Calls prog 32 #[.int .i64 v] w λb c=>Jf (beN v) b/\Kept w c:=by
 have d:Z (isBytes [(v:Int)/16777216,(v:Int)/65536%256,(v:Int)/256%256,(v:Int)%256]):=λj e=>by
  simp only[Y4,List.not_mem_nil,or_false] at e;omega
 have f:Z (nl [(v:Int)/16777216,(v:Int)/65536%256,(v:Int)/256%256,(v:Int)%256]=beN v):=by
  show[((v:Int)/16777216).toNat,((v:Int)/65536%256).toNat,((v:Int)/256%256).toNat,((v:Int)%256).toNat]=[v/16777216%256,v/65536%256,v/256%256,v%256]
  rw[show((v:Int)/16777216).toNat=v/16777216%256 from O,show((v:Int)/65536%256).toNat=v/65536%256 from O,show((v:Int)/256%256).toNat=v/256%256 from O,show((v:Int)%256).toNat=v%256 from O]
 have k:=run_convert_bytes_arg (P:=prog) (w.alloc (Obj.cells #[.int .u8 ((v:Int)/16777216),.int .u8 ((v:Int)/65536%256),.int .u8 ((v:Int)/256%256),.int .u8 ((v:Int)%256)] 5)) 56 5 underlying56 underlying5 w.heap.size 0 4 4 [(v:Int)/16777216,(v:Int)/65536%256,(v:Int)/256%256,(v:Int)%256] rfl (λa g=>by
  have h:a<4:=by simpa using g
  match a,h with
  | 0,_=>exact(Xr _ _ _ _ rfl).trans rfl
  | 1,_=>exact(Xr _ _ _ _ rfl).trans rfl
  | 2,_=>exact(Xr _ _ _ _ rfl).trans rfl
  | 3,_=>exact(Xr _ _ _ _ rfl).trans rfl) 9 underlying9
 go_enter func32,ntmps32;go_wp2_with fail;go_ret;exact⟨⟨_,rfl,by rw[fu d.o,f.o]⟩,(Xw (Xs _ _) (E _) _)⟩
theorem kR x c ff(w:World)(a4:w.cell? ⟨x,14,none⟩=some (.string ff))(a5:c+4<=ff.size)(a6:ff.size<=1000000000)(b d e h:Nat)(z:(aj ff)[c]? = some b)(A:(aj ff)[c+1]? = some d)(B:(aj ff)[c+2]? = some e)(C:(aj ff)[c+3]? = some h):Calls prog 30 #[.pointer (some ⟨x,0,none⟩),.int .i64 c] w λL M=>L=.returned (.int .i64 ((16777216*b+65536*d+256*e+h:Nat):Int))/\M=w:=by
 have j:∀k (p:k<ff.size) s,(aj ff)[k]? = some s->ff[k].toNat=s:=λk p s N=>by
  rw[<-kh ff k p];exact(Yb.1 N).2
 have D:=j c O b z;have E:=j (c+1) O d A;have F:=j (c+2) O e B;have G:=j (c+3) O h C;have P:b<256:=by rw[<-D];exact UInt8.toNat_lt _
 have Q:d<256:=by rw[<-E];exact UInt8.toNat_lt _
 have R:e<256:=by rw[<-F];exact UInt8.toNat_lt _
 have S:h<256:=by rw[<-G];exact UInt8.toNat_lt _
 have H:Z (∃g:Nat->Nat,g 0=0/\g 4=16777216*b+65536*d+256*e+h/\(∀a,a<4->∀p:c+a<ff.size,g (a+1)=256*g a+ff[c+a].toNat)/\∀a,a<=4->g a<4294967296):=by
  refine⟨λa=>match a with|0=>0|1=>b|2=>256*b+d|3=>65536*b+256*d+e|_=>16777216*b+65536*d+256*e+h,rfl,rfl,λa l p => ?_,λa l => ?_⟩
  .match a,l with
   | 0,_=>show b=256*0+ff[c].toNat;omega
   | 1,_=>show 256*b+d=256*b+ff[c+1].toNat;omega
   | 2,_=>show 65536*b+256*d+e=256*(256*b+d)+ff[c+2].toNat;omega
   | 3,_=>show 16777216*b+65536*d+256*e+h=256*(65536*b+256*d+e)+ff[c+3].toNat;omega
  .match a,l with
   | 0,_=>show 0<4294967296;omega
   | 1,_=>show b<4294967296;omega
   | 2,_=>show 256*b+d<4294967296;omega
   | 3,_=>show 65536*b+256*d+e<4294967296;omega
   | 4,_=>show 16777216*b+65536*d+256*e+h<4294967296;omega
 obtain⟨g,t,I,u,q⟩:=H.o;rw[<-I];replace t:Z _:=t;replace u:Z _:=u;replace q:Z _:=q;clear H I D E F G z A B C j P Q R S;obtain⟨m,n⟩:∃m,m=c+4:=⟨_,rfl⟩;have a7:(c:Int)+4=(m:Int):=O;replace n:Z _:=n;go_enter func30,ntmps30;go_wp2_with fail;go_loopg [5,6] 4 (λT U V W=>∃a:Nat,T=4-a/\a<=4/\V=.int .i64 ((c+a:Nat):Int)/\U=.int .i64 (g a)/\W=w)
 case atStart=>exact⟨0,O,O,rfl,by rw[t.o];rfl,rfl⟩
 case round=>
  obtain⟨a,v,X,rfl,rfl,rfl⟩:=hrel;replace v:Z _:=v;obtain⟨f,i⟩:∃f,f=c+a:=⟨_,rfl⟩;rw[<-i];have a8:=q.o a X;by_cases Y:a<4
  .have a0:(f:Int)<(m:Int):=by have:=n.o;omega
   have a9:f<ff.size:=by have:=n.o;omega
   have b0:(f:Int)<(ff.size:Int):=O;have b1:(0:Int)<=(f:Int):=O;have J:Z (g (a+1)=256*g a+ff[f].toNat):=by
    have:=u.o a Y O
    subst i;exact this
   have a1:=q.o (a+1) O;obtain⟨o,K⟩:∃o,o=f+1:=⟨_,rfl⟩;have b2:(f:Int)+1=(o:Int):=O;have a2:Z (o=c+(a+1)):=by show o=_;omega
   have b3:ff[f].toNat<256:=UInt8.toNat_lt _;obtain⟨y,r⟩:∃y,y=g (a+1):=⟨_,rfl⟩;rw[<-r] at J a1;replace r:Z _:=r;generalize g a=a3 at *;have b4:256*(a3:Int)+(ff[f].toNat:Int)=(y:Int):=by have:=J.o;omega
   replace i:Z _:=i;replace K:Z _:=K;go_wp2_with fail;go_roundg (4-(a+1))
   case measure=>rw[v.o];omega
   case rel=>exact⟨a+1,rfl,O,by rw[<-a2.o],by rw[<-r.o],rfl⟩
  .have a0:¬(f:Int)<(m:Int):=by have:=n.o;omega
   have l:a=4:=O;subst l;replace i:Z _:=i;go_wp2_with fail;go_ret;exact⟨rfl,rfl⟩
theorem DU{C}:∀a∈C,a.2.length<=(flC C).length:=by
 induction C with
 | nil=>intro a b;cases b
 | cons c e f=>
  intro a b;have g:flC (c::e)=chN c.1 c.2++flC e:=by unfold flC;rw[List.flatMap_cons]
  rw[g,Xv,ka];rcases Y4.1 b with d|d
  .rw[d];omega
  .have:=f a d;omega
theorem Eh{W H D K L pal clr l0 PL ff}(h:aj ff=du W H D K L pal clr++(aK (l0::PL)++chN aJ []))(f:ff.size<=1000000000):CkF ff (sgN W H D K L) (ckL K pal clr (l0::PL)):=by
 rw[DZ] at h;refine⟨h,CU _ _ _ _ _,λc b=>⟨?_,?_⟩⟩
 .unfold ckL at b
  simp only[XW] at b;rcases b with(a|a)|a|a
  .rw[wO c a];decide
  .rw[xL c a];decide
  .obtain⟨g,_,d⟩:=YP.1 a
   rw[<-d];show ar<4294967296;decide
  .rw[Y0] at a;rw[a];decide
 .have:=DU c b
  have e:=congrArg List.length h;rw[aF,Xv] at e;omega
theorem Im K pal clr PL:0<(ckL K pal clr PL).length:=by
 unfold ckL;simp only[Xv,Yj,List.length_nil];omega
theorem yC{C}a:33+12*a<=ca C a\/C.length<a:=by
 induction a with
 | zero=>left;show 33<=ca C 0;unfold ca;omega
 | succ a b=>
  by_cases c:a<C.length
  .left
   rw[kL C a c];rcases b with d|d
   .omega
   .omega
  .right;omega
def rA(C:List (Nat×List Nat))(i:Nat):List Int:=(List.range i).map (λj=>(ca C j:Int))
def pS(C:List (Nat×List Nat))(i:Nat):List Bool:=(List.range i).map (λj=>decide ((C.getD j (0,[])).1=ar))
theorem zu C i:rA C (i+1)=rA C i++[(ca C i:Int)]:=by unfold rA;rw[List.range_succ,Zf];rfl
theorem yd C i:pS C (i+1)=pS C i++[decide ((C.getD i (0,[])).1=ar)]:=by unfold pS;rw[List.range_succ,Zf];rfl
theorem oe C i:(rA C i).length=i:=by unfold rA;rw[List.length_map,List.length_range]
theorem me C i:(pS C i).length=i:=by unfold pS;rw[List.length_map,List.length_range]
theorem B3 C i k(h:k<i):(rA C i).getD k 0=(ca C k:Int):=by
 unfold rA;rw[G,XQ,Yp h];rfl
theorem zG C i k(h:k<i):(pS C i).getD k false=decide ((C.getD k (0,[])).1=ar):=by
 unfold pS;rw[G,XQ,Yp h];rfl
theorem CkF.typL{ff S C}(h:CkF ff S C){i}(c:i<C.length):((ff.extract (ca C i+4) (ca C i+8)).toList==[73,68,65,84])=decide ((C.getD i (0,[])).1=ar):=by
 rw[ByteArray.toList_eq];have b:=h.typ c;generalize ff.extract (ca C i+4) (ca C i+8)=d at *;by_cases a:(C.getD i (0,[])).1=ar
 .rw[K a,b.2 a];rfl
 .rw[J a,F]
  intro e;apply a;apply b.1;cases d
  congr 1
  exact Array.toList_inj.1 e
