import Derived.Test.YtgooinallljbpaaGreatDoorSh00
import Derived.Test.YtgooinallljbpaaGreatDoorSh21
import Derived.Test.YtgooinallljbpaaGreatDoorSh20
set_option linter.all false
set_option maxRecDepth 100000
set_option maxHeartbeats 0
namespace Go.Proofs.YtgooinallljbpaaGreatDoor
open Go.RowKit Px Tryz
def af(s:Rd):List Nat->Rd×Nat×Nat
 | []=>(s,0,0)
 | x::l=>if(s.take x).2=0 then((af (s.take x).1 l).1,(af (s.take x).1 l).2.1,(af (s.take x).1 l).2.2+1) else((s.take x).1,(s.take x).2,0)
def shf(k:Nat)(q:Rd×Nat×Nat):Rd×Nat×Nat:=(q.1,q.2.1,q.2.2+k)
theorem lq l m:∀s,af s (l++m)=if(af s l).2.1=0 then shf l.length (af (af s l).1 m) else af s l:=by
 induction l with
 | nil=>intro s;rfl
 | cons c l d=>
  intro s;rw[Ye,af,af];by_cases a:(s.take c).2=0
  .rw[I a,I a,d]
   by_cases b:(af (s.take c).1 l).2.1=0
   .rw[I b,I b];rfl
   .rw[N b,N b]
  .rw[N a,N a,N a]
theorem uf l:∀s,(af s l).2.1=0->(af s l).2.2=l.length:=by
 induction l with
 | nil=>intro s _;rfl
 | cons c l d=>
  intro s a;rw[af] at a ⊢;by_cases b:(s.take c).2=0
  .rw[I b] at a ⊢
   show(af (s.take c).1 l).2.2+1=_
   rw[d _ a];rfl
  .rw[N b] at a;exact absurd a b
theorem D5 l:∀(s:Rd) (c a:Nat),(⟨s,c,0,a⟩:Dc).feed l=⟨(af s l).1,c+(af s l).2.2,(af s l).2.1,if(af s l).2.1=0 then a else c+(af s l).2.2⟩:=by
 induction l with
 | nil=>intro s c a;rfl
 | cons b l i=>
  intro s c a;show((⟨s,c,0,a⟩:Dc).one b).feed l=_
  unfold Dc.one;rw[N (show ¬((0:Nat)≠0) from Xh)];rw[af];by_cases e:(s.take b).2=0
  .rw[N (by rw[e];decide),I e]
   show(⟨(s.take b).1,c+1,0,a⟩:Dc).feed l=_
   rw[i];show(⟨_,c+1+_,_,if _ then a else c+1+_⟩:Dc)=⟨_,c+(_+1),_,if _ then a else c+(_+1)⟩
   rw[show c+1+(af (s.take b).1 l).2.2=c+((af (s.take b).1 l).2.2+1) from O]
  .rw[I e,N e]
   show(⟨(s.take b).1,c,(s.take b).2,c⟩:Dc).feed l=_
   have:∀(f:List Nat) (d:Dc),d.err≠0->d.feed f=d:=by
    intro f
    induction f with
    | nil=>intro d _;rfl
    | cons g f j=>
     intro d h;show(d.one g).feed f=d
     have k:d.one g=d:=by unfold Dc.one;rw[I h]
     rw[k];exact j d h
   rw[this _ _ e];show _=(⟨(s.take b).1,c+0,(s.take b).2,if(s.take b).2=0 then a else c+0⟩:Dc)
   rw[N e];rfl
def n4(a b c d:Nat):Nat:=((a*256+b)*256+c)*256+d
structure gd (s s':Rd):Prop where
 hd:s'.hd=s.hd
 tl:s'.tl=s.tl
 st:s'.st=s.st
 rw:s'.rw=s.rw
 sp:s'.sp=s.sp
 sc:s'.sc=s.sc
 sd:s'.sd=s.sd
 dov:s'.dov=s.dov
theorem gd.refl s:gd s s:=⟨rfl,rfl,rfl,rfl,rfl,rfl,rfl,rfl⟩
theorem gd.trans{a b c}(h:gd a b)(k:gd b c):gd a c:=⟨k.hd.trans h.hd,k.tl.trans h.tl,k.st.trans h.st,k.rw.trans h.rw,k.sp.trans h.sp,k.sc.trans h.sc,k.sd.trans h.sd,k.dov.trans h.dov⟩
theorem aL{s a x}(e:s.take x=(a,0))l:af s (x::l)=shf 1 (af a l):=by
 rw[af,e];rfl
theorem dE{s a x e}(h:s.take x=(a,e))(b:e≠0)l:af s (x::l)=(a,e,0):=by
 rw[af,h];exact N b
theorem nN p(d:p=1\/p=2\/p=4):∀(l:List Nat) (s:Rd),s.part=p->s.taken+l.length<4->∃c,af s l=(c,0,l.length)/\gd s c/\c.part=p
 | [],s,b,_=>⟨s,rfl,gd.refl s,b⟩
 | x::l,s,b,e=>by
  simp only[Yj] at e;have f:∃a,s.take x=(a,0)/\gd s a/\a.part=p/\a.taken=s.taken+1:=by
   rcases d with rfl|rfl|rfl
   .exact⟨s.num x,by rw[take1 b];unfold Rd.takeLength;rw[I],⟨rfl,rfl,rfl,rfl,rfl,rfl,rfl,rfl⟩,b,rfl⟩
   .exact⟨s.seen x,by rw[take2 b];unfold Rd.takeType;rw[I],⟨rfl,rfl,rfl,rfl,rfl,rfl,rfl,rfl⟩,b,rfl⟩
   .exact⟨s.num x,by rw[zt b];unfold Rd.takeSum;rw[I],⟨rfl,rfl,rfl,rfl,rfl,rfl,rfl,rfl⟩,b,rfl⟩
  obtain⟨a,g,h,i,n⟩:=f;obtain⟨c,j,k,m⟩:=nN p d l a i O;refine⟨c,?_,h.trans k,m⟩;rw[aL g,j];rfl
theorem uy{s a b c d r}(h:s.part=1)(n:s.taken=0)(g:s.number=0):af s (a::b::c::d::r)=if 2147483648<=n4 a b c d then((((s.num a).num b).num c).num d,2,3) else shf 4 (af (lnS s (n4 a b c d)) r):=by
 have i:s.take a=(s.num a,0):=by rw[take1 h];unfold Rd.takeLength;rw[I]
 have j:(s.num a).take b=((s.num a).num b,0):=by rw[take1 (s:=s.num a) h];unfold Rd.takeLength;rw[I (by show s.taken+1+1≠4;omega)]
 have k:((s.num a).num b).take c=(((s.num a).num b).num c,0):=by rw[take1 (s:=(s.num a).num b) h];unfold Rd.takeLength;rw[I (by show s.taken+1+1+1≠4;omega)]
 have l:(((s.number*256+a)*256+b)*256+c)*256+d=n4 a b c d:=by rw[g];unfold n4;omega
 have f:(((s.num a).num b).num c).take d=if 2147483648<=n4 a b c d then((((s.num a).num b).num c).num d,2) else(lnS s (n4 a b c d),0):=by
  rw[take1 (s:=((s.num a).num b).num c) h];unfold Rd.takeLength;rw[N (by show ¬(s.taken+1+1+1+1≠4);omega)];have m:(((s.num a).num b).num c).number*256+d=n4 a b c d:=l;rw[m];by_cases e:2147483648<=n4 a b c d
  .rw[I e,I e]
  .rw[N e,N e];rfl
 rw[aL i,aL j,aL k];by_cases e:2147483648<=n4 a b c d
 .rw[I e] at f
  rw[dE f Xh,I e];rfl
 .rw[N e] at f
  rw[aL f,N e];rfl
theorem xP{s a b c d r}(h:s.part=2)(g:s.taken=0)(i:s.number=0):af s (a::b::c::d::r)=if(tyS s (n4 a b c d) (bg s.sum [a,b,c,d])).checkType≠0 then(tyS s (n4 a b c d) (bg s.sum [a,b,c,d]),(tyS s (n4 a b c d) (bg s.sum [a,b,c,d])).checkType,3)
   else shf 4 (af ((tyS s (n4 a b c d) (bg s.sum [a,b,c,d])).note.enter (if(tyS s (n4 a b c d) (bg s.sum [a,b,c,d])).note.length=0 then 4 else 3)) r):=by
 have j:s.take a=(s.seen a,0):=by rw[take2 h];unfold Rd.takeType;rw[I]
 have k:(s.seen a).take b=((s.seen a).seen b,0):=by rw[take2 (s:=s.seen a) h];unfold Rd.takeType;rw[I (by show s.taken+1+1≠4;omega)]
 have l:((s.seen a).seen b).take c=(((s.seen a).seen b).seen c,0):=by rw[take2 (s:=(s.seen a).seen b) h];unfold Rd.takeType;rw[I (by show s.taken+1+1+1≠4;omega)]
 have m:(((s.seen a).seen b).seen c).typed d=tyS s (n4 a b c d) (bg s.sum [a,b,c,d]):=by
  have n:(((s.number*256+a)*256+b)*256+c)*256+d=n4 a b c d:=by rw[i];unfold n4;omega
  show({s with sum:=cj (cj (cj (cj s.sum a) b) c) d,number:=(((s.number*256+a)*256+b)*256+c)*256+d,taken:=s.taken+1+1+1+1,ctype:=(((s.number*256+a)*256+b)*256+c)*256+d}:Rd)=_
  rw[n,g];rfl
 have f:(((s.seen a).seen b).seen c).take d=if(tyS s (n4 a b c d) (bg s.sum [a,b,c,d])).checkType≠0 then(tyS s (n4 a b c d) (bg s.sum [a,b,c,d]),(tyS s (n4 a b c d) (bg s.sum [a,b,c,d])).checkType)
   else((tyS s (n4 a b c d) (bg s.sum [a,b,c,d])).note.enter (if(tyS s (n4 a b c d) (bg s.sum [a,b,c,d])).note.length=0 then 4 else 3),0):=by
  rw[take2 (s:=((s.seen a).seen b).seen c) h];unfold Rd.takeType;rw[N (by show ¬(s.taken+1+1+1+1≠4);omega),m];by_cases e:(tyS s (n4 a b c d) (bg s.sum [a,b,c,d])).checkType≠0
  .rw[I e,I e]
  .rw[N e,N e]
   split<;>rfl
 rw[aL j,aL k,aL l];by_cases e:(tyS s (n4 a b c d) (bg s.sum [a,b,c,d])).checkType≠0
 .rw[I e] at f
  rw[dE f e,I e];rfl
 .rw[N e] at f
  rw[aL f,N e];rfl
theorem zw{s a b c d r}(h:s.part=4)(n:s.taken=0)(i:s.number=0):af s (a::b::c::d::r)=if n4 a b c d≠bz s.sum then((((s.num a).num b).num c).num d,6,3)
   else if((((s.num a).num b).num c).num d).accept.2≠0 then(((((s.num a).num b).num c).num d).accept.1,((((s.num a).num b).num c).num d).accept.2,3)
   else shf 4 (af (((((s.num a).num b).num c).num d).accept.1.enter (if((((s.num a).num b).num c).num d).accept.1.ctype=cE then 5 else 1)) r):=by
 have j:s.take a=(s.num a,0):=by rw[zt h];unfold Rd.takeSum;rw[I]
 have k:(s.num a).take b=((s.num a).num b,0):=by rw[zt (s:=s.num a) h];unfold Rd.takeSum;rw[I (by show s.taken+1+1≠4;omega)]
 have l:((s.num a).num b).take c=(((s.num a).num b).num c,0):=by rw[zt (s:=(s.num a).num b) h];unfold Rd.takeSum;rw[I (by show s.taken+1+1+1≠4;omega)]
 have m:(((s.number*256+a)*256+b)*256+c)*256+d=n4 a b c d:=by rw[i];unfold n4;omega
 have g:(((s.num a).num b).num c).take d=if n4 a b c d≠bz s.sum then((((s.num a).num b).num c).num d,6) else if((((s.num a).num b).num c).num d).accept.2≠0 then((((s.num a).num b).num c).num d).accept else(((((s.num a).num b).num c).num d).accept.1.enter (if((((s.num a).num b).num c).num d).accept.1.ctype=cE then 5 else 1),0):=by
  rw[zt (s:=((s.num a).num b).num c) h];unfold Rd.takeSum;rw[N (by show ¬(s.taken+1+1+1+1≠4);omega)];show(if(((s.number*256+a)*256+b)*256+c)*256+d≠bz s.sum then _ else _)=_
  rw[m];by_cases f:n4 a b c d≠bz s.sum
  .rw[I f,I f]
  .rw[N f,N f]
   by_cases e:((((s.num a).num b).num c).num d).accept.2≠0
   .rw[I e,I e]
   .rw[N e,N e]
    split<;>rfl
 rw[aL j,aL k,aL l];by_cases f:n4 a b c d≠bz s.sum
 .rw[I f] at g
  rw[dE g Xh,I f];rfl
 .rw[N f] at g
  rw[N f];by_cases e:((((s.num a).num b).num c).num d).accept.2≠0
  .rw[I e] at g
   rw[dE (g.trans (Y7 rfl rfl)) e,I e];rfl
  .rw[N e] at g
   rw[aL g,N e];rfl
structure Fl where
 on:Bool
 hd:Hd
 hasPal:Bool
 hasClear:Bool
 pal:List Nat
 clear:List Nat
 z:List One
 ids:Nat
 over:Bool
 first:Bool
 done:Bool
def Fl.start:Fl:=⟨false,⟨0,0,0,0,0⟩,false,false,[],[],[],0,false,false,false⟩
def Fl.ov(f:Fl)(k:Nat):Bool:=decide (0<f.ids)&&decide (k≠aG) && !f.over
def tp(K:Nat):Nat:=if K=2 then 3 else if K=4 then 2 else if K=6 then 4 else 1
def Fl.begE(f:Fl)(k n:Nat)(dn:Bool):Nat:=
 if tyB k=false then 3
 else if f.first=false then(if k≠aQ then 4 else if n≠13 then 5 else 0)
 else if(f.ov k && !dn)=true then 21
 else if k=aQ then 4
 else if k=bE then
  (if 0<f.ids\/f.hasPal=true\/f.hasClear=true\/¬(f.hd.K=2\/f.hd.K=3\/f.hd.K=6) then 4
   else if n=0\/n%3≠0\/768<n\/(f.hd.K=3/\3*2^f.hd.D<n) then 5 else 0)
 else if k=bB then
  (if 0<f.ids\/f.hasClear=true\/(f.hd.K=4\/f.hd.K=6)\/(f.hd.K=3/\f.hasPal=false) then 4
   else if f.hd.K=3/\(n=0\/f.pal.length/3<n) then 5
   else if f.hd.K≠3/\n≠2*tp f.hd.K then 5 else 0)
 else if k=aG then(if f.over=true\/(f.hd.K=3/\f.hasPal=false) then 4 else 0)
 else if k=cE then(if f.ids=0 then 4 else if n≠0 then 5 else 0)
 else if kU (k/16777216%256) then 3 else 0
def Fl.begF(f:Fl)(k:Nat):Fl:=if f.first=false then {f with first:=true} else if f.ov k=true then {f with over:=true} else f
def kOk(k:Nat):Prop:=k=0\/k=2\/k=3\/k=4\/k=6
structure TbQ (t:Tl) (F:Fl):Prop where
 pal:∀j,j<F.pal.length->t.pal j=F.pal.getD j 0
 clears:t.clears=F.clear.length
 clear:∀j,j<F.clear.length->t.clear j=F.clear.getD j 0
 no:F.hasClear=false->F.clear=[]
 len:F.hasClear=true->F.hd.K=0\/F.hd.K=2->F.clear.length=2*chn F.hd.K
 top:F.pal.length<=768
theorem TbQ.to{t u f g}(h:TbQ t f)(d:u.pal=t.pal)(e:u.clears=t.clears)(i:u.clear=t.clear)(b:g.pal=f.pal)(a:g.clear=f.clear)(c:g.hasClear=f.hasClear)(j:g.hd=f.hd):TbQ u g:=
 ⟨by rw[b,d];exact h.pal,by rw[e,a];exact h.clears,by rw[a,i];exact h.clear,by rw[c,a];exact h.no,by rw[c,a,j];exact h.len,by rw[b];exact h.top⟩
structure Ag (s:Rd) (f:Fl):Prop where
 w:f.first=false->s.hd.W=0/\f=Fl.start
 on:f.first=true->s.hd=f.hd/\f.on=true/\s.hd.W≠0/\kOk f.hd.K
 sp:s.sp=f.hasPal
 sc:s.sc=f.hasClear
 sd:s.sd=decide (0<f.ids)
 dov:s.dov=f.over
 col:s.tl.colours=f.pal.length/3
 tb:TbQ s.tl f
theorem Ag.same{s t f}(h:Ag s f)(k:gd s t):Ag t f:=
 ⟨λa=>by rw[k.hd];exact h.w a,λa=>by rw[k.hd];exact h.on a,k.sp.trans h.sp,k.sc.trans h.sc,k.sd.trans h.sd,k.dov.trans h.dov,by rw[k.tl];exact h.col,by rw[k.tl];exact h.tb⟩
theorem uU{t f}(h:Ag t f)(y:t.ctype<4294967296):t.checkType=f.begE t.ctype t.length (decide (t.st.part=10)):=by
 unfold Rd.checkType Fl.begE;by_cases e:tyB t.ctype=false
 .rw[I e,I e]
 rw[N e,N e];cases o:f.first with
 | false=>
  rw[I (h.w o).1,I rfl];rfl
 | true=>
  obtain⟨n,z,s,p⟩:=h.on o;rw[N s,N (show ¬(true=false) from Xh)];have u:t.short=(f.ov t.ctype && !decide (t.st.part=10)):=by
   unfold Rd.short Fl.ov;rw[h.sd,h.dov];by_cases a:t.st.part=10
   .rw[K a,J (show ¬(t.st.part≠10) from λd=>d a)];simp
   .rw[J a,K a]
    cases decide (0<f.ids)<;>cases decide (t.ctype≠aG)<;>cases f.over<;>rfl
  rw[u];by_cases d:(f.ov t.ctype && !decide (t.st.part=10))=true
  .rw[I d,I d]
  rw[N d,N d];unfold Rd.checkKind;by_cases g:t.ctype=aQ
  .rw[I g,I g]
  rw[N g,N g];by_cases i:t.ctype=bE
  .rw[I i,I i]
   unfold Rd.checkPalette;rw[h.sd,h.sp,h.sc,n];unfold kOk at p;by_cases b:0<f.ids
   .rw[I (L b),K b];rfl
   rw[J b];cases v:f.hasPal with
   | true=>rw[I (R (L rfl))];rfl
   | false=>
    cases w:f.hasClear with
    | true=>rw[I (R (R (L rfl)))];rfl
    | false=>
     rw[N (show ¬((false||false||false)=true) from Xh)];by_cases q:f.hd.K=0\/f.hd.K=4
     .rw[I q,I (R (R (R O)))]
     .have x:¬(0<f.ids\/false=true\/false=true\/¬(f.hd.K=2\/f.hd.K=3\/f.hd.K=6)):=by
       rintro(a|a|a|a)
       .exact b a
       .cases a
       .cases a
       .exact a O
      rw[N q,N x];by_cases r:t.length<3\/768<t.length\/t.length%3≠0
      .rw[I r,I]
      .rw[N r]
       by_cases j:f.hd.K=3/\3*2^f.hd.D<t.length
       .rw[I j,I (R (R (R j)))]
       .rw[N j,N (by rintro(a|a|a|a);omega;omega;omega;exact j a)]
  rw[N i,N i];by_cases k:t.ctype=bB
  .rw[I k,I k]
   unfold Rd.checkClear Rd.checkAlphas;rw[h.sd,h.sp,h.sc,n,h.col];by_cases b:0<f.ids
   .rw[I (L b),K b];rfl
   rw[J b];cases w:f.hasClear with
   | true=>rw[I (R (L rfl))];rfl
   | false=>
    rw[N (show ¬((false||false)=true) from Xh)];rcases p with c|c|c|c|c
    .rw[c];simp[chn,tp,b]
    .rw[c];simp[chn,tp,b]
    .rw[c]
     cases v:f.hasPal with
     | false=>simp[b]
     | true=>
      simp[b]
      first|done|(congr 1;rw[eq_iff_iff];omega)|omega
    .rw[c];simp[chn,tp,b]
    .rw[c];simp[chn,tp,b]
  rw[N k,N k];by_cases l:t.ctype=aG
  .rw[I l,I l]
   unfold Rd.checkData;rw[h.dov,h.sp,n];cases f.over<;>cases f.hasPal<;>by_cases c:f.hd.K=3<;>simp[c]
  rw[N l,N l];by_cases m:t.ctype=cE
  .rw[I m,I m]
   unfold Rd.checkEnd;rw[h.sd];by_cases b:f.ids=0
   .rw[I b,I J]
   .rw[N b,N (by rw[K];decide)]
  .rw[N m,N m]
   have:t.ctype/16777216%256=t.ctype/16777216:=X1 O
   rw[this]
theorem uL s l x:bg s (l++[x])=cj (bg s l) x:=by unfold bg;rw[Yk];rfl
structure DtA (s0:Rd) (dk:List Nat) (s:Rd):Prop where
 sum:s.sum=bg s0.sum dk
 ctype:s.ctype=s0.ctype
 length:s.length=s0.length
 hd:s.hd=s0.hd
 col:s.tl.colours=s0.tl.colours
 cls:s.tl.clears=s0.tl.clears
 st:s.st=s0.st
 rw:s.rw=s0.rw
 sp:s.sp=s0.sp
 sc:s.sc=s0.sc
 sd:s.sd=s0.sd
 dov:s.dov=s0.dov
 raw:s0.ctype=aQ->∀j,j<dk.length->s.raw j=dk.getD j 0
 pal:s0.ctype=bE->∀j,j<dk.length->s.tl.pal j=dk.getD j 0
 clr:s0.ctype=bB->∀j,j<dk.length->s.tl.clear j=dk.getD j 0
 pal':s0.ctype≠bE->s.tl.pal=s0.tl.pal
 clr':s0.ctype≠bB->s.tl.clear=s0.tl.clear
theorem DtA.refl s:DtA s [] s:=⟨rfl,rfl,rfl,rfl,rfl,rfl,rfl,rfl,rfl,rfl,rfl,rfl,(λ_ b a=>by simp at a),(λ_ b a=>by simp at a),(λ_ b a=>by simp at a),(λ_=>rfl),(λ_=>rfl)⟩
theorem E9 l x j(h:j<(l++[x]).length):(l++[x]).getD j 0=if j=l.length then x else l.getD j 0:=by
 rw[G,G];simp at h;by_cases a:j=l.length
 .subst a;rw[I rfl,XP (E _)];simp
 .rw[N a,XV O]
theorem tO{f dk x}(h:∀a,a<dk.length->f a=dk.getD a 0):∀a,a<(dk++[x]).length->upd f dk.length x a=(dk++[x]).getD a 0:=λa c=>by
 rw[E9 _ _ _ c];simp at c;by_cases b:a=dk.length
 .rw[I b,b,upd_same]
 .rw[N b,upd_ne _ _ _ b];exact h a O
theorem pU:aQ≠bE:=Xh
theorem rR:aQ≠bB:=Xh
theorem rQ:bE≠bB:=Xh
theorem EV{s:Rd}{x}(a:s.ctype≠aQ)(b:s.ctype≠bE)(c:s.ctype≠bB)(d:s.ctype≠aG):s.keep x=(s,0):=by
 unfold Rd.keep;rw[N a,N b,N c,N d]
theorem FA{s0 s dk x}(h:DtA s0 dk s)(y:s.part=3)(z:s.taken=dk.length)(A:s0.ctype≠aG):∃q:Rd,(s.summed x).keep x=(q,0)/\DtA s0 (dk++[x]) q/\q.part=3/\q.taken=dk.length:=by
 have e:(s.summed x).ctype=s0.ctype:=h.ctype;obtain⟨a,d⟩:∃a,a=s.summed x:=⟨_,rfl⟩;have l:a.sum=bg s0.sum (dk++[x]):=by rw[d,uL];show cj s.sum x=_;rw[h.sum]
 have m:a.length=s0.length:=by rw[d];exact h.length
 have n:a.hd=s0.hd:=by rw[d];exact h.hd
 have c:a.tl=s.tl:=by rw[d];rfl
 have o:a.st=s0.st:=by rw[d];exact h.st
 have p:a.rw=s0.rw:=by rw[d];exact h.rw
 have r:a.sp=s0.sp:=by rw[d];exact h.sp
 have t:a.sc=s0.sc:=by rw[d];exact h.sc
 have u:a.sd=s0.sd:=by rw[d];exact h.sd
 have v:a.dov=s0.dov:=by rw[d];exact h.dov
 have B:a.raw=s.raw:=by rw[d];rfl
 have w:a.part=3:=by rw[d];exact y
 have i:a.taken=dk.length:=by rw[d];exact z
 rw[<-d] at e ⊢;clear d;by_cases f:s0.ctype=aQ
 .refine⟨{a with raw:=upd a.raw a.taken x},II (e.trans f),⟨l,e,m,n,by show a.tl.colours=_;rw[c];exact h.col,by show a.tl.clears=_;rw[c];exact h.cls,o,p,r,t,u,v,(λ_ => ?_),(λb=>absurd (f.symm.trans b) pU),(λb=>absurd (f.symm.trans b) rR),(λb=>by show a.tl.pal=_;rw[c];exact h.pal' b),(λb=>by show a.tl.clear=_;rw[c];exact h.clr' b)⟩,w,i⟩
  show ∀g,g<(dk++[x]).length->upd a.raw a.taken x g=_
  rw[i,B];exact tO (h.raw f)
 by_cases j:s0.ctype=bE
 .refine⟨{a with tl:={a.tl with pal:=upd a.tl.pal a.taken x}},IJ (e.trans j),⟨l,e,m,n,by show a.tl.colours=_;rw[c];exact h.col,by show a.tl.clears=_;rw[c];exact h.cls,o,p,r,t,u,v,(λb=>absurd b f),(λ_ => ?_),(λb=>absurd (j.symm.trans b) rQ),(λb=>absurd j b),(λb=>by show a.tl.clear=_;rw[c];exact h.clr' b)⟩,w,i⟩
  show ∀g,g<(dk++[x]).length->upd a.tl.pal a.taken x g=_
  rw[i,c];exact tO (h.pal j)
 by_cases k:s0.ctype=bB
 .refine⟨{a with tl:={a.tl with clear:=upd a.tl.clear a.taken x}},IK (e.trans k),⟨l,e,m,n,by show a.tl.colours=_;rw[c];exact h.col,by show a.tl.clears=_;rw[c];exact h.cls,o,p,r,t,u,v,(λb=>absurd b f),(λb=>absurd b j),(λ_ => ?_),(λb=>by show a.tl.pal=_;rw[c];exact h.pal' b),(λb=>absurd k b)⟩,w,i⟩
  show ∀g,g<(dk++[x]).length->upd a.tl.clear a.taken x g=_
  rw[i,c];exact tO (h.clr k)
 .exact⟨a,EV (λb=>f (e.symm.trans b)) (λb=>j (e.symm.trans b)) (λb=>k (e.symm.trans b)) (λb=>A (e.symm.trans b)),⟨l,e,m,n,by rw[c];exact h.col,by rw[c];exact h.cls,o,p,r,t,u,v,(λb=>absurd b f),(λb=>absurd b j),(λb=>absurd b k),(λb=>by rw[c];exact h.pal' b),(λb=>by rw[c];exact h.clr' b)⟩,w,i⟩
theorem wV{s0 s dk x}(h:DtA s0 dk s)(c:s.part=3)(e:s.taken=dk.length)(f:s0.ctype≠aG):∃b,s.take x=(if dk.length+1=s0.length then b.enter 4 else b,0)/\DtA s0 (dk++[x]) b/\b.part=3/\b.taken=dk.length+1:=by
 obtain⟨b,g,a,i,d⟩:=FA (x:=x) h c e f;refine⟨{b with taken:=b.taken+1},?_,⟨a.sum,a.ctype,a.length,a.hd,a.col,a.cls,a.st,a.rw,a.sp,a.sc,a.sd,a.dov,a.raw,a.pal,a.clr,a.pal',a.clr'⟩,i,by show b.taken+1=_;rw[d]⟩;rw[take3 c];unfold Rd.takeData;rw[g,N (show ¬((0:Nat)≠0) from Xh)];unfold Rd.dataEnd;show(if b.taken+1=b.length then({b with taken:=b.taken+1}:Rd).enter 4 else {b with taken:=b.taken+1},0)=_
 rw[d,a.length]
theorem qg{s0}(e:s0.ctype≠aG):∀(l a:List Nat) (s:Rd),DtA s0 a s->s.part=3->s.taken=a.length->a.length+l.length<s0.length->∃q,af s l=(q,0,l.length)/\DtA s0 (a++l) q/\q.part=3/\q.taken=(a++l).length
 | [],a,s,b,c,d,_=>⟨s,rfl,by rw[XN];exact b,c,by rw[XN];exact d⟩
 | x::l,a,s,b,c,d,i=>by
  simp only[Yj] at i;obtain⟨q,f,j,k,m⟩:=wV (x:=x) b c d e;rw[N] at f;obtain⟨n,o,g,p,h⟩:=qg e l (a++[x]) q j k (by rw[m];simp) Xf;refine⟨n,?_,by rw[XY] at g;exact g,p,by rw[XY] at h;exact h⟩;rw[aL f,o];rfl
theorem Au{s0}(c:s0.ctype≠aG)l(i:s0.part=3)(j:s0.taken=0)(k:l.length=s0.length)(d:l≠[]):∃q,DtA s0 l q/\af s0 l=(q.enter 4,0,l.length):=by
 obtain⟨a,b,rfl⟩:∃a b,l=a++[b]:=⟨l.dropLast,l.getLast d,(List.dropLast_concat_getLast d).symm⟩;simp at k;obtain⟨q,m,e,n,f⟩:=qg c a [] s0 (DtA.refl s0) i j Xf;rw[Ze] at e f;obtain⟨g,h,o,p,r⟩:=wV (x:=b) e n f c;rw[I] at h;refine⟨g,o,?_⟩;rw[lq,m,I rfl];show shf a.length (af q [b])=_
 rw[aL h];show(g.enter 4,0,0+1+a.length)=_
 rw[Xv,show 0+1+a.length=a.length+[b].length from Xf]
structure IdA (s0:Rd) (dk:List Nat) (s:Rd):Prop where
 sum:s.sum=bg s0.sum dk
 ctype:s.ctype=s0.ctype
 length:s.length=s0.length
 hd:s.hd=s0.hd
 tl:s.tl=s0.tl
 sp:s.sp=s0.sp
 sc:s.sc=s0.sc
 sd:s.sd=s0.sd
 dov:s.dov=s0.dov
theorem nE(s:Rd)x:(s.takeStream x).1=s.streamed x:=by
 unfold Rd.takeStream;split
 .rfl
 .split<;>rfl
theorem BK(s:Rd)x:(s.takeStream x).2=ni s.st s.rw x:=by
 unfold Rd.takeStream ni;by_cases a:(takeB s.st s.rw x).2.2≠0
 .rw[I a,I a]
 .rw[N a,N a]
  by_cases b:(decide ((takeB s.st s.rw x).1.part=10) && !aW (takeB s.st s.rw x).2.1)=true
  .rw[I b,I b]
  .rw[N b,N b]
structure O5 (s q:Rd) (x:Nat):Prop where
 st:q.st=(takeB s.st s.rw x).1
 rw:q.rw=(takeB s.st s.rw x).2.1
 sum:q.sum=s.sum
 ctype:q.ctype=s.ctype
 length:q.length=s.length
 hd:q.hd=s.hd
 tl:q.tl=s.tl
 sp:q.sp=s.sp
 sc:q.sc=s.sc
 sd:q.sd=s.sd
 dov:q.dov=s.dov
 part:q.part=s.part
 taken:q.taken=s.taken
theorem OP s x:O5 s (s.streamed x) x:=by
 unfold Rd.streamed;exact⟨rfl,rfl,rfl,rfl,rfl,rfl,rfl,rfl,rfl,rfl,rfl,rfl,rfl⟩
theorem E1{s0 s dk x}(h:IdA s0 dk s)(l:s.part=3)(p:s.taken=dk.length)(q:s0.ctype=aG):(ni s.st s.rw x≠0/\(s.take x).2=ni s.st s.rw x/\(s.take x).1.rw=(takeB s.st s.rw x).2.1) \/
  (ni s.st s.rw x=0/\∃c,s.take x=(if dk.length+1=s0.length then c.enter 4 else c,0)/\IdA s0 (dk++[x]) c/\c.part=3/\c.taken=dk.length+1/\c.st=(takeB s.st s.rw x).1/\c.rw=(takeB s.st s.rw x).2.1):=by
 obtain⟨a,d⟩:∃a,a=s.summed x:=⟨_,rfl⟩;have m:a.ctype=s0.ctype:=by rw[d];exact h.ctype
 have r:a.sum=bg s0.sum (dk++[x]):=by rw[d,uL];show cj s.sum x=_;rw[h.sum]
 have n:a.length=s0.length:=by rw[d];exact h.length
 have t:a.hd=s0.hd:=by rw[d];exact h.hd
 have u:a.tl=s0.tl:=by rw[d];exact h.tl
 have f:a.st=s.st:=by rw[d];rfl
 have g:a.rw=s.rw:=by rw[d];rfl
 have v:a.sp=s0.sp:=by rw[d];exact h.sp
 have w:a.sc=s0.sc:=by rw[d];exact h.sc
 have y:a.sd=s0.sd:=by rw[d];exact h.sd
 have z:a.dov=s0.dov:=by rw[d];exact h.dov
 have A:a.part=3:=by rw[d];exact l
 have o:a.taken=dk.length:=by rw[d];exact p
 have B:a.keep x=a.takeStream x:=EU (m.trans q);have i:=BK a x;have k:=nE a x;have b:=OP a x;rw[f,g] at i;obtain⟨c,C⟩:∃c,c=a.streamed x:=⟨_,rfl⟩;rw[<-C] at k b;have e:s.take x=if(a.takeStream x).2≠0 then a.takeStream x else((a.takeStream x).1.dataEnd,0):=by
  rw[take3 l];unfold Rd.takeData;rw[<-d,B]
 rw[k] at e;by_cases j:ni s.st s.rw x=0
 .right
  rw[N (by rw[i,j];decide)] at e;refine⟨j,{c with taken:=c.taken+1},?_,⟨b.sum.trans r,b.ctype.trans m,b.length.trans n,b.hd.trans t,b.tl.trans u,b.sp.trans v,b.sc.trans w,b.sd.trans y,b.dov.trans z⟩,b.part.trans A,?_,?_,?_⟩
  .rw[e]
   unfold Rd.dataEnd;rw[b.taken,o,b.length,n]
  .show c.taken+1=_
   rw[b.taken,o]
  .show c.st=_
   rw[b.st,f,g]
  .show c.rw=_
   rw[b.rw,f,g]
 .left
  rw[I (by rw[i];exact j)] at e;refine⟨j,by rw[e,i],?_⟩;rw[e,k,b.rw,f,g]
theorem DU{s0}(n:s0.ctype=aG):∀(l a:List Nat) (s:Rd),IdA s0 a s->s.part=3->s.taken=a.length->a.length+l.length<=s0.length ->
  ((cD s.st s.rw l).2.2≠0/\(af s l).2.1=(cD s.st s.rw l).2.2/\(af s l).2.2=stN s.st s.rw l/\(af s l).1.rw=(cD s.st s.rw l).2.1) \/
  ((cD s.st s.rw l).2.2=0/\∃q,af s l=(if l≠[]/\a.length+l.length=s0.length then q.enter 4 else q,0,l.length)/\IdA s0 (a++l) q/\q.part=3/\q.taken=(a++l).length/\q.st=(cD s.st s.rw l).1/\q.rw=(cD s.st s.rw l).2.1)
 | [],a,s,g,h,i,_=>R ⟨rfl,s,by rw[N (λq=>q.1 rfl)];rfl,by rw[XN];exact g,h,by rw[XN];exact i,rfl,rfl⟩
 | x::l,a,s,g,h,i,z=>by
  simp only[Yj] at z;rcases E1 (x:=x) g h i n with⟨c,A,B⟩|⟨c,q,e,o,p,r,t,u⟩
  .left
   rw[cD,stN,N c,N c];have C:s.take x=((s.take x).1,ni s.st s.rw x):=Y7 rfl A;rw[dE C c l];exact⟨c,rfl,rfl,B⟩
  .rw[cD,stN,I c,I c]
   by_cases j:l=[]
   .subst j
    right
    refine⟨rfl,q,?_,o,p,by rw[r];simp,t,u⟩;rw[aL e];by_cases b:a.length+1=s0.length
    .rw[I b,I ⟨Xi,by simpa using b⟩];rfl
    .rw[N b,N (λd=>b (by simpa using d.2))];rfl
   .have J:=List.length_pos_iff.2 j
    rw[N] at e;have v:=DU n l (a++[x]) q o p (by rw[r];simp) Xf;rw[t,u] at v;rcases v with⟨k,m,f,D⟩|⟨k,E,m,f,F,w,G,H⟩
    .left
     rw[aL e];exact⟨k,m,by show _+1=_;rw[f],D⟩
    .right
     refine⟨k,E,?_,by rw[XY] at f;exact f,F,by rw[XY] at w;exact w,G,H⟩;rw[aL e,m];show(_,0,l.length+1)=_
     have y:(l≠[]/\(a++[x]).length+l.length=s0.length)↔(x::l≠[]/\a.length+(x::l).length=s0.length):=by
      constructor
      .rintro⟨_,d⟩;exact⟨Xi,by simp at d ⊢;omega⟩
      .rintro⟨_,d⟩;exact⟨j,by simp at d ⊢;omega⟩
     by_cases b:l≠[]/\(a++[x]).length+l.length=s0.length
     .rw[I b,I (y.1 b)];rfl
     .rw[N b,N (λd=>b (y.2 d))];rfl
def plc:List Nat->Nat->List One
 | [],_=>[]
 | x::l,i=>(x,i)::plc l (i+1)
theorem pS:∀(l:List Nat) (i:Nat),(plc l i).length=l.length
 | [],_=>rfl
 | x::l,i=>by rw[plc,Yj,pS l,Yj]
theorem yh:∀(l:List Nat) (i:Nat),(plc l i).map Prod.fst=l
 | [],_=>rfl
 | x::l,i=>by rw[plc,List.map_cons,yh l]
theorem Hv:∀(l:List Nat) (i j:Nat),j<l.length->pAt (plc l i) j=i+j
 | [],_,j,a=>by simp at a
 | x::l,i,0,a=>rfl
 | x::l,i,j+1,a=>by
  have:=Hv l (i+1) j (by simpa using a)
  unfold pAt at this ⊢;rw[plc,Zc,this];omega
def Fl.r0(f:Fl):Rw:=Rw.start f.hd (f.pal.length/3)
def Sm(s:Rd)(f:Fl):Prop:=(f.ids=0/\f.z=[]/\s.rw.known=λ_=>false)\/(0<f.ids/\∀d,SK f.r0 (f.z++d) f.z.length s.st s.rw)
def dy(f:Fl)(r:Rw):Prop:=(f.ids=0/\f.z=[]/\r.known=λ_=>false)\/(0<f.ids/\∃st,SK f.r0 f.z f.z.length st r)
def dp(r0:Rw)(z:List One)(e p:Nat)(r:Rw):Prop:=e≠0/\∀d out dn sm er at' en,iD (z++d) out dn sm er at' en->Vd r0 out dn sm er at' en e p r
theorem Sm.sk{s f}(h:Sm s f)(b:0<f.ids)d:SK f.r0 (f.z++d) f.z.length s.st s.rw:=by
 rcases h with⟨c,_⟩|⟨_,a⟩
 .omega
 .exact a d
theorem Sm.ok{s f}(h:Sm s f):dy f s.rw:=by
 by_cases a:0<f.ids
 .right
  refine⟨a,s.st,?_⟩
  have:=h.sk a []
  rw[XN] at this;exact this
 .left
  rcases h with h|⟨h,_⟩
  .exact h
  .exact absurd h a
theorem Sm.same{s t f}(h:Sm s f)(k:gd s t):Sm t f:=by
 unfold Sm;rw[k.st,k.rw];exact h
theorem Sm.dn{s f}(h:Sm s f)(a:0<f.ids){out dn sm er at' en}(q:iD f.z out dn sm er at' en):dn=decide (s.st.part=10):=by
 have:=h.sk a []
 rw[XN] at this;exact(eC this q).2.2.1
theorem Ks s r l m(h:(cD s r l).2.2≠0):stN s r (l++m)=stN s r l/\(cD s r (l++m)).2.2=(cD s r l).2.2/\(cD s r (l++m)).2.1=(cD s r l).2.1:=by
 induction l generalizing s r with
 | nil=>exact absurd rfl h
 | cons b l c=>
  rw[Ye,stN,stN,cD,cD];rw[cD] at h;by_cases a:ni s r b=0
  .rw[I a] at h
   rw[I a,I a,I a,I a]
   have:=c _ _ h
   exact⟨by rw[this.1],this.2⟩
  .rw[N a,N a,N a,N a];exact⟨rfl,rfl,rfl⟩
theorem MG l:∀(s:St) (r:Rw),(cD s r l).2.2≠0->stN s r l<l.length:=by
 induction l with
 | nil=>intro s r a;exact absurd rfl a
 | cons c l d=>
  intro s r a;rw[cD] at a;rw[stN];by_cases b:ni s r c=0
  .rw[I b] at a ⊢
   have:=d _ _ a
   simp;omega
  .rw[N b];simp
theorem zx{r0 z st rw}(h:Cap r0)(f:∀d,SK r0 (z++d) z.length st rw)d i:((cD st rw d).2.2≠0->dp r0 (z++plc d i) (cD st rw d).2.2 (i+stN st rw d) (cD st rw d).2.1)/\((cD st rw d).2.2=0->∀a,SK r0 (z++plc d i++a) (z++plc d i).length (cD st rw d).1 (cD st rw d).2.1):=by
 constructor
 .intro b
  refine⟨b,λa n o p q r s j => ?_⟩;have g:((z++(plc d i++a)).drop z.length).map Prod.fst=d++a.map Prod.fst:=by
   rw[List.drop_left,Zf,yh]
  have c:=nD h (z++(plc d i++a)) ((plc d i++a).length) z.length st rw Xi (f (plc d i++a));rw[g] at c;obtain⟨t,u,v⟩:=Ks st rw d (a.map Prod.fst) b;rw[t,u,v] at c;rcases c with⟨e,_⟩|⟨e,k,w⟩
  .exact absurd e b
  .rw[XY] at j
   have:=w n o p q r s j
   have l:=MG d st rw b;have x:pAt (z++(plc d i++a)) (z.length+stN st rw d)=i+stN st rw d:=by
    rw[<-Hv d i _ l];unfold pAt;rw[G,G,XP O,YT,XV (by rw[pS];exact l)]
   rw[x] at this;exact this
 .intro b a
  have y:SK r0 (z++plc d i) (z++plc d i).length (cD st rw d).1 (cD st rw d).2.1:=by
   have c:=nD h (z++plc d i) (plc d i).length z.length st rw Xi (f (plc d i));rw[List.drop_left,yh] at c;rcases c with⟨_,k⟩|⟨e,_⟩
   .exact k
   .exact absurd b e
  by_cases m:0<(z++plc d i).length
  .exact y.pre m (E _)
  .have B:z.length+(plc d i).length=0:=by rw[Xv] at m;omega
   have A:z=[]:=YX O;have g:d=[]:=by
    have:(plc d i).length=0:=O
    rw[pS] at this;exact YX this
   subst A;subst g;exact f a
def cI(D:Nat):List Nat->Bool
 | a::b::r=>decide (2^D<=256*a+b)||cI D r
 | _=>false
def Fl.data(f:Fl)(k:Nat)(d:List Nat)(i:Nat):Fl:=if k=aG then {f with ids:=f.ids+1,z:=f.z++plc d i} else f
def Fl.ends(f:Fl)(k:Nat)(d:List Nat):Fl×Nat:=
 if k=aQ then
  (if(aE (λi=>d.getD i 0)).1≠0 then(f,(aE (λi=>d.getD i 0)).1)
   else({f with on:=true,hd:=(aE (λi=>d.getD i 0)).2},0))
 else if k=bE then({f with hasPal:=true,pal:=d},0)
 else if k=bB then(if f.hd.K≠3/\cI f.hd.D d=true then(f,9) else({f with hasClear:=true,clear:=d},0))
 else if k=cE then({f with done:=true},0)
 else(f,0)
structure Ch where
 f:Fl
 err:Nat
 at':Nat
 took:Nat
def Fl.body(f1:Fl)(k n:Nat)(h r:List Nat)(i:Nat):Ch:=
 if r.length<n+4 then⟨f1.data k (r.take n) i,0,0,0⟩
 else if bz (bg ax (h.drop 4++r.take n))≠n4 (r.getD n 0) (r.getD (n+1) 0) (r.getD (n+2) 0) (r.getD (n+3) 0) then⟨f1.data k (r.take n) i,6,8+n+3,0⟩
 else if((f1.data k (r.take n) i).ends k (r.take n)).2≠0 then⟨((f1.data k (r.take n) i).ends k (r.take n)).1,((f1.data k (r.take n) i).ends k (r.take n)).2,8+n+3,0⟩
 else⟨((f1.data k (r.take n) i).ends k (r.take n)).1,0,0,8+n+4⟩
def Fl.chunk(f:Fl)(l:List Nat)(i:Nat)(dn:Bool):Ch:=
 if l.length<4 then⟨f,0,0,0⟩
 else if 2147483648<=n4 (l.getD 0 0) (l.getD 1 0) (l.getD 2 0) (l.getD 3 0) then⟨f,2,3,0⟩
 else if l.length<8 then⟨f,0,0,0⟩
 else if f.begE (n4 (l.getD 4 0) (l.getD 5 0) (l.getD 6 0) (l.getD 7 0)) (n4 (l.getD 0 0) (l.getD 1 0) (l.getD 2 0) (l.getD 3 0)) dn≠0 then
  ⟨f,f.begE (n4 (l.getD 4 0) (l.getD 5 0) (l.getD 6 0) (l.getD 7 0)) (n4 (l.getD 0 0) (l.getD 1 0) (l.getD 2 0) (l.getD 3 0)) dn,7,0⟩
 else Fl.body (f.begF (n4 (l.getD 4 0) (l.getD 5 0) (l.getD 6 0) (l.getD 7 0))) (n4 (l.getD 4 0) (l.getD 5 0) (l.getD 6 0) (l.getD 7 0)) (n4 (l.getD 0 0) (l.getD 1 0) (l.getD 2 0) (l.getD 3 0)) (l.take 8) (l.drop 8) (i+8)
def gg(s2:Rd)(r:List Nat)(C:Ch)(i:Nat):Prop:=
 (∃(h1:(af s2 r).2.1≠0) (h2:0<C.f.ids) (h3:dp C.f.r0 C.f.z (af s2 r).2.1 (i+(af s2 r).2.2) (af s2 r).1.rw),True) \/
 (∃(h1:C.took=0) (h2:(af s2 r).2.1=C.err) (h3:C.err≠0->(af s2 r).2.2+8=C.at') (h4:C.err=0->(af s2 r).1.part≠5) (h5:dy C.f (af s2 r).1.rw),True) \/
 (∃(m:Nat) (s':Rd) (h1:C.took=8+m) (h0:C.err=0) (hm:m<=r.length) (h2:af s2 r=shf m (af s' (r.drop m))) (h3:Ag s' C.f) (h4:Sm s' C.f) (h5:(C.f.done=true/\s'.part=5)\/(C.f.done=false/\s'.part=1/\s'.taken=0/\s'.number=0)),True)
theorem gg.bad{s2 r C i}(a:(af s2 r).2.1≠0)(b:0<C.f.ids)(c:dp C.f.r0 C.f.z (af s2 r).2.1 (i+(af s2 r).2.2) (af s2 r).1.rw):gg s2 r C i:=L ⟨a,b,c,trivial⟩
theorem gg.stop{s2 r C i}(a:C.took=0)(b:(af s2 r).2.1=C.err)(c:C.err≠0->(af s2 r).2.2+8=C.at')(d:C.err=0->(af s2 r).1.part≠5)(e:dy C.f (af s2 r).1.rw):gg s2 r C i:=R (L ⟨a,b,c,d,e,trivial⟩)
theorem gg.on{s2 r C i}m s'(a:C.took=8+m)(b:C.err=0)(c:m<=r.length)(d:af s2 r=shf m (af s' (r.drop m)))(e:Ag s' C.f)(f:Sm s' C.f)(g:(C.f.done=true/\s'.part=5)\/(C.f.done=false/\s'.part=1/\s'.taken=0/\s'.number=0)):gg s2 r C i:=R (R ⟨m,s',a,b,c,d,e,f,g,trivial⟩)
theorem gg.cs{s2:Rd}{r:List Nat}{C:Ch}{i:Nat}{motive:gg s2 r C i->Prop}(bad:∀(h1:(af s2 r).2.1≠0) (h2:0<C.f.ids) (h3:dp C.f.r0 C.f.z (af s2 r).2.1 (i+(af s2 r).2.2) (af s2 r).1.rw),motive (gg.bad h1 h2 h3))(stop:∀(h1:C.took=0) (h2:(af s2 r).2.1=C.err) (h3:C.err≠0->(af s2 r).2.2+8=C.at') (h4:C.err=0->(af s2 r).1.part≠5) (h5:dy C.f (af s2 r).1.rw),motive (gg.stop h1 h2 h3 h4 h5))(on:∀(m:Nat) (s':Rd) (h1:C.took=8+m) (h0:C.err=0) (hm:m<=r.length) (h2:af s2 r=shf m (af s' (r.drop m))) (h3:Ag s' C.f) (h4:Sm s' C.f) (h5:(C.f.done=true/\s'.part=5)\/(C.f.done=false/\s'.part=1/\s'.taken=0/\s'.number=0)),motive (gg.on m s' h1 h0 hm h2 h3 h4 h5))(h:gg s2 r C i):motive h:=by
 rcases h with⟨h1,h2,h3,_⟩|⟨h1,h2,h3,h4,h5,_⟩|⟨m,s',h1,h0,hm,h2,h3,h4,h5,_⟩
 .exact bad h1 h2 h3
 .exact stop h1 h2 h3 h4 h5
 .exact on m s' h1 h0 hm h2 h3 h4 h5
theorem D2(r:List Nat)n(h:n+4<=r.length):r.drop n=r.getD n 0::r.getD (n+1) 0::r.getD (n+2) 0::r.getD (n+3) 0::r.drop (n+4):=by
 have b:∀a,a<r.length->r.drop a=r.getD a 0::r.drop (a+1):=λa c=>by
  rw[Yy c]
  congr 1
  rw[G,Xt c];rfl
 rw[b n O,b (n+1) O,b (n+2) O,b (n+3) O]
theorem Dn{s2 q r n i k f2}{h:List Nat}(Q:n<=r.length)(e:af s2 r=shf n (af q (r.drop n)))(v:q.part=4)(w:q.taken=0)(A:q.number=0)(B:q.sum=bg ax (h.drop 4++r.take n))(x:dy f2 q.rw)(C:∀l m o f,(((((q.num l).num m).num o).num f).accept.2=(f2.ends k (r.take n)).2)/\((f2.ends k (r.take n)).2≠0->dy (f2.ends k (r.take n)).1 ((((q.num l).num m).num o).num f).accept.1.rw)/\((f2.ends k (r.take n)).2=0->Ag (((((q.num l).num m).num o).num f).accept.1.enter (if((((q.num l).num m).num o).num f).accept.1.ctype=cE then 5 else 1)) (f2.ends k (r.take n)).1/\Sm (((((q.num l).num m).num o).num f).accept.1.enter (if((((q.num l).num m).num o).num f).accept.1.ctype=cE then 5 else 1)) (f2.ends k (r.take n)).1/\(((f2.ends k (r.take n)).1.done=true/\((((q.num l).num m).num o).num f).accept.1.ctype=cE)\/((f2.ends k (r.take n)).1.done=false/\((((q.num l).num m).num o).num f).accept.1.ctype≠cE)))):gg s2 r (if r.length<n+4 then⟨f2,0,0,0⟩ else if bz (bg ax (h.drop 4++r.take n))≠n4 (r.getD n 0) (r.getD (n+1) 0) (r.getD (n+2) 0) (r.getD (n+3) 0) then⟨f2,6,8+n+3,0⟩ else if(f2.ends k (r.take n)).2≠0 then⟨(f2.ends k (r.take n)).1,(f2.ends k (r.take n)).2,8+n+3,0⟩ else⟨(f2.ends k (r.take n)).1,0,0,8+n+4⟩) i:=by
 by_cases y:r.length<n+4
 .rw[I y]
  obtain⟨z,D,E,F⟩:=nN 4 (R (R rfl)) (r.drop n) q v (by rw[w];simp;omega);rw[D] at e;refine gg.stop rfl (by rw[e];rfl) (λg=>absurd rfl g) (λ_ => ?_) ?_
  .rw[e]
   show z.part≠5
   rw[F];decide
  .rw[e]
   show dy f2 z.rw
   rw[E.rw];exact x
 rw[N y];obtain⟨G,H,J⟩:=C (r.getD n 0) (r.getD (n+1) 0) (r.getD (n+2) 0) (r.getD (n+3) 0);have j:=zw (a:=r.getD n 0) (b:=r.getD (n+1) 0) (c:=r.getD (n+2) 0) (d:=r.getD (n+3) 0) (r:=r.drop (n+4)) v w A;rw[<-D2 r n O] at j;rw[B] at j;by_cases s:bz (bg ax (h.drop 4++r.take n))≠n4 (r.getD n 0) (r.getD (n+1) 0) (r.getD (n+2) 0) (r.getD (n+3) 0)
 .rw[I s]
  rw[I (λg=>s g.symm)] at j;rw[j] at e;refine gg.stop rfl (by rw[e];rfl) (λ_ => ?_) (λg=>by cases g) ?_
  .rw[e]
   show 3+n+8=8+n+3
   omega
  .rw[e];exact x
 rw[N s];rw[N (λg=>s (λf=>g f.symm)),G] at j;by_cases p:(f2.ends k (r.take n)).2≠0
 .rw[I p]
  rw[I p] at j;rw[j] at e;refine gg.stop rfl (by rw[e];rfl) (λ_ => ?_) (λg=>absurd g p) ?_
  .rw[e]
   show 3+n+8=8+n+3
   omega
  .rw[e];exact H p
 .rw[N p]
  rw[N p] at j;obtain⟨K,M,P⟩:=J O;rw[j] at e;refine gg.on (n+4) _ (by show 8+n+4=8+(n+4);omega) rfl O (e.trans ?_) K M ?_
  .show shf n (shf 4 _)=shf (n+4) _
   unfold shf;simp;omega
  .rcases P with⟨t,u⟩|⟨t,u⟩
   .exact L ⟨t,by rw[I u];rfl⟩
   .exact R ⟨t,by rw[N u];exact⟨rfl,rfl,rfl⟩⟩
structure AV (t q:Rd):Prop where
 hd:q.hd=t.hd
 st:q.st=t.st
 rw:q.rw=t.rw
 sd:q.sd=t.sd
 sum:q.sum=t.sum
 length:q.length=t.length
 ctype:q.ctype=t.ctype
 sp:q.sp=(t.sp||decide (t.ctype=bE))
 sc:q.sc=(t.sc||decide (t.ctype=bB))
 dov:q.dov=(t.dov||t.sd)
 col:q.tl.colours=if t.ctype=bE then t.length/3 else t.tl.colours
 cls:q.tl.clears=if t.ctype=bB then t.length else t.tl.clears
 pal:q.tl.pal=t.tl.pal
 clr:q.tl.clear=t.tl.clear
theorem Lb{a:Rd}(b:a.ctype≠aG):a.note2={a with dov:=a.dov||a.sd}:=by
 unfold Rd.note2;rw[K b,Bool.and_true];obtain⟨e,f,g,h,i,j,k,l,m,n,rw,o,p,c,d⟩:=a;cases c<;>cases d<;>rfl
theorem kP{t}(c:t.ctype≠aG):AV t t.note:=by
 unfold Rd.note;rw[Lb (by rw[(zZ t)];exact c)];unfold Rd.note1;by_cases a:t.ctype=bE
 .rw[I a]
  have b:¬t.ctype=bB:=λd=>rQ (a.symm.trans d)
  exact⟨rfl,rfl,rfl,rfl,rfl,rfl,rfl,by rw[K a,Bool.or_true],by rw[J b,YI],rfl,by rw[I a],by rw[N b],rfl,rfl⟩
 rw[N a];by_cases b:t.ctype=bB
 .rw[I b]
  exact⟨rfl,rfl,rfl,rfl,rfl,rfl,rfl,by rw[J a,YI],by rw[K b,Bool.or_true],rfl,by rw[N a],by rw[I b],rfl,rfl⟩
 rw[N b,N c];exact⟨rfl,rfl,rfl,rfl,rfl,rfl,rfl,by rw[J a,YI],by rw[J b,YI],rfl,by rw[N a],by rw[N b],rfl,rfl⟩
theorem kJ{f:Fl}{n dn}(h:f.begE aQ n dn=0):f.first=false/\n=13:=by
 unfold Fl.begE at h;by_cases b:tyB aQ=false
 .rw[I b] at h;cases h
 rw[N b] at h;cases c:f.first with
 | true=>
  rw[c,N (show ¬(true=false) from Xh)] at h;by_cases a:(f.ov aQ && !dn)=true
  .rw[I a] at h;cases h
  .rw[N a,I rfl] at h;cases h
 | false=>
  rw[c,I rfl,N (show ¬(aQ≠aQ) from λd=>d rfl)] at h;by_cases a:n=13
  .exact⟨rfl,a⟩
  .rw[I a] at h;cases h
theorem dw{f:Fl}{k n dn}(b:k≠aQ)(h:f.begE k n dn=0):f.first=true:=by
 unfold Fl.begE at h;by_cases a:tyB k=false
 .rw[I a] at h;cases h
 rw[N a] at h;cases c:f.first with
 | true=>rfl
 | false=>rw[c,I rfl,I b] at h;cases h
theorem lJ{f:Fl}{k n dn}(c:f.first=true)(h:f.begE k n dn=0):f.begE k n true=0:=by
 unfold Fl.begE at h ⊢;by_cases a:tyB k=false
 .rw[I a] at h;cases h
 rw[N a] at h ⊢;rw[c,N (show ¬(true=false) from Xh)] at h ⊢;by_cases b:(f.ov k && !dn)=true
 .rw[I b] at h;cases h
 .rw[N b] at h
  rw[N Xi];exact h
theorem uW{f:Fl}{n}(g:f.first=true)(h:f.begE bE n true=0):f.ids=0/\f.hasClear=false/\n<=768:=by
 unfold Fl.begE at h;by_cases d:tyB bE=false
 .rw[I d] at h;cases h
 rw[N d,g,N (show ¬(true=false) from Xh),N Xi,N (λb=>pU b.symm),I rfl] at h;by_cases a:0<f.ids\/f.hasPal=true\/f.hasClear=true\/¬(f.hd.K=2\/f.hd.K=3\/f.hd.K=6)
 .rw[I a] at h;cases h
 rw[N a] at h;refine⟨?_,?_,?_⟩
 .have:¬0<f.ids:=λc=>a (L c)
  omega
 .cases b:f.hasClear with
  | false=>rfl
  | true=>exact absurd (R (R (L b))) a
 .by_cases e:n=0\/n%3≠0\/768<n\/(f.hd.K=3/\3*2^f.hd.D<n)
  .rw[I e] at h;cases h
  .have:¬768<n:=λc=>e (R (R (L c)))
   omega
theorem uV{f:Fl}{n}(i:f.first=true)(j:kOk f.hd.K)(h:f.begE bB n true=0):f.ids=0/\(f.hd.K=3\/(f.hd.K=0/\n=2)\/(f.hd.K=2/\n=6)):=by
 unfold Fl.begE at h;by_cases d:tyB bB=false
 .rw[I d] at h;cases h
 rw[N d,i,N (show ¬(true=false) from Xh),N Xi,N (λa=>rR a.symm),N (λa=>rQ a.symm),I rfl] at h;by_cases b:0<f.ids\/f.hasClear=true\/(f.hd.K=4\/f.hd.K=6)\/(f.hd.K=3/\f.hasPal=false)
 .rw[I b] at h;cases h
 rw[N b] at h;have l:¬(f.hd.K=4\/f.hd.K=6):=λa=>b (R (R (L a)))
 refine⟨O,?_⟩;by_cases c:f.hd.K=3
 .exact L c
 .rw[N (λa=>c a.1)] at h
  by_cases e:f.hd.K≠3/\n≠2*tp f.hd.K
  .rw[I e] at h;cases h
  .have g:n=2*tp f.hd.K:=by
    by_cases a:n=2*tp f.hd.K
    .exact a
    .exact absurd ⟨c,a⟩ e
   unfold kOk at j;have k:f.hd.K=0\/f.hd.K=2:=O;rcases k with a|a
   .exact R (L ⟨a,by rw[g,a];rfl⟩)
   .exact R (R ⟨a,by rw[g,a];rfl⟩)
theorem yx{r r'}(h:∀a,a<13->r a=r' a):aE r=aE r':=by
 unfold aE;rw[h 0 O,h 1 O,h 2 O,h 3 O,h 4 O,h 5 O,h 6 O,h 7 O,h 8 O,h 9 O,h 10 O,h 11 O,h 12 O]
theorem wL{k d}(h:¬gi k d=false):kOk k:=by
 unfold kOk;unfold gi at h;by_cases a:k=0
 .exact L a
 by_cases b:k=2
 .exact R (L b)
 by_cases c:k=3
 .exact R (R (L c))
 by_cases e:k=4
 .exact R (R (R (L e)))
 by_cases f:k=6
 .exact R (R (R (R f)))
 .exfalso;apply h;simp[a,b,c,e,f]
theorem E4 r(h:(aE r).1=0):(aE r).2.W≠0/\kOk (aE r).2.K:=by
 unfold aE at h ⊢;simp only at h ⊢
 split at h
 .cases h
 .split at h
  .cases h
  .split at h
   .cases h
   .rename_i a c d
    rw[N a,N c,N d];have e:¬gi (r 9) (r 8)=false:=λb=>a (R (R (R (R b))))
    exact⟨λb=>a (L b),wL e⟩
theorem Hy{t:Rd}{d}(o:(t.hd.K=0/\d.length=2)\/(t.hd.K=2/\d.length=6))(c:∀g,g<d.length->t.tl.clear g=d.getD g 0):t.acceptClear=if cI t.hd.D d=true then 9 else 0:=by
 unfold Rd.acceptClear;rcases o with⟨h,i⟩|⟨h,i⟩
 .rw[N,h]
  match d,i with
  | [a,b],_=>
   have e:=c 0 Xi;have f:=c 1 Xi;simp at e f;have j:(List.range (chn 0)).any t.clearBad=cI t.hd.D [a,b]:=by
    show(List.range 1).any t.clearBad=_
    simp[List.range_succ,Rd.clearBad,Tl.smp,cI,e,f,Zk]
   rw[j]
 .rw[N,h]
  match d,i with
  | [a,b,p,q,r,s],_=>
   have e:=c 0 Xi;have f:=c 1 Xi;have k:=c 2 Xi;have l:=c 3 Xi;have m:=c 4 Xi;have n:=c 5 Xi;simp at e f k l m n;have j:(List.range (chn 2)).any t.clearBad=cI t.hd.D [a,b,p,q,r,s]:=by
    show(List.range 3).any t.clearBad=_
    simp[List.range_succ,Rd.clearBad,Tl.smp,cI,e,f,k,l,m,n,Zk,Bool.or_assoc]
   rw[j]
theorem bT:aG≠aQ:=Xh
theorem kF:aG≠bE:=Xh
theorem kE:aG≠bB:=Xh
theorem uq:aG≠cE:=Xh
theorem Im:aQ≠cE:=Xh
theorem Il:bE≠cE:=Xh
theorem Ik:bB≠cE:=Xh
theorem Gp{f:Fl}{k}(b:f.first=true)(c:k≠aG):(f.begF k).over=(f.over||decide (0<f.ids)):=by
 unfold Fl.begF;rw[b,N (show ¬(true=false) from Xh)];unfold Fl.ov;rw[K c,Bool.and_true];cases d:decide (0<f.ids)<;>cases a:f.over<;>simp
 .exact a
 .exact a
 .exact a
theorem ql{f:Fl}{k}(b:f.first=true):∃c,f.begF k={f with over:=c}:=by
 unfold Fl.begF;rw[N (by rw[b];decide)];by_cases a:f.ov k=true
 .rw[I a];exact⟨true,rfl⟩
 .rw[N a];exact⟨f.over,rfl⟩
theorem DtA.enter{s0 q dk}(h:DtA s0 dk q)p:DtA s0 dk (q.enter p):=⟨h.sum,h.ctype,h.length,h.hd,h.col,h.cls,h.st,h.rw,h.sp,h.sc,h.sd,h.dov,h.raw,h.pal,h.clr,h.pal',h.clr'⟩
theorem DtA.num{s0 q dk}(h:DtA s0 dk q)x:DtA s0 dk (q.num x):=⟨h.sum,h.ctype,h.length,h.hd,h.col,h.cls,h.st,h.rw,h.sp,h.sc,h.sd,h.dov,h.raw,h.pal,h.clr,h.pal',h.clr'⟩
theorem Sm.to{s t f g}(h:Sm s f)(a:t.st=s.st)(b:t.rw=s.rw)(c:g.ids=f.ids)(d:g.z=f.z)(e:g.r0=f.r0):Sm t g:=by
 unfold Sm;rw[a,b,c,d,e];exact h
theorem dy.to{f g r}(h:dy f r)(a:g.ids=f.ids)(b:g.z=f.z)(c:g.r0=f.r0):dy g r:=by
 unfold dy;rw[a,b,c];exact h
theorem xn{t s2 q f d dn k}(g:Ag t f)(C:Sm t f)(n:t.ctype=k)(b7:k≠aG)(S:f.begE k t.length dn=0)(T:f.done=false)(e:AV t s2)(c:DtA s2 d q)(F:d.length=t.length):q.accept.2=((f.begF k).ends k d).2/\(((f.begF k).ends k d).2≠0->dy ((f.begF k).ends k d).1 q.accept.1.rw) /\
  (((f.begF k).ends k d).2=0->∀h,Ag (q.accept.1.enter h) ((f.begF k).ends k d).1/\Sm (q.accept.1.enter h) ((f.begF k).ends k d).1/\((((f.begF k).ends k d).1.done=true/\q.accept.1.ctype=cE)\/(((f.begF k).ends k d).1.done=false/\q.accept.1.ctype≠cE))):=by
 have x:=e.ctype.trans n;have i:=c.ctype.trans x;have U:q.rw=t.rw:=by rw[c.rw,e.rw]
 have D:f.ids=0->q.rw.known=λ_=>false:=λB=>by
  rcases C with⟨_,_,V⟩|⟨c7,_⟩
  .rw[U];exact V
  .omega
 by_cases E:k=aQ
 .subst E
  obtain⟨b8,c8⟩:=kJ S;obtain⟨c9,p⟩:=g.w b8;have b9:f.begF aQ={Fl.start with first:=true}:=by rw[p];rfl
  have y:q.accept=q.acceptHead:=by unfold Rd.accept;rw[I i]
  have r:(f.begF aQ).ends aQ d=if(aE (λs=>d.getD s 0)).1≠0 then({Fl.start with first:=true},(aE (λs=>d.getD s 0)).1) else({Fl.start with first:=true,on:=true,hd:=(aE (λs=>d.getD s 0)).2},0):=by
   rw[b9];unfold Fl.ends;rw[I rfl]
  rw[y,r];unfold Rd.acceptHead;rw[(yx (λj l=>c.raw x j O))];obtain⟨W,c0⟩:∃W,W=aE (λs=>d.getD s 0):=⟨_,rfl⟩;have a7:=E4 (λs=>d.getD s 0);rw[<-c0] at a7 ⊢;by_cases b:W.1≠0
  .rw[I b,I b]
   exact⟨rfl,λ_=>L ⟨rfl,rfl,D (by rw[p];rfl)⟩,λa=>absurd a b⟩
  .rw[N b,N b]
   have a8:=a7 O;refine⟨rfl,λa=>absurd rfl a,λ_ h=>⟨⟨(λa=>by cases a),λ_=>⟨rfl,rfl,a8.1,a8.2⟩,?_,?_,?_,?_,?_,?_⟩,L ⟨rfl,rfl,D (by rw[p];rfl)⟩,R ⟨rfl,?_⟩⟩⟩
   .show q.sp=false
    rw[c.sp,e.sp,g.sp,p,J (by rw[n];exact pU)];rfl
   .show q.sc=false
    rw[c.sc,e.sc,g.sc,p,J (by rw[n];exact rR)];rfl
   .show q.sd=decide (0<0)
    rw[c.sd,e.sd,g.sd,p];rfl
   .show q.dov=false
    rw[c.dov,e.dov,g.dov,g.sd,p];rfl
   .show q.tl.colours=0/3
    rw[c.col,e.col,N (by rw[n];exact pU),g.col,p];rfl
   .have o:=g.tb
    rw[p] at o;refine⟨λj l=>by simp[Fl.start] at l,?_,λj l=>by simp[Fl.start] at l,λ_=>rfl,λa=>by simp[Fl.start] at a,by simp[Fl.start]⟩;show q.tl.clears=0
    rw[c.cls,e.cls,N (by rw[n];exact rR),o.clears];rfl
   .show q.ctype≠cE
    rw[i];exact Im
 have u:=dw E S;obtain⟨G,X,Y,H⟩:=g.on u;have a9:=lJ u S;have b0:=Gp (k:=k) u b7;obtain⟨m,b1⟩:=ql (k:=k) u;have c1:m=(f.over||decide (0<f.ids)):=by rw[b1] at b0;exact b0
 have v:q.hd=f.hd:=by rw[c.hd,e.hd,G]
 have Z:q.sp=(f.hasPal||decide (k=bE)):=by rw[c.sp,e.sp,g.sp,n]
 have a0:q.sc=(f.hasClear||decide (k=bB)):=by rw[c.sc,e.sc,g.sc,n]
 have a1:q.sd=decide (0<f.ids):=by rw[c.sd,e.sd,g.sd]
 have a2:q.dov=m:=by rw[c.dov,e.dov,g.dov,g.sd,c1]
 have a3:q.tl.colours=if k=bE then d.length/3 else f.pal.length/3:=by rw[c.col,e.col,n,g.col,F]
 have b2:q.st=t.st:=by rw[c.st,e.st]
 rw[b1];by_cases w:k=bE
 .subst w
  obtain⟨z,c2,d0⟩:=uW u a9;have o:=g.tb;have M:f.z=[]:=by
   rcases C with⟨_,B,_⟩|⟨B,_⟩
   .exact B
   .omega
  have y:q.accept=(q,0):=by unfold Rd.accept;rw[N (by rw[i];exact λb=>pU b.symm),N (by rw[i];exact rQ)]
  have r:({f with over:=m}:Fl).ends bE d=({f with over:=m,hasPal:=true,pal:=d},0):=by unfold Fl.ends;rw[N (λb=>pU b.symm),I rfl]
  rw[y,r];refine⟨rfl,λa=>absurd rfl a,λ_ h=>⟨⟨λa=>(by rw[u] at a;cases a),λ_=>⟨v,X,by show q.hd.W≠0;rw[v,<-G];exact Y,H⟩,?_,?_,a1,a2,?_,?_⟩,L ⟨z,M,D z⟩,R ⟨T,?_⟩⟩⟩
  .show q.sp=true
   rw[Z,K rfl,Bool.or_true]
  .show q.sc=f.hasClear
   rw[a0,J rQ,YI]
  .show q.tl.colours=d.length/3
   rw[a3,I rfl]
  .refine⟨λj l=>c.pal x j l,?_,λj l => ?_,o.no,o.len,by show d.length<=768;omega⟩
   .show q.tl.clears=f.clear.length
    rw[c.cls,e.cls,N (by rw[n];exact rQ),o.clears]
   .exfalso
    have b3:j<f.clear.length:=l;rw[o.no c2] at b3;simp at b3
  .show q.ctype≠cE
   rw[i];exact Il
 by_cases A:k=bB
 .subst A
  obtain⟨z,b4⟩:=uV u H a9;have M:f.z=[]:=by
   rcases C with⟨_,B,_⟩|⟨B,_⟩
   .exact B
   .omega
  have y:q.accept=(q,q.acceptClear):=by unfold Rd.accept;rw[N (by rw[i];exact λb=>rR b.symm),I i]
  have r:({f with over:=m}:Fl).ends bB d=if f.hd.K≠3/\cI f.hd.D d=true then({f with over:=m},9) else({f with over:=m,hasClear:=true,clear:=d},0):=by unfold Fl.ends;rw[N (λb=>rR b.symm),N (λb=>rQ b.symm),I rfl]
  have c3:q.acceptClear=if f.hd.K≠3/\cI f.hd.D d=true then 9 else 0:=by
   rcases b4 with P|P
   .unfold Rd.acceptClear
    rw[I (by rw[v];exact P),N (λb=>b.1 P)]
   .have c4:=Hy (t:=q) (d:=d) (by rw[v];rcases P with⟨a4,c5⟩|⟨a4,c5⟩;exact L ⟨a4,O⟩;exact R ⟨a4,O⟩) (c.clr x)
    rw[c4,v];have c6:f.hd.K≠3:=O;by_cases b:cI f.hd.D d=true
    .rw[I b,I ⟨c6,b⟩]
    .rw[N b,N (λa=>b a.2)]
  rw[y,r,c3];by_cases b:f.hd.K≠3/\cI f.hd.D d=true
  .rw[I b,I b]
   exact⟨rfl,λ_=>L ⟨z,M,D z⟩,λa=>by cases a⟩
  .rw[N b,N b]
   refine⟨rfl,λa=>absurd rfl a,λ_ h=>⟨⟨λa=>(by rw[u] at a;cases a),λ_=>⟨v,X,by show q.hd.W≠0;rw[v,<-G];exact Y,H⟩,?_,?_,a1,a2,?_,?_⟩,L ⟨z,M,D z⟩,R ⟨T,?_⟩⟩⟩
   .show q.sp=f.hasPal
    rw[Z,J (λa=>w a),YI]
   .show q.sc=true
    rw[a0,K rfl,Bool.or_true]
   .show q.tl.colours=f.pal.length/3
    rw[a3,N w]
   .have o:=g.tb
    refine⟨λj l => ?_,?_,λj l=>c.clr x j l,(λa=>by cases a),λ_ V => ?_,o.top⟩
    .show q.tl.pal j=_
     rw[c.pal' (by rw[x];exact λa=>w a),e.pal];exact o.pal j l
    .show q.tl.clears=d.length
     rw[c.cls,e.cls,I n,F]
    .show d.length=2*chn f.hd.K
     have d1:f.hd.K=0\/f.hd.K=2:=V;rcases b4 with Q|⟨Q,a5⟩|⟨Q,a5⟩
     .omega
     .rw[Q,F,a5];rfl
     .rw[Q,F,a5];rfl
   .show q.ctype≠cE
    rw[i];exact Ik
 have y:q.accept=(q,0):=by unfold Rd.accept;rw[N (by rw[i];exact E),N (by rw[i];exact A)]
 have b5:∀(h:Nat) (b6:Bool),Ag (q.enter h) ({f with over:=m,done:=b6}:Fl):=λh b6=>⟨λa=>(by rw[u] at a;cases a),λ_=>⟨v,X,by show q.hd.W≠0;rw[v,<-G];exact Y,H⟩,by show q.sp=f.hasPal;rw[Z,J w,YI],by show q.sc=f.hasClear;rw[a0,J A,YI],a1,a2,by show q.tl.colours=f.pal.length/3;rw[a3,N w],g.tb.to (by show q.tl.pal=_;rw[c.pal' (by rw[x];exact w),e.pal]) (by show q.tl.clears=_;rw[c.cls,e.cls,N (by rw[n];exact A)]) (by show q.tl.clear=_;rw[c.clr' (by rw[x];exact A),e.clr]) rfl rfl rfl rfl⟩
 by_cases a6:k=cE
 .subst a6
  have r:({f with over:=m}:Fl).ends cE d=({f with over:=m,done:=true},0):=by unfold Fl.ends;rw[N E,N w,N A,I rfl]
  rw[y,r];exact⟨rfl,λa=>absurd rfl a,λ_ h=>⟨b5 h true,C.to b2 U rfl rfl rfl,L ⟨rfl,i⟩⟩⟩
 .have r:({f with over:=m}:Fl).ends k d=({f with over:=m},0):=by unfold Fl.ends;rw[N E,N w,N A,N a6]
  rw[y,r];refine⟨rfl,λa=>absurd rfl a,λ_ h=>⟨?_,C.to b2 U rfl rfl rfl,R ⟨T,by show q.ctype≠cE;rw[i];exact a6⟩⟩⟩
  have:=b5 h f.done
  exact this
