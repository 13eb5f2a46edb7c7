import Derived.Test.YtgooinallljbpaaGreatDoorTd24
namespace Go.Proofs.YtgooinallljbpaaGreatDoor
open Go.RowKit Px
set_option linter.unusedSimpArgs false
set_option linter.unusedVariables false
def plc:List Nat->Nat->List One
 | [],_=>[]
 | x::l,i=>(x,i)::plc l (i+1)
theorem uf:∀ (l:List Nat) (i:Nat),(plc l i).length=l.length
 | [],_=>rfl
 | x::l,i=>by rw[plc,List.length_cons,uf l,List.length_cons]
theorem x7:∀ (l:List Nat) (i:Nat),(plc l i).map Prod.fst=l
 | [],_=>rfl
 | x::l,i=>by rw[plc,List.map_cons,x7 l]
theorem GN:∀ (l:List Nat) (i j:Nat),j<l.length->pAt (plc l i) j=i+j
 | [],_,j,h=>by simp at h
 | x::l,i,0,h=>rfl
 | x::l,i,j+1,h=>by
  have:=GN l (i+1) j (by simpa using h)
  unfold pAt at this ⊢;rw[plc,List.getD_cons_succ,this];omega
def Fl.r0 (f:Fl):Rw:=Rw.start f.hd (f.pal.length / 3)
def Sm (s:Rd) (f:Fl):Prop:=(f.ids=0/\f.z=[])\/(0<f.ids/\∀ d,SK f.r0 (f.z++d) f.z.length s.st s.rw)
def lj (f:Fl):Prop:=(f.ids=0/\f.z=[])\/(0<f.ids/\∃ st rw,SK f.r0 f.z f.z.length st rw)
def fc (r0:Rw) (z:List One) (e p:Nat):Prop:=e≠0/\∀ d out dn sm er at' en,se (z++d) out dn sm er at' en->Vd r0 out dn sm er at' en e p
theorem Sm.sk {s:Rd} {f:Fl} (h:Sm s f) (hi:0<f.ids) (d:List One):SK f.r0 (f.z++d) f.z.length s.st s.rw:=by
 rcases h with ⟨h1,_⟩ | ⟨_,h2⟩
 ·omega
 ·exact h2 d
theorem Sm.ok {s:Rd} {f:Fl} (h:Sm s f):lj f:=by
 by_cases c:0<f.ids
 ·right
  refine ⟨c,s.st,s.rw,?_⟩
  have:=h.sk c []
  rw[List.append_nil] at this;exact this
 ·left
  rcases h with h | ⟨h,_⟩
  ·exact h
  ·exact absurd h c
theorem Sm.same {s t:Rd} {f:Fl} (h:Sm s f) (k:lF s t):Sm t f:=by
 unfold Sm;rw[k.st,k.rw];exact h
theorem Sm.dn {s:Rd} {f:Fl} (h:Sm s f) (hi:0<f.ids) {out:List One} {dn sm:Bool} {er at' en:Nat} (q:se f.z out dn sm er at' en):dn=decide (s.st.part=10):=by
 have:=h.sk hi []
 rw[List.append_nil] at this;exact (pY this q).2.2.1
theorem JH (s:St) (r:Rw) (l m:List Nat) (h:(fi s r l).2.2≠0):stN s r (l++m)=stN s r l/\(fi s r (l++m)).2.2=(fi s r l).2.2:=by
 induction l generalizing s r with
 | nil=>exact absurd rfl h
 | cons x l ih=>
  rw[List.cons_append,stN,stN,fi,fi];rw[fi] at h;by_cases c:rZ s r x=0
  ·rw[if_pos c] at h
   rw[if_pos c,if_pos c,if_pos c,if_pos c]
   have:=ih _ _ h
   exact ⟨by rw[this.1],this.2⟩
  ·rw[if_neg c,if_neg c,if_neg c,if_neg c];exact ⟨rfl,rfl⟩
theorem Lx (l:List Nat):∀ (s:St) (r:Rw),(fi s r l).2.2≠0->stN s r l<l.length:=by
 induction l with
 | nil=>intro s r h;exact absurd rfl h
 | cons x l ih=>
  intro s r h;rw[fi] at h;rw[stN];by_cases c:rZ s r x=0
  ·rw[if_pos c] at h ⊢
   have:=ih _ _ h
   simp;omega
  ·rw[if_neg c];simp
theorem zN {r0:Rw} {z:List One} {st:St} {rw:Rw} (hcap:Cap r0) (hs:∀ d,SK r0 (z++d) z.length st rw) (d:List Nat) (i:Nat) :
  ((fi st rw d).2.2≠0->fc r0 (z++plc d i) (fi st rw d).2.2 (i+stN st rw d))/\((fi st rw d).2.2=0->∀ e,SK r0 (z++plc d i++e) (z++plc d i).length (fi st rw d).1 (fi st rw d).2.1):=by
 constructor
 ·intro h
  refine ⟨h,fun e out dn sm er at' en q => ?_⟩;have hsk:=hs (plc d i++e);have hd:((z++(plc d i++e)).drop z.length).map Prod.fst=d++e.map Prod.fst:=by
   rw[List.drop_left,List.map_append,x7]
  have R:=sC hcap (z++(plc d i++e)) ((plc d i++e).length) z.length st rw (by simp) hsk;rw[hd] at R;obtain ⟨n1,n2⟩:=JH st rw d (e.map Prod.fst) h;rw[n1,n2] at R;rcases R with ⟨r1,_⟩ | ⟨r1,r2,r3⟩
  ·exact absurd r1 h
  ·rw[List.append_assoc] at q
   have:=r3 out dn sm er at' en q
   have hlt:=Lx d st rw h;have ep:pAt (z++(plc d i++e)) (z.length+stN st rw d)=i+stN st rw d:=by
    rw[<- GN d i _ hlt];unfold pAt;rw[List.getD_eq_getElem?_getD,List.getD_eq_getElem?_getD,List.getElem?_append_right (by omega),Nat.add_sub_cancel_left,List.getElem?_append_left (by rw[uf];exact hlt)]
   rw[ep] at this;exact this
 ·intro h e
  have base:SK r0 (z++plc d i) (z++plc d i).length (fi st rw d).1 (fi st rw d).2.1:=by
   have R:=sC hcap (z++plc d i) (plc d i).length z.length st rw (by simp) (hs (plc d i));rw[List.drop_left,x7] at R;rcases R with ⟨_,r2⟩ | ⟨r1,_⟩
   ·exact r2
   ·exact absurd h r1
  by_cases c:0<(z++plc d i).length
  ·exact base.pre c (Nat.le_refl _)
  ·have hc0:z.length+(plc d i).length=0:=by rw[List.length_append] at c;omega
   have hz:z=[]:=List.eq_nil_of_length_eq_zero (by omega);have hd:d=[]:=by
    have:(plc d i).length=0:=by omega
    rw[uf] at this;exact List.eq_nil_of_length_eq_zero this
   subst hz;subst hd;exact hs e
def cU (D:Nat):List Nat->Bool
 | a::b::r=>decide (2^D<=256*a+b) || cU D r
 | _=>false
def Fl.data (f:Fl) (k:Nat) (d:List Nat) (i:Nat):Fl:=if k=aJ then { f with ids:=f.ids+1,z:=f.z++plc d i } else f
def Fl.ends (f:Fl) (k:Nat) (d:List Nat):Fl × Nat:=
 if k=aY then
  (if (aB (fun i=>d.getD i 0)).1≠0 then (f,(aB (fun i=>d.getD i 0)).1)
   else ({ f with on:=true,hd:=(aB (fun i=>d.getD i 0)).2 },0))
 else if k=cq then ({ f with hasPal:=true,pal:=d },0)
 else if k=bZ then (if f.hd.K≠3/\cU f.hd.D d=true then (f,9) else ({ f with hasClear:=true,clear:=d },0))
 else if k=cS then ({ f with done:=true },0)
 else (f,0)
structure Ch where
 f:Fl
 err:Nat
 at':Nat
 took:Nat
def Fl.body (f1:Fl) (k n:Nat) (h r:List Nat) (i:Nat):Ch:=
 if r.length<n+4 then ⟨f1.data k (r.take n) i,0,0,0⟩
 else if bL (bE au (h.drop 4++r.take n))≠n4 (r.getD n 0) (r.getD (n+1) 0) (r.getD (n+2) 0) (r.getD (n+3) 0) then ⟨f1.data k (r.take n) i,6,8+n+3,0⟩
 else if ((f1.data k (r.take n) i).ends k (r.take n)).2≠0 then ⟨((f1.data k (r.take n) i).ends k (r.take n)).1,((f1.data k (r.take n) i).ends k (r.take n)).2,8+n+3,0⟩
 else ⟨((f1.data k (r.take n) i).ends k (r.take n)).1,0,0,8+n+4⟩
def Fl.chunk (f:Fl) (l:List Nat) (i:Nat) (dn:Bool):Ch:=
 if l.length<4 then ⟨f,0,0,0⟩
 else if 2147483648<=n4 (l.getD 0 0) (l.getD 1 0) (l.getD 2 0) (l.getD 3 0) then ⟨f,2,3,0⟩
 else if l.length<8 then ⟨f,0,0,0⟩
 else if f.begE (n4 (l.getD 4 0) (l.getD 5 0) (l.getD 6 0) (l.getD 7 0)) (n4 (l.getD 0 0) (l.getD 1 0) (l.getD 2 0) (l.getD 3 0)) dn≠0 then
  ⟨f,f.begE (n4 (l.getD 4 0) (l.getD 5 0) (l.getD 6 0) (l.getD 7 0)) (n4 (l.getD 0 0) (l.getD 1 0) (l.getD 2 0) (l.getD 3 0)) dn,7,0⟩
 else Fl.body (f.begF (n4 (l.getD 4 0) (l.getD 5 0) (l.getD 6 0) (l.getD 7 0))) (n4 (l.getD 4 0) (l.getD 5 0) (l.getD 6 0) (l.getD 7 0)) (n4 (l.getD 0 0) (l.getD 1 0) (l.getD 2 0) (l.getD 3 0)) (l.take 8) (l.drop 8) (i+8)
def lr (s2:Rd) (r:List Nat) (C:Ch) (i:Nat):Prop:=
 (∃ (h1:(ak s2 r).2.1≠0) (h2:0<C.f.ids) (h3:fc C.f.r0 C.f.z (ak s2 r).2.1 (i+(ak s2 r).2.2)),True) \/
 (∃ (h1:C.took=0) (h2:(ak s2 r).2.1=C.err) (h3:C.err≠0->(ak s2 r).2.2+8=C.at') (h4:C.err=0->(ak s2 r).1.part≠5) (h5:lj C.f),True) \/
 (∃ (m:Nat) (s':Rd) (h1:C.took=8+m) (h0:C.err=0) (hm:m<=r.length) (h2:ak s2 r=shf m (ak s' (r.drop m))) (h3:Ag s' C.f) (h4:Sm s' C.f) (h5:(C.f.done=true/\s'.part=5)\/(C.f.done=false/\s'.part=1/\s'.taken=0/\s'.number=0)),True)
theorem lr.bad {s2:Rd} {r:List Nat} {C:Ch} {i:Nat} (h1:(ak s2 r).2.1≠0) (h2:0<C.f.ids) (h3:fc C.f.r0 C.f.z (ak s2 r).2.1 (i+(ak s2 r).2.2)):lr s2 r C i:=Or.inl ⟨h1,h2,h3,trivial⟩
theorem lr.stop {s2:Rd} {r:List Nat} {C:Ch} {i:Nat} (h1:C.took=0) (h2:(ak s2 r).2.1=C.err) (h3:C.err≠0->(ak s2 r).2.2+8=C.at') (h4:C.err=0->(ak s2 r).1.part≠5) (h5:lj C.f):lr s2 r C i:=Or.inr (Or.inl ⟨h1,h2,h3,h4,h5,trivial⟩)
theorem lr.on {s2:Rd} {r:List Nat} {C:Ch} {i:Nat} (m:Nat) (s':Rd) (h1:C.took=8+m) (h0:C.err=0) (hm:m<=r.length) (h2:ak s2 r=shf m (ak s' (r.drop m))) (h3:Ag s' C.f) (h4:Sm s' C.f) (h5:(C.f.done=true/\s'.part=5)\/(C.f.done=false/\s'.part=1/\s'.taken=0/\s'.number=0)):lr s2 r C i:=Or.inr (Or.inr ⟨m,s',h1,h0,hm,h2,h3,h4,h5,trivial⟩)
theorem lr.cs {s2:Rd} {r:List Nat} {C:Ch} {i:Nat} {motive:lr s2 r C i->Prop}
  (bad:∀ (h1:(ak s2 r).2.1≠0) (h2:0<C.f.ids) (h3:fc C.f.r0 C.f.z (ak s2 r).2.1 (i+(ak s2 r).2.2)),motive (lr.bad h1 h2 h3))
  (stop:∀ (h1:C.took=0) (h2:(ak s2 r).2.1=C.err) (h3:C.err≠0->(ak s2 r).2.2+8=C.at') (h4:C.err=0->(ak s2 r).1.part≠5) (h5:lj C.f),motive (lr.stop h1 h2 h3 h4 h5))
  (on:∀ (m:Nat) (s':Rd) (h1:C.took=8+m) (h0:C.err=0) (hm:m<=r.length) (h2:ak s2 r=shf m (ak s' (r.drop m))) (h3:Ag s' C.f) (h4:Sm s' C.f) (h5:(C.f.done=true/\s'.part=5)\/(C.f.done=false/\s'.part=1/\s'.taken=0/\s'.number=0)),motive (lr.on m s' h1 h0 hm h2 h3 h4 h5))
  (h:lr s2 r C i):motive h:=by
 rcases h with ⟨h1,h2,h3,_⟩ | ⟨h1,h2,h3,h4,h5,_⟩ | ⟨m,s',h1,h0,hm,h2,h3,h4,h5,_⟩
 ·exact bad h1 h2 h3
 ·exact stop h1 h2 h3 h4 h5
 ·exact on m s' h1 h0 hm h2 h3 h4 h5
theorem Kn (r:List Nat) (n:Nat) (h:n+4<=r.length):r.drop n=r.getD n 0::r.getD (n+1) 0::r.getD (n+2) 0::r.getD (n+3) 0::r.drop (n+4):=by
 have g:∀ j,j<r.length->r.drop j=r.getD j 0::r.drop (j+1):=fun j hj=>by
  rw[List.drop_eq_getElem_cons hj]
  congr 1
  rw[List.getD_eq_getElem?_getD,List.getElem?_eq_getElem hj];rfl
 rw[g n (by omega),g (n+1) (by omega),g (n+2) (by omega),g (n+3) (by omega)]
theorem C8 {s2 q:Rd} {r:List Nat} {n i k:Nat} {f2:Fl} {h:List Nat} (hn:n<=r.length) (hq:ak s2 r=shf n (ak q (r.drop n))) (hp:q.part=4) (ht:q.taken=0) (hm:q.number=0) (hsum:q.sum=bE au (h.drop 4++r.take n)) (hok:lj f2)
  (acc:∀ x y u v,(((((q.num x).num y).num u).num v).accept.2=(f2.ends k (r.take n)).2)/\((f2.ends k (r.take n)).2≠0->lj (f2.ends k (r.take n)).1)/\((f2.ends k (r.take n)).2=0->Ag (((((q.num x).num y).num u).num v).accept.1.enter (if ((((q.num x).num y).num u).num v).accept.1.ctype=cS then 5 else 1)) (f2.ends k (r.take n)).1/\Sm (((((q.num x).num y).num u).num v).accept.1.enter (if ((((q.num x).num y).num u).num v).accept.1.ctype=cS then 5 else 1)) (f2.ends k (r.take n)).1/\(((f2.ends k (r.take n)).1.done=true/\((((q.num x).num y).num u).num v).accept.1.ctype=cS)\/((f2.ends k (r.take n)).1.done=false/\((((q.num x).num y).num u).num v).accept.1.ctype≠cS)))) :
  lr s2 r (if r.length<n+4 then ⟨f2,0,0,0⟩ else if bL (bE au (h.drop 4++r.take n))≠n4 (r.getD n 0) (r.getD (n+1) 0) (r.getD (n+2) 0) (r.getD (n+3) 0) then ⟨f2,6,8+n+3,0⟩ else if (f2.ends k (r.take n)).2≠0 then ⟨(f2.ends k (r.take n)).1,(f2.ends k (r.take n)).2,8+n+3,0⟩ else ⟨(f2.ends k (r.take n)).1,0,0,8+n+4⟩) i:=by
 by_cases c1:r.length<n+4
 ·rw[if_pos c1]
  obtain ⟨s',e1,e2,e3⟩:=yu 4 (Or.inr (Or.inr rfl)) (r.drop n) q hp (by rw[ht];simp;omega);rw[e1] at hq;refine lr.stop rfl (by rw[hq];rfl) (fun w=>absurd rfl w) (fun _ => ?_) hok;rw[hq];show s'.part≠5
  rw[e3];decide
 rw[if_neg c1];obtain ⟨ac1,ac2,ac3⟩:=acc (r.getD n 0) (r.getD (n+1) 0) (r.getD (n+2) 0) (r.getD (n+3) 0);have hf:=Gl (a:=r.getD n 0) (b:=r.getD (n+1) 0) (c:=r.getD (n+2) 0) (d:=r.getD (n+3) 0) (r:=r.drop (n+4)) hp ht hm;rw[<- Kn r n (by omega)] at hf;rw[hsum] at hf;by_cases c2:bL (bE au (h.drop 4++r.take n))≠n4 (r.getD n 0) (r.getD (n+1) 0) (r.getD (n+2) 0) (r.getD (n+3) 0)
 ·rw[if_pos c2]
  rw[if_pos (fun w=>c2 w.symm)] at hf;rw[hf] at hq;refine lr.stop rfl (by rw[hq];rfl) (fun _ => ?_) (fun w=>by cases w) hok;rw[hq];show 3+n+8=8+n+3
  omega
 rw[if_neg c2];rw[if_neg (fun w=>c2 (fun v=>w v.symm)),ac1] at hf;by_cases c3:(f2.ends k (r.take n)).2≠0
 ·rw[if_pos c3]
  rw[if_pos c3] at hf;rw[hf] at hq;refine lr.stop rfl (by rw[hq];rfl) (fun _ => ?_) (fun w=>absurd w c3) (ac2 c3);rw[hq];show 3+n+8=8+n+3
  omega
 ·rw[if_neg c3]
  rw[if_neg c3] at hf;have c3':(f2.ends k (r.take n)).2=0:=by omega
  obtain ⟨a1,a2,a3⟩:=ac3 c3';rw[hf] at hq;refine lr.on (n+4) _ (by show 8+n+4=8+(n+4);omega) rfl (by omega) (hq.trans ?_) a1 a2 ?_
  ·show shf n (shf 4 _)=shf (n+4) _
   unfold shf;simp;omega
  ·rcases a3 with ⟨b1,b2⟩ | ⟨b1,b2⟩
   ·exact Or.inl ⟨b1,by rw[if_pos b2];rfl⟩
   ·exact Or.inr ⟨b1,by rw[if_neg b2];exact ⟨rfl,rfl,rfl⟩⟩
structure A6 (t q:Rd):Prop where
 hd:q.hd=t.hd
 st:q.st=t.st
 rw:q.rw=t.rw
 sd:q.sd=t.sd
 sum:q.sum=t.sum
 length:q.length=t.length
 ctype:q.ctype=t.ctype
 sp:q.sp=(t.sp || decide (t.ctype=cq))
 sc:q.sc=(t.sc || decide (t.ctype=bZ))
 dov:q.dov=(t.dov || t.sd)
 col:q.tl.colours=if t.ctype=cq then t.length / 3 else t.tl.colours
theorem J7 {u:Rd} (hi:u.ctype≠aJ):u.note2={ u with dov:=u.dov || u.sd }:=by
 unfold Rd.note2;rw[decide_eq_true hi,Bool.and_true];obtain ⟨part,taken,number,length,ctype,sum,hd,raw,tl,st,rw,sp,sc,sd,dov⟩:=u;cases sd<;>cases dov<;>rfl
theorem vW {t:Rd} (hi:t.ctype≠aJ):A6 t t.note:=by
 unfold Rd.note;have h1:t.note1.ctype=t.ctype:=va t;rw[J7 (by rw[h1];exact hi)];unfold Rd.note1;by_cases c1:t.ctype=cq
 ·rw[if_pos c1]
  have c2:¬ t.ctype=bZ:=fun e=>xg (c1.symm.trans e)
  exact ⟨rfl,rfl,rfl,rfl,rfl,rfl,rfl,by rw[decide_eq_true c1,Bool.or_true],by rw[decide_eq_false c2,Bool.or_false],rfl,by rw[if_pos c1]⟩
 rw[if_neg c1];by_cases c2:t.ctype=bZ
 ·rw[if_pos c2]
  exact ⟨rfl,rfl,rfl,rfl,rfl,rfl,rfl,by rw[decide_eq_false c1,Bool.or_false],by rw[decide_eq_true c2,Bool.or_true],rfl,by rw[if_neg c1]⟩
 rw[if_neg c2,if_neg hi];exact ⟨rfl,rfl,rfl,rfl,rfl,rfl,rfl,by rw[decide_eq_false c1,Bool.or_false],by rw[decide_eq_false c2,Bool.or_false],rfl,by rw[if_neg c1]⟩
theorem wI {f:Fl} {n:Nat} {dn:Bool} (h:f.begE aY n dn=0):f.first=false/\n=13:=by
 unfold Fl.begE at h;by_cases c:tyB aY=false
 ·rw[if_pos c] at h;cases h
 rw[if_neg c] at h;cases hf:f.first with
 | true=>
  rw[hf,if_neg (show ¬ (true=false) by decide)] at h;by_cases d:(f.ov aY && !dn)=true
  ·rw[if_pos d] at h;cases h
  ·rw[if_neg d,if_pos rfl] at h;cases h
 | false=>
  rw[hf,if_pos rfl,if_neg (show ¬ (aY≠aY) from fun q=>q rfl)] at h;by_cases d:n=13
  ·exact ⟨rfl,d⟩
  ·rw[if_pos d] at h;cases h
theorem iH {f:Fl} {k n:Nat} {dn:Bool} (hk:k≠aY) (h:f.begE k n dn=0):f.first=true:=by
 unfold Fl.begE at h;by_cases c:tyB k=false
 ·rw[if_pos c] at h;cases h
 rw[if_neg c] at h;cases hf:f.first with
 | true=>rfl
 | false=>rw[hf,if_pos rfl,if_pos hk] at h;cases h
theorem wH {f:Fl} {k n:Nat} {dn:Bool} (hf:f.first=true) (h:f.begE k n dn=0):f.begE k n true=0:=by
 unfold Fl.begE at h ⊢;by_cases c:tyB k=false
 ·rw[if_pos c] at h;cases h
 rw[if_neg c] at h ⊢;rw[hf,if_neg (show ¬ (true=false) by decide)] at h ⊢;by_cases d:(f.ov k && !dn)=true
 ·rw[if_pos d] at h;cases h
 ·rw[if_neg d] at h
  rw[if_neg (by simp)];exact h
theorem AW {f:Fl} {n:Nat} (hf:f.first=true) (h:f.begE cq n true=0):f.ids=0:=by
 unfold Fl.begE at h;by_cases c:tyB cq=false
 ·rw[if_pos c] at h;cases h
 rw[if_neg c,hf,if_neg (show ¬ (true=false) by decide),if_neg (by simp),if_neg (fun e=>vZ e.symm),if_pos rfl] at h;by_cases i0:0<f.ids
 ·rw[if_pos (Or.inl i0)] at h;cases h
 ·omega
theorem AV {f:Fl} {n:Nat} (hf:f.first=true) (hk:kOk f.hd.K) (h:f.begE bZ n true=0):f.ids=0/\(f.hd.K=3\/(f.hd.K=0/\n=2)\/(f.hd.K=2/\n=6)):=by
 unfold Fl.begE at h;by_cases c:tyB bZ=false
 ·rw[if_pos c] at h;cases h
 rw[if_neg c,hf,if_neg (show ¬ (true=false) by decide),if_neg (by simp),if_neg (fun e=>Ah e.symm),if_neg (fun e=>xg e.symm),if_pos rfl] at h;by_cases q:0<f.ids\/f.hasClear=true\/(f.hd.K=4\/f.hd.K=6)\/(f.hd.K=3/\f.hasPal=false)
 ·rw[if_pos q] at h;cases h
 rw[if_neg q] at h;have q1:¬ 0<f.ids:=fun e=>q (Or.inl e)
 have q2:¬ (f.hd.K=4\/f.hd.K=6):=fun e=>q (Or.inr (Or.inr (Or.inl e)))
 refine ⟨by omega,?_⟩;by_cases k3:f.hd.K=3
 ·exact Or.inl k3
 ·rw[if_neg (fun e=>k3 e.1)] at h
  by_cases q3:f.hd.K≠3/\n≠2*vi f.hd.K
  ·rw[if_pos q3] at h;cases h
  ·have hn:n=2*vi f.hd.K:=by
    by_cases e:n=2*vi f.hd.K
    ·exact e
    ·exact absurd ⟨k3,e⟩ q3
   unfold kOk at hk;have hk2:f.hd.K=0\/f.hd.K=2:=by omega
   rcases hk2 with e | e
   ·exact Or.inr (Or.inl ⟨e,by rw[hn,e];rfl⟩)
   ·exact Or.inr (Or.inr ⟨e,by rw[hn,e];rfl⟩)
theorem yl {r r':Nat->Nat} (h:∀ j,j<13->r j=r' j):aB r=aB r':=by
 unfold aB;rw[h 0 (by omega),h 1 (by omega),h 2 (by omega),h 3 (by omega),h 4 (by omega),h 5 (by omega),h 6 (by omega),h 7 (by omega),h 8 (by omega),h 9 (by omega),h 10 (by omega),h 11 (by omega),h 12 (by omega)]
theorem xh {k d:Nat} (h:¬ lx k d=false):kOk k:=by
 unfold kOk;unfold lx at h;by_cases a0:k=0
 ·exact Or.inl a0
 by_cases a2:k=2
 ·exact Or.inr (Or.inl a2)
 by_cases a3:k=3
 ·exact Or.inr (Or.inr (Or.inl a3))
 by_cases a4:k=4
 ·exact Or.inr (Or.inr (Or.inr (Or.inl a4)))
 by_cases a6:k=6
 ·exact Or.inr (Or.inr (Or.inr (Or.inr a6)))
 ·exfalso;apply h;simp [a0,a2,a3,a4,a6]
theorem Ew (r:Nat->Nat) (h:(aB r).1=0):(aB r).2.W≠0/\kOk (aB r).2.K:=by
 unfold aB at h ⊢;simp only at h ⊢
 split at h
 ·cases h
 ·split at h
  ·cases h
  ·split at h
   ·cases h
   ·rename_i h1 h2 h3
    rw[if_neg h1,if_neg h2,if_neg h3];have hl:¬ lx (r 9) (r 8)=false:=fun q=>h1 (Or.inr (Or.inr (Or.inr (Or.inr q))))
    exact ⟨fun q=>h1 (Or.inl q),xh hl⟩
theorem GO {t:Rd} {d:List Nat} (hK:(t.hd.K=0/\d.length=2)\/(t.hd.K=2/\d.length=6)) (hc:∀ j,j<d.length->t.tl.clear j=d.getD j 0) :
  t.acceptClear=if cU t.hd.D d=true then 9 else 0:=by
 unfold Rd.acceptClear;rcases hK with ⟨k,l⟩ | ⟨k,l⟩
 ·rw[if_neg (by omega),k]
  match d,l with
  | [a,b],_=>
   have c0:=hc 0 (by simp);have c1:=hc 1 (by simp);simp at c0 c1;have e:(List.range (chn 0)).any t.clearBad=cU t.hd.D [a,b]:=by
    show (List.range 1).any t.clearBad=_
    simp [List.range_succ,Rd.clearBad,Tl.smp,cU,c0,c1,Nat.mul_comm]
   rw[e]
 ·rw[if_neg (by omega),k]
  match d,l with
  | [a,b,a',b',a'',b''],_=>
   have c0:=hc 0 (by simp);have c1:=hc 1 (by simp);have c2:=hc 2 (by simp);have c3:=hc 3 (by simp);have c4:=hc 4 (by simp);have c5:=hc 5 (by simp);simp at c0 c1 c2 c3 c4 c5;have e:(List.range (chn 2)).any t.clearBad=cU t.hd.D [a,b,a',b',a'',b'']:=by
    show (List.range 3).any t.clearBad=_
    simp [List.range_succ,Rd.clearBad,Tl.smp,cU,c0,c1,c2,c3,c4,c5,Nat.mul_comm,Bool.or_assoc]
   rw[e]
theorem kY:aJ≠aY:=by decide
theorem qL:aJ≠cq:=by decide
theorem qK:aJ≠bZ:=by decide
theorem wb:aJ≠cS:=by decide
theorem Hj:aY≠cS:=by decide
theorem Hh:cq≠cS:=by decide
theorem Hg:bZ≠cS:=by decide
theorem FD {f:Fl} {k:Nat} (hf:f.first=true) (hk:k≠aJ):(f.begF k).over=(f.over || decide (0<f.ids)):=by
 unfold Fl.begF;rw[hf,if_neg (show ¬ (true=false) by decide)];unfold Fl.ov;rw[decide_eq_true hk,Bool.and_true];cases hd:decide (0<f.ids)<;>cases ho:f.over<;>simp
 ·exact ho
 ·exact ho
 ·exact ho
theorem yM {f:Fl} {k:Nat} (hf:f.first=true):∃ o,f.begF k={ f with over:=o }:=by
 unfold Fl.begF;rw[if_neg (by rw[hf];decide)];by_cases c:f.ov k=true
 ·rw[if_pos c];exact ⟨true,rfl⟩
 ·rw[if_neg c];exact ⟨f.over,rfl⟩
theorem DtA.enter {s0 q:Rd} {dk:List Nat} (h:DtA s0 dk q) (p:Nat):DtA s0 dk (q.enter p):=⟨h.sum,h.ctype,h.length,h.hd,h.col,h.cls,h.st,h.rw,h.sp,h.sc,h.sd,h.dov,h.raw,h.pal,h.clr,h.pal',h.clr'⟩
theorem DtA.num {s0 q:Rd} {dk:List Nat} (h:DtA s0 dk q) (x:Nat):DtA s0 dk (q.num x):=⟨h.sum,h.ctype,h.length,h.hd,h.col,h.cls,h.st,h.rw,h.sp,h.sc,h.sd,h.dov,h.raw,h.pal,h.clr,h.pal',h.clr'⟩
theorem Sm.to {s t:Rd} {f g:Fl} (h:Sm s f) (h1:t.st=s.st) (h2:t.rw=s.rw) (h3:g.ids=f.ids) (h4:g.z=f.z) (h5:g.r0=f.r0):Sm t g:=by
 unfold Sm;rw[h1,h2,h3,h4,h5];exact h
theorem lj.to {f g:Fl} (h:lj f) (h3:g.ids=f.ids) (h4:g.z=f.z) (h5:g.r0=f.r0):lj g:=by
 unfold lj;rw[h3,h4,h5];exact h
theorem FK {t s2 q:Rd} {f:Fl} {d:List Nat} {dn:Bool} {k:Nat} (hA:Ag t f) (hS:Sm t f) (hk:t.ctype=k) (hi:k≠aJ) (hb:f.begE k t.length dn=0) (hd0:f.done=false) (hN:A6 t s2) (hD:DtA s2 d q) (hl:d.length=t.length) :
  q.accept.2=((f.begF k).ends k d).2/\(((f.begF k).ends k d).2≠0->lj ((f.begF k).ends k d).1) /\
  (((f.begF k).ends k d).2=0->∀ p,Ag (q.accept.1.enter p) ((f.begF k).ends k d).1/\Sm (q.accept.1.enter p) ((f.begF k).ends k d).1/\((((f.begF k).ends k d).1.done=true/\q.accept.1.ctype=cS)\/(((f.begF k).ends k d).1.done=false/\q.accept.1.ctype≠cS))):=by
 have hc2:s2.ctype=k:=hN.ctype.trans hk;have hc:q.ctype=k:=hD.ctype.trans hc2;by_cases c1:k=aY
 ·subst c1
  obtain ⟨b1,b2⟩:=wI hb;obtain ⟨w1,w2⟩:=hA.w b1;have eF:f.begF aY={ Fl.start with first:=true }:=by rw[w2];rfl
  have eH:aB q.raw=aB (fun i=>d.getD i 0):=yl (fun j hj=>hD.raw hc2 j (by omega));have ea:q.accept=q.acceptHead:=by unfold Rd.accept;rw[if_pos hc]
  have ee:(f.begF aY).ends aY d=if (aB (fun i=>d.getD i 0)).1≠0 then ({ Fl.start with first:=true },(aB (fun i=>d.getD i 0)).1) else ({ Fl.start with first:=true,on:=true,hd:=(aB (fun i=>d.getD i 0)).2 },0):=by
   rw[eF];unfold Fl.ends;rw[if_pos rfl]
  rw[ea,ee];unfold Rd.acceptHead;rw[eH];obtain ⟨H,hH⟩:∃ H,H=aB (fun i=>d.getD i 0):=⟨_,rfl⟩;have hg:=Ew (fun i=>d.getD i 0);rw[<- hH] at hg ⊢;by_cases e:H.1≠0
  ·rw[if_pos e,if_pos e]
   exact ⟨rfl,fun _=>Or.inl ⟨rfl,rfl⟩,fun w=>absurd w e⟩
  ·rw[if_neg e,if_neg e]
   have hg':=hg (by omega);refine ⟨rfl,fun w=>absurd rfl w,fun _ p=>⟨⟨(fun w=>by cases w),fun _=>⟨rfl,rfl,hg'.1,hg'.2⟩,?_,?_,?_,?_,?_⟩,Or.inl ⟨rfl,rfl⟩,Or.inr ⟨rfl,?_⟩⟩⟩
   ·show q.sp=false
    rw[hD.sp,hN.sp,hA.sp,w2,decide_eq_false (by rw[hk];exact vZ)];rfl
   ·show q.sc=false
    rw[hD.sc,hN.sc,hA.sc,w2,decide_eq_false (by rw[hk];exact Ah)];rfl
   ·show q.sd=decide (0<0)
    rw[hD.sd,hN.sd,hA.sd,w2];rfl
   ·show q.dov=false
    rw[hD.dov,hN.dov,hA.dov,hA.sd,w2];rfl
   ·show q.tl.colours=0 / 3
    rw[hD.col,hN.col,if_neg (by rw[hk];exact vZ),hA.col,w2];rfl
   ·show q.ctype≠cS
    rw[hc];exact Hj
 have hf:=iH c1 hb;obtain ⟨a1,a2,a3,a4⟩:=hA.on hf;have hb2:=wH hf hb;have ho:=FD (k:=k) hf hi;obtain ⟨o,hF⟩:=yM (k:=k) hf;have hoo:o=(f.over || decide (0<f.ids)):=by rw[hF] at ho;exact ho
 have q1:q.hd=f.hd:=by rw[hD.hd,hN.hd,a1]
 have q2:q.sp=(f.hasPal || decide (k=cq)):=by rw[hD.sp,hN.sp,hA.sp,hk]
 have q3:q.sc=(f.hasClear || decide (k=bZ)):=by rw[hD.sc,hN.sc,hA.sc,hk]
 have q4:q.sd=decide (0<f.ids):=by rw[hD.sd,hN.sd,hA.sd]
 have q5:q.dov=o:=by rw[hD.dov,hN.dov,hA.dov,hA.sd,hoo]
 have q6:q.tl.colours=if k=cq then d.length / 3 else f.pal.length / 3:=by rw[hD.col,hN.col,hk,hA.col,hl]
 have q7:q.st=t.st:=by rw[hD.st,hN.st]
 have q8:q.rw=t.rw:=by rw[hD.rw,hN.rw]
 rw[hF];by_cases c2:k=cq
 ·subst c2
  have i0:=AW hf hb2;have hz:f.z=[]:=by
   rcases hS with ⟨_,z⟩ | ⟨z,_⟩
   ·exact z
   ·omega
  have ea:q.accept=(q,0):=by unfold Rd.accept;rw[if_neg (by rw[hc];exact fun e=>vZ e.symm),if_neg (by rw[hc];exact xg)]
  have ee:({ f with over:=o }:Fl).ends cq d=({ f with over:=o,hasPal:=true,pal:=d },0):=by unfold Fl.ends;rw[if_neg (fun e=>vZ e.symm),if_pos rfl]
  rw[ea,ee];refine ⟨rfl,fun w=>absurd rfl w,fun _ p=>⟨⟨fun w=>(by rw[hf] at w;cases w),fun _=>⟨q1,a2,by show q.hd.W≠0;rw[q1,<- a1];exact a3,a4⟩,?_,?_,q4,q5,?_⟩,Or.inl ⟨i0,hz⟩,Or.inr ⟨hd0,?_⟩⟩⟩
  ·show q.sp=true
   rw[q2,decide_eq_true rfl,Bool.or_true]
  ·show q.sc=f.hasClear
   rw[q3,decide_eq_false xg,Bool.or_false]
  ·show q.tl.colours=d.length / 3
   rw[q6,if_pos rfl]
  ·show q.ctype≠cS
   rw[hc];exact Hh
 by_cases c3:k=bZ
 ·subst c3
  obtain ⟨i0,hK⟩:=AV hf a4 hb2;have hz:f.z=[]:=by
   rcases hS with ⟨_,z⟩ | ⟨z,_⟩
   ·exact z
   ·omega
  have ea:q.accept=(q,q.acceptClear):=by unfold Rd.accept;rw[if_neg (by rw[hc];exact fun e=>Ah e.symm),if_pos hc]
  have ee:({ f with over:=o }:Fl).ends bZ d=if f.hd.K≠3/\cU f.hd.D d=true then ({ f with over:=o },9) else ({ f with over:=o,hasClear:=true,clear:=d },0):=by unfold Fl.ends;rw[if_neg (fun e=>Ah e.symm),if_neg (fun e=>xg e.symm),if_pos rfl]
  have ec:q.acceptClear=if f.hd.K≠3/\cU f.hd.D d=true then 9 else 0:=by
   rcases hK with k3 | k3
   ·unfold Rd.acceptClear
    rw[if_pos (by rw[q1];exact k3),if_neg (fun e=>e.1 k3)]
   ·have hp:=GO (t:=q) (d:=d) (by rw[q1];rcases k3 with ⟨x,y⟩ | ⟨x,y⟩;exact Or.inl ⟨x,by omega⟩;exact Or.inr ⟨x,by omega⟩) (hD.clr hc2)
    rw[hp,q1];have hk3:f.hd.K≠3:=by omega
    by_cases e:cU f.hd.D d=true
    ·rw[if_pos e,if_pos ⟨hk3,e⟩]
    ·rw[if_neg e,if_neg (fun w=>e w.2)]
  rw[ea,ee,ec];by_cases e:f.hd.K≠3/\cU f.hd.D d=true
  ·rw[if_pos e,if_pos e]
   exact ⟨rfl,fun _=>Or.inl ⟨i0,hz⟩,fun w=>by cases w⟩
  ·rw[if_neg e,if_neg e]
   refine ⟨rfl,fun w=>absurd rfl w,fun _ p=>⟨⟨fun w=>(by rw[hf] at w;cases w),fun _=>⟨q1,a2,by show q.hd.W≠0;rw[q1,<- a1];exact a3,a4⟩,?_,?_,q4,q5,?_⟩,Or.inl ⟨i0,hz⟩,Or.inr ⟨hd0,?_⟩⟩⟩
   ·show q.sp=f.hasPal
    rw[q2,decide_eq_false (fun w=>c2 w),Bool.or_false]
   ·show q.sc=true
    rw[q3,decide_eq_true rfl,Bool.or_true]
   ·show q.tl.colours=f.pal.length / 3
    rw[q6,if_neg c2]
   ·show q.ctype≠cS
    rw[hc];exact Hg
 have ea:q.accept=(q,0):=by unfold Rd.accept;rw[if_neg (by rw[hc];exact c1),if_neg (by rw[hc];exact c3)]
 have ag:∀ (p:Nat) (dd:Bool),Ag (q.enter p) ({ f with over:=o,done:=dd }:Fl):=fun p dd=>⟨fun w=>(by rw[hf] at w;cases w),fun _=>⟨q1,a2,by show q.hd.W≠0;rw[q1,<- a1];exact a3,a4⟩,by show q.sp=f.hasPal;rw[q2,decide_eq_false c2,Bool.or_false],by show q.sc=f.hasClear;rw[q3,decide_eq_false c3,Bool.or_false],q4,q5,by show q.tl.colours=f.pal.length / 3;rw[q6,if_neg c2]⟩
 by_cases c4:k=cS
 ·subst c4
  have ee:({ f with over:=o }:Fl).ends cS d=({ f with over:=o,done:=true },0):=by unfold Fl.ends;rw[if_neg c1,if_neg c2,if_neg c3,if_pos rfl]
  rw[ea,ee];exact ⟨rfl,fun w=>absurd rfl w,fun _ p=>⟨ag p true,hS.to q7 q8 rfl rfl rfl,Or.inl ⟨rfl,hc⟩⟩⟩
 ·have ee:({ f with over:=o }:Fl).ends k d=({ f with over:=o },0):=by unfold Fl.ends;rw[if_neg c1,if_neg c2,if_neg c3,if_neg c4]
  rw[ea,ee];refine ⟨rfl,fun w=>absurd rfl w,fun _ p=>⟨?_,hS.to q7 q8 rfl rfl rfl,Or.inr ⟨hd0,by show q.ctype≠cS;rw[hc];exact c4⟩⟩⟩
  have:=ag p f.done
  exact this
theorem DO (s:Nat) (l m:List Nat):bE s (l++m)=bE (bE s l) m:=by unfold bE;rw[List.foldl_append]
theorem A6.enter {t q:Rd} (h:A6 t q) (p:Nat):A6 t (q.enter p):=⟨h.hd,h.st,h.rw,h.sd,h.sum,h.length,h.ctype,h.sp,h.sc,h.dov,h.col⟩
theorem CH {t:Rd} {f:Fl} {h r:List Nat} {k n i:Nat} {dn:Bool} (hA:Ag t f) (hS:Sm t f) (hk:t.ctype=k) (hn:t.length=n) (hsum:t.sum=bE au (h.drop 4)) (hi:k≠aJ) (hb:f.begE k n dn=0) (hd0:f.done=false) :
  lr (t.note.enter (if t.note.length=0 then 4 else 3)) r (Fl.body (f.begF k) k n h r i) i:=by
 have hN:=(vW (t:=t) (by rw[hk];exact hi)).enter (if t.note.length=0 then 4 else 3);have hlen:t.note.length=n:=(vW (t:=t) (by rw[hk];exact hi)).length.trans hn;rw[hlen] at hN ⊢;obtain ⟨s2,h2⟩:∃ s2,s2=t.note.enter (if n=0 then 4 else 3):=⟨_,rfl⟩;have p2:s2.part=if n=0 then 4 else 3:=by rw[h2];rfl
 have p3:s2.taken=0:=by rw[h2];rfl
 have p4:s2.number=0:=by rw[h2];rfl
 rw[<- h2] at hN ⊢;clear h2;have hc2:s2.ctype=k:=hN.ctype.trans hk;have hl2:s2.length=n:=hN.length.trans hn;have hs2:s2.sum=bE au (h.drop 4):=hN.sum.trans hsum;have hdata:∀ d j,(f.begF k).data k d j=f.begF k:=fun d j=>by unfold Fl.data;rw[if_neg hi]
 have hok:lj (f.begF k):=by
  refine hS.ok.to ?_ ?_ ?_
  ·unfold Fl.begF;split;rfl;split<;>rfl
  ·unfold Fl.begF;split;rfl;split<;>rfl
  ·unfold Fl.begF;split;rfl;split<;>rfl
 unfold Fl.body;rw[hdata];by_cases c:n<=r.length
 ·have key:∃ q,ak s2 r=shf n (ak q (r.drop n))/\DtA s2 (r.take n) q/\q.part=4/\q.taken=0/\q.number=0:=by
   by_cases n0:n=0
   ·subst n0
    rw[if_pos rfl] at p2;exact ⟨s2,rfl,DtA.refl s2,p2,p3,p4⟩
   ·rw[if_neg n0] at p2
    have hlt:(r.take n).length=n:=by simp;omega
    obtain ⟨q,d1,d2⟩:=Iy (s0:=s2) (by rw[hc2];exact hi) (r.take n) p2 p3 (by rw[hlt,hl2]) (by intro w;rw[w] at hlt;simp at hlt;omega);refine ⟨q.enter 4,?_,d1.enter 4,rfl,rfl,rfl⟩
    conv=>lhs;rw[<- List.take_append_drop n r]
    rw[ud,d2,if_pos rfl,hlt]
  obtain ⟨q,k1,k2,k3,k4,k5⟩:=key;refine C8 (k:=k) c k1 k3 k4 k5 (by rw[k2.sum,hs2,DO]) hok (fun x y u v => ?_);have hd:=(((k2.num x).num y).num u).num v;have ac:=FK (dn:=dn) hA hS hk hi (by rw[hn];exact hb) hd0 hN hd (by rw[hn];simp;omega);exact ⟨ac.1,ac.2.1,fun e=>ac.2.2 e _⟩
 ·have n0:¬ n=0:=by omega
  rw[if_neg n0] at p2;rw[if_pos (by omega)];obtain ⟨q,d1,d2,d3,d4⟩:=wy (s0:=s2) (by rw[hc2];exact hi) r [] s2 (DtA.refl s2) p2 p3 (by rw[hl2];simp;omega);refine lr.stop rfl (by rw[d1]) (fun w=>absurd rfl w) (fun _ => ?_) hok;rw[d1];show q.part≠5
  rw[d3];decide
theorem El {t:Rd} (hi:t.ctype=aJ):t.note=t.begin:=by
 have e1:t.note1=t.begin:=by unfold Rd.note1;rw[if_neg (by rw[hi];exact qL),if_neg (by rw[hi];exact qK),if_pos hi]
 have e2:t.begin.ctype=aJ:=by unfold Rd.begin;split<;>exact hi
 unfold Rd.note;rw[e1];unfold Rd.note2;rw[decide_eq_false (fun w=>w e2),Bool.and_false];rfl
theorem IdA.enter {s0 q:Rd} {dk:List Nat} (h:IdA s0 dk q) (p:Nat):IdA s0 dk (q.enter p):=⟨h.sum,h.ctype,h.length,h.hd,h.tl,h.sp,h.sc,h.sd,h.dov⟩
theorem Dj (f:Fl):f.ov aJ=false:=by unfold Fl.ov;simp
theorem IX {f:Fl} {n:Nat} {dn:Bool} (hf:f.first=true) (h:f.begE aJ n dn=0):f.over=false:=by
 unfold Fl.begE at h;by_cases c:tyB aJ=false
 ·rw[if_pos c] at h;cases h
 rw[if_neg c,hf,if_neg (show ¬ (true=false) by decide)] at h;rw[Dj,if_neg (by simp),if_neg kY,if_neg qL,if_neg qK,if_pos rfl] at h;cases he:f.over with
 | false=>rfl
 | true=>rw[he,if_pos (Or.inl rfl)] at h;cases h
theorem Fu {t:Rd} {f:Fl} {h r:List Nat} {n i:Nat} {dn:Bool} (hA:Ag t f) (hS:Sm t f) (hk:t.ctype=aJ) (hn:t.length=n) (hsum:t.sum=bE au (h.drop 4)) (hb:f.begE aJ n dn=0) (hd0:f.done=false) (hcap:Cap f.r0) :
  lr (t.note.enter (if t.note.length=0 then 4 else 3)) r (Fl.body (f.begF aJ) aJ n h r i) i:=by
 have hf:=iH kY hb;obtain ⟨a1,a2,a3,a4⟩:=hA.on hf;have hov:=IX hf hb;have hF:f.begF aJ=f:=by
  unfold Fl.begF;rw[if_neg (by rw[hf];decide)];rw[Dj,if_neg (by decide)]
 rw[El hk,hF];obtain ⟨b,hbg⟩:∃ b,b=t.begin:=⟨_,rfl⟩;have bl:b.length=n:=by rw[hbg,<- hn];unfold Rd.begin;split<;>rfl
 have bc:b.ctype=aJ:=by rw[hbg,<- hk];unfold Rd.begin;split<;>rfl
 have bs:b.sum=bE au (h.drop 4):=by rw[hbg,<- hsum];unfold Rd.begin;split<;>rfl
 have bh:b.hd=t.hd:=by rw[hbg];unfold Rd.begin;split<;>rfl
 have bt:b.tl=t.tl:=by rw[hbg];unfold Rd.begin;split<;>rfl
 have bp:b.sp=t.sp:=by rw[hbg];unfold Rd.begin;split<;>rfl
 have bq:b.sc=t.sc:=by rw[hbg];unfold Rd.begin;split<;>rfl
 have bo:b.dov=t.dov:=by rw[hbg];unfold Rd.begin;split<;>rfl
 have bd:b.sd=true:=by
  rw[hbg];unfold Rd.begin;cases e:t.sd with
  | true=>rw[if_pos rfl];exact e
  | false=>rw[if_neg (by decide)]
 have bsk:∀ d,SK f.r0 (f.z++d) f.z.length b.st b.rw:=fun d=>by
  by_cases c:0<f.ids
  ·have e:t.begin=t:=by unfold Rd.begin;rw[hA.sd,decide_eq_true c];rfl
   rw[hbg,e];exact hS.sk c d
  ·have hz:f.z=[]:=by
    rcases hS with ⟨_,z⟩ | ⟨z,_⟩
    ·exact z
    ·exact absurd z c
   have e:t.begin={ t with sd:=true,st:=St.start,rw:=Rw.start t.hd t.tl.colours }:=by unfold Rd.begin;rw[hA.sd,decide_eq_false c];rfl
   have er:Rw.start t.hd t.tl.colours=f.r0:=by unfold Fl.r0;rw[a1,hA.col]
   rw[hbg,e,hz,er];exact tY _ _
 rw[<- hbg,bl];clear hbg;obtain ⟨s2,h2⟩:∃ s2,s2=b.enter (if n=0 then 4 else 3):=⟨_,rfl⟩;have p2:s2.part=if n=0 then 4 else 3:=by rw[h2];rfl
 have p3:s2.taken=0:=by rw[h2];rfl
 have p4:s2.number=0:=by rw[h2];rfl
 have g:IdA b [] s2:=by rw[h2];exact ⟨rfl,rfl,rfl,rfl,rfl,rfl,rfl,rfl,rfl⟩
 have g1:s2.st=b.st:=by rw[h2];rfl
 have g2:s2.rw=b.rw:=by rw[h2];rfl
 rw[<- h2];clear h2;have gr:IdA s2 [] s2:=⟨rfl,rfl,rfl,rfl,rfl,rfl,rfl,rfl,rfl⟩;have hdt:∀ d,f.data aJ d i={ f with ids:=f.ids+1,z:=f.z++plc d i }:=fun d=>by unfold Fl.data;rw[if_pos rfl]
 have hr0:∀ d,(f.data aJ d i).r0=f.r0:=fun d=>by rw[hdt];rfl
 obtain ⟨sb1,sb2⟩:=zN (d:=r.take n) (i:=i) hcap bsk;have bad:(fi b.st b.rw (r.take n)).2.2≠0->∀ C:Ch,C.f=f.data aJ (r.take n) i->(ak s2 r).2.1=(fi b.st b.rw (r.take n)).2.2->(ak s2 r).2.2=stN b.st b.rw (r.take n)->lr s2 r C i:=fun e C hC h1 h3=>by
  refine lr.bad (by rw[h1];exact e) (by rw[hC,hdt];show 0<f.ids+1;omega) ?_;rw[hC,hr0,hdt,h1,h3];exact sb1 e
 have okE:∀ d,f.data aJ d i=((f.data aJ d i).ends aJ d).1:=fun d=>by unfold Fl.ends;rw[if_neg kY,if_neg qL,if_neg qK,if_neg wb]
 have okE2:∀ d,((f.data aJ d i).ends aJ d).2=0:=fun d=>by unfold Fl.ends;rw[if_neg kY,if_neg qL,if_neg qK,if_neg wb]
 have fld:∀ (C:Ch),C=Fl.body f aJ n h r i->C.f=f.data aJ (r.take n) i:=fun C hC=>by
  rw[hC];unfold Fl.body;split
  ·rfl
  ·split
   ·rfl
   ·split
    ·exact (okE _).symm
    ·exact (okE _).symm
 have fin:∀ (q:Rd),IdA s2 (r.take n) q->q.st=(fi b.st b.rw (r.take n)).1->q.rw=(fi b.st b.rw (r.take n)).2.1->(fi b.st b.rw (r.take n)).2.2=0->q.part=4->q.taken=0->q.number=0->n<=r.length->ak s2 r=shf n (ak q (r.drop n))->lr s2 r (Fl.body f aJ n h r i) i:=by
  intro q I1 I2 I3 I4 I5 I6 I7 I8 I9;have hok:lj (f.data aJ (r.take n) i):=Or.inr ⟨by rw[hdt];show 0<f.ids+1;omega,q.st,q.rw,by
   have:=sb2 I4 []
   rw[List.append_nil] at this;rw[hr0,hdt,I2,I3];exact this⟩
  refine C8 (k:=aJ) I8 I9 I5 I6 I7 (by rw[I1.sum,g.sum,bs];show bE (bE (bE au (h.drop 4)) []) _=_;rw[DO];rfl) hok (fun x y u v => ?_);have hcq:((((q.num x).num y).num u).num v).ctype=aJ:=(I1.ctype.trans g.ctype).trans bc;have ea:((((q.num x).num y).num u).num v).accept=((((q.num x).num y).num u).num v,0):=by
   unfold Rd.accept;rw[if_neg (by rw[hcq];exact kY),if_neg (by rw[hcq];exact qK)]
  rw[ea,okE2,<- okE];refine ⟨rfl,fun w=>absurd rfl w,fun _=>⟨?_,?_,Or.inr ⟨by rw[hdt];exact hd0,by show ((((q.num x).num y).num u).num v).ctype≠cS;rw[hcq];exact wb⟩⟩⟩
  ·rw[hdt]
   exact ⟨fun w=>(by rw[hf] at w;cases w),fun _=>⟨by show q.hd=_;rw[I1.hd,g.hd,bh,a1],a2,by show q.hd.W≠0;rw[I1.hd,g.hd,bh];exact a3,a4⟩,by show q.sp=_;rw[I1.sp,g.sp,bp,hA.sp],by show q.sc=_;rw[I1.sc,g.sc,bq,hA.sc],by show q.sd=decide (0<f.ids+1);rw[I1.sd,g.sd,bd,decide_eq_true (by omega)],by show q.dov=_;rw[I1.dov,g.dov,bo,hA.dov],by show q.tl.colours=_;rw[I1.tl,g.tl,bt,hA.col]⟩
  ·rw[hdt]
   refine Or.inr ⟨by show 0<f.ids+1;omega,fun e => ?_⟩;show SK f.r0 (f.z++plc (r.take n) i++e) (f.z++plc (r.take n) i).length q.st q.rw
   rw[I2,I3];exact sb2 I4 e
 by_cases n0:n=0
 ·subst n0
  rw[if_pos rfl] at p2;exact fin s2 gr g1 g2 rfl p2 p3 p4 (Nat.zero_le _) rfl
 ·rw[if_neg n0] at p2
  have hle:(r.take n).length<=n:=by simp;omega
  have I:=Dx (s0:=s2) (g.ctype.trans bc) (r.take n) [] s2 gr p2 p3 (by rw[g.length,bl];simpa using hle);rw[g1,g2] at I;rcases I with ⟨e1,e2,e3⟩ | ⟨e1,q,e2,e3,e4,e5,e6,e7⟩
  ·have er:ak s2 r=ak s2 (r.take n):=by
    conv=>lhs;rw[<- List.take_append_drop n r]
    rw[ud,if_neg (by rw[e2];exact e1)]
   exact bad e1 _ (fld _ rfl) (by rw[er];exact e2) (by rw[er];exact e3)
  ·rw[List.nil_append] at e3 e5
   by_cases c:n<=r.length
   ·have hlt:(r.take n).length=n:=by simp;omega
    rw[if_pos ⟨by intro w;rw[w] at hlt;simp at hlt;omega,by rw[g.length,bl];simp;omega⟩] at e2;refine fin (q.enter 4) (e3.enter 4) e6 e7 e1 rfl rfl rfl c ?_
    conv=>lhs;rw[<- List.take_append_drop n r]
    rw[ud,e2,if_pos rfl,hlt]
   ·have hr:r.take n=r:=List.take_of_length_le (by omega)
    rw[hr] at e2;rw[if_neg (fun w=>by have:=w.2;rw[g.length,bl] at this;simp at this;omega)] at e2;unfold Fl.body;rw[if_pos (by omega)];refine lr.stop rfl (by rw[e2]) (fun w=>absurd rfl w) (fun _ => ?_) ?_
    ·rw[e2];show q.part≠5;rw[e4];decide
    ·refine Or.inr ⟨by rw[hdt];show 0<f.ids+1;omega,q.st,q.rw,?_⟩
     have:=sb2 e1 []
     rw[List.append_nil] at this;rw[hr0,hdt,e6,e7];exact this
def lC (s:Rd) (l:List Nat) (C:Ch) (i:Nat):Prop:=
 (∃ (h1:(ak s l).2.1≠0) (h2:0<C.f.ids) (h3:fc C.f.r0 C.f.z (ak s l).2.1 (i+(ak s l).2.2)),True) \/
 (∃ (h1:C.took=0) (h2:(ak s l).2.1=C.err) (h3:C.err≠0->(ak s l).2.2=C.at') (h4:C.err=0->(ak s l).1.part≠5) (h5:lj C.f),True) \/
 (∃ (s':Rd) (h1:8<=C.took) (h0:C.err=0) (hm:C.took<=l.length) (h2:ak s l=shf C.took (ak s' (l.drop C.took))) (h3:Ag s' C.f) (h4:Sm s' C.f) (h5:(C.f.done=true/\s'.part=5)\/(C.f.done=false/\s'.part=1/\s'.taken=0/\s'.number=0)),True)
theorem lC.bad {s:Rd} {l:List Nat} {C:Ch} {i:Nat} (h1:(ak s l).2.1≠0) (h2:0<C.f.ids) (h3:fc C.f.r0 C.f.z (ak s l).2.1 (i+(ak s l).2.2)):lC s l C i:=Or.inl ⟨h1,h2,h3,trivial⟩
theorem lC.stop {s:Rd} {l:List Nat} {C:Ch} {i:Nat} (h1:C.took=0) (h2:(ak s l).2.1=C.err) (h3:C.err≠0->(ak s l).2.2=C.at') (h4:C.err=0->(ak s l).1.part≠5) (h5:lj C.f):lC s l C i:=Or.inr (Or.inl ⟨h1,h2,h3,h4,h5,trivial⟩)
theorem lC.on {s:Rd} {l:List Nat} {C:Ch} {i:Nat} (s':Rd) (h1:8<=C.took) (h0:C.err=0) (hm:C.took<=l.length) (h2:ak s l=shf C.took (ak s' (l.drop C.took))) (h3:Ag s' C.f) (h4:Sm s' C.f) (h5:(C.f.done=true/\s'.part=5)\/(C.f.done=false/\s'.part=1/\s'.taken=0/\s'.number=0)):lC s l C i:=Or.inr (Or.inr ⟨s',h1,h0,hm,h2,h3,h4,h5,trivial⟩)
theorem lC.cs {s:Rd} {l:List Nat} {C:Ch} {i:Nat} {motive:lC s l C i->Prop}
  (bad:∀ (h1:(ak s l).2.1≠0) (h2:0<C.f.ids) (h3:fc C.f.r0 C.f.z (ak s l).2.1 (i+(ak s l).2.2)),motive (lC.bad h1 h2 h3))
  (stop:∀ (h1:C.took=0) (h2:(ak s l).2.1=C.err) (h3:C.err≠0->(ak s l).2.2=C.at') (h4:C.err=0->(ak s l).1.part≠5) (h5:lj C.f),motive (lC.stop h1 h2 h3 h4 h5))
  (on:∀ (s':Rd) (h1:8<=C.took) (h0:C.err=0) (hm:C.took<=l.length) (h2:ak s l=shf C.took (ak s' (l.drop C.took))) (h3:Ag s' C.f) (h4:Sm s' C.f) (h5:(C.f.done=true/\s'.part=5)\/(C.f.done=false/\s'.part=1/\s'.taken=0/\s'.number=0)),motive (lC.on s' h1 h0 hm h2 h3 h4 h5))
  (h:lC s l C i):motive h:=by
 rcases h with ⟨h1,h2,h3,_⟩ | ⟨h1,h2,h3,h4,h5,_⟩ | ⟨s',h1,h0,hm,h2,h3,h4,h5,_⟩
 ·exact bad h1 h2 h3
 ·exact stop h1 h2 h3 h4 h5
 ·exact on s' h1 h0 hm h2 h3 h4 h5
theorem vq (a b:Nat) (q:Rd × Nat × Nat):shf a (shf b q)=shf (b+a) q:=by
 unfold shf;simp;omega
theorem M9 {a b c d:Nat} (ha:a<256) (hb:b<256) (hc:c<256) (hd:d<256):n4 a b c d<4294967296:=by unfold n4;omega
theorem DG (l:List Nat) (h:4<=l.length):∃ a b c d r,l=a::b::c::d::r:=by
 match l,h with
 | a::b::c::d::r,_=>exact ⟨a,b,c,d,r,rfl⟩
theorem AL {s:Rd} {f:Fl} {l:List Nat} {i:Nat} {dn:Bool} (hA:Ag s f) (hS:Sm s f) (hp:s.part=1) (ht:s.taken=0) (hm:s.number=0) (hd0:f.done=false) (hb:∀ x ∈ l,x<256) (hcap:f.first=true->Cap f.r0) (hdn:dn=decide (s.st.part=10)) :
  lC s l (f.chunk l i dn) i:=by
 subst hdn;unfold Fl.chunk;by_cases c1:l.length<4
 ·rw[if_pos c1]
  obtain ⟨s',e1,e2,e3⟩:=yu 1 (Or.inl rfl) l s hp (by omega);refine lC.stop rfl (by rw[e1]) (fun w=>absurd rfl w) (fun _ => ?_) hS.ok;rw[e1];show s'.part≠5;rw[e3];decide
 rw[if_neg c1];obtain ⟨a,b,c,d,r,rfl⟩:=DG l (by omega);have hl4:=Hu (a:=a) (b:=b) (c:=c) (d:=d) (r:=r) hp ht hm;show lC s _ (if 2147483648<=n4 a b c d then _ else _) i
 by_cases c2:2147483648<=n4 a b c d
 ·rw[if_pos c2]
  rw[if_pos c2] at hl4;refine lC.stop rfl (by rw[hl4]) (fun _=>by rw[hl4]) (fun w=>by cases w) hS.ok
 rw[if_neg c2];rw[if_neg c2] at hl4;have sm1:lF s (lnS s (n4 a b c d)):=⟨rfl,rfl,rfl,rfl,rfl,rfl,rfl,rfl⟩;by_cases c3:(a::b::c::d::r).length<8
 ·rw[if_pos c3]
  obtain ⟨s',e1,e2,e3⟩:=yu 2 (Or.inr (Or.inl rfl)) r (lnS s (n4 a b c d)) rfl (by show 0+r.length<4;simp at c3;omega);rw[e1] at hl4;refine lC.stop rfl (by rw[hl4];rfl) (fun w=>absurd rfl w) (fun _ => ?_) hS.ok;rw[hl4];show s'.part≠5;rw[e3];decide
 rw[if_neg c3];obtain ⟨a',b',c',d',r2,rfl⟩:=DG r (by simp at c3;omega);have ht4:=Jr (s:=lnS s (n4 a b c d)) (a:=a') (b:=b') (c:=c') (d:=d') (r:=r2) rfl rfl rfl;obtain ⟨t,htt⟩:∃ t,t=tyS (lnS s (n4 a b c d)) (n4 a' b' c' d') (bE (lnS s (n4 a b c d)).sum [a',b',c',d']):=⟨_,rfl⟩;rw[<- htt] at ht4;have smt:lF s t:=by rw[htt];exact ⟨rfl,rfl,rfl,rfl,rfl,rfl,rfl,rfl⟩
 have hct:t.ctype=n4 a' b' c' d':=by rw[htt];rfl
 have hlt:t.length=n4 a b c d:=by rw[htt];rfl
 have hst:t.sum=bE au [a',b',c',d']:=by rw[htt];rfl
 have hm':∀ x,x ∈ [a',b',c',d']->x<256:=fun x hx=>hb x (by simp at hx ⊢;rcases hx with rfl | rfl | rfl | rfl<;>simp)
 have hk:n4 a' b' c' d'<4294967296:=M9 (hm' a' (by simp)) (hm' b' (by simp)) (hm' c' (by simp)) (hm' d' (by simp));have hAt:=hA.same smt;have hSt:=hS.same smt;have hbe:=IW hAt (by rw[hct];exact hk);rw[hct,hlt,smt.st] at hbe;rw[hbe] at ht4;show lC s _ (if f.begE (n4 a' b' c' d') (n4 a b c d) (decide (s.st.part=10))≠0 then ⟨f,f.begE (n4 a' b' c' d') (n4 a b c d) (decide (s.st.part=10)),7,0⟩ else Fl.body (f.begF (n4 a' b' c' d')) (n4 a' b' c' d') (n4 a b c d) [a,b,c,d,a',b',c',d'] r2 (i+8)) i
 by_cases c4:f.begE (n4 a' b' c' d') (n4 a b c d) (decide (s.st.part=10))≠0
 ·rw[if_pos c4]
  rw[if_pos c4] at ht4;rw[ht4] at hl4;refine lC.stop rfl (by rw[hl4];rfl) (fun _=>by rw[hl4];rfl) (fun w=>absurd w c4) hS.ok
 rw[if_neg c4];rw[if_neg c4] at ht4;rw[ht4,vq] at hl4;have c4':f.begE (n4 a' b' c' d') (n4 a b c d) (decide (s.st.part=10))=0:=by omega
 have B:lr (t.note.enter (if t.note.length=0 then 4 else 3)) r2 (Fl.body (f.begF (n4 a' b' c' d')) (n4 a' b' c' d') (n4 a b c d) [a,b,c,d,a',b',c',d'] r2 (i+8)) (i+8):=by
  by_cases ci:n4 a' b' c' d'=aJ
  ·rw[ci] at hct c4' ⊢
   exact Fu hAt hSt hct hlt hst c4' hd0 (hcap (iH kY c4'))
  ·exact CH hAt hSt hct hlt hst ci c4' hd0
 generalize Fl.body (f.begF (n4 a' b' c' d')) (n4 a' b' c' d') (n4 a b c d) [a,b,c,d,a',b',c',d'] r2 (i+8)=C at B;generalize t.note.enter (if t.note.length=0 then 4 else 3)=s2 at B hl4;cases B using lr.cs with
 | bad h1 h2 h3=>
  refine lC.bad (by rw[hl4];exact h1) h2 ?_;rw[hl4];show fc C.f.r0 C.f.z (ak s2 r2).2.1 (i+((ak s2 r2).2.2+(4+4)))
  rw[show i+((ak s2 r2).2.2+(4+4))=i+8+(ak s2 r2).2.2 by omega];exact h3
 | stop h1 h2 h3 h4 h5=>
  refine lC.stop h1 (by rw[hl4];exact h2) (fun w => ?_) (fun w=>by rw[hl4];exact h4 w) h5;rw[hl4];show (ak s2 r2).2.2+(4+4)=_
  have:=h3 w
  omega
 | on m s' h1 h0 hm h2 h3 h4 h5=>
  refine lC.on s' (by omega) h0 (by rw[h1];simp;omega) ?_ h3 h4 h5;rw[hl4,h2,h1,vq,show m+(4+4)=8+m by omega];rw[show 8+m=m+8 by omega];rfl
structure Jk (h:Hd):Prop where
 W:h.W<=16
 H:h.H<=16
 W1:1<=h.W
 H1:1<=h.H
 L:h.L<=1
 D:okD h.D
 K:kOk h.K
 leg:(h.K=0\/h.K=3)\/(h.D=8\/h.D=16)
theorem Jk.bits {h:Hd} (k:Jk h):1<=bG h:=by
 have h1:=k.D;have h2:=k.K;unfold okD at h1;unfold bG
 have:1<=chn h.K:=by rcases h2 with e | e | e | e | e<;>rw[e]<;>decide
 have:=Nat.mul_le_mul this (show 1<=h.D by omega)
 omega
theorem Hx {k d:Nat} (h:¬ lx k d=false):kOk k/\okD d/\((k=0\/k=3)\/(d=8\/d=16)):=by
 have hk:=xh h;refine ⟨hk,?_⟩;unfold lx at h;unfold okD;rcases hk with e | e | e | e | e<;>subst e<;>simp at h<;>omega
theorem xj (r:Nat->Nat) (h:(aB r).1=0):Jk (aB r).2:=by
 unfold aB at h ⊢;simp only at h ⊢
 split at h
 ·cases h
 ·split at h
  ·cases h
  ·split at h
   ·cases h
   ·rename_i h1 h2 h3
    rw[if_neg h1,if_neg h2,if_neg h3];have hl:¬ lx (r 9) (r 8)=false:=fun q=>h1 (Or.inr (Or.inr (Or.inr (Or.inr q))))
    obtain ⟨l1,l2,l3⟩:=Hx hl;have w0:¬ ((r 0*256+r 1)*256+r 2)*256+r 3=0:=fun q=>h1 (Or.inl q)
    have g0:¬ ((r 4*256+r 5)*256+r 6)*256+r 7=0:=fun q=>h1 (Or.inr (Or.inl q))
    have l0:¬ 1<r 12:=fun q=>h2 (Or.inr (Or.inr q))
    exact ⟨by show ((r 0*256+r 1)*256+r 2)*256+r 3<=16;omega,by show ((r 4*256+r 5)*256+r 6)*256+r 7<=16;omega,by show 1<=((r 0*256+r 1)*256+r 2)*256+r 3;omega,by show 1<=((r 4*256+r 5)*256+r 6)*256+r 7;omega,by show r 12<=1;omega,l2,l1,l3⟩
structure FOk (f:Fl):Prop where
 ids:0<f.ids->f.first=true
 on:f.first=true->f.on=true/\Jk f.hd
 z:f.ids=0->f.z=[]
theorem FOk.cap {f:Fl} (h:FOk f) (hf:f.first=true):Cap f.r0:=by
 obtain ⟨_,k⟩:=h.on hf;exact Ft k.W k.H k.D k.bits
structure gf (f g:Fl):Prop where
 ids:f.ids<=g.ids
 z:∃ d,g.z=f.z++d
 r0:0<f.ids->g.r0=f.r0
theorem gf.refl (f:Fl):gf f f:=⟨Nat.le_refl _,⟨[],by simp⟩,fun _=>rfl⟩
theorem KS {f:Fl} {k n:Nat} {dn:Bool} (h:FOk f) (hb:f.begE k n dn=0):gf f (f.begF k)/\(f.begF k).first=true/\(k≠aY->FOk (f.begF k))/\(k=aY->f.first=false):=by
 by_cases hf:f.first=true
 ·obtain ⟨o,e⟩:=yM (k:=k) hf
  rw[e];exact ⟨⟨Nat.le_refl _,⟨[],by simp⟩,fun _=>rfl⟩,hf,fun _=>⟨h.ids,h.on,h.z⟩,fun q=>by subst q;exact (wI hb).1⟩
 ·have hf':f.first=false:=by simpa using hf
  have e:f.begF k={ f with first:=true }:=by unfold Fl.begF;rw[if_pos hf']
  rw[e];refine ⟨⟨Nat.le_refl _,⟨[],by simp⟩,fun _=>rfl⟩,rfl,fun q => ?_,fun _=>hf'⟩;exact absurd (iH q hb) hf
theorem KA {f:Fl} {k:Nat} (h:FOk f\/k=aY) (hf:f.first=true) (d:List Nat) (i:Nat):gf f (f.data k d i)/\(k≠aY->FOk (f.data k d i)):=by
 unfold Fl.data;by_cases c:k=aJ
 ·rw[if_pos c]
  refine ⟨⟨by show f.ids<=f.ids+1;omega,⟨plc d i,rfl⟩,fun _=>rfl⟩,fun q => ?_⟩;rcases h with h | h
  ·exact ⟨fun _=>hf,h.on,fun w=>by cases w⟩
  ·exact absurd h q
 ·rw[if_neg c]
  refine ⟨gf.refl f,fun q => ?_⟩;rcases h with h | h
  ·exact h
  ·exact absurd h q
theorem gf.trans {a b c:Fl} (h:gf a b) (k:gf b c):gf a c:=by
 obtain ⟨d,hd⟩:=h.z;obtain ⟨e,he⟩:=k.z;refine ⟨Nat.le_trans h.ids k.ids,⟨d++e,by rw[he,hd,List.append_assoc]⟩,fun q => ?_⟩
 have:=h.ids
 rw[k.r0 (by omega),h.r0 q]
theorem Ks {f f0:Fl} {k n:Nat} {dn:Bool} {d:List Nat} (h:k≠aY->FOk f) (hf:f.first=true) (hz:k=aY->f.ids=0/\f.z=[]) (hp:k=cq->f.ids=0):gf f (f.ends k d).1/\((f.ends k d).2=0->FOk (f.ends k d).1):=by
 unfold Fl.ends;by_cases c1:k=aY
 ·rw[if_pos c1]
  obtain ⟨z1,z2⟩:=hz c1;by_cases e:(aB (fun i=>d.getD i 0)).1≠0
  ·rw[if_pos e]
   exact ⟨gf.refl f,fun w=>absurd w e⟩
  ·rw[if_neg e]
   refine ⟨⟨Nat.le_refl _,⟨[],by simp⟩,fun w=>absurd w (by omega)⟩,fun _=>⟨fun w=>hf,fun _=>⟨rfl,xj _ (by omega)⟩,fun _=>z2⟩⟩
 rw[if_neg c1];have hk:=h c1;by_cases c2:k=cq
 ·rw[if_pos c2]
  have i0:=hp c2;exact ⟨⟨Nat.le_refl _,⟨[],by simp⟩,fun w=>absurd w (by omega)⟩,fun _=>⟨hk.ids,hk.on,hk.z⟩⟩
 rw[if_neg c2];by_cases c3:k=bZ
 ·rw[if_pos c3]
  by_cases e:f.hd.K≠3/\cU f.hd.D d=true
  ·rw[if_pos e];exact ⟨gf.refl f,fun w=>by cases w⟩
  ·rw[if_neg e];exact ⟨⟨Nat.le_refl _,⟨[],by simp⟩,fun _=>rfl⟩,fun _=>⟨hk.ids,hk.on,hk.z⟩⟩
 rw[if_neg c3];by_cases c4:k=cS
 ·rw[if_pos c4];exact ⟨⟨Nat.le_refl _,⟨[],by simp⟩,fun _=>rfl⟩,fun _=>⟨hk.ids,hk.on,hk.z⟩⟩
 ·rw[if_neg c4];exact ⟨gf.refl f,fun _=>hk⟩
theorem chunk_ok {f:Fl} (h:FOk f) (l:List Nat) (i:Nat) (dn:Bool):gf f (f.chunk l i dn).f/\((f.chunk l i dn).took≠0->FOk (f.chunk l i dn).f):=by
 unfold Fl.chunk;by_cases c1:l.length<4
 ·rw[if_pos c1];exact ⟨gf.refl f,fun w=>absurd rfl w⟩
 rw[if_neg c1];by_cases c2:2147483648<=n4 (l.getD 0 0) (l.getD 1 0) (l.getD 2 0) (l.getD 3 0)
 ·rw[if_pos c2];exact ⟨gf.refl f,fun w=>absurd rfl w⟩
 rw[if_neg c2];by_cases c3:l.length<8
 ·rw[if_pos c3];exact ⟨gf.refl f,fun w=>absurd rfl w⟩
 rw[if_neg c3];generalize n4 (l.getD 4 0) (l.getD 5 0) (l.getD 6 0) (l.getD 7 0)=k;generalize n4 (l.getD 0 0) (l.getD 1 0) (l.getD 2 0) (l.getD 3 0)=n;by_cases c4:f.begE k n dn≠0
 ·rw[if_pos c4];exact ⟨gf.refl f,fun w=>absurd rfl w⟩
 rw[if_neg c4];have c4':f.begE k n dn=0:=by omega
 obtain ⟨b1,b2,b3,b4⟩:=KS h c4';have D:=KA (f:=f.begF k) (k:=k) (by by_cases q:k=aY;exact Or.inr q;exact Or.inl (b3 q)) b2 ((l.drop 8).take n) (i+8);have hgd:=b1.trans D.1;have hfd:((f.begF k).data k ((l.drop 8).take n) (i+8)).first=true:=by unfold Fl.data;split<;>exact b2
 have E:=Ks (n:=n) (dn:=dn) (f0:=f) (d:=(l.drop 8).take n) D.2 hfd (fun q=>by
   have hf0:=b4 q;have i0:f.ids=0:=by
    by_cases e:0<f.ids
    ·rw[h.ids e] at hf0;cases hf0
    ·omega
   subst q;have e:(f.begF aY).data aY ((l.drop 8).take n) (i+8)={ f with first:=true }:=by unfold Fl.data;rw[if_neg (fun w=>kY w.symm)];unfold Fl.begF;rw[if_pos hf0]
   rw[e];exact ⟨i0,h.z i0⟩) (fun q=>by
   subst q;have hf:f.first=true:=iH (fun e=>vZ e.symm) c4';have i0:=AW hf (wH hf c4');obtain ⟨o,e⟩:=yM (k:=cq) hf;have e2:(f.begF cq).data cq ((l.drop 8).take n) (i+8)=f.begF cq:=by unfold Fl.data;rw[if_neg (fun w=>qL w.symm)]
   rw[e2,e];exact i0)
 unfold Fl.body;generalize (f.begF k).data k ((l.drop 8).take n) (i+8)=g at *;by_cases q1:(l.drop 8).length<n+4
 ·rw[if_pos q1];exact ⟨hgd,fun w=>absurd rfl w⟩
 rw[if_neg q1];by_cases q2:bL (bE au ((l.take 8).drop 4++(l.drop 8).take n))≠n4 ((l.drop 8).getD n 0) ((l.drop 8).getD (n+1) 0) ((l.drop 8).getD (n+2) 0) ((l.drop 8).getD (n+3) 0)
 ·rw[if_pos q2];exact ⟨hgd,fun w=>absurd rfl w⟩
 rw[if_neg q2];by_cases q3:(g.ends k ((l.drop 8).take n)).2≠0
 ·rw[if_pos q3];exact ⟨hgd.trans E.1,fun w=>absurd rfl w⟩
 ·rw[if_neg q3];exact ⟨hgd.trans E.1,fun _=>E.2 (by omega)⟩
