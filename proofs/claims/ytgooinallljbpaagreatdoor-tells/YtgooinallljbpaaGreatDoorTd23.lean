import Derived.Test.YtgooinallljbpaaGreatDoorTd22
import Derived.Test.YtgooinallljbpaaGreatDoorTd02
set_option maxRecDepth 100000
set_option maxHeartbeats 6400000
namespace Go.Proofs.YtgooinallljbpaaGreatDoor
open Go.RowKit Px
set_option linter.unusedSimpArgs false
set_option linter.unusedVariables false
def ld (s:St) (r:Rw) (σ:Int):St × Rw × Nat:=if s.part=12 then fK s r σ else if s.part=11 then ((s.codeLen σ).1,r,(s.codeLen σ).2) else eY s r σ
theorem Kb:∀ j,j<29->uL.getD j 0=aG (j+257)/\sF.getD j 0=bH (j+257):=by decide
theorem Kr:∀ d,d<30->sJ.getD d 0=bI d/\1<=bI d:=by decide
theorem Gi {r0:Rw} {s:St} {r:Rw} {t:Px.St} {c p nl nd:Nat} {sl out:List Nat} (h:Cm r0 s r t) (hp:t.ph = .clen nl nd sl out) (hq:gE s t.ph) (hk:s.skip=false) (hc:c<sl.length):bu r0 (ld s r (c:Int)) p (cZ t c p):=by
 rw[hp] at hq;obtain ⟨h2,hl⟩:=hq;have h19:=hl.sl19;have hlt:=hl.lt;unfold ld cZ;rw[if_neg (by omega),if_pos h2,hp];show bu r0 ((s.codeLen (c:Int)).1,r,(s.codeLen (c:Int)).2) p (if c<16 then t.lens nl nd sl (out++[c]) else if c=16/\out=[] then _ else _)
 unfold St.codeLen;rw[if_neg (show ¬ ((c:Int) = -1) by omega),if_neg (show ¬ ((c:Int) = -2) by omega)];by_cases c16:c<16
 ·rw[if_neg (show ¬ ((c:Int)=16) by omega),if_neg (show ¬ ((c:Int)=17) by omega),if_neg (show ¬ ((c:Int)=18) by omega),if_pos c16]
  have hs:A7 (s.setRep (c:Int)) nl nd sl out:=⟨hl.lit,hl.dist,hl.b1,hl.b2,hl.b3,hl.b4,hl.told,hl.ls,hl.le,hl.lt,hl.code,hl.sl19⟩
  have:=vu (p:=p) (k:=1) (x:=c) (s:=s.setRep (c:Int)) (r:=r) (t:=t) (r0:=r0) ⟨h.win,h.last,h.cnt,h.hist,h.sum,h.rows⟩ hs (by omega) hk
  rw[if_neg (by omega)] at this;rw[Int.toNat_natCast];exact this
 rw[if_neg c16];by_cases e16:c=16
 ·subst e16
  rw[if_pos (show ((16:Nat):Int)=16 from rfl),hl.told];by_cases e0:out=[]
  ·subst e0
   rw[if_pos (show ([]:List Nat).length=0 from rfl),if_pos ⟨rfl,rfl⟩];exact ⟨rfl,by decide⟩
  ·rw[if_neg (by intro q;exact e0 (List.length_eq_zero_iff.1 q)),if_neg (fun q=>e0 q.2)]
   exact Or.inl ⟨rfl,⟨⟨h.win,h.last,h.cnt,h.hist,h.sum,h.rows⟩,⟨rfl,rfl,rfl,Or.inl rfl,fun _=>e0,hl.lit,hl.dist,hl.b1,hl.b2,hl.b3,hl.b4,hl.told,hl.ls,hl.le,hl.lt,hl.code,hl.sl19⟩,rfl,rfl,rfl⟩,hk⟩
 rw[if_neg (show ¬ ((c:Int)=16) by omega),if_neg (show ¬ (c=16/\out=[]) from fun q=>e16 q.1)];by_cases e17:c=17
 ·subst e17
  rw[if_pos (show ((17:Nat):Int)=17 from rfl)];exact Or.inl ⟨rfl,⟨⟨h.win,h.last,h.cnt,h.hist,h.sum,h.rows⟩,⟨rfl,rfl,rfl,Or.inr (Or.inl rfl),(fun q=>absurd q (by decide)),hl.lit,hl.dist,hl.b1,hl.b2,hl.b3,hl.b4,hl.told,hl.ls,hl.le,hl.lt,hl.code,hl.sl19⟩,rfl,rfl,rfl⟩,hk⟩
 ·have e18:c=18:=by omega
  subst e18;rw[if_neg (show ¬ (((18:Nat):Int)=17) by omega),if_pos (show ((18:Nat):Int)=18 from rfl)];exact Or.inl ⟨rfl,⟨⟨h.win,h.last,h.cnt,h.hist,h.sum,h.rows⟩,⟨rfl,rfl,rfl,Or.inr (Or.inr rfl),(fun q=>absurd q (by decide)),hl.lit,hl.dist,hl.b1,hl.b2,hl.b3,hl.b4,hl.told,hl.ls,hl.le,hl.lt,hl.code,hl.sl19⟩,rfl,rfl,rfl⟩,hk⟩
theorem Jv {r0:Rw} {s:St} {r:Rw} {t:Px.St} {c p:Nat} {lit dist:List Nat} (hcap:Cap r0) (h:Cm r0 s r t) (hp:t.ph = .sym lit dist) (hq:gE s t.ph) (hk:s.skip=false):bu r0 (ld s r (c:Int)) p (cZ t c p):=by
 rw[hp] at hq;obtain ⟨h2,hd⟩:=hq;unfold ld cZ;rw[if_pos h2,hp];show bu r0 (fK s r (c:Int)) p (if c<256 then (t.give c p).to (.sym lit dist) else if c=256 then t.endBlock else if 285<c then .err 13 else if aG c=0 then t.to (.dist lit dist (bH c)) else t.to (.lrest lit dist (bH c) (aG c)))
 unfold fK;rw[if_neg (show ¬ ((c:Int) = -1) by omega)];by_cases c1:c<256
 ·rw[if_neg (show ¬ ((c:Int)<0\/286<=(c:Int)) by omega),if_neg (show ¬ ((c:Int)=256) by omega),if_neg (show ¬ (257<=(c:Int)) by omega),if_pos c1,Int.toNat_natCast]
  have h':Cm r0 (s.enter 12 0) r t:=h.enter _ _;rcases yp hcap h' c p with ⟨g1,g2,g3⟩ | ⟨g1,g2⟩
  ·have e1:(aD (s.enter 12 0) r c).1=(s.enter 12 0).give c:=by rw[g2]
   refine Or.inl ⟨g1,⟨?_,?_,?_,?_,?_⟩,?_⟩
   ·rw[e1];exact ⟨g3.win,g3.last,g3.cnt,g3.hist,g3.sum,g3.rows⟩
   ·rw[e1];exact ⟨rfl,hd.lit,hd.dist⟩
   ·rw[e1];rfl
   ·rw[e1];rfl
   ·rw[e1];rfl
   ·rw[e1];exact hk
  ·exact Or.inr ⟨g1,g2⟩
 rw[if_neg c1];by_cases c2:c=256
 ·rw[if_neg (show ¬ ((c:Int)<0\/286<=(c:Int)) by omega),if_pos (show (c:Int)=256 by omega),if_pos c2]
  exact yx p h hk
 rw[if_neg c2];by_cases c3:285<c
 ·rw[if_pos c3,if_pos (Or.inr (by omega))]
  exact ⟨rfl,by decide⟩
 rw[if_neg c3,if_neg (by omega),if_neg (by omega),if_pos (show 257<=(c:Int) by omega)];obtain ⟨t1,t2⟩:=Kb (c - 257) (by omega);have ec:c - 257+257=c:=by omega
 rw[ec] at t1 t2;have en:(c:Int).toNat - 257=c - 257:=by rw[Int.toNat_natCast]
 rw[en];unfold St.copy;rw[t1,t2];by_cases q:aG c=0
 ·rw[if_pos q,if_pos q]
  exact Or.inl ⟨rfl,⟨⟨h.win,h.last,h.cnt,h.hist,h.sum,h.rows⟩,⟨rfl,rfl,hd.lit,hd.dist⟩,rfl,rfl,rfl⟩,hk⟩
 ·rw[if_neg q,if_neg q]
  exact Or.inl ⟨rfl,⟨⟨h.win,h.last,h.cnt,h.hist,h.sum,h.rows⟩,⟨rfl,rfl,by omega,rfl,hd.lit,hd.dist⟩,rfl,rfl,rfl⟩,hk⟩
theorem Gh {r0:Rw} {s:St} {r:Rw} {t:Px.St} {c p len:Nat} {lit dist:List Nat} (hcap:Cap r0) (h:Cm r0 s r t) (hp:t.ph = .dist lit dist len) (hq:gE s t.ph) (hk:s.skip=false):bu r0 (ld s r (c:Int)) p (cZ t c p):=by
 rw[hp] at hq;obtain ⟨h2,hlen,hd⟩:=hq;unfold ld cZ;rw[if_neg (by omega),if_neg (by omega),hp];show bu r0 (eY s r (c:Int)) p (if 29<c then .err 13 else if aE c=0 then t.copy lit dist len (bI c) p else t.to (.drest lit dist len (bI c) (aE c)))
 unfold eY;rw[if_neg (show ¬ ((c:Int) = -1) by omega),Int.toNat_natCast];by_cases c1:29<c
 ·rw[if_pos c1,if_pos (Or.inr (by omega))]
  exact ⟨rfl,by decide⟩
 rw[if_neg c1,if_neg (by omega)];obtain ⟨t1,t2⟩:=Kr c (by omega);rw[t1];have ef:c / 2 - 1=aE c:=by unfold aE;split<;>omega
 rw[ef];by_cases q:aE c=0
 ·rw[if_pos q,if_pos q,<- hlen]
  exact xq hcap h hd hk t2
 ·rw[if_neg q,if_neg q]
  exact Or.inl ⟨rfl,⟨⟨h.win,h.last,h.cnt,h.hist,h.sum,h.rows⟩,⟨rfl,rfl,by omega,hlen,rfl,t2,hd.lit,hd.dist⟩,rfl,rfl,rfl⟩,hk⟩
def setOf (s:St):CS:=if s.part=12 then s.lit else if s.part=11 then s.tb.short else s.dist
theorem Jw {r0:Rw} {s:St} {r:Rw} {t:Px.St} {c p:Nat} {l:List Nat} (hcap:Cap r0) (h:Cm r0 s r t) (hq:gE s t.ph) (hk:s.skip=false) (hi:item t.ph = .code l) (hc:c<l.length):bu r0 (ld s r (c:Int)) p (cZ t c p):=by
 cases hp:t.ph using Px.Ph.cs with
 | clen nl nd sl out=>rw[hp] at hi;cases hi;exact Gi h hp hq hk hc
 | sym lit dist=>exact Jv hcap h hp hq hk
 | dist lit dist len=>exact Gh hcap h hp hq hk
 | _=>rw[hp] at hi;cases hi
theorem xv {s:St} {ph:Ph} {l:List Nat} (hq:gE s ph) (hi:item ph = .code l):(s.part=11\/s.part=12\/s.part=13)/\fB (setOf s) l:=by
 unfold setOf;cases ph using Px.Ph.cs with
 | clen nl nd sl out=>cases hi;obtain ⟨h,k⟩:=hq;exact ⟨Or.inl h,by rw[if_neg (by omega),if_pos h];exact k.code⟩
 | sym lit dist=>cases hi;obtain ⟨h,k⟩:=hq;exact ⟨Or.inr (Or.inl h),by rw[if_pos h];exact k.lit⟩
 | dist lit dist len=>cases hi;obtain ⟨h,_,k⟩:=hq;exact ⟨Or.inr (Or.inr h),by rw[if_neg (by omega),if_neg (by omega)];exact k.dist⟩
 | _=>cases hi
theorem vV {s:St} {ph:Ph} {n:Nat} (hq:gE s ph) (hi:item ph = .num n):s.part<=9/\s.wanted=n/\1<=n:=by
 cases ph using Px.Ph.cs with
 | head=>cases hi;obtain ⟨h,k⟩:=hq;omega
 | block=>cases hi;obtain ⟨h,k⟩:=hq;omega
 | ssize=>cases hi;obtain ⟨h,k⟩:=hq;omega
 | stored left=>cases hi;obtain ⟨h,k,_⟩:=hq;omega
 | counts=>cases hi;obtain ⟨h,k⟩:=hq;omega
 | short nl nd ns told=>cases hi;obtain ⟨h,k,_⟩:=hq;omega
 | rep nl nd sl out c=>cases hi;obtain ⟨h,k,_,q,_⟩:=hq;unfold cF at *;refine ⟨by omega,k,?_⟩;(repeat' split)<;>omega
 | lrest lit dist base bits=>cases hi;obtain ⟨h,k,q,_⟩:=hq;omega
 | drest lit dist len base bits=>cases hi;obtain ⟨h,k,q,_⟩:=hq;omega
 | sum=>cases hi;obtain ⟨h,k⟩:=hq;omega
 | _=>cases hi
structure Np (s s':St):Prop where
 part:s'.part=s.part
 wanted:s'.wanted=s.wanted
 left:s'.left=s.left
 tb:s'.tb=s.tb
 lit:s'.lit=s.lit
 dist:s'.dist=s.dist
 length:s'.length=s.length
 base:s'.base=s.base
theorem gE.same {s s':St} {ph:Ph} (h:Np s s') (hp:gE s ph):gE s' ph:=by
 obtain ⟨e1,e2,e3,e4,e5,e6,e7,e8⟩:=h;have cd:∀ a b,CO s a b->CO s' a b:=fun a b q=>⟨by rw[e5];exact q.lit,by rw[e6];exact q.dist⟩
 have ls:∀ a b c d,A7 s a b c d->A7 s' a b c d:=fun a b c d q=>⟨by rw[e4];exact q.lit,by rw[e4];exact q.dist,q.b1,q.b2,q.b3,q.b4,by rw[e4];exact q.told,fun i hi=>by rw[e4];exact q.ls i hi,q.le,q.lt,by rw[e4];exact q.code,q.sl19⟩
 cases ph using Px.Ph.cs with
 | head=>exact ⟨e1.trans hp.1,e2.trans hp.2⟩
 | block=>exact ⟨e1.trans hp.1,e2.trans hp.2⟩
 | ssize=>exact ⟨e1.trans hp.1,e2.trans hp.2⟩
 | stored left=>obtain ⟨a,b,c,d⟩:=hp;exact ⟨e1.trans a,e2.trans b,e3.trans c,d⟩
 | counts=>exact ⟨e1.trans hp.1,e2.trans hp.2⟩
 | short nl nd ns told=>obtain ⟨a,b,c⟩:=hp;exact ⟨e1.trans a,e2.trans b,by rw[e4];exact c⟩
 | clen nl nd sl out=>obtain ⟨a,b⟩:=hp;exact ⟨e1.trans a,ls _ _ _ _ b⟩
 | rep nl nd sl out c=>obtain ⟨a,b,c,d,e,f⟩:=hp;exact ⟨e1.trans a,e2.trans b,by rw[e4];exact c,d,e,ls _ _ _ _ f⟩
 | sym lit dist=>obtain ⟨a,b⟩:=hp;exact ⟨e1.trans a,cd _ _ b⟩
 | lrest lit dist base bits=>obtain ⟨a,b,c,d,e⟩:=hp;exact ⟨e1.trans a,e2.trans b,c,e7.trans d,cd _ _ e⟩
 | dist lit dist len=>obtain ⟨a,b,c⟩:=hp;exact ⟨e1.trans a,e7.trans b,cd _ _ c⟩
 | drest lit dist len base bits=>obtain ⟨a,b,c,d,e,f,g⟩:=hp;exact ⟨e1.trans a,e2.trans b,c,e7.trans d,e8.trans e,f,cd _ _ g⟩
 | sum=>exact ⟨e1.trans hp.1,e2.trans hp.2⟩
 | fin=>exact e1.trans hp
def Under (z:List One) (a i:Nat) (s:St):Px.Item->Prop
 | .inl n=>s.got=i - a/\i - a<n/\s.number=ab z a (i - a)
 | .inr (.inl l)=>cY z a l (i - a)/\sP l (i - a) (msb z a (i - a)) s.path/\i - a<=14
 | .inr (.inr _)=>True
structure NS (r0:Rw) (z:List One) (i:Nat) (s:St) (r:Rw) (a:Nat) (t:Px.St):Prop where
 run:Run z 0 Px.St.start a t
 le:a<=i
 cm:Cm r0 s r t
 ph:gE s t.ph
 und:Under z a i s (item t.ph)
 sum:t.ph = .sum->a % 8=0
 fin:t.ph = .fin->a=i/\i % 8=0
def Sim (r0:Rw) (z:List One) (i:Nat) (s:St) (r:Rw):Prop:=∃ a t,NS r0 z i s r a t
def K7 (r0:Rw) (z:List One) (e a:Nat):Prop:=e≠0/\((∃ a1 t r,Run z 0 Px.St.start a1 t/\Fails z a1 t e a/\cR r0 t.out=(r,0))\/(∃ a1 t,Run z 0 Px.St.start a1 t/\fe r0 t.out (ay z a) e))
theorem Beg.under {r0:Rw} {s:St} {r:Rw} {t:Px.St} (h:Beg r0 s r t) (z:List One) (a:Nat):Under z a a s (item t.ph):=by
 cases e:item t.ph using Px.Item.cs with
 | num n=>
  have:=vV h.ph e
  exact ⟨by rw[h.got,Nat.sub_self],by omega,by rw[h.num,Nat.sub_self];rfl⟩
 | code l=>exact ⟨fun m h1 h2=>by omega,by rw[Nat.sub_self,h.path];exact sP.start l,by omega⟩
 | none=>trivial
theorem GU {t t':Px.St} {v p:Nat} {k:Bool} (h:bF t v p = .ok t' k\/cZ t v p = .ok t' k):(t'.ph = .sum->k=true)/\(t'.ph = .fin->t.ph = .sum):=by
 have he:∀ u:Px.St,u.endBlock = .ok t' k->(t'.ph = .sum->k=true)/\t'.ph ≠ .fin:=fun u hu=>by
  unfold Px.St.endBlock at hu
  split at hu<;>(cases hu;exact ⟨(fun q=>by first | rfl | cases q),(fun q=>by cases q)⟩)
 have ht:∀ (u:Px.St) (ph:Ph),u.to ph = .ok t' k->t'.ph=ph:=fun u ph hu=>by
  unfold Px.St.to at hu;cases hu;rfl
 have hl:∀ (u:Px.St) (a b:Nat) (c d:List Nat),u.lens a b c d = .ok t' k->(t'.ph = .sum->k=true)/\t'.ph ≠ .fin:=fun u a b c d hu=>by
  unfold Px.St.lens at hu
  split at hu
  ·rw[ht _ _ hu];exact ⟨(fun q=>by cases q),(fun q=>by cases q)⟩
  ·split at hu
   ·cases hu
   ·rw[ht _ _ hu];exact ⟨(fun q=>by cases q),(fun q=>by cases q)⟩
 have hc:∀ (u:Px.St) (a b:List Nat) (c d e:Nat),u.copy a b c d e = .ok t' k->(t'.ph = .sum->k=true)/\t'.ph ≠ .fin:=fun u a b c d e hu=>by
  unfold Px.St.copy at hu
  split at hu
  ·cases hu
  ·cases hu;exact ⟨(fun q=>by cases q),(fun q=>by cases q)⟩
 have wr:∀ {Q:Prop},(t'.ph = .sum->k=true)/\t'.ph ≠ .fin->(t'.ph = .sum->k=true)/\(t'.ph = .fin->Q):=fun w=>⟨w.1,fun q=>absurd q w.2⟩
 rcases h with h | h
 ·unfold bF at h
  cases hp:t.ph using Px.Ph.cs<;>(rw[hp] at h;dsimp only at h)<;>(repeat' split at h)<;>(first | exact wr (he _ h) | exact wr (hl _ _ _ _ _ h) | exact wr (hc _ _ _ _ _ _ h) | (have:=ht _ _ h;rw[this];exact ⟨(fun q=>by cases q),(fun q=>by first | rfl | cases q)⟩) | (cases h;exact ⟨(fun q=>by cases q),(fun q=>by cases q)⟩) | (cases h))
 ·unfold cZ at h
  cases hp:t.ph using Px.Ph.cs<;>(rw[hp] at h;dsimp only at h)<;>(repeat' split at h)<;>(first | exact wr (he _ h) | exact wr (hl _ _ _ _ _ h) | exact wr (hc _ _ _ _ _ _ h) | (have:=ht _ _ h;rw[this];exact ⟨(fun q=>by cases q),(fun q=>by first | rfl | cases q)⟩) | (cases h;exact ⟨(fun q=>by cases q),(fun q=>by cases q)⟩) | (cases h))
def Jl (r0:Rw) (z:List One) (i:Nat) (R:St × Rw × Nat):Prop:=
 (R.2.2=0/\R.1.skip=false/\Sim r0 z (i+1) R.1 R.2.1)\/(R.2.2=0/\R.1.skip=true/\Sim r0 z (up8 (i+1)) R.1 R.2.1)\/(R.2.2≠0/\K7 r0 z R.2.2 (i+1))
theorem CU (a:Nat):up8 a % 8=0:=by unfold up8;omega
theorem GR {r0:Rw} {z:List One} {i a:Nat} {R:St × Rw × Nat} {t:Px.St} {q:Res} (hr:Run z 0 Px.St.start a t) (rows:∃ r,cR r0 t.out=(r,0))
  (step:∀ t' k,q = .ok t' k->Step z a t (su k (i+1)) t') (fail:∀ e,q = .err e->Fails z a t e (i+1)) (hs:∀ t' k,q = .ok t' k->(t'.ph = .sum->k=true)/\(t'.ph = .fin->(i+1) % 8=0))
  (h:bu r0 R (ay z (i+1)) q):Jl r0 z i R:=by
 cases q using Px.Res.cs with
 | err e=>
  obtain ⟨h1,h2⟩:=h;obtain ⟨r,hr2⟩:=rows;exact Or.inr (Or.inr ⟨by rw[h1];exact h2,by rw[h1];exact ⟨h2,Or.inl ⟨a,t,r,hr,fail e rfl,hr2⟩⟩⟩)
 | ok t' k=>
  have st:=Run.tail hr (step t' k rfl);obtain ⟨hs1,hs2⟩:=hs t' k rfl;rcases h with ⟨h1,h2,h3⟩ | ⟨h1,h2⟩
  ·cases k with
   | false=>
    refine Or.inl ⟨h1,h3,i+1,t',?_,Nat.le_refl _,h2.cm,h2.ph,h2.under z _,(fun q=>absurd (hs1 q) (by decide)),(fun q=>⟨rfl,hs2 q⟩)⟩;exact st
   | true=>
    refine Or.inr (Or.inl ⟨h1,h3,up8 (i+1),t',?_,Nat.le_refl _,h2.cm,h2.ph,h2.under z _,(fun q=>CU _),(fun q=>⟨rfl,CU _⟩)⟩);exact st
  ·exact Or.inr (Or.inr ⟨h1,h2.1,Or.inr ⟨_,t',st,h2⟩⟩)
theorem Fy (s:St) (r:Rw) (t:Nat) (h:s.part=11\/s.part=12\/s.part=13):aW s r t=ld { s with path:=((setOf s).step s.path t).1 } r ((setOf s).step s.path t).2:=by
 rcases h with h | h | h
 ·have e:setOf s=s.tb.short:=by unfold setOf;rw[if_neg (by omega),if_pos h]
  rw[e];unfold aW;rw[if_neg (by omega),if_pos h];unfold ld;rw[if_neg (show ¬ ({ s with path:=(s.tb.short.step s.path t).1 }:St).part=12 by show ¬ s.part=12;omega),if_pos (show ({ s with path:=(s.tb.short.step s.path t).1 }:St).part=11 from h)];unfold clP;exact rfl
 ·have e:setOf s=s.lit:=by unfold setOf;rw[if_pos h]
  rw[e];unfold aW;rw[if_pos h];unfold ld;rw[if_pos (show ({ s with path:=(s.lit.step s.path t).1 }:St).part=12 from h)];exact Gj s r t
 ·have e:setOf s=s.dist:=by unfold setOf;rw[if_neg (by omega),if_neg (by omega)]
  rw[e];unfold aW;rw[if_neg (by omega),if_neg (by omega),if_pos h];unfold ld;rw[if_neg (show ¬ ({ s with path:=(s.dist.step s.path t).1 }:St).part=12 by show ¬ s.part=12;omega),if_neg (show ¬ ({ s with path:=(s.dist.step s.path t).1 }:St).part=11 by show ¬ s.part=11;omega)];unfold dsP;exact rfl
theorem KR {r0:Rw} {z:List One} {i:Nat} {s:St} {r:Rw} (hcap:Cap r0) (h:Sim r0 z i s r) (hk:s.skip=false) (hi:i<8*z.length) (h10:s.part≠10):Jl r0 z i (aW s r (aZ z i)):=by
 obtain ⟨a,t,hr,hle,hc,hp,hu,hs,hf⟩:=h;have hb:=pT z i;cases e:item t.ph using Px.Item.cs with
 | num n=>
  rw[e] at hu;obtain ⟨u1,u2,u3⟩:=hu;obtain ⟨p9,pw,p1⟩:=vV hp e;have ea:a+(i - a)=i:=by omega
  have en:ab z a (i - a+1)=s.number+aZ z i*2^s.got:=by rw[ab,ea,u3,u1]
  unfold aW;rw[if_neg (by omega),if_neg (by omega),if_neg (by omega),pw];by_cases c:s.got+1<n
  ·rw[if_pos c]
   refine Or.inl ⟨rfl,hk,a,t,hr,by omega,⟨hc.win,hc.last,hc.cnt,hc.hist,hc.sum,hc.rows⟩,?_,?_,hs,fun q=>by rw[q] at e;cases e⟩
   ·exact gE.same (s:=s) ⟨rfl,rfl,rfl,rfl,rfl,rfl,rfl,rfl⟩ hp
   ·rw[e]
    refine ⟨?_,by omega,?_⟩
    ·show s.got+1=i+1 - a;omega
    ·show s.number+aZ z i*2^s.got=ab z a (i+1 - a)
     rw[show i+1 - a=i - a+1 by omega,en]
  ·rw[if_neg c]
   have ena:a+n=i+1:=by omega
   have env:ab z a n=s.number+aZ z i*2^s.got:=by rw[<- en];congr 1;omega
   rw[<- env];have hph:gE (s.oneBit (aZ z i)) t.ph:=gE.same (s:=s) ⟨rfl,rfl,rfl,rfl,rfl,rfl,rfl,rfl⟩ hp;have hv:=bO z a n;have hcm:Cm r0 (s.oneBit (aZ z i)) r t:=⟨hc.win,hc.last,hc.cnt,hc.hist,hc.sum,hc.rows⟩;have NR:=JZ (p:=ay z (i+1)) hcap hcm hph hk e hv;have hfit:a+n<=8*z.length:=by omega
   refine GR hr ⟨r,hc.rows⟩ (fun t' k q => ?_) (fun e' q => ?_) (fun t' k q => ?_) NR
   ·rw[<- ena] at q ⊢;exact Step.num e hfit q
   ·rw[<- ena] at q ⊢;exact Fails.num e hfit q
   ·obtain ⟨q1,q2⟩:=GU (Or.inl q)
    refine ⟨q1,fun w => ?_⟩;have hsum:=q2 w
    have:=hs hsum
    rw[hsum] at e;cases e
    omega
 | code l=>
  rw[e] at hu;obtain ⟨u1,u2,u3⟩:=hu;obtain ⟨pp,pc⟩:=xv hp e;have ea:a+(i - a)=i:=by omega
  have hm:=Hl z a (i - a);have em:msb z a (i - a+1)=2*msb z a (i - a)+aZ z i:=by rw[msb,ea]
  have CS:=E7 pc u2 hm hb u3;rw[<- em] at CS;have eb:aW s r (aZ z i)=ld { s with path:=((setOf s).step s.path (aZ z i)).1 } r ((setOf s).step s.path (aZ z i)).2:=Fy s r _ pp;rw[eb];obtain ⟨P,hP⟩:∃ P,P=((setOf s).step s.path (aZ z i)).1:=⟨_,rfl⟩;obtain ⟨σ,hσ⟩:∃ σ,σ=((setOf s).step s.path (aZ z i)).2:=⟨_,rfl⟩;rw[<- hP,<- hσ] at CS ⊢;have hcm:Cm r0 { s with path:=P } r t:=⟨hc.win,hc.last,hc.cnt,hc.hist,hc.sum,hc.rows⟩;have hph:gE { s with path:=P } t.ph:=gE.same (s:=s) ⟨rfl,rfl,rfl,rfl,rfl,rfl,rfl,rfl⟩ hp;have hsub:a+(i - a+1)=i+1:=by omega
  rcases CS with ⟨c1,c2,c3,c4,c5⟩ | ⟨c,c1,c2,c3,c4⟩ | ⟨c1,c2,c3⟩
  ·rw[c1]
   have e1:ld { s with path:=P } r (-1)=({ s with path:=P } ,r,0)\/ld { s with path:=P } r (-1)=(({ s with path:=P }:St).setRep (-1),r,0):=by
    unfold ld fK eY St.codeLen;by_cases c12:s.part=12
    ·left;rw[if_pos (show ({ s with path:=P }:St).part=12 from c12),if_pos rfl]
    ·by_cases c11:s.part=11
     ·right;rw[if_neg (show ¬ ({ s with path:=P }:St).part=12 from c12),if_pos (show ({ s with path:=P }:St).part=11 from c11),if_pos rfl]
     ·left;rw[if_neg (show ¬ ({ s with path:=P }:St).part=12 from c12),if_neg (show ¬ ({ s with path:=P }:St).part=11 from c11),if_pos rfl]
   have hgo:cY z a l (i+1 - a):=by
    rw[show i+1 - a=i - a+1 by omega];exact vG u1 c2 c3
   have hpa:sP l (i+1 - a) (msb z a (i+1 - a)) P:=by rw[show i+1 - a=i - a+1 by omega];exact c4
   rcases e1 with e1 | e1
   ·rw[e1]
    exact Or.inl ⟨rfl,hk,a,t,hr,by omega,hcm,hph,by rw[e];exact ⟨hgo,hpa,by omega⟩,hs,fun q=>by rw[q] at e;cases e⟩
   ·rw[e1]
    refine Or.inl ⟨rfl,hk,a,t,hr,by omega,⟨hc.win,hc.last,hc.cnt,hc.hist,hc.sum,hc.rows⟩,?_,by rw[e];exact ⟨hgo,hpa,by omega⟩,hs,fun q=>by rw[q] at e;cases e⟩;have ls:∀ a b c d,A7 s a b c d->A7 (({ s with path:=P }:St).setRep (-1)) a b c d:=fun a b c d q=>⟨q.lit,q.dist,q.b1,q.b2,q.b3,q.b4,q.told,q.ls,q.le,q.lt,q.code,q.sl19⟩
    cases hp2:t.ph using Px.Ph.cs with
    | clen nl nd sl out=>rw[hp2] at hp;exact ⟨hp.1,ls _ _ _ _ hp.2⟩
    | sym lit dist=>rw[hp2] at hp;exact ⟨hp.1,hp.2.lit,hp.2.dist⟩
    | dist lit dist len=>rw[hp2] at hp;exact ⟨hp.1,hp.2.1,hp.2.2.lit,hp.2.2.dist⟩
    | _=>rw[hp2] at e;cases e
  ·rw[c1]
   have hg:bK z a l c (i - a+1):=⟨by omega,by omega,by rw[Nat.add_sub_cancel];exact u1,c2,c3,c4⟩;have NR:=Jw (c:=c) (p:=ay z (i+1)) hcap hcm hph hk e c2;refine GR hr ⟨r,hc.rows⟩ (fun t' k q => ?_) (fun e' q => ?_) (fun t' k q => ?_) NR
   ·rw[<- hsub] at q ⊢;exact Step.sym e hg q
   ·rw[<- hsub] at q ⊢;exact Fails.sym e hg q
   ·obtain ⟨q1,q2⟩:=GU (Or.inr q)
    refine ⟨q1,fun w => ?_⟩;have hsum:=q2 w;rw[hsum] at e;cases e
  ·rw[c1]
   have hg:qD z a l (i - a+1):=⟨by omega,by omega,by rw[Nat.add_sub_cancel];exact u1,c2,c3⟩;have e1:(ld { s with path:=P } r (-2)).2.2=13:=by
    unfold ld fK eY St.codeLen;by_cases c12:s.part=12
    ·rw[if_pos (show ({ s with path:=P }:St).part=12 from c12),if_neg (by decide),if_pos (by decide)]
    ·by_cases c11:s.part=11
     ·rw[if_neg (show ¬ ({ s with path:=P }:St).part=12 from c12),if_pos (show ({ s with path:=P }:St).part=11 from c11),if_neg (by decide),if_pos rfl]
     ·rw[if_neg (show ¬ ({ s with path:=P }:St).part=12 from c12),if_neg (show ¬ ({ s with path:=P }:St).part=11 from c11),if_neg (by decide),if_pos (by decide)]
   refine Or.inr (Or.inr ⟨by rw[e1];decide,?_⟩);rw[e1];refine ⟨by decide,Or.inl ⟨a,t,r,hr,?_,hc.rows⟩⟩;rw[<- hsub];exact Fails.bad e hg
 | none=>
  exfalso
  cases hp2:t.ph using Px.Ph.cs<;>(rw[hp2] at e hp;first | exact h10 hp | cases e)
theorem wG {r0:Rw} {z:List One} {k:Nat} (hcap:Cap r0) (hk:k<z.length):∀ (n j:Nat) (s:St) (r:Rw),j+n=8->((s.skip=false/\Sim r0 z (8*k+j) s r/\(0<n->s.part≠10))\/(s.skip=true/\Sim r0 z (8*k+8) s r)) ->
  ((bU n j s r (vAt z k)).2.2=0/\Sim r0 z (8*k+8) (bU n j s r (vAt z k)).1 (bU n j s r (vAt z k)).2.1)\/((bU n j s r (vAt z k)).2.2≠0/\∃ a,8*k<a/\a<=8*k+8/\K7 r0 z (bU n j s r (vAt z k)).2.2 a)
 | 0,j,s,r,hj,h=>by
  have:j=8:=by omega
  subst this;rcases h with ⟨_,h,_⟩ | ⟨_,h⟩
  ·exact Or.inl ⟨rfl,h⟩
  ·exact Or.inl ⟨rfl,h⟩
 | n+1,j,s,r,hj,h=>by
  rw[bU];rcases h with ⟨h1,h2,h3⟩ | ⟨h1,h2⟩
  ·rw[h1,if_neg (by decide)]
   have eb:vAt z k / 2^j % 2=aZ z (8*k+j):=by
    unfold aZ;rw[show (8*k+j) / 8=k by omega,show (8*k+j) % 8=j by omega]
   rw[eb];have B:=KR hcap h2 h1 (by omega) (h3 (by omega));rcases B with ⟨b1,b2,b3⟩ | ⟨b1,b2,b3⟩ | ⟨b1,b2⟩
   ·rw[if_pos b1]
    refine wG hcap hk n (j+1) _ _ (by omega) (Or.inl ⟨b2,b3,fun hn h10 => ?_⟩);obtain ⟨a,t,q⟩:=b3;have hph:=q.ph;have hfin:t.ph = .fin:=by
     cases hp2:t.ph using Px.Ph.cs with
     | fin=>rfl
     | _=>exfalso;rw[hp2] at hph;have:=hph.1;omega
    have:=(q.fin hfin).2
    omega
   ·rw[if_pos b1]
    refine wG hcap hk n (j+1) _ _ (by omega) (Or.inr ⟨b2,?_⟩)
    have:up8 (8*k+j+1)=8*k+8:=by unfold up8;omega
    rw[this] at b3;exact b3
   ·rw[if_neg b1]
    exact Or.inr ⟨b1,_,by omega,by omega,b2⟩
  ·rw[h1,if_pos rfl]
   exact Or.inl ⟨rfl,h2⟩
theorem Sim.skip {r0:Rw} {z:List One} {i:Nat} {s:St} {r:Rw} (h:Sim r0 z i s r) (b:Bool):Sim r0 z i { s with skip:=b } r:=by
 obtain ⟨a,t,hr,hle,hc,hp,hu,hs,hf⟩:=h;refine ⟨a,t,hr,hle,⟨hc.win,hc.last,hc.cnt,hc.hist,hc.sum,hc.rows⟩,?_,?_,hs,hf⟩
 ·exact gE.same (s:=s) ⟨rfl,rfl,rfl,rfl,rfl,rfl,rfl,rfl⟩ hp
 ·cases hp2:item t.ph<;>(rw[hp2] at hu;exact hu)
theorem IM {r0:Rw} {z:List One} {k:Nat} {s:St} {r:Rw} (hcap:Cap r0) (hk:k<z.length) (h:Sim r0 z (8*k) s r) :
  ((takeB s r (vAt z k)).2.2=0/\Sim r0 z (8*(k+1)) (takeB s r (vAt z k)).1 (takeB s r (vAt z k)).2.1) \/
  ((takeB s r (vAt z k)).2.2≠0/\((s.part≠10/\∃ a,8*k<a/\a<=8*k+8/\K7 r0 z (takeB s r (vAt z k)).2.2 a)\/(s.part=10/\(takeB s r (vAt z k)).2.2=20))):=by
 unfold takeB;by_cases c:s.part=10
 ·rw[if_pos c]
  exact Or.inr ⟨(by show (20:Nat)≠0;decide),Or.inr ⟨c,rfl⟩⟩
 ·rw[if_neg c]
  rcases wG hcap hk 8 0 { s with skip:=false } r rfl (Or.inl ⟨rfl,h.skip false,fun _=>c⟩) with h | ⟨h1,h2⟩
  ·exact Or.inl h
  ·exact Or.inr ⟨h1,Or.inl ⟨c,h2⟩⟩
end Go.Proofs.YtgooinallljbpaaGreatDoor
namespace Px
def se (z out:List One) (dn sm:Bool) (er at' en:Nat):Prop:=
 (∃ t,Stop z 0 St.start out t/\dn=false/\sm=false/\en=0/\er=t.err/\at'=(if t.err=0 then 0 else ay z t.a)) \/
  (∃ a s1,Run z 0 St.start a s1/\s1.ph = .sum/\s1.out=out/\Fails z a s1 19 (a+32)/\dn=true/\sm=false/\er=19/\at'=ay z (a+32)/\en=ay z (a+32)) \/
  (∃ a s1,Run z 0 St.start a s1/\s1.ph = .fin/\s1.out=out/\a<=8*z.length/\dn=true/\sm=true/\en=ay z a/\er=(if a<8*z.length then 20 else 0)/\at'=(if a<8*z.length then pAt z (a / 8) else 0))
theorem ym {z:List One} {a:Nat} {l:List Nat} {c c' n n':Nat} (h:bK z a l c n) (k:bK z a l c' n'):c=c'/\n=n':=by
 obtain ⟨h1,h2,h3,h4,h5,h6⟩:=h;obtain ⟨k1,k2,k3,k4,k5,k6⟩:=k;have e:n=n':=by
  by_cases q:n<n'
  ·exact absurd h6 ((k3 n h1 (by omega)).1 c h4)
  ·by_cases q':n'<n
   ·exact absurd k6 ((h3 n' k1 (by omega)).1 c' k4)
   ·omega
 subst e;exact ⟨Dz h4 k4 h1 h6 k6,rfl⟩
theorem yn {z:List One} {a:Nat} {l:List Nat} {c n n':Nat} (h:bK z a l c n) (k:qD z a l n'):False:=by
 obtain ⟨h1,h2,h3,h4,h5,h6⟩:=h;obtain ⟨k1,k2,k3,k4,k5⟩:=k;by_cases q:n<n'
 ·exact (k3 n h1 (by omega)).1 c h4 h6
 ·by_cases q':n'<n
  ·exact k5 (h3 n' k1 (by omega)).2
  ·have:n=n':=by omega
   subst this;exact k4 c h4 h6
theorem KT {z:List One} {a:Nat} {l:List Nat} {n n':Nat} (h:qD z a l n) (k:qD z a l n'):n=n':=by
 obtain ⟨h1,h2,h3,h4,h5⟩:=h;obtain ⟨k1,k2,k3,k4,k5⟩:=k;by_cases q:n<n'
 ·exact absurd (k3 n h1 (by omega)).2 h5
 ·by_cases q':n'<n
  ·exact absurd (h3 n' k1 (by omega)).2 k5
  ·omega
theorem Gp {z:List One} {a:Nat} {s:St} {b c:Nat} {t u:St} (h:Step z a s b t) (k:Step z a s c u):b=c/\t=u:=by
 cases h using Px.Step.cs with
 | num hi hn hr=>
  cases k using Px.Step.cs with
  | num ki kn kr=>rw[hi] at ki;cases ki;rw[hr] at kr;cases kr;exact ⟨rfl,rfl⟩
  | sym ki kg kr=>rw[hi] at ki;cases ki
 | sym hi hg hr=>
  cases k using Px.Step.cs with
  | num ki kn kr=>rw[hi] at ki;cases ki
  | sym ki kg kr=>
   rw[hi] at ki;cases ki;obtain ⟨rfl,rfl⟩:=ym hg kg;rw[hr] at kr;cases kr;exact ⟨rfl,rfl⟩
def vg (z:List One) (a:Nat) (s:St):Prop:=∀ b t,¬ Step z a s b t
theorem Fails.stuck {z:List One} {a:Nat} {s:St} {e n:Nat} (h:Fails z a s e n):vg z a s:=fun b t k=>by
 cases h using Px.Fails.cs with
 | num hi hn hr=>
  cases k using Px.Step.cs with
  | num ki kn kr=>rw[hi] at ki;cases ki;rw[hr] at kr;cases kr
  | sym ki kg kr=>rw[hi] at ki;cases ki
 | sym hi hg hr=>
  cases k using Px.Step.cs with
  | num ki kn kr=>rw[hi] at ki;cases ki
  | sym ki kg kr=>
   rw[hi] at ki;cases ki;obtain ⟨rfl,rfl⟩:=ym hg kg;rw[hr] at kr;cases kr
 | bad hi hg=>
  cases k using Px.Step.cs with
  | num ki kn kr=>rw[hi] at ki;cases ki
  | sym ki kg kr=>rw[hi] at ki;cases ki;exact yn kg hg
theorem lD.stuck {z:List One} {a:Nat} {s:St} (h:lD z a s):vg z a s:=fun b t k=>by
 cases h using Px.lD.cs with
 | num hi hn=>
  cases k using Px.Step.cs with
  | num ki kn kr=>rw[hi] at ki;cases ki;omega
  | sym ki kg kr=>rw[hi] at ki;cases ki
 | sym hi hg=>
  cases k using Px.Step.cs with
  | num ki kn kr=>rw[hi] at ki;cases ki
  | sym ki kg kr=>
   rw[hi] at ki;cases ki;obtain ⟨k1,k2,k3,k4,k5,k6⟩:=kg;exact (hg _ k1 (by omega)).1 _ k4 k6
theorem Fin.stuck {z:List One} {a:Nat} {s:St} (h:s.ph = .fin):vg z a s:=fun b t k=>by
 cases k using Px.Step.cs with
 | num ki kn kr=>rw[h] at ki;cases ki
 | sym ki kg kr=>rw[h] at ki;cases ki
theorem EK {z:List One} {a:Nat} {s:St} {e e' n n':Nat} (h:Fails z a s e n) (k:Fails z a s e' n'):e=e'/\n=n':=by
 cases h using Px.Fails.cs with
 | num hi hn hr=>
  cases k using Px.Fails.cs with
  | num ki kn kr=>rw[hi] at ki;cases ki;rw[hr] at kr;cases kr;exact ⟨rfl,rfl⟩
  | sym ki kg kr=>rw[hi] at ki;cases ki
  | bad ki kg=>rw[hi] at ki;cases ki
 | sym hi hg hr=>
  cases k using Px.Fails.cs with
  | num ki kn kr=>rw[hi] at ki;cases ki
  | sym ki kg kr=>
   rw[hi] at ki;cases ki;obtain ⟨rfl,rfl⟩:=ym hg kg;rw[hr] at kr;cases kr;exact ⟨rfl,rfl⟩
  | bad ki kg=>rw[hi] at ki;cases ki;exact absurd kg (fun q=>yn hg q)
 | bad hi hg=>
  cases k using Px.Fails.cs with
  | num ki kn kr=>rw[hi] at ki;cases ki
  | sym ki kg kr=>rw[hi] at ki;cases ki;exact absurd hg (fun q=>yn kg q)
  | bad ki kg=>rw[hi] at ki;cases ki;exact ⟨rfl,by rw[KT hg kg]⟩
theorem wz {z:List One} {a:Nat} {s:St} {e n:Nat} (h:lD z a s) (k:Fails z a s e n):False:=by
 cases h using Px.lD.cs with
 | num hi hn=>
  cases k using Px.Fails.cs with
  | num ki kn kr=>rw[hi] at ki;cases ki;omega
  | sym ki kg kr=>rw[hi] at ki;cases ki
  | bad ki kg=>rw[hi] at ki;cases ki
 | sym hi hg=>
  cases k using Px.Fails.cs with
  | num ki kn kr=>rw[hi] at ki;cases ki
  | sym ki kg kr=>
   rw[hi] at ki;cases ki;obtain ⟨k1,k2,k3,k4,k5,k6⟩:=kg;exact (hg _ k1 (by omega)).1 _ k4 k6
  | bad ki kg=>
   rw[hi] at ki;cases ki;obtain ⟨k1,k2,k3,k4,k5⟩:=kg;exact k5 (hg _ k1 (by omega)).2
theorem Run.head {z:List One} {a b:Nat} {s t:St} (h:Run z a s b t):(a=b/\s=t)\/∃ a' s',Step z a s a' s'/\Run z a' s' b t:=by
 induction h using Px.Run.cs with
 | refl=>exact Or.inl ⟨rfl,rfl⟩
 | tail h k ih=>
  rcases ih with ⟨rfl,rfl⟩ | ⟨a',s',q1,q2⟩
  ·exact Or.inr ⟨_,_,k,.refl _ _⟩
  ·exact Or.inr ⟨a',s',q1,.tail q2 k⟩
theorem zX {z:List One} {a b c:Nat} {s t u:St} (h:Run z a s b t) (k:Run z a s c u) (hs:vg z c u):Run z b t c u:=by
 induction h using Px.Run.cs with
 | refl=>exact k
 | tail h q ih=>
  rcases ih.head with ⟨rfl,rfl⟩ | ⟨a',s',q1,q2⟩
  ·exact absurd q (hs _ _)
  ·obtain ⟨rfl,rfl⟩:=Gp q q1
   exact q2
theorem run_end {z:List One} {a b c:Nat} {s t u:St} (h:Run z a s b t) (k:Run z a s c u) (ht:vg z b t) (hs:vg z c u):b=c/\t=u:=by
 rcases (zX h k hs).head with ⟨rfl,rfl⟩ | ⟨a',s',q1,q2⟩
 ·exact ⟨rfl,rfl⟩
 ·exact absurd q1 (ht _ _)
theorem AE (p D:Nat):∀ (n:Nat) (o:List One),∃ q,aT p D n o=o++q
 | 0,o=>⟨[],by simp [aT]⟩
 | n+1,o=>by
  obtain ⟨q,hq⟩:=AE p D n (o++[(vAt o (o.length - D),p)]);exact ⟨(vAt o (o.length - D),p)::q,by rw[aT,hq];simp⟩
theorem GW {t t':St} {v p:Nat} {k:Bool} (h:bF t v p = .ok t' k\/cZ t v p = .ok t' k):∃ q,t'.out=t.out++q:=by
 have he:∀ u:St,u.endBlock = .ok t' k->t'.out=u.out:=fun u hu=>lJ hu
 have ht:∀ (u:St) (ph:Ph),u.to ph = .ok t' k->t'.out=u.out:=fun u ph hu=>eU hu
 have hl:∀ (u:St) (a b:Nat) (c d:List Nat),u.lens a b c d = .ok t' k->t'.out=u.out:=fun u a b c d hu=>ui hu
 have hc:∀ (u:St) (a b:List Nat) (c d e:Nat),u.copy a b c d e = .ok t' k->∃ q,t'.out=u.out++q:=fun u a b c d e hu=>by
  unfold St.copy at hu
  split at hu
  ·cases hu
  ·cases hu;exact AE _ _ _ _
 have w0:t'.out=t.out->∃ q,t'.out=t.out++q:=fun q=>⟨[],by rw[q];simp⟩
 have w1:∀ v p,t'.out=(t.give v p).out->∃ q,t'.out=t.out++q:=fun v p q=>⟨[(v,p)],q⟩
 rcases h with h | h
 ·unfold bF at h
  cases hp:t.ph using Px.Ph.cs<;>(rw[hp] at h;dsimp only at h)<;>(repeat' split at h)<;>(first | exact w0 (he _ h) | exact w1 _ _ (he _ h) | exact w0 (hl _ _ _ _ _ h) | exact hc _ _ _ _ _ _ h | exact w0 (ht _ _ h) | exact w1 _ _ (ht _ _ h) | (cases h;exact w0 rfl) | (cases h))
 ·unfold cZ at h
  cases hp:t.ph using Px.Ph.cs<;>(rw[hp] at h;dsimp only at h)<;>(repeat' split at h)<;>(first | exact w0 (he _ h) | exact w1 _ _ (he _ h) | exact w0 (hl _ _ _ _ _ h) | exact hc _ _ _ _ _ _ h | exact w0 (ht _ _ h) | exact w1 _ _ (ht _ _ h) | (cases h;exact w0 rfl) | (cases h))
theorem Gq {z:List One} {a b:Nat} {s t:St} (k:Step z a s b t):∃ q,t.out=s.out++q:=by
 cases k using Px.Step.cs with
 | num hi hn hr=>exact GW (Or.inl hr)
 | sym hi hg hr=>exact GW (Or.inr hr)
theorem Run.ext {z:List One} {a b:Nat} {s t:St} (h:Run z a s b t):∃ q,t.out=s.out++q:=by
 induction h using Px.Run.cs with
 | refl=>exact ⟨[],by simp⟩
 | tail h k ih=>
  obtain ⟨q,hq⟩:=ih;obtain ⟨q2,hq2⟩:=Gq k;exact ⟨q++q2,by rw[hq2,hq,List.append_assoc]⟩
theorem se.end' {z out:List One} {dn sm:Bool} {er at' en:Nat} (h:se z out dn sm er at' en):∃ a t,Run z 0 St.start a t/\vg z a t/\t.out=out /\
  ((lD z a t/\dn=false/\sm=false/\er=0)\/(∃ e n,e≠0/\Fails z a t e n/\sm=false/\er=e/\at'=ay z n/\(dn=false\/t.ph = .sum)) \/
   (t.ph = .fin/\a<=8*z.length/\dn=true/\sm=true/\en=ay z a/\er=(if a<8*z.length then 20 else 0)/\at'=(if a<8*z.length then pAt z (a / 8) else 0))):=by
 rcases h with ⟨t,hs,h1,h2,h3,h4,h5⟩ | ⟨a,s1,h1,h2,h3,h4,h5,h6,h7,h8,h9⟩ | ⟨a,s1,h1,h2,h3,h4,h5,h6,h7,h8,h9⟩
 ·cases hs using Px.Stop.cs with
  | cut a1 s1 h c ho=>exact ⟨a1,s1,h,c.stuck,ho,Or.inl ⟨c,h1,h2,h4⟩⟩
  | err a1 s1 e a h c ho he ha=>
   refine ⟨a1,s1,h,c.stuck,ho,Or.inr (Or.inl ⟨e,a,he,c,h2,h4,?_,Or.inl h1⟩)⟩;rw[h5,if_neg he]
 ·exact ⟨a,s1,h1,h4.stuck,h3,Or.inr (Or.inl ⟨19,_,by decide,h4,h6,h7,h8,Or.inr h2⟩)⟩
 ·exact ⟨a,s1,h1,Fin.stuck h2,h3,Or.inr (Or.inr ⟨h2,h4,h5,h6,h7,h8,h9⟩)⟩
end Px
namespace Go.Proofs.YtgooinallljbpaaGreatDoor
open Go.RowKit Px
set_option linter.unusedSimpArgs false
set_option linter.unusedVariables false
def Vd (r0:Rw) (out:List One) (dn sm:Bool) (er at' en e p:Nat):Prop:=
 fe r0 out p e\/∃ r,cR r0 out=(r,0)/\((dn=true/\sm=true/\aR r=false/\e=18/\p=en)\/(¬ (dn=true/\sm=true/\aR r=false)/\e=er/\p=at'))
theorem y9 {r0:Rw} {z out:List One} {dn sm:Bool} {er at' en e a:Nat} (h:K7 r0 z e a) (k:se z out dn sm er at' en):Vd r0 out dn sm er at' en e (ay z a):=by
 obtain ⟨a2,t2,k1,k2,k3,k4⟩:=k.end';obtain ⟨h0,⟨a1,t,r,h1,h2,h3⟩ | ⟨a1,t,h1,h2⟩⟩:=h
 ·obtain ⟨rfl,rfl⟩:=run_end h1 k1 h2.stuck k2
  rw[k3] at h3
  right
  refine ⟨r,h3,Or.inr ?_⟩;rcases k4 with ⟨c,_⟩ | ⟨e',n,_,c,c2,c3,c4,c5⟩ | ⟨c,_⟩
  ·exact absurd h2 (fun q=>wz c q)
  ·obtain ⟨rfl,rfl⟩:=EK h2 c
   exact ⟨(by rw[c2];rintro ⟨_,q,_⟩;cases q),c3.symm,c4.symm⟩
  ·exfalso
   cases h2 using Px.Fails.cs with
   | num hi hn hr=>rw[c] at hi;cases hi
   | sym hi hg hr=>rw[c] at hi;cases hi
   | bad hi hg=>rw[c] at hi;cases hi
 ·left
  obtain ⟨q,hq⟩:=(zX h1 k1 k2).ext;rw[<- k3,hq];exact h2.more q
structure SK (r0:Rw) (z:List One) (k:Nat) (s:St) (r:Rw):Prop where
 sim:Sim r0 z (8*k) s r
 whole:s.part=10->aR r=true
theorem Dd {r0:Rw} {z:List One} {i:Nat} {s:St} {r:Rw} (h:Sim r0 z i s r) (hp:s.part=10):∃ t,Run z 0 Px.St.start i t/\t.ph = .fin/\Cm r0 s r t:=by
 obtain ⟨a,t,q⟩:=h;have hph:=q.ph;have hfin:t.ph = .fin:=by
  cases hp2:t.ph using Px.Ph.cs with
  | fin=>rfl
  | _=>exfalso;rw[hp2] at hph;have:=hph.1;omega
 obtain ⟨rfl,_⟩:=q.fin hfin;exact ⟨t,q.run,hfin,q.cm⟩
def rZ (s:St) (r:Rw) (x:Nat):Nat:=if (takeB s r x).2.2≠0 then (takeB s r x).2.2 else if decide ((takeB s r x).1.part=10) && !aR (takeB s r x).2.1 then 18 else 0
theorem zO {r0:Rw} {z:List One} {k:Nat} {s:St} {r:Rw} (hcap:Cap r0) (hk:k<z.length) (h:SK r0 z k s r) :
  (rZ s r (vAt z k)=0/\(takeB s r (vAt z k)).2.2=0/\SK r0 z (k+1) (takeB s r (vAt z k)).1 (takeB s r (vAt z k)).2.1) \/
  (rZ s r (vAt z k)≠0/\∀ out dn sm er at' en,se z out dn sm er at' en->Vd r0 out dn sm er at' en (rZ s r (vAt z k)) (pAt z k)):=by
 unfold rZ;rcases IM hcap hk h.sim with ⟨h1,h2⟩ | ⟨h1,h2⟩
 ·rw[if_neg (by rw[h1];decide)]
  by_cases c:(takeB s r (vAt z k)).1.part=10
  ·by_cases d:aR (takeB s r (vAt z k)).2.1=true
   ·rw[if_neg (by rw[d];simp)]
    exact Or.inl ⟨rfl,h1,h2,fun _=>d⟩
   ·have d':aR (takeB s r (vAt z k)).2.1=false:=by simpa using d
    rw[if_pos (by rw[d',decide_eq_true c];rfl)];refine Or.inr ⟨by decide,fun out dn sm er at' en q => ?_⟩;obtain ⟨t,f1,f2,f3⟩:=Dd h2 c;obtain ⟨a2,t2,k1,k2,k3,k4⟩:=q.end';obtain ⟨rfl,rfl⟩:=run_end f1 k1 (Fin.stuck f2) k2
    right
    refine ⟨_,by rw[<- k3];exact f3.rows,Or.inl ?_⟩;rcases k4 with ⟨c',_⟩ | ⟨e',n,_,c',_⟩ | ⟨c',_,c2,c3,c4,_⟩
    ·exfalso
     cases c' using Px.lD.cs with
     | num hi hn=>rw[f2] at hi;cases hi
     | sym hi hg=>rw[f2] at hi;cases hi
    ·exfalso
     cases c' using Px.Fails.cs with
     | num hi hn hr=>rw[f2] at hi;cases hi
     | sym hi hg hr=>rw[f2] at hi;cases hi
     | bad hi hg=>rw[f2] at hi;cases hi
    ·refine ⟨c2,c3,d',rfl,?_⟩
     rw[c4];unfold ay;rw[show (8*(k+1) - 1) / 8=k by omega]
  ·rw[if_neg (by rw[decide_eq_false c];simp)]
   exact Or.inl ⟨rfl,h1,h2,fun q=>absurd q c⟩
 ·rw[if_pos h1]
  refine Or.inr ⟨h1,fun out dn sm er at' en q => ?_⟩;rcases h2 with ⟨p10,a,a1,a2,hb⟩ | ⟨p10,e20⟩
  ·have:=y9 hb q
   unfold ay at this;rw[show (a - 1) / 8=k by omega] at this;exact this
  ·rw[e20]
   obtain ⟨t,f1,f2,f3⟩:=Dd h.sim p10;obtain ⟨a2,t2,k1,k2,k3,k4⟩:=q.end';obtain ⟨rfl,rfl⟩:=run_end f1 k1 (Fin.stuck f2) k2
   right
   refine ⟨_,by rw[<- k3];exact f3.rows,Or.inr ?_⟩;rcases k4 with ⟨c',_⟩ | ⟨e',n,_,c',_⟩ | ⟨c',_,c2,c3,c4,c5,c6⟩
   ·exfalso
    cases c' using Px.lD.cs with
    | num hi hn=>rw[f2] at hi;cases hi
    | sym hi hg=>rw[f2] at hi;cases hi
   ·exfalso
    cases c' using Px.Fails.cs with
    | num hi hn hr=>rw[f2] at hi;cases hi
    | sym hi hg hr=>rw[f2] at hi;cases hi
    | bad hi hg=>rw[f2] at hi;cases hi
   ·rw[if_pos (by omega)] at c5 c6
    refine ⟨?_,c5.symm,?_⟩
    ·rw[h.whole p10];rintro ⟨_,_,q⟩;cases q
    ·rw[c6,show 8*k / 8=k by omega]
theorem pY {r0:Rw} {z out:List One} {s:St} {r:Rw} {dn sm:Bool} {er at' en:Nat} (h:SK r0 z z.length s r) (q:se z out dn sm er at' en) :
  cR r0 out=(r,0)/\er=0/\dn=decide (s.part=10)/\sm=dn/\¬ (dn=true/\sm=true/\aR r=false):=by
 obtain ⟨a,t,f⟩:=h.sim;obtain ⟨a2,t2,k1,k2,k3,k4⟩:=q.end';have hst:vg z a t/\((lD z a t/\s.part≠10)\/t.ph = .fin):=by
  have hu:=f.und;cases e:item t.ph using Px.Item.cs with
  | num n=>
   rw[e] at hu;obtain ⟨_,u2,_⟩:=hu;have hle:=f.le;have c:lD z a t := .num e (by omega)
   have:=(vV f.ph e).1
   exact ⟨c.stuck,Or.inl ⟨c,by omega⟩⟩
  | code l=>
   rw[e] at hu;have c:lD z a t := .sym e hu.1
   have:=(xv f.ph e).1
   exact ⟨c.stuck,Or.inl ⟨c,by omega⟩⟩
  | none=>
   have hf:t.ph = .fin:=by
    cases hp2:t.ph using Px.Ph.cs with
    | fin=>rfl
    | _=>rw[hp2] at e;cases e
   exact ⟨Fin.stuck hf,Or.inr hf⟩
 obtain ⟨rfl,rfl⟩:=run_end f.run k1 hst.1 k2;rw[<- k3];refine ⟨f.cm.rows,?_⟩;rcases hst.2 with ⟨c,p10⟩ | hf
 ·rcases k4 with ⟨_,c2,c3,c4⟩ | ⟨e',n,_,c',_⟩ | ⟨c',_⟩
  ·rw[decide_eq_false p10]
   exact ⟨c4,c2,by rw[c2,c3],by rw[c2];rintro ⟨q,_⟩;cases q⟩
  ·exact absurd c' (fun q=>wz c q)
  ·exfalso
   cases c using Px.lD.cs with
   | num hi hn=>rw[c'] at hi;cases hi
   | sym hi hg=>rw[c'] at hi;cases hi
 ·have p10:s.part=10:=by have:=f.ph;rw[hf] at this;exact this
  obtain ⟨ea,_⟩:=f.fin hf;rcases k4 with ⟨c',_⟩ | ⟨e',n,_,c',_⟩ | ⟨c',_,c2,c3,c4,c5,c6⟩
  ·exfalso
   cases c' using Px.lD.cs with
   | num hi hn=>rw[hf] at hi;cases hi
   | sym hi hg=>rw[hf] at hi;cases hi
  ·exfalso
   cases c' using Px.Fails.cs with
   | num hi hn hr=>rw[hf] at hi;cases hi
   | sym hi hg hr=>rw[hf] at hi;cases hi
   | bad hi hg=>rw[hf] at hi;cases hi
  ·rw[if_neg (by omega)] at c5
   refine ⟨c5,by rw[c2,decide_eq_true p10],by rw[c2,c3],?_⟩;rw[h.whole p10];rintro ⟨_,_,q⟩;cases q
theorem tY (r0:Rw) (z:List One):SK r0 z 0 St.start r0:=by
 refine ⟨⟨0,Px.St.start,.refl _ _,Nat.le_refl _,⟨rfl,rfl,rfl,fun j hj=>by simp [Px.St.start] at hj,rfl,rfl⟩,⟨rfl,rfl⟩,⟨rfl,by decide,rfl⟩,(fun q=>by cases q),(fun q=>by cases q)⟩,fun q=>by cases q⟩
structure RS (h:Hd) (C:Nat) (r:Rw) (p k m:Nat) (up:Nat->Nat):Prop where
 hd:r.hd=h
 colours:r.colours=C
 pass:r.pass=(p:Int)
 line:r.line=k
 columns:r.columns=bY h p
 lines:r.lines=fL h p
 size:r.size=aL h p
 taken:r.taken=m
 above:∀ j,j<aL h p->r.above j=(if k=0 then fun _=>0 else up) j
theorem RS.nw {h:Hd} {C:Nat} {r:Rw} {p k m:Nat} {up:Nat->Nat} (s:RS h C r p k m up) (hp:p<aF h.L):aR r=false:=by
 unfold aR;rw[s.hd,s.pass];exact decide_eq_false (by omega)
structure RT (h:Hd) (C:Nat) (r:Rw) (p k m t:Nat) (up:Nat->Nat) (o:List One):Prop where
 rs:RS h C r p k (m+1) up
 filter:r.filter=t
 row:∀ j,j<m->r.row j=fV (cE h) t (if k=0 then fun _=>0 else up) (oAt o) m j
theorem GB {h:Hd} {C:Nat} {r:Rw} {p k:Nat} {up:Nat->Nat} (s:RS h C r p k 0 up) (hp:p<aF h.L) (t:Nat) (ht:t<=4) (o:List One):(r.take t).2=0/\RT h C (r.take t).1 p k 0 t up o:=by
 have e:r.take t=({ r with taken:=1,filter:=t },0):=by
  unfold Rw.take;rw[s.nw hp,if_neg (by decide),if_pos s.taken];unfold Rw.takeF;rw[if_neg (by omega)]
 rw[e];exact ⟨rfl,⟨s.hd,s.colours,s.pass,s.line,s.columns,s.lines,s.size,rfl,s.above⟩,rfl,fun j hj=>by omega⟩
theorem De {h:Hd} {C:Nat} {r:Rw} {p k m t:Nat} {up:Nat->Nat} {o:List One} (s:RT h C r p k m t up o) (hm:m<aL h p) (q:Rw) (hq:q.hd=r.hd/\q.row=r.row/\q.above=r.above/\q.filter=r.filter) :
  ∀ j,j<m+1->(q.lay m (oAt o m)).row j=fV (cE h) t (if k=0 then fun _=>0 else up) (oAt o) (m+1) j:=by
 obtain ⟨q1,q2,q3,q4⟩:=hq;intro j hj;show upd q.row m (zG q m (oAt o m)) j=_
 rw[fV];by_cases e:j=m
 ·subst e
  rw[upd_same,upd_same];unfold zG qN qW;rw[q1,q2,q3,q4,s.filter,s.rs.hd,s.rs.above j hm];by_cases c:cE h<=j
  ·have h1:1<=cE h:=by unfold cE;omega
   rw[if_pos c,if_pos c,if_pos c,if_pos c,s.row (j - cE h) (by omega),s.rs.above (j - cE h) (by omega)]
  ·rw[if_neg c,if_neg c,if_neg c,if_neg c]
 ·rw[upd_ne _ _ _ e,upd_ne _ _ _ e,q2]
  exact s.row j (by omega)
theorem LD {h:Hd} {C:Nat} {r:Rw} {p k m t:Nat} {up:Nat->Nat} {o:List One} (s:RT h C r p k m t up o) (hp:p<aF h.L) (hm:m+1<aL h p):(r.take (oAt o m)).2=0/\RT h C (r.take (oAt o m)).1 p k (m+1) t up o:=by
 have e:r.take (oAt o m)=(({ r with taken:=r.taken+1 }:Rw).lay m (oAt o m),0):=by
  unfold Rw.take;rw[s.rs.nw hp,if_neg (by decide),if_neg (by rw[s.rs.taken];omega),if_pos (by rw[s.rs.taken,s.rs.size];omega),s.rs.taken];rfl
 rw[e];refine ⟨rfl,⟨s.rs.hd,s.rs.colours,s.rs.pass,s.rs.line,s.rs.columns,s.rs.lines,s.rs.size,by show r.taken+1=_;rw[s.rs.taken],s.rs.above⟩,s.filter,De s (by omega) _ ⟨rfl,rfl,rfl,rfl⟩⟩
theorem BI {h:Hd} {C:Nat} {r:Rw} {p k t:Nat} {up:Nat->Nat} {o:List One} (s:RT h C r p k 0 t up o) (hp:p<aF h.L):∀ m,m<aL h p->m<=o.length->(cR r (o.take m)).2=0/\RT h C (cR r (o.take m)).1 p k m t up o
 | 0,_,_=>⟨rfl,s⟩
 | m+1,h1,h2=>by
  obtain ⟨i1,i2⟩:=BI s hp m (by omega) (by omega);have e:o.take (m+1)=o.take m++[o[m]'(by omega)]:=by rw[List.take_succ_eq_append_getElem]
  have ex:(o[m]'(by omega)).1=oAt o m:=by unfold oAt;rw[List.getD_eq_getElem?_getD,List.getElem?_eq_getElem (by omega)];rfl
  obtain ⟨j1,j2⟩:=LD i2 hp h1;have eg:cR r (o.take m)=((cR r (o.take m)).1,0):=Prod.ext rfl i1;rw[e,pO eg,ex,if_pos j1];exact ⟨rfl,j2⟩
theorem LA {h:Hd} {p i:Nat} {x y:Nat->Nat} (hD:okD h.D) (hi:i<bY h p*chn h.K) (e:∀ j,j<aL h p->x j=y j):qE h.D x i=qE h.D y i:=by
 have h1:(i+1)*h.D<=bY h p*chn h.K*h.D:=Nat.mul_le_mul_right _ hi;have h2:aL h p=(bY h p*chn h.K*h.D+7) / 8:=by unfold aL bG;rw[Nat.mul_assoc]
 rw[Nat.add_mul,Nat.one_mul] at h1;unfold qE;have hd1:1<=h.D:=by unfold okD at hD;omega
 rw[e (i*h.D / 8) (by rw[h2];omega)];by_cases c:h.D<16
 ·rw[if_pos c,if_pos c]
 ·rw[if_neg c,if_neg c]
  have:h.D=16:=by unfold okD at hD;omega
  rw[e (i*h.D / 8+1) (by rw[h2];rw[this] at h1 ⊢;omega)]
def EU (r:Rw):Rw:=if r.lines<=r.line+1 then r.laid.next else r.laid
theorem LF {h:Hd} {C:Nat} {r:Rw} {p k m t:Nat} {up:Nat->Nat} {o:List One} (s:RT h C r p k m t up o) (hp:p<aF h.L) (hm:m+1=aL h p) (hD:okD h.D) :
  ∃ r1,RT h C r1 p k (m+1) t up o/\r1=({ r with taken:=r.taken+1 }:Rw).lay m (oAt o m)/\r.take (oAt o m)=if ly h C p (cy h p k t up o) then (r1,16) else (EU r1,0):=by
 have e:r.take (oAt o m)=(({ r with taken:=r.taken+1 }:Rw).lay m (oAt o m)).endRow:=by
  unfold Rw.take;rw[s.rs.nw hp,if_neg (by decide),if_neg (by rw[s.rs.taken];omega),if_neg (by rw[s.rs.taken,s.rs.size];omega),s.rs.taken];rfl
 have hu:=De s (by omega) ({ r with taken:=r.taken+1 }:Rw) ⟨rfl,rfl,rfl,rfl⟩;obtain ⟨r1,h1⟩:∃ r1,r1=({ r with taken:=r.taken+1 }:Rw).lay m (oAt o m):=⟨_,rfl⟩;have t1:RT h C r1 p k (m+1) t up o:=by
  rw[h1];exact ⟨⟨s.rs.hd,s.rs.colours,s.rs.pass,s.rs.line,s.rs.columns,s.rs.lines,s.rs.size,by show r.taken+1=_;rw[s.rs.taken],s.rs.above⟩,s.filter,hu⟩
 refine ⟨r1,t1,h1,?_⟩;rw[e,<- h1];have hb:r1.bad=ly h C p (cy h p k t up o):=by
  unfold Rw.bad ly;rw[t1.rs.hd];by_cases c:h.K=3
  ·rw[decide_eq_true c,Bool.true_and,Bool.true_and]
   have hc:chn h.K=1:=by rw[c];rfl
   unfold uN;rw[t1.rs.columns,Bool.eq_iff_iff];simp only [Bool.not_eq_true',List.any_eq_true,List.all_eq_false,List.mem_range,decide_eq_true_iff,decide_eq_false_iff_not];have key:∀ i,i<bY h p->dh r1 i=qE h.D (cy h p k t up o) i:=fun i hi=>by
    have e1:dh r1 i=qE h.D r1.row i:=by unfold dh qE;rw[t1.rs.hd]
    rw[e1];refine LA (p:=p) hD (by rw[hc];omega) (fun j hj => ?_);rw[t1.row j (by omega)];unfold cy;rw[hm]
   constructor
   ·rintro ⟨i,hi,hn⟩
    exact ⟨i,hi,by rw[<- key i hi,<- t1.rs.colours];omega⟩
   ·rintro ⟨i,hi,hn⟩
    exact ⟨i,hi,by rw[key i hi,t1.rs.colours];omega⟩
  ·rw[decide_eq_false c,Bool.false_and,Bool.false_and]
 unfold Rw.endRow EU;rw[hb]
def AtR (h:Hd) (C:Nat) (rs:List (Nat × Nat)) (r:Rw) (up:Nat->Nat):Prop:=
 (rs=[]/\aR r=true)\/∃ p k n,p+n+1=aF h.L/\k<fL h p/\0<bY h p/\rs=fC h p k++az h n (p+1)/\RS h C r p k 0 up
theorem Ec (h:Hd) (p k:Nat) (hk:k<fL h p):fC h p k=(p,k)::fC h p (k+1):=by
 unfold fC;rw[show fL h p - k=fL h p - (k+1)+1 by omega,List.range'_succ];rfl
theorem Ad (h:Hd) (p k:Nat) (hk:fL h p<=k):fC h p k=[]:=by
 unfold fC;rw[show fL h p - k=0 by omega];rfl
theorem Ha {h:Hd} {C:Nat} (up:Nat->Nat):∀ (f n:Nat) (r:Rw) (p:Nat),r.hd=h->r.colours=C->r.taken=0->r.pass=(p:Int)->p+n=aF h.L->n<f->AtR h C (az h n p) (Dm (kX f r)) up
 | 0,n,r,p,_,_,_,_,_,hf=>by omega
 | f+1,n,r,p,h1,h2,h3,h4,h5,hf=>by
  have hps:r.ps=aK h.L p:=by unfold Rw.ps;rw[h1,h4];rfl
  have hc:(bV r).columns=bY h p:=by show bz r.ps.cf r.ps.cs r.hd.W=_;rw[hps,h1];rfl
  have hl:(bV r).lines=fL h p:=by show bz r.ps.rf r.ps.rs r.hd.H=_;rw[hps,h1];rfl
  rw[kX];cases n with
  | zero=>
   rw[if_neg (by rw[h1,h4];omega)]
   left
   refine ⟨rfl,?_⟩;unfold aR;exact decide_eq_true (by show (aF r.hd.L:Int)<=r.pass;rw[h1,h4];omega)
  | succ n=>
   rw[if_pos (by rw[h1,h4];omega),hc,hl,az];by_cases c:0<bY h p/\0<fL h p
   ·rw[if_pos c,if_pos c.1]
    right
    refine ⟨p,0,n,by omega,c.2,c.1,rfl,h1,h2,h4,rfl,hc,hl,?_,h3,fun j hj => ?_⟩
    ·show ((bV r).columns*bG (bV r).hd+7) / 8=_
     rw[hc];show (bY h p*bG r.hd+7) / 8=_
     rw[h1];rfl
    ·rfl
   ·rw[if_neg c]
    have ih:=Ha (h:=h) (C:=C) up f n { bV r with pass:=r.pass+1 } (p+1) h1 h2 h3 (by show r.pass+1=_;rw[h4];rfl) (by omega) (by omega);have e:(if 0<bY h p then fC h p 0 else [])=[]:=by
     by_cases d:0<bY h p
     ·rw[if_pos d];exact Ad h p 0 (by omega)
     ·rw[if_neg d]
    rw[e];exact ih
theorem IJ (L:Nat):1<=aF L/\aF L<=7:=by unfold aF;split<;>omega
theorem vH (h:Hd) (C:Nat) (up:Nat->Nat):AtR h C (az h (aF h.L) 0) (Rw.start h C) up:=by
 have:=IJ h.L
 exact Ha up 8 (aF h.L) _ 0 rfl rfl rfl rfl (by omega) (by omega)
theorem Mg {h:Hd} {C:Nat} {r1:Rw} {p k t n:Nat} {up:Nat->Nat} {o:List One} (s:RT h C r1 p k (aL h p) t up o) (hn:p+n+1=aF h.L) (hk:k<fL h p) (hc:0<bY h p) :
  AtR h C (fC h p (k+1)++az h n (p+1)) (EU r1) (cy h p k t up o):=by
 have sm:=iG r1 r1.columns;obtain ⟨e1,e2,e3,e4,e5,e6,e7,e8,e9,e10,e11⟩:=sm;have cb:=IJ h.L;unfold EU;rw[s.rs.lines,s.rs.line];by_cases c:fL h p<=k+1
 ·rw[if_pos c,Ad h p (k+1) c,List.nil_append]
  refine Ha _ 8 n _ (p+1) ?_ ?_ rfl ?_ (by omega) (by omega)
  ·show (ch r1 r1.columns).hd=h
   rw[e1];exact s.rs.hd
  ·show (ch r1 r1.columns).colours=C
   rw[e2];exact s.rs.colours
  ·show (ch r1 r1.columns).pass+1=_
   rw[e3,s.rs.pass];rfl
 ·rw[if_neg c]
  right
  refine ⟨p,k+1,n,hn,by omega,hc,rfl,?_,?_,?_,?_,?_,?_,?_,rfl,fun j hj => ?_⟩
  ·show (ch r1 r1.columns).hd=h
   rw[e1];exact s.rs.hd
  ·show (ch r1 r1.columns).colours=C
   rw[e2];exact s.rs.colours
  ·show (ch r1 r1.columns).pass=_
   rw[e3,s.rs.pass]
  ·show r1.line+1=_
   rw[s.rs.line]
  ·show (ch r1 r1.columns).columns=_
   rw[e5,s.rs.columns]
  ·show (ch r1 r1.columns).lines=_
   rw[e6,s.rs.lines]
  ·show (ch r1 r1.columns).size=_
   rw[e7,s.rs.size]
  ·show (ch r1 r1.columns).row j=_
   rw[e10,if_neg (by omega),s.row j hj];rfl
def FV (r:Rw) (out:List One):ImR->Prop
 | .inl (_,e,p)=>fe r out p e
 | .inr (.inl _)=>∃ r',cR r out=(r',0)/\aR r'=false
 | .inr (.inr _)=>∃ r',cR r out=(r',0)/\aR r'=true
theorem fe.pre {r r':Rw} {l out:List One} {p e:Nat} (h:cR r l=(r',0)) (k:fe r' out p e):fe r (l++out) p e:=by
 obtain ⟨h0,pre,x,post,r1,rfl,h1,h2⟩:=k;refine ⟨h0,l++pre,x,post,r1,by simp,?_,h2⟩;rw[pP,h];exact h1
theorem FV.pre {r r':Rw} {l out:List One} {q:ImR} {x:Nat->Nat} (h:cR r l=(r',0)) (k:FV r' out q):FV r (l++out) (q.cons x):=by
 cases q using ImR.cs with
 | bad ls e p=>exact fe.pre h k
 | part ls=>obtain ⟨r2,k1,k2⟩:=k;exact ⟨r2,by rw[pP,h];exact k1,k2⟩
 | full ls=>obtain ⟨r2,k1,k2⟩:=k;exact ⟨r2,by rw[pP,h];exact k1,k2⟩
theorem Gw {h:Hd} {p:Nat} (hb:1<=bG h) (hc:0<bY h p):0<aL h p:=by
 unfold aL
 have:1*1<=bY h p*bG h:=Nat.mul_le_mul hc hb
 omega
theorem Dv {h:Hd} {C:Nat} (hD:okD h.D) (hb:1<=bG h):∀ (N:Nat) (rs:List (Nat × Nat)) (r:Rw) (up:Nat->Nat) (out:List One),rs.length<N->AtR h C rs r up->FV r out (aN h C rs up out)
 | 0,rs,r,up,out,hN,hA=>absurd hN (by omega)
 | N+1,rs,r,up,out,hN,hA=>by
  rcases hA with ⟨rfl,hw⟩ | ⟨p,k,n,hn,hk,hc,rfl,s⟩
  ·cases out with
   | nil=>rw[aN];exact ⟨r,rfl,hw⟩
   | cons x o=>
    rw[aN];refine ⟨by decide,[],x.1,o,r,rfl,rfl,?_⟩;unfold Rw.take;rw[hw];rfl
  ·have hp:p<aF h.L:=by omega
   have hz:=Gw hb hc;rw[Ec h p k hk] at hN ⊢;rw[List.cons_append] at hN ⊢;cases out with
   | nil=>rw[aN];exact ⟨r,rfl,s.nw hp⟩
   | cons x o=>
    rw[aN];by_cases c4:4<x.1
    ·rw[if_pos c4]
     refine ⟨by decide,[],x.1,o,r,rfl,rfl,?_⟩;unfold Rw.take;rw[s.nw hp,if_neg (by decide),if_pos s.taken];unfold Rw.takeF;rw[if_pos c4]
    rw[if_neg c4];obtain ⟨f1,f2⟩:=GB s hp x.1 (by omega) o;have g1:∀ l,cR r (x::l)=cR (r.take x.1).1 l:=fun l=>by rw[cR,if_pos f1]
    by_cases c5:o.length<aL h p
    ·rw[if_pos c5]
     obtain ⟨i1,i2⟩:=BI f2 hp o.length c5 (Nat.le_refl _);rw[List.take_length] at i1 i2;exact ⟨_,by rw[g1];exact Prod.ext rfl i1,i2.rs.nw hp⟩
    rw[if_neg c5];obtain ⟨i1,i2⟩:=BI f2 hp (aL h p - 1) (by omega) (by omega);have eg:cR (r.take x.1).1 (o.take (aL h p - 1))=((cR (r.take x.1).1 (o.take (aL h p - 1))).1,0):=Prod.ext rfl i1;obtain ⟨r1,j1,-,j2⟩:=LF i2 hp (by omega) hD;rw[show aL h p - 1+1=aL h p by omega] at j1;have hlast:aL h p - 1<o.length:=by omega
    have ex:(o[aL h p - 1]'hlast).1=oAt o (aL h p - 1):=by unfold oAt;rw[List.getD_eq_getElem?_getD,List.getElem?_eq_getElem hlast];rfl
    have ep:(o.getD (aL h p - 1) (0,0))=o[aL h p - 1]'hlast:=by rw[List.getD_eq_getElem?_getD,List.getElem?_eq_getElem hlast];rfl
    have eo:o=o.take (aL h p - 1)++(o[aL h p - 1]'hlast)::o.drop (aL h p):=by
     have:=List.take_append_drop (aL h p - 1) o
     rw[List.drop_eq_getElem_cons hlast,show aL h p - 1+1=aL h p by omega] at this;exact this.symm
    by_cases c6:ly h C p (cy h p k x.1 up o)=true
    ·rw[if_pos c6]
     rw[if_pos c6] at j2;refine ⟨by decide,x::o.take (aL h p - 1),oAt o (aL h p - 1),o.drop (aL h p),(cR (r.take x.1).1 (o.take (aL h p - 1))).1,?_,?_,?_⟩
     ·rw[ep,List.cons_append]
      conv=>lhs;rw[eo]
      rw[<- ex]
     ·rw[g1];exact eg
     ·rw[j2]
    ·rw[if_neg c6]
     rw[if_neg c6] at j2;have et:o.take (aL h p)=o.take (aL h p - 1)++[o[aL h p - 1]'hlast]:=by
      have:=List.take_succ_eq_append_getElem hlast
      rw[show aL h p - 1+1=aL h p by omega] at this;exact this
     have hrow:cR r (x::o.take (aL h p))=(EU r1,0):=by
      rw[g1,et,pO eg,ex,j2];rfl
     have hA':=Mg j1 hn hk hc;have ih:=Dv hD hb (rs:=fC h p (k+1)++az h n (p+1)) N (EU r1) (cy h p k x.1 up o) (o.drop (aL h p)) (by simp at hN ⊢;omega) hA'
     have:=FV.pre (x:=cy h p k x.1 up o) hrow ih
     rw[List.cons_append,List.take_append_drop] at this;exact this
theorem Ce {h:Hd} {C:Nat} (hD:okD h.D) (hb:1<=bG h) (N:Nat) (rs:List (Nat × Nat)) (r:Rw) (up:Nat->Nat) (out:List One) (hN:rs.length<=N) (hA:AtR h C rs r up):FV r out (aN h C rs up out) :=
 Dv hD hb (N+1) rs r up out (by omega) hA
