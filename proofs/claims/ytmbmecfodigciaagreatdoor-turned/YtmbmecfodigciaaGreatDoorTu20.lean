import Derived.Test.YtmbmecfodigciaaGreatDoorTu19
import Derived.Test.YtmbmecfodigciaaGreatDoorTu13
import Derived.Test.YtmbmecfodigciaaGreatDoorTu01
import Derived.Test.YtmbmecfodigciaaGreatDoorTu15
import Derived.Deep.RegionHeld3
set_option maxRecDepth 100000
set_option maxHeartbeats 6400000
namespace Go.Proofs.YtmbmecfodigciaaGreatDoor
open Go.RowKit Px
set_option linter.unusedSimpArgs false
set_option linter.unusedVariables false
structure DA (s:Rd) (st:St) (r:Rw) (h:Hd) (sp:Bool):Prop where
 ctype:s.ctype=idat
 inv:RdInv s
 st:s.st=st
 rw:s.rw=r
 hd:s.hd=h
 sd:s.sd=true
 dov:s.dov=false
 sp:s.sp=sp
structure DAt (s:Rd) (st:St) (r:Rw) (h:Hd) (sp:Bool) (S j N:Nat):Prop where
 da:DA s st r h sp
 part:s.part=3
 sum:s.sum=S
 lt:S<4294967296
 taken:s.taken=j
 length:s.length=N
theorem da_step {s:Rd} {st st':St} {r r':Rw} {h:Hd} {sp:Bool} {S j N x:Nat} (d:DAt s st r h sp S j N) (ht:takeB st r x=(st',r',0)) (hb:BitsOk 8 0 { st with skip:=false } r x) (h1:st.part≠10) (h2:st'.part=10->wholeP r'=true) (hx:x<256) (hj:j<N) (hN:N<1000000):∃ s',Rn s [x] s'/\DA s' st' r' h sp/\s'.sum=crcAdd S x/\(j+1<N->DAt s' st' r' h sp (crcAdd S x) (j+1) N)/\(j+1=N->s'.part=4/\s'.taken=0/\s'.number=0):=by
 have c2:(s.summed x).ctype=idat:=d.da.ctype
 have hS:crcAdd S x<4294967296:=crcAdd_lt _ _ d.lt hx
 have hk:(s.summed x).keep x=({ s.summed x with st:=st',rw:=r' },0):=by
  rw[keep_idat c2]
  unfold Rd.takeStream
  have e:takeB (s.summed x).st (s.summed x).rw x=(st',r',0):=by
   show takeB s.st s.rw x=_
   rw[d.da.st,d.da.rw,ht]
  have e2:(s.summed x).streamed x={ s.summed x with st:=st',rw:=r' }:=by
   unfold Rd.streamed;rw[e]
  rw[e,if_neg (fun q=>q rfl),e2]
  by_cases q:st'.part=10
  ·rw[decide_eq_true q,h2 q,if_neg (by decide)]
  ·rw[decide_eq_false q,if_neg (by simp)]
 have ok:TakeOk s x:=by
  have:=d.part;have:=d.da.inv
  refine ⟨by omega,fun q=>absurd d.part q,fun q=>by omega,by rw[d.sum];exact d.lt,fun q=>by omega,d.da.inv.hd,fun _ => ?_,fun _ => ?_,d.da.inv.raw,d.da.inv.clear⟩
  ·refine ⟨fun q => ?_,fun q => ?_,fun q => ?_,fun _ _ => ?_⟩
   ·rw[c2] at q;exact absurd q (by decide)
   ·rw[c2] at q;exact absurd q (by decide)
   ·rw[c2] at q;exact absurd q (by decide)
   ·show BitsOk 8 0 { s.st with skip:=false } s.rw x;rw[d.da.st,d.da.rw];exact hb
  ·rw[hk];show s.taken<2147483648;rw[d.taken];omega
 obtain ⟨q,hq⟩:∃ q,q=({ s.summed x with st:=st',rw:=r' }:Rd):=⟨_,rfl⟩
 rw[<- hq] at hk
 have et:s.take x=(q.dataEnd,0):=by
  rw[take3 d.part]
  unfold Rd.takeData
  rw[hk,if_neg (fun q=>q rfl)]
 have qt:q.taken=j:=by rw[hq];exact d.taken
 have ql:q.length=N:=by rw[hq];exact d.length
 have qs:q.sum=crcAdd S x:=by rw[hq];show crcAdd s.sum x=_;rw[d.sum]
 have qd:DA q st' r' h sp:=by rw[hq];exact ⟨d.da.ctype,⟨⟨d.da.inv.hd.W,d.da.inv.hd.H,d.da.inv.hd.D,d.da.inv.hd.K,d.da.inv.hd.L⟩,d.da.inv.raw,d.da.inv.clear,d.da.inv.colours⟩,rfl,rfl,d.da.hd,d.da.sd,d.da.dov,d.da.sp⟩
 have qp:q.part=3:=by rw[hq];exact d.part
 refine ⟨q.dataEnd,Rn.one ok et,?_⟩
 unfold Rd.dataEnd
 by_cases hE:q.taken+1=q.length
 ·rw[if_pos hE]
  refine ⟨⟨qd.ctype,⟨⟨qd.inv.hd.W,qd.inv.hd.H,qd.inv.hd.D,qd.inv.hd.K,qd.inv.hd.L⟩,qd.inv.raw,qd.inv.clear,qd.inv.colours⟩,qd.st,qd.rw,qd.hd,qd.sd,qd.dov,qd.sp⟩,qs,fun q=>by omega,fun _=>⟨rfl,rfl,rfl⟩⟩
 ·rw[if_neg hE]
  have qd':DA { q with taken:=q.taken+1 } st' r' h sp:=⟨qd.ctype,⟨⟨qd.inv.hd.W,qd.inv.hd.H,qd.inv.hd.D,qd.inv.hd.K,qd.inv.hd.L⟩,qd.inv.raw,qd.inv.clear,qd.inv.colours⟩,qd.st,qd.rw,qd.hd,qd.sd,qd.dov,qd.sp⟩
  refine ⟨qd',qs,fun _=>⟨qd',qp,qs,hS,by show q.taken+1=_;omega,ql⟩,fun q=>by omega⟩
structure ZR (st:St) (r:Rw) (l:List Nat) (st':St) (r':Rw):Prop where
 br:BR 0 st r (flat8 l) st' r'
 fin:st'.part=10->wholeP r'=true
theorem ZR.cons {x:Nat} {l:List Nat} {st st':St} {r r':Rw} (h:ZR st r (x::l) st' r'):∃ s1 r1,takeB st r x=(s1,r1,0)/\BitsOk 8 0 { st with skip:=false } r x/\st.part≠10/\(s1.part=10->wholeP r1=true)/\ZR s1 r1 l st' r':=by
 have hb:=h.br
 rw[flat8_cons] at hb
 obtain ⟨s1,r1,h1,h2⟩:=hb.split (by omega)
 rw[xb_len] at h2
 obtain ⟨k1,k2,k3⟩:=h1.byte
 refine ⟨s1,r1,k1,k2,k3,fun q => ?_,⟨h2,h.fin⟩⟩
 cases l with
 | nil=>
  obtain ⟨e1,e2⟩:=h2
  subst e1 e2
  exact h.fin q
 | cons y l=>
  rw[flat8_cons] at h2
  exact absurd q h2.1
theorem ZR.nil {st st':St} {r r':Rw} (h:ZR st r [] st' r'):st=st'/\r=r':=h.br
theorem da_run:∀ (l:List Nat) {s:Rd} {st st':St} {r r':Rw} {h:Hd} {sp:Bool} {S j N:Nat},l≠[]->DAt s st r h sp S j N->ZR st r l st' r'->(∀ x ∈ l,x<256)->j+l.length=N->N<1000000->∃ s',Rn s l s'/\DA s' st' r' h sp/\s'.sum=crcL S l/\s'.part=4/\s'.taken=0/\s'.number=0
 | [],s,st,st',r,r',h,sp,S,j,N,hl,_,_,_,_,_=>absurd rfl hl
 | x::l,s,st,st',r,r',h,sp,S,j,N,_,d,z,hb,hj,hN=>by
  obtain ⟨s1,r1,t1,t2,t3,t4,z1⟩:=z.cons
  rw[List.length_cons] at hj
  obtain ⟨a,g,da,hs,hm,he⟩:=da_step d t1 t2 t3 t4 (hb x (by simp)) (by omega) hN
  cases l with
  | nil=>
   obtain ⟨e1,e2⟩:=z1.nil
   subst e1 e2
   obtain ⟨p1,p2,p3⟩:=he (by rw[<- hj];rfl)
   exact ⟨a,g,da,hs,p1,p2,p3⟩
  | cons y l=>
   rw[List.length_cons] at hj
   obtain ⟨b,g2,k⟩:=da_run (y::l) (by simp) (hm (by omega)) z1 (fun w hw=>hb w (by simp [hw])) (by rw[List.length_cons];omega) hN
   exact ⟨b,g.append g2,k⟩
structure BD (s:Rd) (st:St) (r:Rw) (h:Hd) (sp:Bool):Prop where
 da:DA s st r h sp
 part:s.part=1
 taken:s.taken=0
 number:s.number=0
 sum:s.sum<4294967296
theorem note_idat2 {t:Rd} (h:t.ctype=idat) (h2:t.sd=true):t.note=t:=by
 have e:t.note1=t:=by
  unfold Rd.note1;rw[if_neg (by rw[h];decide),if_neg (by rw[h];decide),if_pos h]
  unfold Rd.begin;rw[if_pos h2]
 unfold Rd.note
 rw[e]
 unfold Rd.note2
 rw[if_neg (by rw[h];simp)]
theorem RdInv.put {s t:Rd} (h:RdInv s) (e1:t.hd=s.hd) (e2:t.raw=s.raw) (e3:t.tl=s.tl):RdInv t:=
 ⟨⟨by rw[e1];exact h.hd.W,by rw[e1];exact h.hd.H,by rw[e1];exact h.hd.D,by rw[e1];exact h.hd.K,by rw[e1];exact h.hd.L⟩,by rw[e2];exact h.raw,by rw[e3];exact h.clear,by rw[e3];exact h.colours⟩
theorem idat_data {a:Rd} {l:List Nat} {st st':St} {r r':Rw} {h:Hd} {sp:Bool} {s:Rd} (hb:∀ x ∈ l,x<256) (hl:l.length<1000000) (z:ZR st r l st' r') (da:DA a st r h sp) (ha:a.length=l.length) (hs:a.sum=crcL crcStart (beN idat)) (o:Rn s (beN l.length++beN idat) (a.enter (if l.length=0 then 4 else 3))):∃ s',Rn s (chN idat l) s'/\BD s' st' r' h sp:=by
 have hS:crcL crcStart (beN idat)<4294967296:=crcL_lt _ _ crcStart_lt (beN_lt _)
 have key:∃ q,Rn (a.enter (if l.length=0 then 4 else 3)) l q/\DA q st' r' h sp/\q.sum=crcL crcStart (beN idat++l)/\q.part=4/\q.taken=0/\q.number=0:=by
  by_cases hl0:l=[]
  ·subst hl0
   obtain ⟨e1,e2⟩:=z.nil
   subst e1 e2
   exact ⟨a.enter 4,rfl,⟨da.ctype,da.inv.put rfl rfl rfl,da.st,da.rw,da.hd,da.sd,da.dov,da.sp⟩,by rw[List.append_nil];exact hs,rfl,rfl,rfl⟩
  ·have hn:l.length≠0:=fun q=>hl0 (List.length_eq_zero_iff.1 q)
   rw[if_neg hn]
   obtain ⟨q,g,k1,k2,k3⟩:=da_run l (s:=a.enter 3) (S:=crcL crcStart (beN idat)) (j:=0) (N:=l.length) hl0 ⟨⟨da.ctype,da.inv.put rfl rfl rfl,da.st,da.rw,da.hd,da.sd,da.dov,da.sp⟩,rfl,hs,hS,rfl,ha⟩ z hb (by omega) hl
   exact ⟨q,g,k1,by rw[k2,crcL_app],k3⟩
 obtain ⟨q,g,k1,k2,k3,k4,k5⟩:=key
 have hql:q.sum<4294967296:=by
  rw[k2];exact crcL_lt _ _ crcStart_lt (fun x hx=>by rcases List.mem_append.1 hx with h | h;exact beN_lt _ x h;exact hb x h)
 have n4:=num4_go (s:=q) (n:=crcEnd q.sum) (a':={ q with taken:=4,number:=crcEnd q.sum }) k1.inv k3 k4 k5 hql (crcEnd_lt _ hql) rfl (by
  unfold Rd.accept
  rw[if_neg (by show ¬ q.ctype=ihdr;rw[k1.ctype];decide),if_neg (by show ¬ q.ctype=trns;rw[k1.ctype];decide)]) (by show q.ctype≠iend;rw[k1.ctype];decide)
 refine ⟨({ q with taken:=4,number:=crcEnd q.sum }:Rd).enter 1,?_,⟨⟨k1.ctype,k1.inv.put rfl rfl rfl,k1.st,k1.rw,k1.hd,k1.sd,k1.dov,k1.sp⟩,rfl,rfl,rfl,hql⟩⟩
 ·unfold chN
  rw[<- List.append_assoc,<- k2]
  exact o.append (g.append n4)
theorem idat_more {s:Rd} {l:List Nat} {st st':St} {r r':Rw} {h:Hd} {sp:Bool} (b:BD s st r h sp) (hW:1<=h.W) (hK:h.K=3->sp=true) (hb:∀ x ∈ l,x<256) (hl:l.length<1000000) (z:ZR st r l st' r'):∃ s',Rn s (chN idat l) s'/\BD s' st' r' h sp:=by
 obtain ⟨t,ht⟩:∃ t,t=tyS (lnS s l.length) idat (crcL crcStart (beN idat)):=⟨_,rfl⟩
 have t1:t.hd=h:=by rw[ht];exact b.da.hd
 have t2:t.sd=true:=by rw[ht];exact b.da.sd
 have t3:t.sp=sp:=by rw[ht];exact b.da.sp
 have t5:t.ctype=idat:=by rw[ht];rfl
 have t6:t.length=l.length:=by rw[ht];rfl
 have t8:t.dov=false:=by rw[ht];exact b.da.dov
 have il:RdInv (lnS s l.length):=b.da.inv.put rfl rfl rfl
 have hn:t.note=t:=note_idat2 t5 t2
 have o1:=len_go (n:=l.length) b.da.inv b.part b.taken b.number b.sum (by omega)
 have o2:=ty_go (s:=lnS s l.length) (T:=idat) il rfl rfl rfl crcStart_lt (by decide) (by show l.length<2147483648;omega) (by
  show (tyS (lnS s l.length) idat (crcL crcStart (beN idat))).checkType=0
  rw[<- ht]
  unfold Rd.checkType
  rw[if_neg (by rw[t5];decide),if_neg (by rw[t1];omega),if_neg (by unfold Rd.short;rw[t5];simp)]
  unfold Rd.checkKind
  rw[if_neg (by rw[t5];decide),if_neg (by rw[t5];decide),if_neg (by rw[t5];decide),if_pos t5]
  unfold Rd.checkData
  rw[t8,t3,t1,if_neg]
  intro q
  by_cases k3:h.K=3
  ·rw[hK k3] at q;simp at q
  ·rw[decide_eq_false k3] at q;simp at q)
 replace o2:Rn (lnS s l.length) (beN idat) ((tyS (lnS s l.length) idat (crcL crcStart (beN idat))).note.enter (if (tyS (lnS s l.length) idat (crcL crcStart (beN idat))).note.length=0 then 4 else 3)):=o2
 rw[<- ht,hn,t6] at o2
 exact idat_data hb hl z ⟨t5,by rw[ht];exact b.da.inv.put rfl rfl rfl,by rw[ht];exact b.da.st,by rw[ht];exact b.da.rw,t1,t2,t8,t3⟩ t6 (by rw[ht];rfl) (o1.append o2)
theorem note_idat1 {t:Rd} (h:t.ctype=idat) (h2:t.sd=false):t.note={ t with sd:=true,st:=St.start,rw:=Rw.start t.hd t.tl.colours }:=by
 have e:t.note1={ t with sd:=true,st:=St.start,rw:=Rw.start t.hd t.tl.colours }:=by
  unfold Rd.note1;rw[if_neg (by rw[h];decide),if_neg (by rw[h];decide),if_pos h]
  unfold Rd.begin;rw[h2,if_neg (by decide)]
 unfold Rd.note
 rw[e]
 unfold Rd.note2
 rw[if_neg (by show ¬ (true && decide (t.ctype≠idat))=true;rw[h];decide)]
theorem idat_open {s:Rd} {n:Nat} {h:Hd} {sp sc:Bool} {C:Nat} (b:Bnd s h sp sc C) (hW:1<=h.W) (hK:h.K=3->sp=true) (hl:n<1000000):∃ u:Rd,Rn s (beN n++beN idat) (u.enter (if n=0 then 4 else 3))/\DA u St.start (Rw.start h C) h sp/\u.length=n/\u.sum=crcL crcStart (beN idat)/\u.tl=s.tl:=by
 obtain ⟨t,ht⟩:∃ t,t=tyS (lnS s n) idat (crcL crcStart (beN idat)):=⟨_,rfl⟩
 have t1:t.hd=h:=by rw[ht];exact b.hd
 have t2:t.sd=false:=by rw[ht];exact b.sd
 have t3:t.sp=sp:=by rw[ht];exact b.sp
 have t5:t.ctype=idat:=by rw[ht];rfl
 have t6:t.length=n:=by rw[ht];rfl
 have t7:t.tl.colours=C:=by rw[ht];exact b.col
 have t8:t.dov=false:=by rw[ht];exact b.dov
 have il:RdInv (lnS s n):=b.inv.put rfl rfl rfl
 have it:RdInv t:=by rw[ht];exact b.inv.put rfl rfl rfl
 obtain ⟨u,hu⟩:∃ u,u=({ t with sd:=true,st:=St.start,rw:=Rw.start h C }:Rd):=⟨_,rfl⟩
 have er:Rw.start t.hd t.tl.colours=Rw.start h C:=by rw[t1,t7]
 have hn:t.note=u:=by rw[note_idat1 t5 t2,er,hu]
 have ul:u.length=n:=by rw[hu];exact t6
 have o1:=len_go (n:=n) b.inv b.part b.taken b.number b.sum (by omega)
 have o2:=ty_go (s:=lnS s n) (T:=idat) il rfl rfl rfl crcStart_lt (by decide) (by show n<2147483648;omega) (by
  show (tyS (lnS s n) idat (crcL crcStart (beN idat))).checkType=0
  rw[<- ht]
  unfold Rd.checkType
  rw[if_neg (by rw[t5];decide),if_neg (by rw[t1];omega),if_neg (by unfold Rd.short;rw[t5];simp)]
  unfold Rd.checkKind
  rw[if_neg (by rw[t5];decide),if_neg (by rw[t5];decide),if_neg (by rw[t5];decide),if_pos t5]
  unfold Rd.checkData
  rw[t8,t3,t1,if_neg]
  intro q
  by_cases k3:h.K=3
  ·rw[hK k3] at q;simp at q
  ·rw[decide_eq_false k3] at q;simp at q)
 replace o2:Rn (lnS s n) (beN idat) ((tyS (lnS s n) idat (crcL crcStart (beN idat))).note.enter (if (tyS (lnS s n) idat (crcL crcStart (beN idat))).note.length=0 then 4 else 3)):=o2
 rw[<- ht,hn,ul] at o2
 refine ⟨u,o1.append o2,?_,ul,by rw[hu,ht];rfl,by rw[hu,ht];rfl⟩
 rw[hu]
 exact ⟨t5,it.put rfl rfl rfl,rfl,rfl,t1,rfl,t8,t3⟩
theorem idat_first {s:Rd} {l:List Nat} {st':St} {r':Rw} {h:Hd} {sp sc:Bool} {C:Nat} (b:Bnd s h sp sc C) (hW:1<=h.W) (hK:h.K=3->sp=true) (hb:∀ x ∈ l,x<256) (hl:l.length<1000000) (z:ZR St.start (Rw.start h C) l st' r'):∃ s',Rn s (chN idat l) s'/\BD s' st' r' h sp:=by
 obtain ⟨u,o,da,ul,us,_⟩:=idat_open b hW hK hl
 exact idat_data (a:=u) hb hl z da ul us o
structure TlF (T:Tl) (s:Rd):Prop where
 tl:s.tl=T
 sd:s.sd=true
 c:s.part=3->s.ctype≠plte/\s.ctype≠trns
theorem sd_type {t:Rd} (hsd:t.sd=true) (hc:t.checkType=0):t.ctype≠plte/\t.ctype≠trns:=by
 unfold Rd.checkType at hc
 split at hc
 ·exact absurd hc (by decide)
 ·split at hc
  ·unfold Rd.checkFirst at hc
   split at hc
   ·exact absurd hc (by decide)
   ·rename_i h1
    have h1:t.ctype=ihdr:=Decidable.not_not.1 h1
    rw[h1];exact ⟨by decide,by decide⟩
  ·split at hc
   ·exact absurd hc (by decide)
   ·unfold Rd.checkKind at hc
    refine ⟨fun q => ?_,fun q => ?_⟩
    ·rw[if_neg (by rw[q];decide),if_pos q] at hc
     unfold Rd.checkPalette at hc
     rw[hsd,if_pos (by simp)] at hc
     exact absurd hc (by decide)
    ·rw[if_neg (by rw[q];decide),if_neg (by rw[q];decide),if_pos q] at hc
     unfold Rd.checkClear at hc
     rw[hsd,if_pos (by simp)] at hc
     exact absurd hc (by decide)
theorem note_sd {t:Rd} (hsd:t.sd=true) (h1:t.ctype≠plte) (h2:t.ctype≠trns):t.note.tl=t.tl/\t.note.sd=true/\t.note.ctype=t.ctype:=by
 have e:t.note1=t:=by
  unfold Rd.note1
  rw[if_neg h1,if_neg h2]
  split
  ·unfold Rd.begin;rw[if_pos hsd]
  ·rfl
 unfold Rd.note
 rw[e]
 unfold Rd.note2
 split
 ·exact ⟨rfl,hsd,rfl⟩
 ·exact ⟨rfl,hsd,rfl⟩
theorem keep_tl {s:Rd} {x:Nat} (h1:s.ctype≠plte) (h2:s.ctype≠trns):(s.keep x).1.tl=s.tl/\(s.keep x).1.sd=s.sd/\(s.keep x).1.ctype=s.ctype:=by
 unfold Rd.keep
 split
 ·exact ⟨rfl,rfl,rfl⟩
 ·first | rw[if_neg h1,if_neg h2] | skip
  split
  ·unfold Rd.takeStream
   split
   ·exact ⟨rfl,rfl,rfl⟩
   ·split
    ·exact ⟨rfl,rfl,rfl⟩
    ·exact ⟨rfl,rfl,rfl⟩
  ·exact ⟨rfl,rfl,rfl⟩
theorem accept_tl (s:Rd):s.accept.1.tl=s.tl/\s.accept.1.sd=s.sd:=by
 unfold Rd.accept
 split
 ·unfold Rd.acceptHead
  split
  ·exact ⟨rfl,rfl⟩
  ·exact ⟨rfl,rfl⟩
 ·split
  ·exact ⟨rfl,rfl⟩
  ·exact ⟨rfl,rfl⟩
theorem TlF.take {T:Tl} {s:Rd} {x:Nat} (h:TlF T s) (he:(s.take x).2=0):TlF T (s.take x).1:=by
 unfold Rd.take at he ⊢
 by_cases p0:s.part=0
 ·rw[if_pos p0]
  unfold Rd.takeSign
  split
  ·exact h
  ·split
   ·exact ⟨h.tl,h.sd,fun q=>absurd (show (1:Nat)=3 from q) (by decide)⟩
   ·exact ⟨h.tl,h.sd,fun q=>by replace q:s.part=3:=q;omega⟩
 rw[if_neg p0] at he ⊢
 by_cases p1:s.part=1
 ·rw[if_pos p1]
  unfold Rd.takeLength
  split
  ·exact ⟨h.tl,h.sd,fun q=>by replace q:s.part=3:=q;omega⟩
  ·split
   ·exact ⟨h.tl,h.sd,fun q=>by replace q:s.part=3:=q;omega⟩
   ·exact ⟨h.tl,h.sd,fun q=>absurd (show (2:Nat)=3 from q) (by decide)⟩
 rw[if_neg p1] at he ⊢
 by_cases p2:s.part=2
 ·rw[if_pos p2] at he ⊢
  unfold Rd.takeType at he ⊢
  by_cases t1:s.taken+1≠4
  ·rw[if_pos t1];exact ⟨h.tl,h.sd,fun q=>by replace q:s.part=3:=q;omega⟩
  rw[if_neg t1] at he ⊢
  by_cases t2:(s.typed x).checkType≠0
  ·rw[if_pos t2] at he;exact absurd he t2
  rw[if_neg t2]
  obtain ⟨c1,c2⟩:=sd_type (t:=s.typed x) h.sd (by omega)
  obtain ⟨n1,n2,n3⟩:=note_sd (t:=s.typed x) h.sd c1 c2
  split
  ·exact ⟨n1.trans h.tl,n2,fun q=>absurd (show (4:Nat)=3 from q) (by decide)⟩
  ·refine ⟨n1.trans h.tl,n2,fun _ => ?_⟩
   show (s.typed x).note.ctype≠plte/\(s.typed x).note.ctype≠trns
   rw[n3];exact ⟨c1,c2⟩
 rw[if_neg p2] at he ⊢
 by_cases p3:s.part=3
 ·rw[if_pos p3]
  obtain ⟨k1,k2,k3⟩:=keep_tl (s:=s.summed x) (x:=x) (h.c p3).1 (h.c p3).2
  have hc:((s.summed x).keep x).1.ctype≠plte/\((s.summed x).keep x).1.ctype≠trns:=by rw[k3];exact h.c p3
  unfold Rd.takeData
  split
  ·exact ⟨k1.trans h.tl,k2.trans h.sd,fun _=>hc⟩
  ·show TlF T ((s.summed x).keep x).1.dataEnd
   unfold Rd.dataEnd
   split
   ·exact ⟨k1.trans h.tl,k2.trans h.sd,fun q=>absurd (show (4:Nat)=3 from q) (by decide)⟩
   ·exact ⟨k1.trans h.tl,k2.trans h.sd,fun _=>hc⟩
 rw[if_neg p3] at he ⊢
 by_cases p4:s.part=4
 ·rw[if_pos p4] at he ⊢
  obtain ⟨k1,k2⟩:=accept_tl (s.num x)
  unfold Rd.takeSum at he ⊢
  split
  ·exact ⟨h.tl,h.sd,fun q=>by replace q:s.part=3:=q;omega⟩
  ·split
   ·exact ⟨h.tl,h.sd,fun q=>by replace q:s.part=3:=q;omega⟩
   ·rename_i t1 t2
    rw[if_neg t1,if_neg t2] at he
    split
    ·rename_i t3
     rw[if_pos t3] at he
     exact absurd he t3
    ·split
     ·exact ⟨k1.trans h.tl,k2.trans h.sd,fun q=>absurd (show (5:Nat)=3 from q) (by decide)⟩
     ·exact ⟨k1.trans h.tl,k2.trans h.sd,fun q=>absurd (show (1:Nat)=3 from q) (by decide)⟩
 ·rw[if_neg p4];exact h
theorem Rn.tlf {T:Tl}:∀ {l:List Nat} {s b:Rd},Rn s l b->TlF T s->TlF T b
 | [],s,b,h,k=>by cases h;exact k
 | x::l,s,b,h,k=>Rn.tlf h.2.2 (k.take h.2.1)
theorem Rn.cut:∀ {l m:List Nat} {s b:Rd},Rn s (l++m) b->∃ a,Rn s l a/\Rn a m b
 | [],m,s,b,h=>⟨s,rfl,h⟩
 | x::l,m,s,b,h=>by
  obtain ⟨a,h1,h2⟩:=Rn.cut (l:=l) h.2.2
  exact ⟨a,⟨h.1,h.2.1,h1⟩,h2⟩
theorem Rn.det:∀ {l:List Nat} {s a b:Rd},Rn s l a->Rn s l b->a=b
 | [],s,a,b,h,k=>h.symm.trans k
 | x::l,s,a,b,h,k=>Rn.det h.2.2 k.2.2
theorem first_tl {s s':Rd} {l m:List Nat} {h:Hd} {sp sc:Bool} {C:Nat} (b:Bnd s h sp sc C) (hW:1<=h.W) (hK:h.K=3->sp=true) (hl:l.length<1000000) (g:Rn s (chN idat l++m) s'):s'.tl=s.tl:=by
 obtain ⟨u,o,da,_,_,ut⟩:=idat_open (n:=l.length) b hW hK hl
 have e:chN idat l++m=(beN l.length++beN idat)++(l++(beN (crcEnd (crcL crcStart (beN idat++l)))++m)):=by unfold chN;simp only [List.append_assoc]
 rw[e] at g
 obtain ⟨a,g1,g2⟩:=g.cut
 have ea:=g1.det o
 rw[ea] at g2
 exact (g2.tlf (T:=s.tl) ⟨ut,da.sd,fun _=>⟨by show u.ctype≠plte;rw[da.ctype];decide,by show u.ctype≠trns;rw[da.ctype];decide⟩⟩).tl
theorem iend_go {s:Rd} {st:St} {r:Rw} {h:Hd} {sp:Bool} (b:BD s st r h sp) (hW:1<=h.W) (hp:st.part=10):∃ s',Rn s (chN iend []) s'/\s'.part=5/\s'.hd=h/\s'.rw=r/\s'.tl=s.tl/\RdInv s':=by
 obtain ⟨t,ht⟩:∃ t,t=tyS (lnS s 0) iend (crcL crcStart (beN iend)):=⟨_,rfl⟩
 have t1:t.hd=h:=by rw[ht];exact b.da.hd
 have t2:t.sd=true:=by rw[ht];exact b.da.sd
 have t4:t.st=st:=by rw[ht];exact b.da.st
 have t5:t.ctype=iend:=by rw[ht];rfl
 have t6:t.length=0:=by rw[ht];rfl
 have t8:t.rw=r:=by rw[ht];exact b.da.rw
 have t9:t.tl=s.tl:=by rw[ht];rfl
 have hS:crcL crcStart (beN iend)<4294967296:=crcL_lt _ _ crcStart_lt (beN_lt _)
 have ts:t.sum=crcL crcStart (beN iend):=by rw[ht];rfl
 have il:RdInv (lnS s 0):=b.da.inv.put rfl rfl rfl
 have it:RdInv t:=by rw[ht];exact b.da.inv.put rfl rfl rfl
 obtain ⟨u,hu⟩:∃ u,u=({ t with dov:=true }:Rd):=⟨_,rfl⟩
 have hn:t.note=u:=by
  have e:t.note1=t:=by unfold Rd.note1;rw[if_neg (by rw[t5];decide),if_neg (by rw[t5];decide),if_neg (by rw[t5];decide)]
  unfold Rd.note
  rw[e,hu]
  unfold Rd.note2
  rw[if_pos (by rw[t2,t5];decide)]
 have ul:u.length=0:=by rw[hu];exact t6
 have o1:=len_go (n:=0) b.da.inv b.part b.taken b.number b.sum (by omega)
 have o2:=ty_go (s:=lnS s 0) (T:=iend) il rfl rfl rfl crcStart_lt (by decide) (by show 0<2147483648;omega) (by
  show (tyS (lnS s 0) iend (crcL crcStart (beN iend))).checkType=0
  rw[<- ht]
  unfold Rd.checkType
  rw[if_neg (by rw[t5];decide),if_neg (by rw[t1];omega),if_neg (by unfold Rd.short;rw[t4,hp];simp)]
  unfold Rd.checkKind
  rw[if_neg (by rw[t5];decide),if_neg (by rw[t5];decide),if_neg (by rw[t5];decide),if_neg (by rw[t5];decide),if_pos t5]
  unfold Rd.checkEnd
  rw[t2,if_neg (by decide),t6,if_neg (by decide)])
 replace o2:Rn (lnS s 0) (beN iend) ((tyS (lnS s 0) iend (crcL crcStart (beN iend))).note.enter (if (tyS (lnS s 0) iend (crcL crcStart (beN iend))).note.length=0 then 4 else 3)):=o2
 rw[<- ht,hn,ul,if_pos rfl] at o2
 obtain ⟨q,hq0⟩:∃ q,q=u.enter 4:=⟨_,rfl⟩
 rw[<- hq0] at o2
 have hq:q=({ t with dov:=true }:Rd).enter 4:=by rw[hq0,hu]
 have qs:q.sum=crcL crcStart (beN iend):=by rw[hq];exact ts
 have qc:q.ctype=iend:=by rw[hq];exact t5
 have qi:RdInv q:=by rw[hq];exact it.put rfl rfl rfl
 obtain ⟨n,hn'⟩:∃ n,n=crcEnd q.sum:=⟨_,rfl⟩
 have hnl:n<4294967296:=by rw[hn',qs];exact crcEnd_lt _ hS
 have hql:q.sum<4294967296:=by rw[qs];exact hS
 have qp:q.part=4:=by rw[hq];rfl
 have qt:q.taken=0:=by rw[hq];rfl
 have qn:q.number=0:=by rw[hq];rfl
 have o3:Rn q (beN n) (({ q with taken:=4,number:=n }:Rd).enter 5):=by
  have e:=be_num n (by omega)
  have a0:n / 16777216 % 256<256:=by omega
  have a1:n / 65536 % 256<256:=by omega
  have a2:n / 256 % 256<256:=by omega
  have a3:n % 256<256:=by omega
  unfold beN
  generalize n / 16777216 % 256=a at *
  generalize n / 65536 % 256=b at *
  generalize n / 256 % 256=c at *
  generalize n % 256=d at *
  refine Rn.cons (a:=q.num a) (ok14 qi (Or.inr qp) (by omega) (by omega) hql) ?_ ?_
  ·rw[take4 qp];unfold Rd.takeSum;rw[if_pos (by omega)]
  refine Rn.cons (a:=(q.num a).num b) (ok14 (qi.num a) (Or.inr qp) (by show q.taken+1<1000;omega) (by show q.number*256+a<16777216;omega) hql) ?_ ?_
  ·rw[take4 (s:=q.num a) qp];unfold Rd.takeSum;rw[if_pos (by show q.taken+1+1≠4;omega)]
  refine Rn.cons (a:=((q.num a).num b).num c) (ok14 ((qi.num a).num b) (Or.inr qp) (by show q.taken+1+1<1000;omega) (by show (q.number*256+a)*256+b<16777216;omega) hql) ?_ ?_
  ·rw[take4 (s:=(q.num a).num b) qp];unfold Rd.takeSum;rw[if_pos (by show q.taken+1+1+1≠4;omega)]
  refine Rn.one (ok14 (((qi.num a).num b).num c) (Or.inr qp) (by show q.taken+1+1+1<1000;omega) (by show ((q.number*256+a)*256+b)*256+c<16777216;omega) hql) ?_
  rw[take4 (s:=((q.num a).num b).num c) qp]
  have e2:(((q.num a).num b).num c).number*256+d=n:=num0 qn e
  have en:(((q.num a).num b).num c).num d={ q with taken:=4,number:=n }:=by
   show ({ q with number:=(((q.num a).num b).num c).number*256+d,taken:=q.taken+1+1+1+1 }:Rd)=_
   rw[e2,qt]
  have ea:({ q with taken:=4,number:=n }:Rd).accept=({ q with taken:=4,number:=n },0):=by
   unfold Rd.accept
   rw[if_neg (by show ¬ q.ctype=ihdr;rw[qc];decide),if_neg (by show ¬ q.ctype=trns;rw[qc];decide)]
  unfold Rd.takeSum
  rw[if_neg (by show ¬ (q.taken+1+1+1+1≠4);omega),e2,if_neg (by show ¬ (n≠crcEnd q.sum);exact fun k=>k hn'),en,ea,if_neg (fun k=>k rfl),if_pos (by show q.ctype=iend;exact qc)]
 refine ⟨({ q with taken:=4,number:=n }:Rd).enter 5,?_,rfl,?_,?_,?_,qi.put rfl rfl rfl⟩
 ·unfold chN
  show Rn s (beN 0++(beN iend++([]++beN (crcEnd (crcL crcStart (beN iend++[])))))) _
  rw[List.nil_append,List.append_nil,<- qs,<- hn']
  exact o1.append (o2.append o3)
 ·rw[hq];exact t1
 ·rw[hq];exact t8
 ·rw[hq];exact t9
theorem xor_canc (a b c:Nat) (h:a ^^^ c=b ^^^ c):a=b:=by
 have:(a ^^^ c) ^^^ c=(b ^^^ c) ^^^ c:=by rw[h]
 rwa [Nat.xor_assoc,Nat.xor_assoc,Nat.xor_self,Nat.xor_zero,Nat.xor_zero] at this
theorem crcBit_inj {a b:Nat} (ha:a<4294967296) (hb:b<4294967296) (h:crcBit a=crcBit b):a=b:=by
 have key:∀ u v:Nat,u<2147483648->v<2147483648->u ^^^ 3988292384≠v:=fun u v hu hv e=>by
  have h1:(u ^^^ 3988292384).testBit 31=true:=by
   rw[Nat.testBit_xor,Nat.testBit_lt_two_pow (show u<2^31 from hu)];decide
  rw[e,Nat.testBit_lt_two_pow (show v<2^31 from hv)] at h1
  cases h1
 unfold crcBit at h
 by_cases h1:a % 2=1
 ·rw[if_pos h1] at h
  by_cases h2:b % 2=1
  ·rw[if_pos h2] at h
   have:=xor_canc _ _ _ h
   omega
  ·rw[if_neg h2] at h
   exact absurd h (key _ _ (by omega) (by omega))
 ·rw[if_neg h1] at h
  by_cases h2:b % 2=1
  ·rw[if_pos h2] at h
   exact absurd h.symm (key _ _ (by omega) (by omega))
  ·rw[if_neg h2] at h
   omega
theorem crcBits_inj:∀ (k:Nat) {a b:Nat},a<4294967296->b<4294967296->crcBits k a=crcBits k b->a=b
 | 0,_,_,_,_,h=>h
 | k+1,a,b,ha,hb,h=>crcBits_inj k ha hb (crcBit_inj (crcBits_lt k a ha) (crcBits_lt k b hb) h)
theorem crcAdd_injs {a b x:Nat} (ha:a<4294967296) (hb:b<4294967296) (hx:x<256) (h:crcAdd a x=crcAdd b x):a=b:=
 xor_canc _ _ _ (crcBits_inj 8 (xor_lt32 a x ha hx) (xor_lt32 b x hb hx) h)
theorem crcAdd_injx {a x y:Nat} (ha:a<4294967296) (hx:x<256) (hy:y<256) (h:crcAdd a x=crcAdd a y):x=y:=by
 have:=crcBits_inj 8 (xor_lt32 a x ha hx) (xor_lt32 a y ha hy) h
 rw[Nat.xor_comm a x,Nat.xor_comm a y] at this
 exact xor_canc _ _ _ this
theorem crcL_cons (s x:Nat) (l:List Nat):crcL s (x::l)=crcL (crcAdd s x) l:=by unfold crcL;rw[List.foldl_cons]
theorem crcL_injs (l:List Nat):∀ (a b:Nat),a<4294967296->b<4294967296->(∀ x ∈ l,x<256)->crcL a l=crcL b l->a=b:=by
 induction l with
 | nil=>intro a b _ _ _ h;exact h
 | cons x l ih=>
  intro a b ha hb hx h
  rw[crcL_cons,crcL_cons] at h
  have hx0:=hx x (by simp)
  have h1:=crcAdd_lt _ _ ha hx0
  have h2:=crcAdd_lt _ _ hb hx0
  have h3:=ih _ _ h1 h2 (fun y hy=>hx y (by simp [hy])) h
  exact crcAdd_injs ha hb hx0 h3
theorem crcL_turn {l1 l2:List Nat} {σ x y:Nat} (hσ:σ<4294967296) (h1:∀ z ∈ l1,z<256) (h2:∀ z ∈ l2,z<256) (hx:x<256) (hy:y<256) (e:crcL σ (l1++x::l2)=crcL σ (l1++y::l2)):x=y:=by
 have hl:∀ (l:List Nat) (s:Nat),s<4294967296->(∀ z ∈ l,z<256)->crcL s l<4294967296:=fun l=>by
  induction l with
  | nil=>intro s hs _;exact hs
  | cons z l ih=>intro s hs hz;exact ih _ (crcAdd_lt _ _ hs (hz z (by simp))) (fun w hw=>hz w (by simp [hw]))
 have ap:∀ z,crcL σ (l1++z::l2)=crcL (crcAdd (crcL σ l1) z) l2:=fun z=>by unfold crcL;rw[List.foldl_append];rfl
 rw[ap,ap] at e
 have hs:=hl l1 σ hσ h1
 exact crcAdd_injx hs hx hy (crcL_injs l2 _ _ (crcAdd_lt _ _ hs hx) (crcAdd_lt _ _ hs hy) h2 e)
theorem crcEnd_inj {a b:Nat} (h:crcEnd a=crcEnd b):a=b:=xor_canc _ _ _ h
structure Bdy (s:Rd) (n k σ:Nat):Prop where
 len:s.length=n
 sum:s.sum=σ
 p2:k<4->s.part=2/\s.taken=k
 p3:4<=k->k<4+n->s.part=3/\s.taken=k - 4
 p4:k=4+n->s.part=4/\s.taken=0/\s.number=0
theorem Bdy.step {s:Rd} {n k σ x:Nat} (h:Bdy s n k σ) (hk:k<4+n) (he:(s.take x).2=0):Bdy (s.take x).1 n (k+1) (crcAdd σ x):=by
 by_cases h4:k<4
 ·obtain ⟨a,b⟩:=h.p2 h4
  unfold Rd.take at he ⊢
  rw[if_neg (by omega),if_neg (by omega),if_pos a] at he ⊢
  unfold Rd.takeType at he ⊢
  by_cases q:s.taken+1≠4
  ·rw[if_pos q]
   refine ⟨h.len,by show crcAdd s.sum x=_;rw[h.sum],fun _=>⟨a,by show s.taken+1=_;omega⟩,fun _ _=>by omega,fun _=>by omega⟩
  rw[if_neg q] at he ⊢
  by_cases q2:(s.typed x).checkType≠0
  ·rw[if_pos q2] at he;exact absurd he q2
  rw[if_neg q2] at he ⊢
  obtain ⟨n1,n2,n3,n4⟩:=note_f (s.typed x)
  have e2:(s.typed x).note.length=n:=by rw[n2];exact h.len
  have e3:(s.typed x).note.sum=crcAdd σ x:=by rw[n3];show crcAdd s.sum x=_;rw[h.sum]
  by_cases q4:(s.typed x).note.length=0
  ·rw[if_pos q4]
   exact ⟨e2,e3,fun _=>by omega,fun _ _=>by omega,fun _=>⟨rfl,rfl,rfl⟩⟩
  ·rw[if_neg q4]
   exact ⟨e2,e3,fun _=>by omega,fun _ _=>⟨rfl,by show 0=_;omega⟩,fun _=>by omega⟩
 ·obtain ⟨a,b⟩:=h.p3 (by omega) hk
  unfold Rd.take at he ⊢
  rw[if_neg (by omega),if_neg (by omega),if_neg (by omega),if_pos a] at he ⊢
  unfold Rd.takeData at he ⊢
  by_cases q:((s.summed x).keep x).2≠0
  ·rw[if_pos q] at he;exact absurd he q
  rw[if_neg q]
  obtain ⟨f1,f2,f3,f4,f5,f6,f7⟩:=keep_f (s.summed x) x
  generalize ((s.summed x).keep x).1=m at *
  replace f1:m.part=s.part:=f1
  replace f2:m.taken=s.taken:=f2
  replace f3:m.length=s.length:=f3
  replace f5:m.sum=crcAdd s.sum x:=f5
  rw[h.sum] at f5
  rw[h.len] at f3
  show Bdy m.dataEnd n (k+1) (crcAdd σ x)
  unfold Rd.dataEnd
  by_cases q2:m.taken+1=m.length
  ·rw[if_pos q2]
   exact ⟨f3,f5,fun _=>by omega,fun _ _=>by omega,fun _=>⟨rfl,rfl,rfl⟩⟩
  ·rw[if_neg q2]
   exact ⟨f3,f5,fun _=>by omega,fun _ _=>⟨by show m.part=3;omega,by show m.taken+1=_;omega⟩,fun _=>by omega⟩
theorem Bdy.run:∀ {l:List Nat} {s b:Rd} {n k σ:Nat},Rn s l b->Bdy s n k σ->k+l.length<=4+n->Bdy b n (k+l.length) (crcL σ l)
 | [],s,b,n,k,σ,h,q,_=>by cases h;exact q
 | x::l,s,b,n,k,σ,h,q,hk=>by
  rw[List.length_cons] at hk ⊢
  have:=Bdy.run h.2.2 (q.step (by omega) h.2.1) (by omega)
  rw[show k+1+l.length=k+(l.length+1) by omega] at this
  exact this
theorem sum_more {s:Rd} {x:Nat} (h:s.part=4) (h2:s.taken+1≠4):(s.take x).1=s.num x:=by rw[take4 h];unfold Rd.takeSum;rw[if_pos h2]
theorem sum_run {s b:Rd} {q0 q1 q2 q3:Nat} (h:s.part=4) (h1:s.taken=0) (h2:s.number=0) (g:Rn s [q0,q1,q2,q3] b):((q0*256+q1)*256+q2)*256+q3=crcEnd s.sum/\((b.part=1/\b.taken=0/\b.number=0)\/b.part=5):=by
 obtain ⟨_,_,g1⟩:=g
 rw[sum_more h (by omega)] at g1
 obtain ⟨_,_,g2⟩:=g1
 rw[sum_more (s:=s.num q0) h (by show s.taken+1+1≠4;omega)] at g2
 obtain ⟨_,_,g3⟩:=g2
 rw[sum_more (s:=(s.num q0).num q1) h (by show s.taken+1+1+1≠4;omega)] at g3
 obtain ⟨_,e,g4⟩:=g3
 have g5:((((s.num q0).num q1).num q2).take q3).1=b:=g4
 rw[take4 (s:=((s.num q0).num q1).num q2) h] at e g5
 unfold Rd.takeSum at e g5
 rw[if_neg (by show ¬ (s.taken+1+1+1+1≠4);omega)] at e g5
 have en:(((s.num q0).num q1).num q2).number=(q0*256+q1)*256+q2:=by
  show ((s.number*256+q0)*256+q1)*256+q2=_
  rw[h2,Nat.zero_mul,Nat.zero_add]
 have es:(((s.num q0).num q1).num q2).sum=s.sum:=rfl
 rw[en,es] at e g5
 generalize ((s.num q0).num q1).num q2=m at *
 by_cases c1:((q0*256+q1)*256+q2)*256+q3≠crcEnd s.sum
 ·rw[if_pos c1] at e;exact absurd e (by show ¬ 6=0;omega)
 refine ⟨Classical.byContradiction c1,?_⟩
 rw[if_neg c1] at e g5
 by_cases c2:(m.num q3).accept.2≠0
 ·rw[if_pos c2] at e;exact absurd e c2
 rw[if_neg c2] at g5
 by_cases c3:(m.num q3).accept.1.ctype=iend
 ·rw[if_pos c3] at g5;right;rw[<- g5];rfl
 ·rw[if_neg c3] at g5;left;rw[<- g5];exact ⟨rfl,rfl,rfl⟩
theorem len_more {s:Rd} {x:Nat} (h:s.part=1) (h2:s.taken+1≠4):(s.take x).1=s.num x:=by rw[take1 h];unfold Rd.takeLength;rw[if_pos h2]
theorem len_run {s b:Rd} {q0 q1 q2 q3:Nat} (h:s.part=1) (h1:s.taken=0) (h2:s.number=0) (g:Rn s [q0,q1,q2,q3] b):Bdy b (((q0*256+q1)*256+q2)*256+q3) 0 crcStart:=by
 obtain ⟨_,_,g1⟩:=g
 rw[len_more h (by omega)] at g1
 obtain ⟨_,_,g2⟩:=g1
 rw[len_more (s:=s.num q0) h (by show s.taken+1+1≠4;omega)] at g2
 obtain ⟨_,_,g3⟩:=g2
 rw[len_more (s:=(s.num q0).num q1) h (by show s.taken+1+1+1≠4;omega)] at g3
 obtain ⟨_,e,g4⟩:=g3
 have g5:((((s.num q0).num q1).num q2).take q3).1=b:=g4
 rw[take1 (s:=((s.num q0).num q1).num q2) h] at e g5
 unfold Rd.takeLength at e g5
 rw[if_neg (by show ¬ (s.taken+1+1+1+1≠4);omega)] at e g5
 have en:(((s.num q0).num q1).num q2).number=(q0*256+q1)*256+q2:=by
  show ((s.number*256+q0)*256+q1)*256+q2=_
  rw[h2,Nat.zero_mul,Nat.zero_add]
 rw[en] at e g5
 by_cases c1:2147483648<=((q0*256+q1)*256+q2)*256+q3
 ·rw[if_pos c1] at e;exact absurd e (by show ¬ 2=0;omega)
 rw[if_neg c1] at g5
 rw[<- g5]
 exact ⟨rfl,rfl,fun _=>⟨rfl,rfl⟩,fun q=>by omega,fun q=>by omega⟩
theorem Rn.all:∀ {l:List Nat} {s:Rd},RdJ s->(∀ x ∈ l,x<256)->∀ {d:Dc},d.file=s->d.err=0->(d.feed l).err=0->∃ b,Rn s l b
 | [],s,_,_,d,_,_,_=>⟨s,rfl⟩
 | x::l,s,j,hx,d,hd,h0,he=>by
  have hx0:=hx x (by simp)
  have ok:=j.takeOk hx0
  by_cases e:(s.take x).2=0
  ·have e1:d.one x={ d with file:=(d.file.take x).1,count:=d.count+1 }:=one_of h0 (by rw[hd];exact e)
   have he':((d.one x).feed l).err=0:=he
   rw[e1] at he'
   obtain ⟨b,hb⟩:=Rn.all (j.take hx0 e) (fun y hy=>hx y (by simp [hy])) (d:={ d with file:=(d.file.take x).1,count:=d.count+1 }) (by show (d.file.take x).1=_;rw[hd]) h0 he'
   exact ⟨b,ok,e,hb⟩
  ·have e1:d.one x={ d with file:=(d.file.take x).1,err:=(d.file.take x).2,at1:=d.count }:=by
    unfold Dc.one;rw[if_neg (fun q=>q h0),if_pos (by rw[hd];exact e)]
   have he':((d.one x).feed l).err=0:=he
   have ne:(d.one x).err≠0:=by rw[e1];show (d.file.take x).2≠0;rw[hd];exact e
   rw[feed_err ne] at he'
   exact absurd he' ne
theorem list4 {l:List Nat} (h:4<=l.length):∃ a b c d m,l=[a,b,c,d]++m:=by
 match l,h with
 | a::b::c::d::m,_=>exact ⟨a,b,c,d,m,rfl⟩
theorem Rn.few {l:List Nat} {s b:Rd} {m:Nat} (h:Rn s l b) (hm:m<=l.length):∃ a,Rn s (l.take m) a/\Rn a (l.drop m) b:=by
 have:=h
 rw[<- List.take_append_drop m l] at this
 exact this.cut
theorem len_few:∀ {l:List Nat} {s b:Rd},l.length<4->s.part=1->s.taken+l.length<4->Rn s l b->b.part=1
 | [],s,b,_,h,_,g=>by cases g;exact h
 | x::l,s,b,hl,h,ht,g=>by
  rw[List.length_cons] at hl ht
  obtain ⟨_,_,g1⟩:=g
  rw[len_more h (by omega)] at g1
  exact len_few (s:=s.num x) (by omega) h (by show s.taken+1+l.length<4;omega) g1
theorem sum_few:∀ {l:List Nat} {s b:Rd},l.length<4->s.part=4->s.taken+l.length<4->Rn s l b->b.part=4
 | [],s,b,_,h,_,g=>by cases g;exact h
 | x::l,s,b,hl,h,ht,g=>by
  rw[List.length_cons] at hl ht
  obtain ⟨_,_,g1⟩:=g
  rw[sum_more h (by omega)] at g1
  exact sum_few (s:=s.num x) (by omega) h (by show s.taken+1+l.length<4;omega) g1
theorem Bdy.part {s:Rd} {n k σ:Nat} (h:Bdy s n k σ) (hk:k<=4+n):s.part=2\/s.part=3\/s.part=4:=by
 by_cases h1:k<4
 ·exact Or.inl (h.p2 h1).1
 by_cases h2:k<4+n
 ·exact Or.inr (Or.inl (h.p3 (by omega) h2).1)
 ·exact Or.inr (Or.inr (h.p4 (by omega)).1)
theorem chunk_at {s b:Rd} {l:List Nat} (g:Rn s l b) (h5:b.part=5) (h:s.part=1) (h1:s.taken=0) (h2:s.number=0):∃ q0 q1 q2 q3 m n,l=[q0,q1,q2,q3]++m/\n=((q0*256+q1)*256+q2)*256+q3/\8+n<=m.length/\∃ a,Rn s [q0,q1,q2,q3] a/\Bdy a n 0 crcStart/\Rn a m b/\∃ c,Rn a (m.take (8+n)) c/\Rn c (m.drop (8+n)) b/\((c.part=1/\c.taken=0/\c.number=0)\/(c.part=5/\m.length=8+n)):=by
 by_cases hl:l.length<4
 ·have:=len_few hl h (by omega) g;omega
 obtain ⟨q0,q1,q2,q3,m,rfl⟩:=list4 (by omega:4<=l.length)
 obtain ⟨a,g1,g2⟩:=g.cut
 have bd:=len_run h h1 h2 g1
 obtain ⟨n,hn⟩:∃ n,n=((q0*256+q1)*256+q2)*256+q3:=⟨_,rfl⟩
 rw[<- hn] at bd
 have hm:8+n<=m.length:=Classical.byContradiction fun hc=>by
  by_cases hc2:m.length<=4+n
  ·have:=(bd.run g2 (by omega)).part (by omega)
   omega
  ·obtain ⟨a2,k1,k2⟩:=g2.few (m:=4+n) (by omega)
   have b2:=bd.run k1 (by rw[List.length_take];omega)
   rw[List.length_take,Nat.min_eq_left (by omega),Nat.zero_add] at b2
   obtain ⟨e1,e2,e3⟩:=b2.p4 rfl
   have:=sum_few (by rw[List.length_drop];omega) e1 (by rw[List.length_drop];omega) k2
   omega
 obtain ⟨c,k1,k2⟩:=g2.few (m:=8+n) hm
 obtain ⟨a2,j1,j2⟩:=k1.few (m:=4+n) (by rw[List.length_take];omega)
 have b2:=bd.run j1 (by rw[List.length_take,List.length_take];omega)
 rw[List.length_take,List.length_take,Nat.min_eq_left (by omega),Nat.zero_add] at b2
 obtain ⟨e1,e2,e3⟩:=b2.p4 rfl
 obtain ⟨w0,w1,w2,w3,r,hr⟩:=list4 (l:=(m.take (8+n)).drop (4+n)) (by rw[List.length_drop,List.length_take];omega)
 have hr0:r=[]:=by
  have:=congrArg List.length hr
  rw[List.length_drop,List.length_take,List.length_append] at this
  have e4:[w0,w1,w2,w3].length=4:=rfl
  exact List.length_eq_zero_iff.1 (by omega)
 rw[hr,hr0,List.append_nil] at j2
 obtain ⟨_,z⟩:=sum_run e1 e2 e3 j2
 refine ⟨q0,q1,q2,q3,m,n,rfl,hn,hm,a,g1,bd,g2,c,k1,k2,?_⟩
 rcases z with z | z
 ·exact Or.inl z
 ·refine Or.inr ⟨z,Classical.byContradiction fun hc => ?_⟩
  obtain ⟨y,r2,hy⟩:∃ y r2,m.drop (8+n)=y::r2:=by
   cases hd:m.drop (8+n) with
   | nil=>
    have:=congrArg List.length hd
    rw[List.length_drop] at this
    have e0:([]:List Nat).length=0:=rfl
    omega
   | cons y r2=>exact ⟨y,r2,rfl⟩
  rw[hy] at k2
  obtain ⟨_,e,_⟩:=k2
  unfold Rd.take at e
  rw[if_neg (by omega),if_neg (by omega),if_neg (by omega),if_neg (by omega),if_neg (by omega)] at e
  exact absurd e (by show ¬ 22=0;omega)
theorem body_sum {a b:Rd} {n:Nat} {m:List Nat} (bd:Bdy a n 0 crcStart) (g:Rn a m b) (hm:m.length=8+n):∃ w0 w1 w2 w3,m.drop (4+n)=[w0,w1,w2,w3]/\((w0*256+w1)*256+w2)*256+w3=crcEnd (crcL crcStart (m.take (4+n))):=by
 obtain ⟨a2,j1,j2⟩:=g.few (m:=4+n) (by omega)
 have b2:=bd.run j1 (by rw[List.length_take];omega)
 rw[List.length_take,Nat.min_eq_left (by omega),Nat.zero_add] at b2
 obtain ⟨e1,e2,e3⟩:=b2.p4 rfl
 obtain ⟨w0,w1,w2,w3,r,hr⟩:=list4 (l:=m.drop (4+n)) (by rw[List.length_drop];omega)
 have hr0:r=[]:=by
  have:=congrArg List.length hr
  rw[List.length_drop,List.length_append] at this
  have e4:[w0,w1,w2,w3].length=4:=rfl
  exact List.length_eq_zero_iff.1 (by omega)
 rw[hr0,List.append_nil] at hr
 rw[hr] at j2
 obtain ⟨z,_⟩:=sum_run e1 e2 e3 j2
 rw[b2.sum] at z
 exact ⟨w0,w1,w2,w3,hr,z⟩
theorem body_turn {a b b':Rd} {n:Nat} {l1 l2:List Nat} {x y:Nat} (bd:Bdy a n 0 crcStart) (g:Rn a (l1++x::l2) b) (g':Rn a (l1++y::l2) b') (hm:(l1++x::l2).length=8+n) (hx:∀ z ∈ l1++x::l2,z<256) (hy:y<256):x=y:=by
 have hm':(l1++y::l2).length=8+n:=by rw[<- hm,List.length_append,List.length_append,List.length_cons,List.length_cons]
 obtain ⟨w0,w1,w2,w3,d1,s1⟩:=body_sum bd g hm
 obtain ⟨v0,v1,v2,v3,d2,s2⟩:=body_sum bd g' hm'
 have hx1:∀ z ∈ l1,z<256:=fun z hz=>hx z (by simp [hz])
 have hx2:∀ z ∈ l2,z<256:=fun z hz=>hx z (by simp [hz])
 have hx0:x<256:=hx x (by simp)
 rw[List.length_append,List.length_cons] at hm
 by_cases q:l1.length<4+n
 ·obtain ⟨k,hk⟩:∃ k,4+n - l1.length=k+1:=⟨4+n - l1.length - 1,by omega⟩
  have t1:∀ z,(l1++z::l2).take (4+n)=l1++z::l2.take k:=fun z=>by
   rw[List.take_append,hk,List.take_succ_cons,List.take_of_length_le (by omega)]
  have t2:∀ z,(l1++z::l2).drop (4+n)=l2.drop k:=fun z=>by
   rw[List.drop_append,hk,List.drop_succ_cons,List.drop_of_length_le (by omega),List.nil_append]
  rw[t2] at d1 d2
  rw[d1] at d2
  injection d2 with i0 d2
  injection d2 with i1 d2
  injection d2 with i2 d2
  injection d2 with i3 d2
  rw[<- i0,<- i1,<- i2,<- i3,s1] at s2
  have e:=crcEnd_inj s2
  rw[t1,t1] at e
  exact crcL_turn (by decide) hx1 (fun z hz=>hx2 z (List.mem_of_mem_take hz)) hx0 hy e
 ·have t1:∀ z,(l1++z::l2).take (4+n)=l1.take (4+n):=fun z=>by
   rw[List.take_append,show 4+n - l1.length=0 by omega,List.take_zero,List.append_nil]
  have t2:∀ z,(l1++z::l2).drop (4+n)=l1.drop (4+n)++z::l2:=fun z=>by
   rw[List.drop_append,show 4+n - l1.length=0 by omega,List.drop_zero]
  rw[t1] at s1 s2
  rw[<- s1] at s2
  have bw:∀ z ∈ [w0,w1,w2,w3],z<256:=fun z hz=>by rw[<- d1] at hz;exact hx z (List.mem_of_mem_drop hz)
  have bv:∀ z ∈ [v0,v1,v2,v3],z<256:=fun z hz=>by
   rw[<- d2,t2] at hz
   rcases List.mem_append.1 hz with hz | hz
   ·exact hx1 z (List.mem_of_mem_drop hz)
   ·rcases List.mem_cons.1 hz with hz | hz
    ·rw[hz];exact hy
    ·exact hx2 z hz
  have a0:=bw w0 (by simp)
  have a1:=bw w1 (by simp)
  have a2:=bw w2 (by simp)
  have a3:=bw w3 (by simp)
  have c0:=bv v0 (by simp)
  have c1:=bv v1 (by simp)
  have c2:=bv v2 (by simp)
  have c3:=bv v3 (by simp)
  have i0:v0=w0:=by omega
  have i1:v1=w1:=by omega
  have i2:v2=w2:=by omega
  have i3:v3=w3:=by omega
  rw[t2] at d1 d2
  rw[i0,i1,i2,i3,<- d1] at d2
  have:=List.append_cancel_left d2
  injection this with e _
  exact e.symm
theorem list_ext_getD {a b:List Int} (h:a.length=b.length) (k:∀ j,j<a.length->a.getD j 0=b.getD j 0):a=b:=by
 apply List.ext_getElem h
 intro i h1 h2
 have:=k i h1
 rw[List.getD_eq_getElem?_getD,List.getD_eq_getElem?_getD,List.getElem?_eq_getElem h1,List.getElem?_eq_getElem h2] at this
 exact this
theorem sameInts_x (p q:Option Addr) (n m pc qc:Nat) (a b:List Int) (w:World) (hn:n=a.length) (hm:m=b.length) (ha:LAt w .i64 (.slice p a.length pc) a) (hb:LAt w .i64 (.slice q b.length qc) b) (hla:a.length<=100000) (hlb:b.length<=100000) :
  Calls Tryz.prog 27 #[.slice p n pc,.slice q m qc] w fun e w'=>e = .returned (.bool (decide (a=b)))/\Kept w w':=by
 have HA:Hid (∀ W,Kept w W->∀ i,i<n->∃ g o,p=some ⟨g,o,none⟩/\W.cell? ⟨g,o+i,none⟩=some (.int .i64 (a.getD i 0))):=fun W k i hi=>(ha.kept k).cellAt i (by omega)
 have HB:Hid (∀ W,Kept w W->∀ i,i<m->∃ g o,q=some ⟨g,o,none⟩/\W.cell? ⟨g,o+i,none⟩=some (.int .i64 (b.getD i 0))):=fun W k i hi=>(hb.kept k).cellAt i (by omega)
 have R1:Hid (n≠m->decide (a=b)=false):=fun h=>decide_eq_false (fun e=>h (by rw[hn,hm,e]))
 have R2:Hid (∀ j,a.getD j 0≠b.getD j 0->decide (a=b)=false):=fun j h=>decide_eq_false (fun e=>h (by rw[e]))
 have R3:Hid (n=m->(∀ j,j<n->a.getD j 0=b.getD j 0)->decide (a=b)=true):=fun h k=>decide_eq_true (list_ext_getD (by omega) (fun j hj=>k j (by omega)))
 generalize decide (a=b)=R at *
 have hn1:n<=100000:=by omega
 have hm1:m<=100000:=by omega
 clear ha hb hn hm hla hlb
 by_cases hl:n=m
 ·subst hl
  replace R3:Hid _:=R3.out rfl
  go_enter Tryz.func27,Tryz.ntmps27
  go_wp2_with fail
  go_loopg [5] n (fun t v W=>∃ k:Nat,t=n - k/\k<=n/\v = .int .i64 (k:Int)/\Kept w W/\∀ j,j<k->a.getD j 0=b.getD j 0)
  case atStart=>exact ⟨0,by omega,by omega,rfl,Kept.refl _,fun j hj=>by omega⟩
  case round=>
   obtain ⟨k,hgk,hkn,rfl,hkw,hall⟩:=hrel
   replace hgk:Hid _:=hgk
   have HKW:Hid (Kept w wr):=hkw
   replace hall:Hid _:=hall
   clear hkw
   by_cases hlt:k<n
   ·have hlt':(k:Int)<(n:Int):=by omega
    have k0:(0:Int)<=(k:Int):=by omega
    obtain ⟨g,o,rfl,c1⟩:=HA.out wr HKW.out k hlt
    obtain ⟨g',o',rfl,c2⟩:=HB.out wr HKW.out k hlt
    generalize hAK:a.getD k 0=AK at *
    generalize hBK:b.getD k 0=BK at *
    replace hAK:Hid _:=hAK
    replace hBK:Hid _:=hBK
    go_wp2_with fail
    go_quiet (fail)
    cases hne:(AK != BK)
    ·go_wp2_with fail
     go_roundg (n - (k+1))
     case measure=>rw[hgk.out];omega
     case rel=>exact ⟨k+1,rfl,by omega,by go_num,HKW.out.drewN _,fun j hj=>by
      by_cases q:j=k
      ·subst q
       rw[hAK.out,hBK.out]
       simpa using hne
      ·exact hall.out j (by omega)⟩
    ·go_wp2_with fail
     go_ret
     exact ⟨by rw[R2.out k (by rw[hAK.out,hBK.out];simpa using hne)];rfl,HKW.out.drewN _⟩
   ·have hlt':¬ (k:Int)<(n:Int):=by omega
    go_wp2_with fail
    go_ret
    exact ⟨by rw[R3.out (fun j hj=>hall.out j (by omega))];rfl,HKW.out⟩
 ·have hl':((n:Int) != (m:Int))=true:=by rw[bne_iff_ne];omega
  replace R1:Hid _:=R1.out hl
  clear hl
  go_enter Tryz.func27,Tryz.ntmps27
  go_wp2_with fail
  go_ret
  exact ⟨by rw[R1.out];rfl,Kept.refl _⟩
end Go.Proofs.YtmbmecfodigciaaGreatDoor
namespace Go.Proofs.YtmbmecfodigciaaGreatDoor
open Go.RowKit
set_option linter.unusedSimpArgs false
set_option linter.unusedVariables false
theorem isClr_any (W H K D:Nat) (pp qp xp:Option Addr) (pc qc xc:Nat) (pal clr pix:List Int) (w:World) (h:OkIm W H K D pal clr pix) (hp:LAt w .i64 (.slice pp pal.length pc) pal) (hq:LAt w .i64 (.slice qp clr.length qc) clr) (hx:LAt w .i64 (.slice xp pix.length xc) pix) :
  Calls Tryz.prog 62 #[.agg #[.int .i64 (W:Int),.int .i64 (H:Int),.int .i64 (K:Int),.int .i64 (D:Int),.slice pp pal.length pc,.slice qp clr.length qc,.slice xp pix.length xc]] w fun r w'=>r = .returned (.bool true)/\Kept w w':=by
 have hk0:Kept w (w.alloc (Obj.cells #[.int .i64 (W:Int),.int .i64 (H:Int),.int .i64 (K:Int),.int .i64 (D:Int),.slice pp pal.length pc,.slice qp clr.length qc,.slice xp pix.length xc] 33)):=Below.alloc (Below.refl _ _) (Nat.le_refl _) _
 have hch:∀ k u,#[Value.int .i64 (W:Int),.int .i64 (H:Int),.int .i64 (K:Int),.int .i64 (D:Int),.slice pp pal.length pc,.slice qp clr.length qc,.slice xp pix.length xc][k]? = some u->(w.alloc (Obj.cells #[.int .i64 (W:Int),.int .i64 (H:Int),.int .i64 (K:Int),.int .i64 (D:Int),.slice pp pal.length pc,.slice qp clr.length qc,.slice xp pix.length xc] 33)).cell? ⟨w.heap.size,k,none⟩=some u:=by
  intro k u hu
  rw[World.cell?_alloc_at _ _ _ _ rfl];exact hu
 have hs0:w.heap.size<(w.alloc (Obj.cells #[.int .i64 (W:Int),.int .i64 (H:Int),.int .i64 (K:Int),.int .i64 (D:Int),.slice pp pal.length pc,.slice qp clr.length qc,.slice xp pix.length xc] 33)).heap.size:=by simp
 have FL:Hid (∀ W':World,Calls Tryz.prog 92 #[.agg #[.int .i64 (W:Int),.int .i64 (H:Int),.int .i64 (K:Int),.int .i64 (D:Int),.slice pp pal.length pc,.slice qp clr.length qc,.slice xp pix.length xc]] W' fun r w'=>r = .returned (.int .i64 ((2^D:Nat):Int))/\Kept W' w'):=fun W'=>levels_any _ _ _ D _ _ _ W' h.lg.d
 have FJ:Hid (∀ W':World,Calls Tryz.prog 93 #[.int .i64 (K:Int)] W' fun r w'=>r = .returned (.int .i64 (chan K:Int))/\w'=W'):=fun W'=>samples_any K W' h.lg.k
 have HC:Hid (∀ W',Kept (w.alloc (Obj.cells #[.int .i64 (W:Int),.int .i64 (H:Int),.int .i64 (K:Int),.int .i64 (D:Int),.slice pp pal.length pc,.slice qp clr.length qc,.slice xp pix.length xc] 33)) W'->(W'.cell? ⟨w.heap.size,0,none⟩=some (.int .i64 (W:Int))/\W'.cell? ⟨w.heap.size,1,none⟩=some (.int .i64 (H:Int))/\W'.cell? ⟨w.heap.size,2,none⟩=some (.int .i64 (K:Int))/\W'.cell? ⟨w.heap.size,3,none⟩=some (.int .i64 (D:Int))/\W'.cell? ⟨w.heap.size,4,none⟩=some (.slice pp pal.length pc)/\W'.cell? ⟨w.heap.size,5,none⟩=some (.slice qp clr.length qc)/\W'.cell? ⟨w.heap.size,6,none⟩=some (.slice xp pix.length xc))):=fun W' k=>⟨(k.cell (p:=⟨w.heap.size,0,none⟩) hs0).trans (hch 0 _ rfl),(k.cell (p:=⟨w.heap.size,1,none⟩) hs0).trans (hch 1 _ rfl),(k.cell (p:=⟨w.heap.size,2,none⟩) hs0).trans (hch 2 _ rfl),(k.cell (p:=⟨w.heap.size,3,none⟩) hs0).trans (hch 3 _ rfl),(k.cell (p:=⟨w.heap.size,4,none⟩) hs0).trans (hch 4 _ rfl),(k.cell (p:=⟨w.heap.size,5,none⟩) hs0).trans (hch 5 _ rfl),(k.cell (p:=⟨w.heap.size,6,none⟩) hs0).trans (hch 6 _ rfl)⟩
 rcases h.clr with e | ⟨e1,e2,e3⟩ | ⟨e1,e2,e3,e4⟩
 ·have hz:((clr.length:Int) == 0)=true:=by rw[e];rfl
  have hz2:(clr.length:Int)=0:=by rw[e];rfl
  clear h hp hq hx e
  replace hk0:Hid _:=hk0
  go_enter Tryz.func62,Tryz.ntmps62
  go_wp2
  go_ret
  exact ⟨rfl,hk0.out⟩
 ·have hcl:=@chan_le K
  have hz:((clr.length:Int) == 0)=false:=by rw[beq_eq_false_iff_ne];omega
  have hPb:=pow_le h.lg.d
  have FA:Hid (∀ W',Kept (w.alloc (Obj.cells #[.int .i64 (W:Int),.int .i64 (H:Int),.int .i64 (K:Int),.int .i64 (D:Int),.slice pp pal.length pc,.slice qp clr.length qc,.slice xp pix.length xc] 33)) W'->Calls Tryz.prog 66 #[.slice qp clr.length qc,.int .i64 ((2^D:Nat):Int)] W' fun r w'=>r = .returned (.bool true)/\Kept W' w'):=fun W' k=>allBelow_any _ clr _ _ ((hq.kept hk0).kept k) (by omega) e3
  have he2:(clr.length:Int)=(chan K:Int):=by omega
  clear h hp hq hx e3
  replace hk0:Hid _:=hk0
  have hb:((clr.length:Int) == (chan K:Int))=true:=by rw[he2];exact beq_self_eq_true _
  replace he2:Hid _:=he2
  replace e2:Hid _:=e2
  replace hch:Hid _:=hch
  generalize (2^D:Nat)=P at *
  generalize chan K=C at *
  rcases e1 with rfl | rfl
  ·go_enter Tryz.func62,Tryz.ntmps62
   go_wp2_with fail
   generalize (w.alloc (Obj.cells #[.int .i64 (W:Int),.int .i64 (H:Int),.int .i64 0,.int .i64 (D:Int),.slice pp pal.length pc,.slice qp clr.length qc,.slice xp pix.length xc] 33))=w0 at *
   have hS0:=HC.out w0 (Kept.refl _)
   replace hS0:Hid _:=hS0
   go_region_held3 (fun W'=>W'.cell? ⟨w.heap.size,0,none⟩=some (.int .i64 (W:Int))/\W'.cell? ⟨w.heap.size,1,none⟩=some (.int .i64 (H:Int))/\W'.cell? ⟨w.heap.size,2,none⟩=some (.int .i64 0)/\W'.cell? ⟨w.heap.size,3,none⟩=some (.int .i64 (D:Int))/\W'.cell? ⟨w.heap.size,4,none⟩=some (.slice pp pal.length pc)/\W'.cell? ⟨w.heap.size,5,none⟩=some (.slice qp clr.length qc)/\W'.cell? ⟨w.heap.size,6,none⟩=some (.slice xp pix.length xc)) (first | exact hS0.out | exact hS1.out | exact hS2.out | go_keep) ((first | (go_at_call 93;refine (FJ.out _).mono ?_;rintro r w1 ⟨rfl,rfl⟩) | (go_at_call 92;refine (FL.out _).mono ?_;rintro r w2 ⟨rfl,hk2⟩;have hk2':Kept w0 w2:=Kept.trans ((Kept.refl _).drewN 1) hk2;have hS1:Hid _:=HC.out w2 hk2') | (go_at_call 66;refine (FA.out _ (by exact hk2')).mono ?_;rintro r w3 ⟨rfl,hk3⟩;have hk3':Kept w0 w3:=Kept.trans hk2' hk3;have hS2:Hid _:=HC.out w3 hk3')))
   go_wp2
   go_ret
   exact ⟨rfl,Kept.trans hk0.out hk3'⟩
  ·go_enter Tryz.func62,Tryz.ntmps62
   go_wp2_with fail
   generalize (w.alloc (Obj.cells #[.int .i64 (W:Int),.int .i64 (H:Int),.int .i64 2,.int .i64 (D:Int),.slice pp pal.length pc,.slice qp clr.length qc,.slice xp pix.length xc] 33))=w0 at *
   have hS0:=HC.out w0 (Kept.refl _)
   replace hS0:Hid _:=hS0
   go_region_held3 (fun W'=>W'.cell? ⟨w.heap.size,0,none⟩=some (.int .i64 (W:Int))/\W'.cell? ⟨w.heap.size,1,none⟩=some (.int .i64 (H:Int))/\W'.cell? ⟨w.heap.size,2,none⟩=some (.int .i64 2)/\W'.cell? ⟨w.heap.size,3,none⟩=some (.int .i64 (D:Int))/\W'.cell? ⟨w.heap.size,4,none⟩=some (.slice pp pal.length pc)/\W'.cell? ⟨w.heap.size,5,none⟩=some (.slice qp clr.length qc)/\W'.cell? ⟨w.heap.size,6,none⟩=some (.slice xp pix.length xc)) (first | exact hS0.out | exact hS1.out | exact hS2.out | go_keep) ((first | (go_at_call 93;refine (FJ.out _).mono ?_;rintro r w1 ⟨rfl,rfl⟩) | (go_at_call 92;refine (FL.out _).mono ?_;rintro r w2 ⟨rfl,hk2⟩;have hk2':Kept w0 w2:=Kept.trans ((Kept.refl _).drewN 1) hk2;have hS1:Hid _:=HC.out w2 hk2') | (go_at_call 66;refine (FA.out _ (by exact hk2')).mono ?_;rintro r w3 ⟨rfl,hk3⟩;have hk3':Kept w0 w3:=Kept.trans hk2' hk3;have hS2:Hid _:=HC.out w3 hk3')))
   go_wp2
   go_ret
   exact ⟨rfl,Kept.trans hk0.out hk3'⟩
 ·have hz:((clr.length:Int) == 0)=false:=by rw[beq_eq_false_iff_ne];omega
  have FA:Hid (∀ W',Kept (w.alloc (Obj.cells #[.int .i64 (W:Int),.int .i64 (H:Int),.int .i64 (K:Int),.int .i64 (D:Int),.slice pp pal.length pc,.slice qp clr.length qc,.slice xp pix.length xc] 33)) W'->Calls Tryz.prog 66 #[.slice qp clr.length qc,.int .i64 256] W' fun r w'=>r = .returned (.bool true)/\Kept W' w'):=fun W' k=>allBelow_any _ clr _ _ ((hq.kept hk0).kept k) (by
   obtain ⟨n,a,b,c⟩:=h.pal3 e1
   have:=pow_le h.lg.d
   omega) e4
  obtain ⟨Q,hQ⟩:∃ Q,Q=pal.length / 3:=⟨_,rfl⟩
  have eQ:(pal.length:Int) / 3=(Q:Int):=by omega
  have hQb:Q<=65536:=by
   obtain ⟨n,a,b,c⟩:=h.pal3 e1
   have:=pow_le h.lg.d
   omega
  have hle:(clr.length:Int)<=(Q:Int):=by omega
  subst e1
  clear hQ
  clear h hp hq hx e4 e2 e3
  replace hk0:Hid _:=hk0
  replace hch:Hid _:=hch
  go_enter Tryz.func62,Tryz.ntmps62
  go_wp2_with fail
  refine (FA.out _ (Kept.refl _)).mono ?_
  rintro r w3 ⟨rfl,hk3⟩
  go_wp2
  go_ret
  exact ⟨rfl,Kept.trans hk0.out hk3⟩
