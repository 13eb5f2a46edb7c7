import Derived.Test.YtgooinallljbpaaGreatDoorTd25
import Derived.Test.YtgooinallljbpaaGreatDoorTd14
import Derived.Test.YtgooinallljbpaaGreatDoorTd20
set_option maxRecDepth 100000
set_option maxHeartbeats 6400000
namespace Go.Proofs.YtgooinallljbpaaGreatDoor
open Go.RowKit Px
set_option linter.unusedSimpArgs false
set_option linter.unusedVariables false
def sA (l:List Nat):Nat:=n4 (l.getD 4 0) (l.getD 5 0) (l.getD 6 0) (l.getD 7 0)
def uT (z:List One) (dn:Bool):Prop:=∃ out sm er at' en,se z out dn sm er at' en
theorem IK {f:Fl} {l:List Nat} {i:Nat} {dn dn':Bool} (h:f.ov (sA l)=false):f.chunk l i dn=f.chunk l i dn':=by
 have e:∀ n,f.begE (sA l) n dn=f.begE (sA l) n dn':=fun n=>by
  unfold Fl.begE;rw[h,Bool.false_and,Bool.false_and]
 unfold Fl.chunk;unfold sA at e;rw[e]
def Gy (l:List Nat):Prop:=∀ j,j<8->j<l.length->l.getD j 0=fP j
def WkN (l:List Nat):Nat->Nat->Fl->Prop
 | 0,i0,i1=>Gy l/\8=i0/\Fl.start=i1
 | m+1,i0,i1=>∃ (i:Nat) (f:Fl) (dn:Bool) (h:WkN l m i f) (hd:f.done=false) (hi:i<l.length) (hr:f.ov (sA (l.drop i))=true->uT f.z dn) (ht:(f.chunk (l.drop i) i dn).took≠0),i+(f.chunk (l.drop i) i dn).took=i0/\(f.chunk (l.drop i) i dn).f=i1
def Wk (l:List Nat) (i:Nat) (f:Fl):Prop:=∃ m,WkN l m i f
theorem Wk.start {l:List Nat} (h:Gy l):Wk l 8 Fl.start:=⟨0,h,rfl,rfl⟩
theorem Wk.next {l:List Nat} {i:Nat} {f:Fl} {dn:Bool} (h:Wk l i f) (hd:f.done=false) (hi:i<l.length) (hr:f.ov (sA (l.drop i))=true->uT f.z dn) (ht:(f.chunk (l.drop i) i dn).took≠0):Wk l (i+(f.chunk (l.drop i) i dn).took) (f.chunk (l.drop i) i dn).f:=by
 obtain ⟨m,h⟩:=h;exact ⟨m+1,i,f,dn,h,hd,hi,hr,ht,rfl,rfl⟩
theorem Wk.cs {l:List Nat} {motive:∀ i f,Wk l i f->Prop} (start:∀ (h:Gy l),motive 8 Fl.start (Wk.start h))
  (next:∀ {i:Nat} {f:Fl} {dn:Bool} (h:Wk l i f) (hd:f.done=false) (hi:i<l.length) (hr:f.ov (sA (l.drop i))=true->uT f.z dn) (ht:(f.chunk (l.drop i) i dn).took≠0),motive i f h->motive (i+(f.chunk (l.drop i) i dn).took) (f.chunk (l.drop i) i dn).f (Wk.next h hd hi hr ht))
  {i:Nat} {f:Fl} (h:Wk l i f):motive i f h:=by
 obtain ⟨m,q⟩:=h
 induction m generalizing i f with
 | zero=>obtain ⟨h,rfl,rfl⟩:=q;exact start h
 | succ m ih=>
  obtain ⟨i,f,dn,h,hd,hi,hr,ht,rfl,rfl⟩:=q;exact next ⟨m,h⟩ hd hi hr ht (ih h)
def fq (l:List Nat) (i0:Fl) (i1:Nat) (i2:Nat):Prop:=
 (∃ (i:Nat) (h8:i<8) (hi:i<l.length) (hb:l.getD i 0≠fP i) (hg:∀ j,j<i->l.getD j 0=fP j),Fl.start=i0/\1=i1/\i=i2) \/
 (∃ (i:Nat) (f:Fl) (h:Wk l i f) (hi:l.length<=i),f=i0/\0=i1/\0=i2) \/
 (∃ (i:Nat) (f:Fl) (h:Wk l i f) (hd:f.done=true) (hi:i<l.length),f=i0/\22=i1/\i=i2) \/
 (∃ (i:Nat) (f:Fl) (dn:Bool) (h:Wk l i f) (hd:f.done=false) (hi:i<l.length) (hr:f.ov (sA (l.drop i))=true->uT f.z dn) (ht:(f.chunk (l.drop i) i dn).took=0),(f.chunk (l.drop i) i dn).f=i0/\(f.chunk (l.drop i) i dn).err=i1/\(if (f.chunk (l.drop i) i dn).err=0 then 0 else i+(f.chunk (l.drop i) i dn).at')=i2)
theorem fq.sign {l:List Nat} (i:Nat) (h8:i<8) (hi:i<l.length) (hb:l.getD i 0≠fP i) (hg:∀ j,j<i->l.getD j 0=fP j):fq l Fl.start 1 i:=Or.inl ⟨i,h8,hi,hb,hg,rfl,rfl,rfl⟩
theorem fq.out {l:List Nat} {i:Nat} {f:Fl} (h:Wk l i f) (hi:l.length<=i):fq l f 0 0:=Or.inr (Or.inl ⟨i,f,h,hi,rfl,rfl,rfl⟩)
theorem fq.trail {l:List Nat} {i:Nat} {f:Fl} (h:Wk l i f) (hd:f.done=true) (hi:i<l.length):fq l f 22 i:=Or.inr (Or.inr (Or.inl ⟨i,f,h,hd,hi,rfl,rfl,rfl⟩))
theorem fq.stop {l:List Nat} {i:Nat} {f:Fl} {dn:Bool} (h:Wk l i f) (hd:f.done=false) (hi:i<l.length) (hr:f.ov (sA (l.drop i))=true->uT f.z dn) (ht:(f.chunk (l.drop i) i dn).took=0):fq l (f.chunk (l.drop i) i dn).f (f.chunk (l.drop i) i dn).err (if (f.chunk (l.drop i) i dn).err=0 then 0 else i+(f.chunk (l.drop i) i dn).at'):=Or.inr (Or.inr (Or.inr ⟨i,f,dn,h,hd,hi,hr,ht,rfl,rfl,rfl⟩))
theorem fq.cs {l:List Nat} {motive:∀ i0 i1 i2,fq l i0 i1 i2->Prop}
  (sign:∀ (i:Nat) (h8:i<8) (hi:i<l.length) (hb:l.getD i 0≠fP i) (hg:∀ j,j<i->l.getD j 0=fP j),motive Fl.start 1 i (fq.sign i h8 hi hb hg))
  (out:∀ {i:Nat} {f:Fl} (h:Wk l i f) (hi:l.length<=i),motive f 0 0 (fq.out h hi))
  (trail:∀ {i:Nat} {f:Fl} (h:Wk l i f) (hd:f.done=true) (hi:i<l.length),motive f 22 i (fq.trail h hd hi))
  (stop:∀ {i:Nat} {f:Fl} {dn:Bool} (h:Wk l i f) (hd:f.done=false) (hi:i<l.length) (hr:f.ov (sA (l.drop i))=true->uT f.z dn) (ht:(f.chunk (l.drop i) i dn).took=0),motive (f.chunk (l.drop i) i dn).f (f.chunk (l.drop i) i dn).err (if (f.chunk (l.drop i) i dn).err=0 then 0 else i+(f.chunk (l.drop i) i dn).at') (fq.stop h hd hi hr ht))
  {i0:Fl} {i1:Nat} {i2:Nat} (h:fq l i0 i1 i2):motive i0 i1 i2 h:=by
 rcases h with ⟨i,h8,hi,hb,hg,rfl,rfl,rfl⟩ | ⟨i,f,h,hi,rfl,rfl,rfl⟩ | ⟨i,f,h,hd,hi,rfl,rfl,rfl⟩ | ⟨i,f,dn,h,hd,hi,hr,ht,rfl,rfl,rfl⟩
 ·exact sign i h8 hi hb hg
 ·exact out h hi
 ·exact trail h hd hi
 ·exact stop h hd hi hr ht
theorem vI:∀ (m j:Nat) (s:Rd) (l:List Nat),j+m=8->s.part=0->s.taken=j ->
  ((∃ i,i<m/\i<l.length/\l.getD i 0≠fP (j+i)/\(∀ k,k<i->l.getD k 0=fP (j+k))/\(ak s l).2.1=1/\(ak s l).2.2=i) \/
   ((∀ k,k<m->k<l.length->l.getD k 0=fP (j+k))/\l.length<m/\(ak s l).2.1=0/\(ak s l).1.part=0) \/
   ((∀ k,k<m->l.getD k 0=fP (j+k))/\m<=l.length/\∃ s',ak s l=shf m (ak s' (l.drop m))/\(0<m->s'.part=1/\s'.taken=0/\s'.number=0)/\lF s s'))
 | 0,j,s,l,hj,hp,ht=>Or.inr (Or.inr ⟨fun k hk=>by omega,Nat.zero_le _,s,rfl,fun w=>by omega,lF.refl s⟩)
 | m+1,j,s,[],hj,hp,ht=>Or.inr (Or.inl ⟨fun k _ hk=>by simp at hk,by simp,rfl,hp⟩)
 | m+1,j,s,x::l,hj,hp,ht=>by
  have et:s.take x=s.takeSign x:=by unfold Rd.take;rw[if_pos hp]
  by_cases c:x=fP j
  ·have e1:s.take x=if j+1=8 then (({ s with taken:=j+1 }:Rd).enter 1,0) else ({ s with taken:=j+1 },0):=by
    rw[et];unfold Rd.takeSign;rw[ht,if_neg (by rintro (w | w);omega;exact w c)]
   by_cases c8:j+1=8
   ·rw[if_pos c8] at e1
    have m0:m=0:=by omega
    subst m0;refine Or.inr (Or.inr ⟨fun k hk => ?_,by simp,({ s with taken:=j+1 }:Rd).enter 1,?_,fun _=>⟨rfl,rfl,rfl⟩,⟨rfl,rfl,rfl,rfl,rfl,rfl,rfl,rfl⟩⟩)
    ·have:k=0:=by omega
     subst this;exact c
    ·rw[aS e1];rfl
   ·rw[if_neg c8] at e1
    have ih:=vI m (j+1) { s with taken:=j+1 } l (by omega) hp rfl;rcases ih with ⟨i,h1,h2,h3,h4,h5,h6⟩ | ⟨h1,h2,h3,h4⟩ | ⟨h1,h2,s',h3,h4,h5⟩
    ·left
     refine ⟨i+1,by omega,by simp;omega,by rw[List.getD_cons_succ,show j+(i+1)=j+1+i by omega];exact h3,fun k hk => ?_,?_,?_⟩
     ·cases k with
      | zero=>exact c
      | succ k=>rw[List.getD_cons_succ,show j+(k+1)=j+1+k by omega];exact h4 k (by omega)
     ·rw[aS e1];exact h5
     ·rw[aS e1];show _+1=_;rw[h6]
    ·right;left
     refine ⟨fun k hk hl => ?_,by simp;omega,by rw[aS e1];exact h3,by rw[aS e1];exact h4⟩;cases k with
     | zero=>exact c
     | succ k=>rw[List.getD_cons_succ,show j+(k+1)=j+1+k by omega];exact h1 k (by omega) (by simpa using hl)
    ·right;right
     refine ⟨fun k hk => ?_,by simp;omega,s',?_,fun _=>h4 (by omega),⟨h5.hd,h5.tl,h5.st,h5.rw,h5.sp,h5.sc,h5.sd,h5.dov⟩⟩
     ·cases k with
      | zero=>exact c
      | succ k=>rw[List.getD_cons_succ,show j+(k+1)=j+1+k by omega];exact h1 k (by omega)
     ·rw[aS e1,h3,vq];rfl
  ·left
   have e1:s.take x=(s,1):=by
    rw[et];unfold Rd.takeSign;rw[if_pos (by right;rw[ht];exact c)]
   refine ⟨0,by omega,by simp,c,fun k hk=>by omega,?_,?_⟩
   ·rw[kU e1 (by decide)]
   ·rw[kU e1 (by decide)]
theorem Jc {s:Rd} (h:lF rd0 s):Ag s Fl.start:=⟨fun _=>⟨by rw[h.hd];rfl,rfl⟩,(fun w=>by cases w),h.sp,h.sc,h.sd,h.dov,by rw[h.tl];rfl⟩
theorem EB:FOk Fl.start:=⟨(fun w=>by simp [Fl.start] at w),(fun w=>by cases w),fun _=>rfl⟩
def WI (l:List Nat) (i:Nat) (f:Fl):Prop:=
 (∃ (h1:(ak rd0 l).2.1≠0) (h2:0<f.ids) (h3:fc f.r0 f.z (ak rd0 l).2.1 (ak rd0 l).2.2),True) \/
 (∃ (h1:l.length<8) (h2:i=8) (h3:f=Fl.start) (h4:(ak rd0 l).2.1=0) (h5:(ak rd0 l).1.part≠5),True) \/
 (∃ (s':Rd) (hi:i<=l.length) (h2:ak rd0 l=shf i (ak s' (l.drop i))) (h3:Ag s' f) (h4:Sm s' f) (h5:(f.done=true/\s'.part=5)\/(f.done=false/\s'.part=1/\s'.taken=0/\s'.number=0)),True)
theorem WI.bad {l:List Nat} {i:Nat} {f:Fl} (h1:(ak rd0 l).2.1≠0) (h2:0<f.ids) (h3:fc f.r0 f.z (ak rd0 l).2.1 (ak rd0 l).2.2):WI l i f:=Or.inl ⟨h1,h2,h3,trivial⟩
theorem WI.few {l:List Nat} {i:Nat} {f:Fl} (h1:l.length<8) (h2:i=8) (h3:f=Fl.start) (h4:(ak rd0 l).2.1=0) (h5:(ak rd0 l).1.part≠5):WI l i f:=Or.inr (Or.inl ⟨h1,h2,h3,h4,h5,trivial⟩)
theorem WI.ok {l:List Nat} {i:Nat} {f:Fl} (s':Rd) (hi:i<=l.length) (h2:ak rd0 l=shf i (ak s' (l.drop i))) (h3:Ag s' f) (h4:Sm s' f) (h5:(f.done=true/\s'.part=5)\/(f.done=false/\s'.part=1/\s'.taken=0/\s'.number=0)):WI l i f:=Or.inr (Or.inr ⟨s',hi,h2,h3,h4,h5,trivial⟩)
theorem WI.cs {l:List Nat} {i:Nat} {f:Fl} {motive:WI l i f->Prop}
  (bad:∀ (h1:(ak rd0 l).2.1≠0) (h2:0<f.ids) (h3:fc f.r0 f.z (ak rd0 l).2.1 (ak rd0 l).2.2),motive (WI.bad h1 h2 h3))
  (few:∀ (h1:l.length<8) (h2:i=8) (h3:f=Fl.start) (h4:(ak rd0 l).2.1=0) (h5:(ak rd0 l).1.part≠5),motive (WI.few h1 h2 h3 h4 h5))
  (ok:∀ (s':Rd) (hi:i<=l.length) (h2:ak rd0 l=shf i (ak s' (l.drop i))) (h3:Ag s' f) (h4:Sm s' f) (h5:(f.done=true/\s'.part=5)\/(f.done=false/\s'.part=1/\s'.taken=0/\s'.number=0)),motive (WI.ok s' hi h2 h3 h4 h5))
  (h:WI l i f):motive h:=by
 rcases h with ⟨h1,h2,h3,_⟩ | ⟨h1,h2,h3,h4,h5,_⟩ | ⟨s',hi,h2,h3,h4,h5,_⟩
 ·exact bad h1 h2 h3
 ·exact few h1 h2 h3 h4 h5
 ·exact ok s' hi h2 h3 h4 h5
theorem fc.grow {f g:Fl} {e p:Nat} (h:fc f.r0 f.z e p) (k:gf f g) (hi:0<f.ids):fc g.r0 g.z e p:=by
 obtain ⟨d,hd⟩:=k.z;refine ⟨h.1,fun d' out dn sm er at' en q => ?_⟩;rw[hd,List.append_assoc] at q;rw[k.r0 hi];exact h.2 (d++d') out dn sm er at' en q
theorem Nf {s:Rd} {f:Fl} {k:Nat} {dn:Bool} (hS:Sm s f) (h:f.ov k=true) (hr:uT f.z dn):dn=decide (s.st.part=10):=by
 obtain ⟨out,sm,er,at',en,q⟩:=hr;refine hS.dn ?_ q;unfold Fl.ov at h;simp at h;exact h.1.1
theorem xx {s:Rd} {f:Fl} {l:List Nat} {i:Nat} {dn:Bool} (hA:Ag s f) (hS:Sm s f) (hp:s.part=1) (ht:s.taken=0) (hm:s.number=0) (hd0:f.done=false) (hb:∀ x ∈ l,x<256) (hcap:f.first=true->Cap f.r0) (hr:f.ov (sA l)=true->uT f.z dn):lC s l (f.chunk l i dn) i:=by
 cases ho:f.ov (sA l) with
 | true=>exact AL hA hS hp ht hm hd0 hb hcap (Nf hS ho (hr ho))
 | false=>rw[IK (dn':=decide (s.st.part=10)) ho];exact AL hA hS hp ht hm hd0 hb hcap rfl
theorem wV {l:List Nat} (hb:∀ x ∈ l,x<256) {i:Nat} {f:Fl} (h:Wk l i f):WI l i f/\FOk f:=by
 induction h using Wk.cs with
 | start hs=>
  refine ⟨?_,EB⟩;rcases vI 8 0 rd0 l rfl rfl rfl with ⟨i,h1,h2,h3,_⟩ | ⟨h1,h2,h3,h4⟩ | ⟨h1,h2,s',h3,h4,h5⟩
  ·have:=hs i h1 h2
   rw[Nat.zero_add] at h3;exact absurd this h3
  ·exact WI.few h2 rfl rfl h3 (by rw[h4];decide)
  ·exact WI.ok s' h2 h3 (Jc h5) (Or.inl ⟨rfl,rfl⟩) (Or.inr ⟨rfl,h4 (by decide)⟩)
 | next h hd hi hr ht ih=>
  rename_i i f dn
  obtain ⟨w,fk⟩:=ih;obtain ⟨g,gk⟩:=chunk_ok fk (l.drop i) i dn;refine ⟨?_,gk ht⟩;cases w using WI.cs with
  | bad h1 h2 h3=>exact WI.bad h1 (Nat.lt_of_lt_of_le h2 g.ids) (h3.grow g h2)
  | few h1 h2 h3 h4 h5=>omega
  | ok s' h1 h2 h3 h4 h5=>
   rcases h5 with ⟨h5,_⟩ | ⟨_,h6,h7,h8⟩
   ·rw[hd] at h5;cases h5
   have K:=xx (i:=i) h3 h4 h6 h7 h8 hd (fun x hx=>hb x (List.mem_of_mem_drop hx)) (fun q=>fk.cap q) hr;cases K using lC.cs with
   | bad k1 k2 k3=>
    refine WI.bad (by rw[h2];exact k1) k2 ?_;rw[h2];show fc _ _ (ak s' (l.drop i)).2.1 ((ak s' (l.drop i)).2.2+i)
    rw[Nat.add_comm];exact k3
   | stop k1=>exact absurd k1 ht
   | on s2 k1 k0 km k2 k3 k4 k5=>
    refine WI.ok s2 (by simp at km;omega) ?_ k3 k4 k5;rw[h2,k2,vq,List.drop_drop,Nat.add_comm i]
theorem CA {f:Fl} {l:List Nat} {i:Nat} {dn:Bool} (hd:f.done=false) (ht:(f.chunk l i dn).took=0) (he:(f.chunk l i dn).err=0):(f.chunk l i dn).f.done=false:=by
 unfold Fl.chunk at ht he ⊢;by_cases c1:l.length<4
 ·rw[if_pos c1];exact hd
 rw[if_neg c1] at ht he ⊢;by_cases c2:2147483648<=n4 (l.getD 0 0) (l.getD 1 0) (l.getD 2 0) (l.getD 3 0)
 ·rw[if_pos c2];exact hd
 rw[if_neg c2] at ht he ⊢;by_cases c3:l.length<8
 ·rw[if_pos c3];exact hd
 rw[if_neg c3] at ht he ⊢;generalize n4 (l.getD 4 0) (l.getD 5 0) (l.getD 6 0) (l.getD 7 0)=k at *;generalize n4 (l.getD 0 0) (l.getD 1 0) (l.getD 2 0) (l.getD 3 0)=n at *;by_cases c4:f.begE k n dn≠0
 ·rw[if_pos c4];exact hd
 rw[if_neg c4] at ht he ⊢;unfold Fl.body at ht he ⊢;have hg:((f.begF k).data k ((l.drop 8).take n) (i+8)).done=false:=by
  have hb:(f.begF k).done=false:=by
   unfold Fl.begF;split
   ·exact hd
   ·split<;>exact hd
  unfold Fl.data;split<;>exact hb
 generalize (f.begF k).data k ((l.drop 8).take n) (i+8)=g at *;by_cases q1:(l.drop 8).length<n+4
 ·rw[if_pos q1];exact hg
 rw[if_neg q1] at ht he ⊢;by_cases q2:bL (bE au ((l.take 8).drop 4++(l.drop 8).take n))≠n4 ((l.drop 8).getD n 0) ((l.drop 8).getD (n+1) 0) ((l.drop 8).getD (n+2) 0) ((l.drop 8).getD (n+3) 0)
 ·rw[if_pos q2];exact hg
 rw[if_neg q2] at ht he ⊢;by_cases q3:(g.ends k ((l.drop 8).take n)).2≠0
 ·rw[if_pos q3] at he;exact absurd he q3
 ·rw[if_neg q3] at ht
  exact absurd ht (by show ¬ (8+n+4=0);omega)
theorem Jo {l:List Nat} (hb:∀ x ∈ l,x<256) {F:Fl} {er at':Nat} (h:fq l F er at') :
  ((ak rd0 l).2.1≠0/\0<F.ids/\fc F.r0 F.z (ak rd0 l).2.1 (ak rd0 l).2.2) \/
  ((ak rd0 l).2.1=er/\(er≠0->(ak rd0 l).2.2=at')/\(er=0->((ak rd0 l).1.part=5 ↔ F.done=true))/\lj F):=by
 cases h using fq.cs with
 | sign _ h8 hi hn hg=>
  right
  rcases vI 8 0 rd0 l rfl rfl rfl with ⟨j,h1,h2,h3,h4,h5,h6⟩ | ⟨h1,h2,h3,h4⟩ | ⟨h1,h2,s',h3,h4,h5⟩
  ·have e:j=at':=by
    by_cases c:j<at'
    ·have:=hg j c;rw[Nat.zero_add] at h3;exact absurd this h3
    ·by_cases c':at'<j
     ·have:=h4 at' c';rw[Nat.zero_add] at this;exact absurd this hn
     ·omega
   subst e;exact ⟨h5,fun _=>h6,(fun w=>by cases w),Or.inl ⟨rfl,rfl⟩⟩
  ·have:=h1 at' h8 hi;rw[Nat.zero_add] at this;exact absurd this hn
  ·have:=h1 at' h8;rw[Nat.zero_add] at this;exact absurd this hn
 | out h hi=>
  obtain ⟨w,fk⟩:=wV hb h;cases w using WI.cs with
  | bad h1 h2 h3=>exact Or.inl ⟨h1,h2,h3⟩
  | few h1 h2 h3 h4 h5=>subst h3;exact Or.inr ⟨h4,fun w=>absurd rfl w,fun _=>⟨fun w=>absurd w h5,(fun w=>by cases w)⟩,Or.inl ⟨rfl,rfl⟩⟩
  | ok s' h1 h2 h3 h4 h5=>
   rename_i i
   have e:l.drop i=[]:=List.drop_eq_nil_iff.2 hi;rw[e] at h2
   right
   refine ⟨by rw[h2];rfl,fun w=>absurd rfl w,fun _ => ?_,h4.ok⟩;rw[h2];show s'.part=5 ↔ _
   rcases h5 with ⟨a,b⟩ | ⟨a,b,_⟩
   ·exact ⟨fun _=>a,fun _=>b⟩
   ·rw[a,b];exact ⟨(fun w=>by cases w),(fun w=>by cases w)⟩
 | trail h hd hi=>
  obtain ⟨w,fk⟩:=wV hb h;cases w using WI.cs with
  | bad h1 h2 h3=>exact Or.inl ⟨h1,h2,h3⟩
  | few h1 h2 h3 h4 h5=>omega
  | ok s' h1 h2 h3 h4 h5=>
   right
   rcases h5 with ⟨a,b⟩ | ⟨a,b,_⟩
   ·have hx:∃ x m,l.drop at'=x::m:=by
     cases e:l.drop at' with
     | nil=>have:=List.drop_eq_nil_iff.1 e;omega
     | cons x m=>exact ⟨x,m,rfl⟩
    obtain ⟨x,m,e⟩:=hx;rw[e] at h2;have et:s'.take x=(s',22):=by unfold Rd.take;rw[if_neg (by omega),if_neg (by omega),if_neg (by omega),if_neg (by omega),if_neg (by omega)]
    rw[kU et (by decide)] at h2;refine ⟨by rw[h2];rfl,fun _=>by rw[h2];show 0+at'=at';omega,(fun w=>by cases w),h4.ok⟩
   ·rw[hd] at a;cases a
 | stop h hd hi hr ht=>
  rename_i i f dn
  obtain ⟨w,fk⟩:=wV hb h;obtain ⟨g,gk⟩:=chunk_ok fk (l.drop i) i dn;cases w using WI.cs with
  | bad h1 h2 h3=>exact Or.inl ⟨h1,Nat.lt_of_lt_of_le h2 g.ids,h3.grow g h2⟩
  | few h1 h2 h3 h4 h5=>omega
  | ok s' h1 h2 h3 h4 h5=>
   rcases h5 with ⟨h5,_⟩ | ⟨_,h6,h7,h8⟩
   ·rw[hd] at h5;cases h5
   have K:=xx (i:=i) h3 h4 h6 h7 h8 hd (fun x hx=>hb x (List.mem_of_mem_drop hx)) (fun q=>fk.cap q) hr;cases K using lC.cs with
   | bad k1 k2 k3=>
    refine Or.inl ⟨by rw[h2];exact k1,k2,?_⟩;rw[h2];show fc _ _ (ak s' (l.drop i)).2.1 ((ak s' (l.drop i)).2.2+i)
    rw[Nat.add_comm];exact k3
   | stop k1 k2 k3 k4 k5=>
    right
    refine ⟨by rw[h2];exact k2,fun w => ?_,fun w => ?_,k5⟩
    ·rw[h2,if_neg w]
     show (ak s' (l.drop i)).2.2+i=_
     rw[k3 w];omega
    ·rw[h2]
     show (ak s' (l.drop i)).1.part=5 ↔ _
     rw[CA hd ht w];exact ⟨fun q=>absurd q (k4 w),(fun q=>by cases q)⟩
   | on s2 k1=>omega
structure FOn (f:Fl):Prop where
 ids:0<f.ids->f.on=true
 hd:f.on=true->Jk f.hd
 z:f.ids=0->f.z=[]
theorem xk:FOn Fl.start:=⟨(fun w=>by simp [Fl.start] at w),(fun w=>by cases w),fun _=>rfl⟩
theorem FOn.of {f g:Fl} (h:FOn f) (h1:g.on=f.on) (h2:g.hd=f.hd) (h3:g.ids=f.ids) (h4:g.z=f.z):FOn g:=⟨fun w=>by rw[h1];exact h.ids (by omega),fun w=>by rw[h2];exact h.hd (by rw[<- h1];exact w),fun w=>by rw[h4];exact h.z (by omega)⟩
theorem AK {f:Fl} (hk:FOk f) (h:FOn f) (l:List Nat) (i:Nat) (dn:Bool):FOn (f.chunk l i dn).f:=by
 unfold Fl.chunk;by_cases c1:l.length<4
 ·rw[if_pos c1];exact h
 rw[if_neg c1];by_cases c2:2147483648<=n4 (l.getD 0 0) (l.getD 1 0) (l.getD 2 0) (l.getD 3 0)
 ·rw[if_pos c2];exact h
 rw[if_neg c2];by_cases c3:l.length<8
 ·rw[if_pos c3];exact h
 rw[if_neg c3];generalize n4 (l.getD 4 0) (l.getD 5 0) (l.getD 6 0) (l.getD 7 0)=k;generalize n4 (l.getD 0 0) (l.getD 1 0) (l.getD 2 0) (l.getD 3 0)=n;by_cases c4:f.begE k n dn≠0
 ·rw[if_pos c4];exact h
 rw[if_neg c4];have c4':f.begE k n dn=0:=by omega
 have hb:FOn (f.begF k):=by
  unfold Fl.begF;split
  ·exact h.of rfl rfl rfl rfl
  ·split
   ·exact h.of rfl rfl rfl rfl
   ·exact h
 have hon:k=aJ->(f.begF k).on=true:=fun q=>by
  subst q;have hf:=iH kY c4'
  have:(f.begF aJ).on=f.on:=by
   unfold Fl.begF;split
   ·rfl
   ·split<;>rfl
  rw[this];exact (hk.on hf).1
 have hd:FOn ((f.begF k).data k ((l.drop 8).take n) (i+8)):=by
  unfold Fl.data;by_cases q:k=aJ
  ·rw[if_pos q]
   exact ⟨fun _=>hon q,hb.hd,(fun w=>by cases w)⟩
  ·rw[if_neg q];exact hb
 have he:FOn (((f.begF k).data k ((l.drop 8).take n) (i+8)).ends k ((l.drop 8).take n)).1:=by
  generalize (f.begF k).data k ((l.drop 8).take n) (i+8)=g at *;generalize (l.drop 8).take n=d at *;unfold Fl.ends;split
  ·split
   ·exact hd
   ·rename_i e
    exact ⟨fun _=>rfl,fun _=>xj _ (by omega),hd.z⟩
  ·split
   ·exact hd.of rfl rfl rfl rfl
   ·split
    ·split
     ·exact hd
     ·exact hd.of rfl rfl rfl rfl
    ·split
     ·exact hd.of rfl rfl rfl rfl
     ·exact hd
 unfold Fl.body;split
 ·exact hd
 ·split
  ·exact hd
  ·split
   ·exact he
   ·exact he
theorem F8 {l:List Nat} (hb:∀ x ∈ l,x<256) {i:Nat} {f:Fl} (h:Wk l i f):FOn f:=by
 induction h using Wk.cs with
 | start hs=>exact xk
 | next h hd hi hr ht ih=>exact AK (wV hb h).2 ih _ _ _
theorem Is {l:List Nat} (hb:∀ x ∈ l,x<256) {F:Fl} {er at':Nat} (h:fq l F er at'):FOn F:=by
 cases h using fq.cs with
 | sign _ h8 hi hn hg=>exact xk
 | out h hi=>exact F8 hb h
 | trail h hd hi=>exact F8 hb h
 | stop h hd hi hr ht=>exact AK (wV hb h).2 (F8 hb h) _ _ _
def imE (im:ImR) (dn sm:Bool) (en:Nat):Nat × Nat:=
 match im with
 | .inl (_,e,p)=>(e,p)
 | .inr (.inl _)=>if (dn && sm)=true then (18,en) else (0,0)
 | .inr (.inr _)=>(0,0)
def wM (F:Fl) (er at':Nat) (im:ImR) (dn sm:Bool) (ser sat sen:Nat):Nat × Nat:=
 if F.on=true/\(imE im dn sm sen).1≠0 then imE im dn sm sen else if ser≠0 then (ser,sat) else (er,at')
theorem Kh {h:Hd} {C:Nat} (hD:okD h.D) (hb:1<=bG h) (up:Nat->Nat) (out:List One) (dn sm:Bool) (er at' en:Nat) (hz:er=0->at'=0) :
  ofV (aN h C (az h (aF h.L) 0) up out) dn sm er at' en=if (imE (aN h C (az h (aF h.L) 0) up out) dn sm en).1≠0 then imE (aN h C (az h (aF h.L) 0) up out) dn sm en else (er,at'):=by
 have I:=Ce hD hb _ _ _ up out (Nat.le_refl _) (vH h C up);generalize aN h C (az h (aF h.L) 0) up out=im at I;cases im using ImR.cs with
 | bad ls e p=>
  have:=I.1
  unfold ofV imE;rw[if_pos this]
 | part ls=>
  unfold ofV imE;by_cases c:(dn && sm)=true
  ·simp only [c,if_true];rfl
  ·simp only [c,if_false];rfl
 | full ls=>unfold ofV imE;rfl
def RdZ (ser sat:Nat):Prop:=ser=0->sat=0
theorem A8 {l:List Nat} (hb:∀ x ∈ l,x<256) {F:Fl} {er at':Nat} (h:fq l F er at') {out:List One} {dn sm:Bool} {ser sat sen:Nat} (q:se F.z out dn sm ser sat sen) (hz:RdZ ser sat) (up:Nat->Nat) :
  (wM F er at' (aN F.hd (F.pal.length / 3) (az F.hd (aF F.hd.L) 0) up out) dn sm ser sat sen).1=(ak rd0 l).2.1 /\
  ((ak rd0 l).2.1≠0->(wM F er at' (aN F.hd (F.pal.length / 3) (az F.hd (aF F.hd.L) 0) up out) dn sm ser sat sen).2=(ak rd0 l).2.2) /\
  ((ak rd0 l).2.1=0->((ak rd0 l).1.part=5 ↔ F.done=true)):=by
 have on:=Is hb h;have W:=Jo hb h;by_cases hon:F.on=true
 ·have hh:=on.hd hon
  have V:=LP (C:=F.pal.length / 3) hh.D hh.bits up out dn sm ser sat sen;rw[Kh hh.D hh.bits up out dn sm ser sat sen hz] at V;have er0:Rw.start F.hd (F.pal.length / 3)=F.r0:=rfl;rw[er0] at V;unfold wM;generalize imE (aN F.hd (F.pal.length / 3) (az F.hd (aF F.hd.L) 0) up out) dn sm sen=E at *;rcases W with ⟨w1,w2,w3⟩ | ⟨w1,w2,w3,w4⟩
  ·have:=w3.2 [] out dn sm ser sat sen (by rw[List.append_nil];exact q)
   obtain ⟨e1,e2⟩:=A9 V this;by_cases c:E.1≠0
   ·rw[if_pos c] at e1 e2
    rw[if_pos ⟨hon,c⟩];exact ⟨e1,fun _=>e2,fun w=>absurd w w1⟩
   ·rw[if_neg c] at e1 e2
    have hs:ser≠0:=by intro w;exact w1 (e1.symm.trans w)
    rw[if_neg (fun w=>c w.2),if_pos hs];exact ⟨e1,fun _=>e2,fun w=>absurd w w1⟩
  ·have clean:E.1=0/\ser=0:=by
    rcases w4 with ⟨i0,z0⟩ | ⟨i0,st,rw',sk⟩
    ·have sk:=tY F.r0 F.z
     rw[z0] at q;have hq:=pY (z:=[]) (tY F.r0 []) q;have vd0:Vd F.r0 out dn sm ser sat sen 0 sat:=Or.inr ⟨F.r0,hq.1,Or.inr ⟨hq.2.2.2.2,hq.2.1.symm,rfl⟩⟩;obtain ⟨e1,e2⟩:=A9 V vd0;by_cases c:E.1≠0
     ·rw[if_pos c] at e1;exact absurd e1 c
     ·exact ⟨by omega,hq.2.1⟩
    ·have hq:=pY sk q
     have vd0:Vd F.r0 out dn sm ser sat sen 0 sat:=Or.inr ⟨rw',hq.1,Or.inr ⟨hq.2.2.2.2,hq.2.1.symm,rfl⟩⟩;obtain ⟨e1,e2⟩:=A9 V vd0;by_cases c:E.1≠0
     ·rw[if_pos c] at e1;exact absurd e1 c
     ·exact ⟨by omega,hq.2.1⟩
   rw[if_neg (fun w=>w.2 clean.1),if_neg (fun w=>w clean.2)];exact ⟨w1.symm,fun w=>(w2 (by rw[<- w1];exact w)).symm,fun w=>w3 (by rw[<- w1];exact w)⟩
 ·have i0:F.ids=0:=by
   by_cases c:0<F.ids
   ·exact absurd (on.ids c) hon
   ·omega
  have z0:=on.z i0;rw[z0] at q;have hq:=pY (z:=[]) (tY F.r0 []) q;unfold wM;rw[if_neg (fun w=>hon w.1),if_neg (fun w=>w hq.2.1)];rcases W with ⟨w1,w2,w3⟩ | ⟨w1,w2,w3,w4⟩
  ·omega
  ·exact ⟨w1.symm,fun w=>(w2 (by rw[<- w1];exact w)).symm,fun w=>w3 (by rw[<- w1];exact w)⟩
def flV (f:Fl) (er at':Nat) (pv cv zv iv:Value):Nat->Value
 | 0 => .bool f.on
 | 1 => .int .i64 (f.hd.W:Int)
 | 2 => .int .i64 (f.hd.H:Int)
 | 3 => .int .i64 (f.hd.D:Int)
 | 4 => .int .i64 (f.hd.K:Int)
 | 5 => .int .i64 (f.hd.L:Int)
 | 6 => .bool f.hasPal
 | 7 => .bool f.hasClear
 | 8=>pv
 | 9=>cv
 | 10=>zv
 | 11=>iv
 | 12 => .bool f.over
 | 13 => .bool f.first
 | 14 => .bool f.done
 | 15 => .int .i64 (er:Int)
 | 16 => .int .i64 (at':Int)
 | _=>undef
structure ar (w:World) (b:Nat) (f:Fl) (er at':Nat) (pv cv zv iv:Value):Prop where
 cell:∀ k,k<17->w.cell? ⟨b,k,none⟩=some (flV f er at' pv cv zv iv k)
 fz:∀ k,w.frozen? ⟨b,k,none⟩=false
 pal:IAt w pv f.pal
 clr:IAt w cv f.clear
 z:w.ownsRow (b+1) 148 2 zv f.z.length (gH f.z)
 ids:∃ xs,w.ownsRow (b+1) 3 1 iv f.ids xs
 pb:∀ g,ae pv=some g->b<g/\zv.ownBlock≠some g/\iv.ownBlock≠some g
 cb:∀ g,ae cv=some g->b<g/\zv.ownBlock≠some g/\iv.ownBlock≠some g
 dis:∀ g,zv.ownBlock=some g->iv.ownBlock≠some g
 plt:∀ g,ae pv=some g->g<w.heap.size
 clt:∀ g,ae cv=some g->g<w.heap.size
theorem ar.lt {w:World} {b:Nat} {f:Fl} {er at':Nat} {pv cv zv iv:Value} (h:ar w b f er at' pv cv zv iv):b<w.heap.size:=World.block_lt_of_cell? _ _ (h.cell 0 (by omega))
theorem ar.kept {w w':World} {b:Nat} {f:Fl} {er at':Nat} {pv cv zv iv:Value} (h:ar w b f er at' pv cv zv iv) (k:Kept w w'):ar w' b f er at' pv cv zv iv:=by
 obtain ⟨xs,hx⟩:=h.ids;exact ⟨fun j hj=>(k.cell (p:=⟨b,j,none⟩) h.lt).trans (h.cell j hj),fun j=>(k.frozen (p:=⟨b,j,none⟩) h.lt).trans (h.fz j),h.pal.kept k,h.clr.kept k,cC h.z k,⟨xs,cC hx k⟩,h.pb,h.cb,h.dis,fun g q=>Nat.lt_of_lt_of_le (h.plt g q) k.size,fun g q=>Nat.lt_of_lt_of_le (h.clt g q) k.size⟩
theorem ar.set {w:World} {b:Nat} {f:Fl} {er at':Nat} {pv cv zv iv:Value} (h:ar w b f er at' pv cv zv iv) (k:Nat) (v:Value) (f':Fl) (er' at'':Nat) (hk:k<17) (hv:∀ j,j<17->flV f' er' at'' pv cv zv iv j=if j=k then v else flV f er at' pv cv zv iv j) (h1:f'.pal=f.pal) (h2:f'.clear=f.clear) (h3:f'.z=f.z) (h4:f'.ids=f.ids):ar (w.setCell ⟨b,k,none⟩ v) b f' er' at'' pv cv zv iv:=by
 have F:Fr1 b w (w.setCell ⟨b,k,none⟩ v):=(Fr1.refl _ _).set _ _;obtain ⟨xs,hx⟩:=h.ids;refine ⟨fun j hj => ?_,fun j=>(World.frozen?_setCell _ _ _ _).trans (h.fz j),by rw[h1];exact h.pal.fr F (fun g hg e=>by have:=(h.pb g hg).1;omega),by rw[h2];exact h.clr.fr F (fun g hg e=>by have:=(h.cb g hg).1;omega),by rw[h3];exact aQ h.z F (fun g hg e=>by have:=(h.z.lt g hg).1;omega),⟨xs,by rw[h4];exact aQ hx F (fun g hg e=>by have:=(hx.lt g hg).1;omega)⟩,h.pb,h.cb,h.dis,fun g q=>by simpa [World.setCell] using h.plt g q,fun g q=>by simpa [World.setCell] using h.clt g q⟩;rw[hv j hj];by_cases e:j=k
 ·subst e;rw[if_pos rfl];exact aj (h.cell j hj) _
 ·rw[if_neg e,aa _ _ _ _ _ (fun q=>e q.symm)];exact h.cell j hj
theorem bP {P:Nat->Prop} (h:P 0/\P 1/\P 2/\P 3/\P 4/\P 5/\P 6/\P 7/\P 8/\P 9/\P 10/\P 11/\P 12/\P 13/\P 14/\P 15/\P 16):∀ j,j<17->P j:=by
 obtain ⟨p0,p1,p2,p3,p4,p5,p6,p7,p8,p9,p10,p11,p12,p13,p14,p15,p16⟩:=h;intro j hj
 match j,hj with
 | 0,_=>exact p0
 | 1,_=>exact p1
 | 2,_=>exact p2
 | 3,_=>exact p3
 | 4,_=>exact p4
 | 5,_=>exact p5
 | 6,_=>exact p6
 | 7,_=>exact p7
 | 8,_=>exact p8
 | 9,_=>exact p9
 | 10,_=>exact p10
 | 11,_=>exact p11
 | 12,_=>exact p12
 | 13,_=>exact p13
 | 14,_=>exact p14
 | 15,_=>exact p15
 | 16,_=>exact p16
 | j+17,h=>omega
theorem ar.setErr {w:World} {b:Nat} {f:Fl} {er at':Nat} {pv cv zv iv:Value} (h:ar w b f er at' pv cv zv iv) (e:Nat):ar (w.setCell ⟨b,15,none⟩ (.int .i64 (e:Int))) b f e at' pv cv zv iv:=
 h.set 15 _ f e at' (by omega) (bP ⟨rfl,rfl,rfl,rfl,rfl,rfl,rfl,rfl,rfl,rfl,rfl,rfl,rfl,rfl,rfl,rfl,rfl⟩) rfl rfl rfl rfl
theorem ar.setAt {w:World} {b:Nat} {f:Fl} {er at':Nat} {pv cv zv iv:Value} (h:ar w b f er at' pv cv zv iv) (e:Nat):ar (w.setCell ⟨b,16,none⟩ (.int .i64 (e:Int))) b f er e pv cv zv iv:=
 h.set 16 _ f er e (by omega) (bP ⟨rfl,rfl,rfl,rfl,rfl,rfl,rfl,rfl,rfl,rfl,rfl,rfl,rfl,rfl,rfl,rfl,rfl⟩) rfl rfl rfl rfl
theorem ar.setFirst {w:World} {b:Nat} {f:Fl} {er at':Nat} {pv cv zv iv:Value} (h:ar w b f er at' pv cv zv iv):ar (w.setCell ⟨b,13,none⟩ (.bool true)) b { f with first:=true } er at' pv cv zv iv:=
 h.set 13 _ _ er at' (by omega) (bP ⟨rfl,rfl,rfl,rfl,rfl,rfl,rfl,rfl,rfl,rfl,rfl,rfl,rfl,rfl,rfl,rfl,rfl⟩) rfl rfl rfl rfl
theorem ar.setOver {w:World} {b:Nat} {f:Fl} {er at':Nat} {pv cv zv iv:Value} (h:ar w b f er at' pv cv zv iv):ar (w.setCell ⟨b,12,none⟩ (.bool true)) b { f with over:=true } er at' pv cv zv iv:=
 h.set 12 _ _ er at' (by omega) (bP ⟨rfl,rfl,rfl,rfl,rfl,rfl,rfl,rfl,rfl,rfl,rfl,rfl,rfl,rfl,rfl,rfl,rfl⟩) rfl rfl rfl rfl
theorem ar.setDone {w:World} {b:Nat} {f:Fl} {er at':Nat} {pv cv zv iv:Value} (h:ar w b f er at' pv cv zv iv):ar (w.setCell ⟨b,14,none⟩ (.bool true)) b { f with done:=true } er at' pv cv zv iv:=
 h.set 14 _ _ er at' (by omega) (bP ⟨rfl,rfl,rfl,rfl,rfl,rfl,rfl,rfl,rfl,rfl,rfl,rfl,rfl,rfl,rfl,rfl,rfl⟩) rfl rfl rfl rfl
theorem lN (b:Nat) (f:Fl) (e a v q:Nat) (pv cv zv iv:Value) (w:World) (h:ar w b f e a pv cv zv iv) :
  Calls Tryz.prog 57 #[.pointer (some ⟨b,0,none⟩),.int .i64 (v:Int),.int .i64 (q:Int)] w fun r w'=>r = .returned (.bool false)/\ar w' b f v q pv cv zv iv/\Fr1 b w w':=by
 have c15:=h.cell 15 (by omega);have c16:=h.cell 16 (by omega);replace c15:w.cell? ⟨b,15,none⟩=some (.int .i64 (e:Int)):=c15;replace c16:w.cell? ⟨b,16,none⟩=some (.int .i64 (a:Int)):=c16;have hf:=h.fz;have H:Hid (ar w b f e a pv cv zv iv):=h;clear h;go_enter Tryz.func57,Tryz.ntmps57;go_wp2;go_ret;exact ⟨rfl,(H.out.setErr v).setAt q,((Fr1.refl _ _).set _ _).set _ _⟩
theorem Es (t:ByteArray) (k:Nat) (h:k<t.size):ints ((af t).take (k+1))=ints ((af t).take k)++[.int .i64 (t[k].toNat:Int)]:=by
 rw[uY t k h,xi]
theorem sL (t:ByteArray) (w:World) (hs:t.size<=1048576) :
  Calls Tryz.prog 132 #[.string t] w fun e w'=>(∃ v,e = .returned v/\w'.ownsRow w.heap.size 3 1 v t.size (ints (af t)))/\Kept w w':=by
 obtain ⟨i0,hi,hz0,hz1,hz2⟩:=info_parts rS;go_enter Tryz.func132,Tryz.ntmps132;go_wp2;go_loopw [3,4] (fun v j W=>∃ k:Nat,k<=t.size/\j = .int .i64 (k:Int)/\W.ownsRow w.heap.size 3 1 v k (ints ((af t).take k))/\Kept w W) (fun _ j _=>t.size - (intOf j).toNat)
 case atStart=>exact ⟨0,by omega,rfl,World.ownsRow_nil _ _ _ _,Kept.refl _⟩
 case round=>
  obtain ⟨k,hk,rfl,hown,hkw⟩:=hrel;by_cases hlt:k<t.size
  ·have hsz:=hkw.size
   have hx:t[k].toNat<256:=t[k].toNat_lt;have HT:Hid (ints ((af t).take (k+1))=ints ((af t).take k)++[.int .i64 (t[k].toNat:Int)]):=Es t k hlt;generalize ints ((af t).take k)=XS at *;go_wp2_with (at_builtin;refine wpList_append_own _ rfl _ _ 30 rfl w.heap.size 3 i0 (.int .i64 0) 1 8 Tryz.underlying30 hi hz0 hz1 hz2 rfl (by decide) _ _ _ rfl (hown.alloc _) ⟨wr.heap.size,0,none⟩ 1 1 [.int .i64 (t[k].toNat:Int)] rfl rfl ?c1 ?c2 ?c3 ?c4 ?c5 ?_)
   case c1=>
    intro j u hj
    match j,hj with
    | 0,hj=>simp at hj;subst hj;simp [Addr.add]
   case c2=>intro u hu;simp at hu;subst hu;rfl
   case c3=>unfold maxLen;omega
   case c4=>omega
   case c5=>simp;omega
   intro v' w1 hown' hgrow hnil;have R:Kept w w1:=(Below.alloc hkw (by omega) _).grown hgrow (by simp;omega) (fun j hj=>(hown.lt j hj).1);rw[<- HT.out] at hown';have HW:Hid _:=hown';clear hnil hgrow hown hown';go_wp2;exact ⟨⟨k+1,by omega,by go_num,HW.out,R⟩,by simp [intOf];omega⟩
  ·have hke:k=t.size:=by omega
   have hall:(af t).take k=af t:=List.take_of_length_le (by rw[aw];omega);rw[hall] at hown;go_wp2;go_ret;exact ⟨⟨_,rfl,by rw[<- hke];exact hown⟩,hkw⟩
theorem ar.setPal {w w1:World} {b:Nat} {f:Fl} {er at':Nat} {pv cv zv iv:Value} (h:ar w b f er at' pv cv zv iv) (k:Kept w w1) (v:Value) (d:List Nat) (ho:w1.ownsRow w.heap.size 3 1 v d.length (ints d)):ar (w1.setCell ⟨b,8,none⟩ v) b { f with pal:=d } er at' v cv zv iv:=by
 have h1:=h.kept k;have F:Fr1 b w1 (w1.setCell ⟨b,8,none⟩ v):=(Fr1.refl _ _).set _ _;obtain ⟨xs0,hx0⟩:=h.ids;obtain ⟨xs,hx⟩:=h1.ids;have hlt:=h.lt;have hg:∀ g,ae v=some g->w.heap.size<=g/\g<w1.heap.size:=fun g hg=>by rw[cj v ho] at hg;exact ho.lt g hg
 refine ⟨fun j hj => ?_,fun j=>(World.frozen?_setCell _ _ _ _).trans (h1.fz j),(mK ho).fr F (fun g q e=>by have:=(hg g q).1;omega),h1.clr.fr F (fun g q e=>by have:=(h1.cb g q).1;omega),aQ h1.z F (fun g hg e=>by have:=(h1.z.lt g hg).1;omega),⟨xs,aQ hx F (fun g hg e=>by have:=(hx.lt g hg).1;omega)⟩,fun g q=>⟨by have:=(hg g q).1;omega,fun e=>by have:=(h.z.lt g e).2;have:=(hg g q).1;omega,fun e=>by have:=(hx0.lt g e).2;have:=(hg g q).1;omega⟩,h1.cb,h1.dis,fun g q=>by simpa [World.setCell] using (hg g q).2,fun g q=>by simpa [World.setCell] using h1.clt g q⟩;by_cases e:j=8
 ·subst e;exact aj (h1.cell 8 hj) _
 ·rw[aa _ _ _ _ _ (fun q=>e q.symm),h1.cell j hj]
  congr 1
  revert e
  exact bP (P:=fun j=>j≠8->flV f er at' pv cv zv iv j=flV { f with pal:=d } er at' v cv zv iv j) ⟨fun _=>rfl,fun _=>rfl,fun _=>rfl,fun _=>rfl,fun _=>rfl,fun _=>rfl,fun _=>rfl,fun _=>rfl,fun q=>absurd rfl q,fun _=>rfl,fun _=>rfl,fun _=>rfl,fun _=>rfl,fun _=>rfl,fun _=>rfl,fun _=>rfl,fun _=>rfl⟩ j hj
theorem ar.setClear {w w1:World} {b:Nat} {f:Fl} {er at':Nat} {pv cv zv iv:Value} (h:ar w b f er at' pv cv zv iv) (k:Kept w w1) (v:Value) (d:List Nat) (ho:w1.ownsRow w.heap.size 3 1 v d.length (ints d)):ar (w1.setCell ⟨b,9,none⟩ v) b { f with clear:=d } er at' pv v zv iv:=by
 have h1:=h.kept k;have F:Fr1 b w1 (w1.setCell ⟨b,9,none⟩ v):=(Fr1.refl _ _).set _ _;obtain ⟨xs0,hx0⟩:=h.ids;obtain ⟨xs,hx⟩:=h1.ids;have hlt:=h.lt;have hg:∀ g,ae v=some g->w.heap.size<=g/\g<w1.heap.size:=fun g hg=>by rw[cj v ho] at hg;exact ho.lt g hg
 refine ⟨fun j hj => ?_,fun j=>(World.frozen?_setCell _ _ _ _).trans (h1.fz j),h1.pal.fr F (fun g q e=>by have:=(h1.pb g q).1;omega),(mK ho).fr F (fun g q e=>by have:=(hg g q).1;omega),aQ h1.z F (fun g hg e=>by have:=(h1.z.lt g hg).1;omega),⟨xs,aQ hx F (fun g hg e=>by have:=(hx.lt g hg).1;omega)⟩,h1.pb,fun g q=>⟨by have:=(hg g q).1;omega,fun e=>by have:=(h.z.lt g e).2;have:=(hg g q).1;omega,fun e=>by have:=(hx0.lt g e).2;have:=(hg g q).1;omega⟩,h1.dis,fun g q=>by simpa [World.setCell] using h1.plt g q,fun g q=>by simpa [World.setCell] using (hg g q).2⟩;by_cases e:j=9
 ·subst e;exact aj (h1.cell 9 hj) _
 ·rw[aa _ _ _ _ _ (fun q=>e q.symm),h1.cell j hj]
  congr 1
  revert e
  exact bP (P:=fun j=>j≠9->flV f er at' pv cv zv iv j=flV { f with clear:=d } er at' pv v zv iv j) ⟨fun _=>rfl,fun _=>rfl,fun _=>rfl,fun _=>rfl,fun _=>rfl,fun _=>rfl,fun _=>rfl,fun _=>rfl,fun _=>rfl,fun q=>absurd rfl q,fun _=>rfl,fun _=>rfl,fun _=>rfl,fun _=>rfl,fun _=>rfl,fun _=>rfl,fun _=>rfl⟩ j hj
theorem ar.setHasPal {w:World} {b:Nat} {f:Fl} {er at':Nat} {pv cv zv iv:Value} (h:ar w b f er at' pv cv zv iv):ar (w.setCell ⟨b,6,none⟩ (.bool true)) b { f with hasPal:=true } er at' pv cv zv iv:=
 h.set 6 _ _ er at' (by omega) (bP ⟨rfl,rfl,rfl,rfl,rfl,rfl,rfl,rfl,rfl,rfl,rfl,rfl,rfl,rfl,rfl,rfl,rfl⟩) rfl rfl rfl rfl
theorem ar.setHasClear {w:World} {b:Nat} {f:Fl} {er at':Nat} {pv cv zv iv:Value} (h:ar w b f er at' pv cv zv iv):ar (w.setCell ⟨b,7,none⟩ (.bool true)) b { f with hasClear:=true } er at' pv cv zv iv:=
 h.set 7 _ _ er at' (by omega) (bP ⟨rfl,rfl,rfl,rfl,rfl,rfl,rfl,rfl,rfl,rfl,rfl,rfl,rfl,rfl,rfl,rfl,rfl⟩) rfl rfl rfl rfl
theorem ar.setOn {w:World} {b:Nat} {f:Fl} {er at':Nat} {pv cv zv iv:Value} (h:ar w b f er at' pv cv zv iv):ar (w.setCell ⟨b,0,none⟩ (.bool true)) b { f with on:=true } er at' pv cv zv iv:=
 h.set 0 _ _ er at' (by omega) (bP ⟨rfl,rfl,rfl,rfl,rfl,rfl,rfl,rfl,rfl,rfl,rfl,rfl,rfl,rfl,rfl,rfl,rfl⟩) rfl rfl rfl rfl
theorem ar.setW {w:World} {b:Nat} {f:Fl} {er at':Nat} {pv cv zv iv:Value} (h:ar w b f er at' pv cv zv iv) (n:Nat):ar (w.setCell ⟨b,1,none⟩ (.int .i64 (n:Int))) b { f with hd:={ f.hd with W:=n } } er at' pv cv zv iv:=
 h.set 1 _ _ er at' (by omega) (bP ⟨rfl,rfl,rfl,rfl,rfl,rfl,rfl,rfl,rfl,rfl,rfl,rfl,rfl,rfl,rfl,rfl,rfl⟩) rfl rfl rfl rfl
theorem ar.setH {w:World} {b:Nat} {f:Fl} {er at':Nat} {pv cv zv iv:Value} (h:ar w b f er at' pv cv zv iv) (n:Nat):ar (w.setCell ⟨b,2,none⟩ (.int .i64 (n:Int))) b { f with hd:={ f.hd with H:=n } } er at' pv cv zv iv:=
 h.set 2 _ _ er at' (by omega) (bP ⟨rfl,rfl,rfl,rfl,rfl,rfl,rfl,rfl,rfl,rfl,rfl,rfl,rfl,rfl,rfl,rfl,rfl⟩) rfl rfl rfl rfl
theorem ar.setD {w:World} {b:Nat} {f:Fl} {er at':Nat} {pv cv zv iv:Value} (h:ar w b f er at' pv cv zv iv) (n:Nat):ar (w.setCell ⟨b,3,none⟩ (.int .i64 (n:Int))) b { f with hd:={ f.hd with D:=n } } er at' pv cv zv iv:=
 h.set 3 _ _ er at' (by omega) (bP ⟨rfl,rfl,rfl,rfl,rfl,rfl,rfl,rfl,rfl,rfl,rfl,rfl,rfl,rfl,rfl,rfl,rfl⟩) rfl rfl rfl rfl
theorem ar.setK {w:World} {b:Nat} {f:Fl} {er at':Nat} {pv cv zv iv:Value} (h:ar w b f er at' pv cv zv iv) (n:Nat):ar (w.setCell ⟨b,4,none⟩ (.int .i64 (n:Int))) b { f with hd:={ f.hd with K:=n } } er at' pv cv zv iv:=
 h.set 4 _ _ er at' (by omega) (bP ⟨rfl,rfl,rfl,rfl,rfl,rfl,rfl,rfl,rfl,rfl,rfl,rfl,rfl,rfl,rfl,rfl,rfl⟩) rfl rfl rfl rfl
theorem ar.setL {w:World} {b:Nat} {f:Fl} {er at':Nat} {pv cv zv iv:Value} (h:ar w b f er at' pv cv zv iv) (n:Nat):ar (w.setCell ⟨b,5,none⟩ (.int .i64 (n:Int))) b { f with hd:={ f.hd with L:=n } } er at' pv cv zv iv:=
 h.set 5 _ _ er at' (by omega) (bP ⟨rfl,rfl,rfl,rfl,rfl,rfl,rfl,rfl,rfl,rfl,rfl,rfl,rfl,rfl,rfl,rfl,rfl⟩) rfl rfl rfl rfl
theorem ar.drewN {w:World} {b:Nat} {f:Fl} {er at':Nat} {pv cv zv iv:Value} (h:ar w b f er at' pv cv zv iv) (n:Nat):ar (w.drewN n) b f er at' pv cv zv iv:=h.kept ((Kept.refl _).drewN n)
theorem LB (d:ByteArray) (i:Nat) (h:i+4<=d.size):Px.dj (seg d i 4)=((gb d i*256+gb d (i+1))*256+gb d (i+2))*256+gb d (i+3):=by
 rw[kS d i 3 (by omega),kS d i 2 (by omega),kS d i 1 (by omega),kS d i 0 (by omega),iF,iF,iF,iF];rw[mL d (i+3) (by omega),mL d (i+2) (by omega),mL d (i+1) (by omega),mL d (i+0) (by omega)]
 have:Px.dj (seg d i 0)=0:=rfl
 rw[this,Nat.add_zero];omega
theorem NB (d:ByteArray) (i:Nat) (h:i+2<=d.size):Px.dj (seg d i 2)=256*gb d i+gb d (i+1):=by
 rw[kS d i 1 (by omega),kS d i 0 (by omega),iF,iF];rw[mL d (i+1) (by omega),mL d (i+0) (by omega)]
 have:Px.dj (seg d i 0)=0:=rfl
 rw[this,Nat.add_zero];omega
theorem xd (D:Nat) (l:List Nat) (he:l.length % 2=0):cU D l=true ↔ ∃ j,2*j+1<l.length/\2^D<=256*l.getD (2*j) 0+l.getD (2*j+1) 0:=by
 match l,he with
 | [],_=>simp [cU]
 | [_],he=>simp at he
 | x::y::r,he=>
  have he':r.length % 2=0:=by simp at he;omega
  have ih:=xd D r he';unfold cU;rw[Bool.or_eq_true,decide_eq_true_iff,ih]
  constructor
  ·rintro (h | ⟨j,hj,hh⟩)
   ·exact ⟨0,by simp,by simpa using h⟩
   ·exact ⟨j+1,by simp;omega,by simpa [Nat.mul_add,List.getD_eq_getElem?_getD] using hh⟩
  ·rintro ⟨j,hj,hh⟩
   cases j with
   | zero=>left;simpa using hh
   | succ j=>right;exact ⟨j,by simp at hj;omega,by simpa [Nat.mul_add,List.getD_eq_getElem?_getD] using hh⟩
theorem Dg (D:Nat) (h:D<=16):2^D<=65536:=by
 have:=Nat.pow_le_pow_right (n:=2) (by omega) h
 simpa using this
theorem EL (b:Nat) (f:Fl) (e a:Nat) (pv cv zv iv:Value) (k d:ByteArray) (w:World) (h:ar w b f e a pv cv zv iv) (hd:d.size<=1048576) (t1:(k.toList == [73,72,68,82])=false) (t2:(k.toList == [80,76,84,69])=true) :
  Calls Tryz.prog 101 #[.pointer (some ⟨b,0,none⟩),.string k,.string d] w fun r w'=>∃ pv',r = .returned (.int .i64 0)/\ar w' b { f with hasPal:=true,pal:=af d } e a pv' cv zv iv/\Below b w w':=by
 have c6:w.cell? ⟨b,6,none⟩=some (.bool f.hasPal):=h.cell 6 (by omega);have hf:=h.fz;have hlt:=h.lt;have H6:Hid (ar (w.setCell ⟨b,6,none⟩ (.bool true)) b { f with hasPal:=true } e a pv cv zv iv):=h.setHasPal;have HO:Hid (Below b w (w.setCell ⟨b,6,none⟩ (.bool true))):=(Below.refl b w).setCell (p:=⟨b,6,none⟩) (Nat.le_refl b) (.bool true);clear h;go_enter Tryz.func101,Tryz.ntmps101;go_wp2_with fail;refine (sL d _ hd).mono ?_;rintro r w1 ⟨⟨v,rfl,hv⟩,hk⟩;obtain ⟨vp,vc,rfl⟩:=aq hv;have h7:=H6.out.kept hk;have c8:w1.cell? ⟨b,8,none⟩=some pv:=h7.cell 8 (by omega);have hf1:=h7.fz;rw[<- aw d] at hv;have HF:Hid _:=H6.out.setPal hk _ _ hv;have HK:Hid _:=hk;clear h7 hv hk c6 hf;go_wp2;go_ret;have hx:=HF.out;rw[aw d] at hx;exact ⟨_,rfl,hx,Below.setCell (p:=⟨b,8,none⟩) (HO.out.trans (HK.out.mono (by simpa [World.setCell] using Nat.le_of_lt hlt))) (Nat.le_refl b) _⟩
theorem ER (b:Nat) (f:Fl) (e a:Nat) (pv cv zv iv:Value) (k d:ByteArray) (w:World) (h:ar w b f e a pv cv zv iv) (t1:(k.toList == [73,72,68,82])=false) (t2:(k.toList == [80,76,84,69])=false) (t3:(k.toList == [116,82,78,83])=false) (t5:(k.toList == [73,69,78,68])=true) :
  Calls Tryz.prog 101 #[.pointer (some ⟨b,0,none⟩),.string k,.string d] w fun r w'=>r = .returned (.int .i64 0)/\ar w' b { f with done:=true } e a pv cv zv iv/\Below b w w':=by
 have c14:w.cell? ⟨b,14,none⟩=some (.bool f.done):=h.cell 14 (by omega);have hf:=h.fz;have H:Hid _:=h;clear h;go_enter Tryz.func101,Tryz.ntmps101;go_wp2;go_ret;exact ⟨rfl,H.out.setDone,(Below.refl b w).setCell (p:=⟨b,14,none⟩) (Nat.le_refl b) _⟩
theorem ET (b:Nat) (k d:ByteArray) (w:World) (t1:(k.toList == [73,72,68,82])=false) (t2:(k.toList == [80,76,84,69])=false) (t3:(k.toList == [116,82,78,83])=false) (t5:(k.toList == [73,69,78,68])=false) :
  Calls Tryz.prog 101 #[.pointer (some ⟨b,0,none⟩),.string k,.string d] w fun r w'=>r = .returned (.int .i64 0)/\w'=w:=by
 go_enter Tryz.func101,Tryz.ntmps101;go_wp2;go_ret;exact ⟨rfl,rfl⟩
theorem Cp (b:Nat) (f:Fl) (e a:Nat) (pv cv zv iv:Value) (k d:ByteArray) (w:World) (h:ar w b f e a pv cv zv iv) (hd:d.size<=1048576) (hK:f.hd.K=3) (t1:(k.toList == [73,72,68,82])=false) (t2:(k.toList == [80,76,84,69])=false) (t3:(k.toList == [116,82,78,83])=true) :
  Calls Tryz.prog 101 #[.pointer (some ⟨b,0,none⟩),.string k,.string d] w fun r w'=>∃ cv',r = .returned (.int .i64 0)/\ar w' b { f with hasClear:=true,clear:=af d } e a pv cv' zv iv/\Below b w w':=by
 have c4:w.cell? ⟨b,4,none⟩=some (.int .i64 (f.hd.K:Int)):=h.cell 4 (by omega);rw[hK] at c4;have c7:w.cell? ⟨b,7,none⟩=some (.bool f.hasClear):=h.cell 7 (by omega);have hf:=h.fz;have hlt:=h.lt;have HO:Hid (Below b w (w.setCell ⟨b,7,none⟩ (.bool true))):=(Below.refl b w).setCell (p:=⟨b,7,none⟩) (Nat.le_refl b) (.bool true);have H6:Hid (ar (w.setCell ⟨b,7,none⟩ (.bool true)) b { f with hasClear:=true } e a pv cv zv iv):=h.setHasClear;clear h hK;go_enter Tryz.func101,Tryz.ntmps101;go_wp2_with fail;go_loop [] (True) (0)
 case atStart=>trivial
 case round=>
  go_wp2_with fail;refine (sL d _ hd).mono ?_;rintro r w1 ⟨⟨v,rfl,hv⟩,hk⟩;obtain ⟨vp,vc,rfl⟩:=aq hv;have h7:=H6.out.kept hk;have c9:w1.cell? ⟨b,9,none⟩=some cv:=h7.cell 9 (by omega);have hf1:=h7.fz;rw[<- aw d] at hv;have HF:Hid _:=H6.out.setClear hk _ _ hv;have HK:Hid _:=hk;clear h7 hv hk c7 hf;go_wp2;go_ret;have hx:=HF.out;rw[aw d] at hx;exact ⟨_,rfl,hx,Below.setCell (p:=⟨b,9,none⟩) (HO.out.trans (HK.out.mono (by simpa [World.setCell] using Nat.le_of_lt hlt))) (Nat.le_refl b) _⟩
theorem Co (b:Nat) (f:Fl) (e a:Nat) (pv cv zv iv:Value) (k d:ByteArray) (w:World) (h:ar w b f e a pv cv zv iv) (hd:d.size<=1048576) (h2:d.size % 2=0) (hK:f.hd.K≠3) (hD:f.hd.D<=16) (t1:(k.toList == [73,72,68,82])=false) (t2:(k.toList == [80,76,84,69])=false) (t3:(k.toList == [116,82,78,83])=true) :
  Calls Tryz.prog 101 #[.pointer (some ⟨b,0,none⟩),.string k,.string d] w fun r w'=>(r = .returned (.int .i64 9)/\cU f.hd.D (af d)=true/\w'=w)\/(∃ cv',r = .returned (.int .i64 0)/\cU f.hd.D (af d)=false/\ar w' b { f with hasClear:=true,clear:=af d } e a pv cv' zv iv/\Below b w w'):=by
 have c4:w.cell? ⟨b,4,none⟩=some (.int .i64 (f.hd.K:Int)):=h.cell 4 (by omega);have c3:w.cell? ⟨b,3,none⟩=some (.int .i64 (f.hd.D:Int)):=h.cell 3 (by omega);have g4:((f.hd.K:Int) != 3)=true:=by rw[bne_iff_ne];omega
 have c7:w.cell? ⟨b,7,none⟩=some (.bool f.hasClear):=h.cell 7 (by omega);have hf:=h.fz;have hlt:=h.lt;have hpw:=Dg f.hd.D hD;have HO:Hid (Below b w (w.setCell ⟨b,7,none⟩ (.bool true))):=(Below.refl b w).setCell (p:=⟨b,7,none⟩) (Nat.le_refl b) (.bool true);have H6:Hid (ar (w.setCell ⟨b,7,none⟩ (.bool true)) b { f with hasClear:=true } e a pv cv zv iv):=h.setHasClear;have HP:Hid (cU f.hd.D (af d)=true ↔ ∃ j,2*j+1<d.size/\2^f.hd.D<=256*gb d (2*j)+gb d (2*j+1)):=by
  have:=xd f.hd.D (af d) (by rw[aw];exact h2)
  rw[aw] at this;exact this
 clear h hK;go_enter Tryz.func101,Tryz.ntmps101;go_wp2_with fail;go_loop [10] (fun i=>∃ j:Nat,2*j<=d.size/\i = .int .i64 ((2*j:Nat):Int)/\Hid (∀ q,q<j->¬ 2^f.hd.D<=256*gb d (2*q)+gb d (2*q+1))) (fun i=>d.size - (intOf i).toNat)
 case atStart=>exact ⟨0,by omega,rfl,fun q hq=>by omega⟩
 case round=>
  obtain ⟨j,hj,rfl,HB⟩:=hrel;by_cases hlt2:2*j<d.size
  ·obtain ⟨V,hV⟩:∃ V,V=256*gb d (2*j)+gb d (2*j+1):=⟨_,rfl⟩
   have F:Hid (∀ W,Calls Tryz.prog 98 #[.string d,.int .i64 (2*(j:Int)),.int .i64 2] W fun r w'=>r = .returned (.int .i64 (V:Int))/\w'=W):=fun W=>by
    have:=qJ d (2*j) 2 W (by omega) (by omega) (by omega)
    rw[NB d (2*j) (by omega),<- hV,Int.natCast_mul] at this;exact this
   have HV:Hid (V=256*gb d (2*j)+gb d (2*j+1)):=hV;clear hV;go_wp2_with fail;refine (F.out _).mono ?_;rintro r w' ⟨rfl,rfl⟩;have HW:Hid (wrap64 (2^f.hd.D)=((2^f.hd.D:Nat):Int)):=by
    show wrap64 (2^f.hd.D)=((2^f.hd.D:Nat):Int)
    rw[show (2:Int)^f.hd.D=((2^f.hd.D:Nat):Int) from by simp];generalize 2^f.hd.D=m at *;unfold wrap64;omega
   go_wp2
   ·rename_i hle
    rw[HW.out] at hle;go_ret;exact Or.inl ⟨rfl,HP.out.2 ⟨j,by omega,by have:=HV.out;omega⟩,rfl⟩
   ·rename_i hle
    rw[HW.out] at hle;refine ⟨⟨j+1,by omega,by go_num,fun q hq => ?_⟩,by simp [intOf];omega⟩;by_cases e:q=j
    ·subst e;have:=HV.out;omega
    ·exact HB.out q (by omega)
  ·go_wp2_with fail
   refine (sL d _ hd).mono ?_;rintro r w1 ⟨⟨v,rfl,hv⟩,hk⟩;obtain ⟨vp,vc,rfl⟩:=aq hv;have h7:=H6.out.kept hk;have c9:w1.cell? ⟨b,9,none⟩=some cv:=h7.cell 9 (by omega);have hf1:=h7.fz;rw[<- aw d] at hv;have HF:Hid _:=H6.out.setClear hk _ _ hv;have HK:Hid _:=hk;clear h7 hv hk c7 hf;go_wp2;go_ret;have hx:=HF.out;rw[aw d] at hx;refine Or.inr ⟨_,rfl,?_,hx,Below.setCell (p:=⟨b,9,none⟩) (HO.out.trans (HK.out.mono (by simpa [World.setCell] using Nat.le_of_lt hlt))) (Nat.le_refl b) _⟩
   ·rw[Bool.eq_false_iff]
    intro hbad;obtain ⟨q,hq,hh⟩:=HP.out.1 hbad;exact HB.out q (by omega) hh
theorem ES (b:Nat) (f:Fl) (e a:Nat) (pv cv zv iv:Value) (k d:ByteArray) (w:World) (h:ar w b f e a pv cv zv iv) (t1:(k.toList == [73,72,68,82])=true) (hd:d.size=13) (WN HN D8 D9 D12:Nat)
  (F1:Hid (∀ W,Calls Tryz.prog 98 #[.string d,.int .i64 0,.int .i64 4] W fun r w'=>r = .returned (.int .i64 (WN:Int))/\w'=W))
  (F2:Hid (∀ W,Calls Tryz.prog 98 #[.string d,.int .i64 4,.int .i64 4] W fun r w'=>r = .returned (.int .i64 (HN:Int))/\w'=W))
  (p8:8<d.size) (p9:9<d.size) (p10:10<d.size) (p11:11<d.size) (p12:12<d.size)
  (F3:Hid (∀ W,Calls Tryz.prog 131 #[.int .i64 (d[9].toNat:Int),.int .i64 (d[8].toNat:Int)] W fun r w'=>r = .returned (.bool true)/\w'=W))
  (E8:Hid (d[8].toNat=D8)) (E9:Hid (d[9].toNat=D9)) (E12:Hid (d[12].toNat=D12)) (l8:d[8].toNat<256) (l9:d[9].toNat<256) (l12:d[12].toNat<256)
  (b1:((WN:Int) == 0)=false) (b2:((HN:Int) == 0)=false) (b3:decide ((2147483648:Int)<=(WN:Int))=false) (b4:decide ((2147483648:Int)<=(HN:Int))=false)
  (n10:d[10].toNat=0) (n11:d[11].toNat=0) (n12:(d[12].toNat:Int)<=1) (t6:(WN:Int)<=16) (t7:(HN:Int)<=16) :
  Calls Tryz.prog 101 #[.pointer (some ⟨b,0,none⟩),.string k,.string d] w fun r w'=>r = .returned (.int .i64 0)/\ar w' b { f with on:=true,hd:=⟨WN,HN,D8,D9,D12⟩ } e a pv cv zv iv/\Below b w w':=by
 have c0:w.cell? ⟨b,0,none⟩=some (.bool f.on):=h.cell 0 (by omega);have c1:w.cell? ⟨b,1,none⟩=some (.int .i64 (f.hd.W:Int)):=h.cell 1 (by omega);have c2:w.cell? ⟨b,2,none⟩=some (.int .i64 (f.hd.H:Int)):=h.cell 2 (by omega);have c3:w.cell? ⟨b,3,none⟩=some (.int .i64 (f.hd.D:Int)):=h.cell 3 (by omega);have c4:w.cell? ⟨b,4,none⟩=some (.int .i64 (f.hd.K:Int)):=h.cell 4 (by omega);have c5:w.cell? ⟨b,5,none⟩=some (.int .i64 (f.hd.L:Int)):=h.cell 5 (by omega);have hf:=h.fz;have hds:(d.size:Int)=13:=by omega
 have HQ:Hid (∀ n,ar (((((((w.drewN n).setCell ⟨b,0,none⟩ (.bool true)).setCell ⟨b,1,none⟩ (.int .i64 (WN:Int))).setCell ⟨b,2,none⟩ (.int .i64 (HN:Int))).setCell ⟨b,3,none⟩ (.int .i64 (d[8].toNat:Int))).setCell ⟨b,4,none⟩ (.int .i64 (d[9].toNat:Int))).setCell ⟨b,5,none⟩ (.int .i64 (d[12].toNat:Int))) b { f with on:=true,hd:=⟨WN,HN,D8,D9,D12⟩ } e a pv cv zv iv):=by
  intro n;rw[E8.out,E9.out,E12.out];exact ((((((h.drewN n).setOn).setW WN).setH HN).setD D8).setK D9).setL D12
 have HO:Hid (∀ n,Below b w (((((((w.drewN n).setCell ⟨b,0,none⟩ (.bool true)).setCell ⟨b,1,none⟩ (.int .i64 (WN:Int))).setCell ⟨b,2,none⟩ (.int .i64 (HN:Int))).setCell ⟨b,3,none⟩ (.int .i64 (d[8].toNat:Int))).setCell ⟨b,4,none⟩ (.int .i64 (d[9].toNat:Int))).setCell ⟨b,5,none⟩ (.int .i64 (d[12].toNat:Int)))) :=
  fun n=>by
   have h0:Below b w (w.drewN n):=below_drewN (Below.refl b w) n;have h1:=h0.setCell (p:=⟨b,0,none⟩) (Nat.le_refl b) (.bool true);have h2:=h1.setCell (p:=⟨b,1,none⟩) (Nat.le_refl b) (.int .i64 (WN:Int));have h3:=h2.setCell (p:=⟨b,2,none⟩) (Nat.le_refl b) (.int .i64 (HN:Int));have h4:=h3.setCell (p:=⟨b,3,none⟩) (Nat.le_refl b) (.int .i64 (d[8].toNat:Int));have h5:=h4.setCell (p:=⟨b,4,none⟩) (Nat.le_refl b) (.int .i64 (d[9].toNat:Int));exact h5.setCell (p:=⟨b,5,none⟩) (Nat.le_refl b) (.int .i64 (d[12].toNat:Int))
 clear h;go_enter Tryz.func101,Tryz.ntmps101;go_wp2_with fail;refine (F1.out _).mono ?_;rintro r w' ⟨rfl,rfl⟩;go_wp2_with fail;refine (F2.out _).mono ?_;rintro r w' ⟨rfl,rfl⟩;go_wp2_with fail;go_quiet ((go_at_call 131;exact Calls.quiet_of_same (F3.out _)))
 go_wp2_with fail;go_ret;exact ⟨rfl,HQ.out nq,HO.out nq⟩
theorem EP (b:Nat) (f:Fl) (e a:Nat) (pv cv zv iv:Value) (k d:ByteArray) (w:World) (h:ar w b f e a pv cv zv iv) (t1:(k.toList == [73,72,68,82])=true) (hd:d.size=13) :
  Calls Tryz.prog 101 #[.pointer (some ⟨b,0,none⟩),.string k,.string d] w fun r w'=>r = .returned (.int .i64 ((aB (gb d)).1:Int))/\ar w' b (if (aB (gb d)).1≠0 then f else { f with on:=true,hd:=(aB (gb d)).2 }) e a pv cv zv iv/\Below b w w':=by
 have c0:w.cell? ⟨b,0,none⟩=some (.bool f.on):=h.cell 0 (by omega);have c1:w.cell? ⟨b,1,none⟩=some (.int .i64 (f.hd.W:Int)):=h.cell 1 (by omega);have c2:w.cell? ⟨b,2,none⟩=some (.int .i64 (f.hd.H:Int)):=h.cell 2 (by omega);have c3:w.cell? ⟨b,3,none⟩=some (.int .i64 (f.hd.D:Int)):=h.cell 3 (by omega);have c4:w.cell? ⟨b,4,none⟩=some (.int .i64 (f.hd.K:Int)):=h.cell 4 (by omega);have c5:w.cell? ⟨b,5,none⟩=some (.int .i64 (f.hd.L:Int)):=h.cell 5 (by omega);have hf:=h.fz;have hds:(d.size:Int)=13:=by omega
 have F1:Hid (∀ W,Calls Tryz.prog 98 #[.string d,.int .i64 0,.int .i64 4] W fun r w'=>r = .returned (.int .i64 (wN (gb d):Int))/\w'=W):=fun W=>by
  have:=qJ d 0 4 W (by omega) (by omega) (by omega)
  rw[LB d 0 (by omega)] at this;exact this
 have F2:Hid (∀ W,Calls Tryz.prog 98 #[.string d,.int .i64 4,.int .i64 4] W fun r w'=>r = .returned (.int .i64 (hN (gb d):Int))/\w'=W):=fun W=>by
  have:=qJ d 4 4 W (by omega) (by omega) (by omega)
  rw[LB d 4 (by omega)] at this;exact this
 have p8:8<d.size:=by omega
 have p9:9<d.size:=by omega
 have p10:10<d.size:=by omega
 have p11:11<d.size:=by omega
 have p12:12<d.size:=by omega
 have E8:Hid (d[8].toNat=gb d 8):=mL d 8 p8;have E9:Hid (d[9].toNat=gb d 9):=mL d 9 p9;have E10:Hid (d[10].toNat=gb d 10):=mL d 10 p10;have E11:Hid (d[11].toNat=gb d 11):=mL d 11 p11;have E12:Hid (d[12].toNat=gb d 12):=mL d 12 p12;have l8:=d[8].toNat_lt;have l9:=d[9].toNat_lt;have l12:=d[12].toNat_lt;have hwl:wN (gb d)<4294967296:=by have:=fQ d 0;have:=fQ d 1;have:=fQ d 2;have:=fQ d 3;unfold wN;omega
 have hhl:hN (gb d)<4294967296:=by have:=fQ d 4;have:=fQ d 5;have:=fQ d 6;have:=fQ d 7;unfold hN;omega
 have hq:=uM (gb d);have F3:Hid (∀ W,Calls Tryz.prog 131 #[.int .i64 (d[9].toNat:Int),.int .i64 (d[8].toNat:Int)] W fun r w'=>r = .returned (.bool (lx (gb d 9) (gb d 8)))/\w'=W):=fun W=>by
  have:=Ca d[9].toNat d[8].toNat W
  rw[E8.out,E9.out] at this ⊢;exact this
 generalize hWN:wN (gb d)=WN at *;generalize hHN:hN (gb d)=HN at *;generalize hLG:lx (gb d 9) (gb d 8)=LG at *;clear hWN hHN hLG;by_cases g1:WN=0\/HN=0\/2147483648<=WN\/2147483648<=HN\/LG=false
 ·rw[if_pos g1] at hq
  rw[hq,if_pos (by decide)];clear hq;have g2:((WN:Int) == 0)=true\/(((WN:Int) == 0)=false/\((HN:Int) == 0)=true)\/(((WN:Int) == 0)=false/\((HN:Int) == 0)=false/\decide ((2147483648:Int)<=(WN:Int))=true)
    \/ (((WN:Int) == 0)=false/\((HN:Int) == 0)=false/\decide ((2147483648:Int)<=(WN:Int))=false/\decide ((2147483648:Int)<=(HN:Int))=true)
    \/ (((WN:Int) == 0)=false/\((HN:Int) == 0)=false/\decide ((2147483648:Int)<=(WN:Int))=false/\decide ((2147483648:Int)<=(HN:Int))=false/\LG=false):=by
   simp only [beq_iff_eq,beq_eq_false_iff_ne,decide_eq_true_eq,decide_eq_false_iff_not];cases LG
   ·simp;omega
   ·simp at g1 ⊢;omega
  clear g1;rcases g2 with b1 | ⟨b1,b2⟩ | ⟨b1,b2,b3⟩ | ⟨b1,b2,b3,b4⟩ | ⟨b1,b2,b3,b4,rfl⟩
  all_goals
   go_enter Tryz.func101,Tryz.ntmps101;go_wp2_with fail;refine (F1.out _).mono ?_;rintro r w' ⟨rfl,rfl⟩;go_wp2_with fail;refine (F2.out _).mono ?_;rintro r w' ⟨rfl,rfl⟩;go_wp2_with fail;go_quiet ((go_at_call 131;exact Calls.quiet_of_same (F3.out _)))
   go_wp2_with fail;go_ret;exact ⟨rfl,h.drewN _,below_drewN (Below.refl _ _) _⟩
 ·rw[if_neg g1] at hq
  have b1:((WN:Int) == 0)=false:=beq_eq_false_iff_ne.2 (by omega);have b2:((HN:Int) == 0)=false:=beq_eq_false_iff_ne.2 (by omega);have b3:decide ((2147483648:Int)<=(WN:Int))=false:=decide_eq_false (by omega);have b4:decide ((2147483648:Int)<=(HN:Int))=false:=decide_eq_false (by omega);have b5:LG=true:=by
   cases LG
   ·exact absurd (Or.inr (Or.inr (Or.inr (Or.inr rfl)))) g1
   ·rfl
  subst b5;clear g1;have e10:=E10.out;have e11:=E11.out;have e12:=E12.out;by_cases g2:gb d 10≠0\/gb d 11≠0\/1<gb d 12
  ·rw[if_pos g2] at hq
   rw[hq,if_pos (by decide)];have HT:Hid (d[10].toNat≠0\/d[11].toNat≠0\/1<d[12].toNat):=by show _\/_;rw[e10,e11,e12];exact g2
   clear g2 hq e10 e11 e12;go_enter Tryz.func101,Tryz.ntmps101;go_wp2_with fail;refine (F1.out _).mono ?_;rintro r w' ⟨rfl,rfl⟩;go_wp2_with fail;refine (F2.out _).mono ?_;rintro r w' ⟨rfl,rfl⟩;go_wp2_with fail;go_quiet ((go_at_call 131;exact Calls.quiet_of_same (F3.out _)))
   go_wp2_with fail
   all_goals first
    | (exfalso;have:=HT.out;(try simp only [bne_iff_ne,bne_eq_false_iff_eq,ne_eq] at *);omega)
    | (go_ret;exact ⟨rfl,h.drewN _,below_drewN (Below.refl _ _) _⟩)
  ·rw[if_neg g2] at hq
   have n10:d[10].toNat=0:=by omega
   have n11:d[11].toNat=0:=by omega
   have n12:(d[12].toNat:Int)<=1:=by omega
   clear e10 e11 e12 g2;by_cases g3:16<WN\/16<HN
   ·rw[if_pos g3] at hq
    rw[hq,if_pos (by decide)];have HT:Hid (16<WN\/16<HN):=g3;clear g3 hq;go_enter Tryz.func101,Tryz.ntmps101;go_wp2_with fail;refine (F1.out _).mono ?_;rintro r w' ⟨rfl,rfl⟩;go_wp2_with fail;refine (F2.out _).mono ?_;rintro r w' ⟨rfl,rfl⟩;go_wp2_with fail;go_quiet ((go_at_call 131;exact Calls.quiet_of_same (F3.out _)))
    go_wp2_with fail
    all_goals first
     | (exfalso;have:=HT.out;omega)
     | (go_ret;exact ⟨rfl,h.drewN _,below_drewN (Below.refl _ _) _⟩)
   ·rw[if_neg g3] at hq
    rw[hq,if_neg (by simp)];exact ES b f e a pv cv zv iv k d w h t1 hd WN HN _ _ _ F1 F2 p8 p9 p10 p11 p12 F3 E8 E9 E12 l8 l9 l12 b1 b2 b3 b4 n10 n11 n12 (by omega) (by omega)
