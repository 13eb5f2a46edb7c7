import Derived.Test.YtgooinallljbpaaGreatDoorTd24
namespace Go.Proofs.YtgooinallljbpaaGreatDoor
open Go.RowKit Px
set_option linter.unusedSimpArgs false
set_option linter.unusedVariables false
structure A8 (t q:Rd):Prop where
 hd:q.hd=t.hd
 st:q.st=t.st
 rw:q.rw=t.rw
 sd:q.sd=t.sd
 sum:q.sum=t.sum
 length:q.length=t.length
 ctype:q.ctype=t.ctype
 sp:q.sp=(t.sp || decide (t.ctype=cj))
 sc:q.sc=(t.sc || decide (t.ctype=bY))
 dov:q.dov=(t.dov || t.sd)
 col:q.tl.colours=if t.ctype=cj then t.length / 3 else t.tl.colours
theorem J6 {u:Rd} (hi:u.ctype≠aJ):u.note2={ u with dov:=u.dov || u.sd }:=by
 unfold Rd.note2;rw[decide_eq_true hi,Bool.and_true];obtain ⟨part,taken,number,length,ctype,sum,hd,raw,tl,st,rw,sp,sc,sd,dov⟩:=u;cases sd<;>cases dov<;>rfl
theorem vR {t:Rd} (hi:t.ctype≠aJ):A8 t t.note:=by
 unfold Rd.note;have h1:t.note1.ctype=t.ctype:=uU t;rw[J6 (by rw[h1];exact hi)];unfold Rd.note1;by_cases c1:t.ctype=cj
 ·rw[if_pos c1]
  have c2:¬ t.ctype=bY:=fun e=>xe (c1.symm.trans e)
  exact ⟨rfl,rfl,rfl,rfl,rfl,rfl,rfl,by rw[decide_eq_true c1,Bool.or_true],by rw[decide_eq_false c2,Bool.or_false],rfl,by rw[if_pos c1]⟩
 rw[if_neg c1];by_cases c2:t.ctype=bY
 ·rw[if_pos c2]
  exact ⟨rfl,rfl,rfl,rfl,rfl,rfl,rfl,by rw[decide_eq_false c1,Bool.or_false],by rw[decide_eq_true c2,Bool.or_true],rfl,by rw[if_neg c1]⟩
 rw[if_neg c2,if_neg hi];exact ⟨rfl,rfl,rfl,rfl,rfl,rfl,rfl,by rw[decide_eq_false c1,Bool.or_false],by rw[decide_eq_false c2,Bool.or_false],rfl,by rw[if_neg c1]⟩
theorem wD {f:Fl} {n:Nat} {dn:Bool} (h:f.begE aY n dn=0):f.first=false/\n=13:=by
 unfold Fl.begE at h;by_cases c:tyB aY=false
 ·rw[if_pos c] at h;cases h
 rw[if_neg c] at h;cases hf:f.first with
 | true=>
  rw[hf,if_neg (show ¬ (true=false) by decide)] at h;by_cases d:(f.ov aY && !dn)=true
  ·rw[if_pos d] at h;cases h
  ·rw[if_neg d,if_pos rfl] at h;cases h
 | false=>
  rw[hf,if_pos rfl,if_neg (show ¬ (aY≠aY) from fun q=>q rfl)] at h;by_cases d:n=13
  ·exact ⟨rfl,d⟩
  ·rw[if_pos d] at h;cases h
theorem iA {f:Fl} {k n:Nat} {dn:Bool} (hk:k≠aY) (h:f.begE k n dn=0):f.first=true:=by
 unfold Fl.begE at h;by_cases c:tyB k=false
 ·rw[if_pos c] at h;cases h
 rw[if_neg c] at h;cases hf:f.first with
 | true=>rfl
 | false=>rw[hf,if_pos rfl,if_pos hk] at h;cases h
theorem wC {f:Fl} {k n:Nat} {dn:Bool} (hf:f.first=true) (h:f.begE k n dn=0):f.begE k n true=0:=by
 unfold Fl.begE at h ⊢;by_cases c:tyB k=false
 ·rw[if_pos c] at h;cases h
 rw[if_neg c] at h ⊢;rw[hf,if_neg (show ¬ (true=false) by decide)] at h ⊢;by_cases d:(f.ov k && !dn)=true
 ·rw[if_pos d] at h;cases h
 ·rw[if_neg d] at h
  rw[if_neg (by simp)];exact h
theorem AY {f:Fl} {n:Nat} (hf:f.first=true) (h:f.begE cj n true=0):f.ids=0:=by
 unfold Fl.begE at h;by_cases c:tyB cj=false
 ·rw[if_pos c] at h;cases h
 rw[if_neg c,hf,if_neg (show ¬ (true=false) by decide),if_neg (by simp),if_neg (fun e=>vU e.symm),if_pos rfl] at h;by_cases i0:0<f.ids
 ·rw[if_pos (Or.inl i0)] at h;cases h
 ·omega
theorem AX {f:Fl} {n:Nat} (hf:f.first=true) (hk:kOk f.hd.K) (h:f.begE bY n true=0):f.ids=0/\(f.hd.K=3\/(f.hd.K=0/\n=2)\/(f.hd.K=2/\n=6)):=by
 unfold Fl.begE at h;by_cases c:tyB bY=false
 ·rw[if_pos c] at h;cases h
 rw[if_neg c,hf,if_neg (show ¬ (true=false) by decide),if_neg (by simp),if_neg (fun e=>Aj e.symm),if_neg (fun e=>xe e.symm),if_pos rfl] at h;by_cases q:0<f.ids\/f.hasClear=true\/(f.hd.K=4\/f.hd.K=6)\/(f.hd.K=3/\f.hasPal=false)
 ·rw[if_pos q] at h;cases h
 rw[if_neg q] at h;have q1:¬ 0<f.ids:=fun e=>q (Or.inl e)
 have q2:¬ (f.hd.K=4\/f.hd.K=6):=fun e=>q (Or.inr (Or.inr (Or.inl e)))
 refine ⟨by omega,?_⟩;by_cases k3:f.hd.K=3
 ·exact Or.inl k3
 ·rw[if_neg (fun e=>k3 e.1)] at h
  by_cases q3:f.hd.K≠3/\n≠2*vb f.hd.K
  ·rw[if_pos q3] at h;cases h
  ·have hn:n=2*vb f.hd.K:=by
    by_cases e:n=2*vb f.hd.K
    ·exact e
    ·exact absurd ⟨k3,e⟩ q3
   unfold kOk at hk;have hk2:f.hd.K=0\/f.hd.K=2:=by omega
   rcases hk2 with e | e
   ·exact Or.inr (Or.inl ⟨e,by rw[hn,e];rfl⟩)
   ·exact Or.inr (Or.inr ⟨e,by rw[hn,e];rfl⟩)
theorem yl {r r':Nat->Nat} (h:∀ j,j<13->r j=r' j):aB r=aB r':=by
 unfold aB;rw[h 0 (by omega),h 1 (by omega),h 2 (by omega),h 3 (by omega),h 4 (by omega),h 5 (by omega),h 6 (by omega),h 7 (by omega),h 8 (by omega),h 9 (by omega),h 10 (by omega),h 11 (by omega),h 12 (by omega)]
theorem xg {k d:Nat} (h:¬ kZ k d=false):kOk k:=by
 unfold kOk;unfold kZ at h;by_cases a0:k=0
 ·exact Or.inl a0
 by_cases a2:k=2
 ·exact Or.inr (Or.inl a2)
 by_cases a3:k=3
 ·exact Or.inr (Or.inr (Or.inl a3))
 by_cases a4:k=4
 ·exact Or.inr (Or.inr (Or.inr (Or.inl a4)))
 by_cases a6:k=6
 ·exact Or.inr (Or.inr (Or.inr (Or.inr a6)))
 ·exfalso;apply h;simp [a0,a2,a3,a4,a6]
theorem Ew (r:Nat->Nat) (h:(aB r).1=0):(aB r).2.W≠0/\kOk (aB r).2.K:=by
 unfold aB at h ⊢;simp only at h ⊢
 split at h
 ·cases h
 ·split at h
  ·cases h
  ·split at h
   ·cases h
   ·rename_i h1 h2 h3
    rw[if_neg h1,if_neg h2,if_neg h3];have hl:¬ kZ (r 9) (r 8)=false:=fun q=>h1 (Or.inr (Or.inr (Or.inr (Or.inr q))))
    exact ⟨fun q=>h1 (Or.inl q),xg hl⟩
theorem GM {t:Rd} {d:List Nat} (hK:(t.hd.K=0/\d.length=2)\/(t.hd.K=2/\d.length=6)) (hc:∀ j,j<d.length->t.tl.clear j=d.getD j 0) :
  t.acceptClear=if cU t.hd.D d=true then 9 else 0:=by
 unfold Rd.acceptClear;rcases hK with ⟨k,l⟩ | ⟨k,l⟩
 ·rw[if_neg (by omega),k]
  match d,l with
  | [a,b],_=>
   have c0:=hc 0 (by simp);have c1:=hc 1 (by simp);simp at c0 c1;have e:(List.range (chn 0)).any t.clearBad=cU t.hd.D [a,b]:=by
    show (List.range 1).any t.clearBad=_
    simp [List.range_succ,Rd.clearBad,Tl.smp,cU,c0,c1,Nat.mul_comm]
   rw[e]
 ·rw[if_neg (by omega),k]
  match d,l with
  | [a,b,a',b',a'',b''],_=>
   have c0:=hc 0 (by simp);have c1:=hc 1 (by simp);have c2:=hc 2 (by simp);have c3:=hc 3 (by simp);have c4:=hc 4 (by simp);have c5:=hc 5 (by simp);simp at c0 c1 c2 c3 c4 c5;have e:(List.range (chn 2)).any t.clearBad=cU t.hd.D [a,b,a',b',a'',b'']:=by
    show (List.range 3).any t.clearBad=_
    simp [List.range_succ,Rd.clearBad,Tl.smp,cU,c0,c1,c2,c3,c4,c5,Nat.mul_comm,Bool.or_assoc]
   rw[e]
theorem kT:aJ≠aY:=by decide
theorem qF:aJ≠cj:=by decide
theorem qE:aJ≠bY:=by decide
theorem vV:aJ≠cS:=by decide
theorem Hg:aY≠cS:=by decide
theorem Hc:cj≠cS:=by decide
theorem Hb:bY≠cS:=by decide
theorem FD {f:Fl} {k:Nat} (hf:f.first=true) (hk:k≠aJ):(f.begF k).over=(f.over || decide (0<f.ids)):=by
 unfold Fl.begF;rw[hf,if_neg (show ¬ (true=false) by decide)];unfold Fl.ov;rw[decide_eq_true hk,Bool.and_true];cases hd:decide (0<f.ids)<;>cases ho:f.over<;>simp
 ·exact ho
 ·exact ho
 ·exact ho
theorem yM {f:Fl} {k:Nat} (hf:f.first=true):∃ o,f.begF k={ f with over:=o }:=by
 unfold Fl.begF;rw[if_neg (by rw[hf];decide)];by_cases c:f.ov k=true
 ·rw[if_pos c];exact ⟨true,rfl⟩
 ·rw[if_neg c];exact ⟨f.over,rfl⟩
theorem DtA.enter {s0 q:Rd} {dk:List Nat} (h:DtA s0 dk q) (p:Nat):DtA s0 dk (q.enter p):=⟨h.sum,h.ctype,h.length,h.hd,h.col,h.cls,h.st,h.rw,h.sp,h.sc,h.sd,h.dov,h.raw,h.pal,h.clr,h.pal',h.clr'⟩
theorem DtA.num {s0 q:Rd} {dk:List Nat} (h:DtA s0 dk q) (x:Nat):DtA s0 dk (q.num x):=⟨h.sum,h.ctype,h.length,h.hd,h.col,h.cls,h.st,h.rw,h.sp,h.sc,h.sd,h.dov,h.raw,h.pal,h.clr,h.pal',h.clr'⟩
theorem Sm.to {s t:Rd} {f g:Fl} (h:Sm s f) (h1:t.st=s.st) (h2:t.rw=s.rw) (h3:g.ids=f.ids) (h4:g.z=f.z) (h5:g.r0=f.r0):Sm t g:=by
 unfold Sm;rw[h1,h2,h3,h4,h5];exact h
theorem pP.to {f g:Fl} (h:pP f) (h3:g.ids=f.ids) (h4:g.z=f.z) (h5:g.r0=f.r0):pP g:=by
 unfold pP;rw[h3,h4,h5];exact h
theorem FK {t s2 q:Rd} {f:Fl} {d:List Nat} {dn:Bool} {k:Nat} (hA:Ag t f) (hS:Sm t f) (hk:t.ctype=k) (hi:k≠aJ) (hb:f.begE k t.length dn=0) (hd0:f.done=false) (hN:A8 t s2) (hD:DtA s2 d q) (hl:d.length=t.length) :
  q.accept.2=((f.begF k).ends k d).2/\(((f.begF k).ends k d).2≠0->pP ((f.begF k).ends k d).1) /\
  (((f.begF k).ends k d).2=0->∀ p,Ag (q.accept.1.enter p) ((f.begF k).ends k d).1/\Sm (q.accept.1.enter p) ((f.begF k).ends k d).1/\((((f.begF k).ends k d).1.done=true/\q.accept.1.ctype=cS)\/(((f.begF k).ends k d).1.done=false/\q.accept.1.ctype≠cS))):=by
 have hc2:s2.ctype=k:=hN.ctype.trans hk;have hc:q.ctype=k:=hD.ctype.trans hc2;by_cases c1:k=aY
 ·subst c1
  obtain ⟨b1,b2⟩:=wD hb;obtain ⟨w1,w2⟩:=hA.w b1;have eF:f.begF aY={ Fl.start with first:=true }:=by rw[w2];rfl
  have eH:aB q.raw=aB (fun i=>d.getD i 0):=yl (fun j hj=>hD.raw hc2 j (by omega));have ea:q.accept=q.acceptHead:=by unfold Rd.accept;rw[if_pos hc]
  have ee:(f.begF aY).ends aY d=if (aB (fun i=>d.getD i 0)).1≠0 then ({ Fl.start with first:=true },(aB (fun i=>d.getD i 0)).1) else ({ Fl.start with first:=true,on:=true,hd:=(aB (fun i=>d.getD i 0)).2 },0):=by
   rw[eF];unfold Fl.ends;rw[if_pos rfl]
  rw[ea,ee];unfold Rd.acceptHead;rw[eH];obtain ⟨H,hH⟩:∃ H,H=aB (fun i=>d.getD i 0):=⟨_,rfl⟩;have hg:=Ew (fun i=>d.getD i 0);rw[<- hH] at hg ⊢;by_cases e:H.1≠0
  ·rw[if_pos e,if_pos e]
   exact ⟨rfl,fun _=>Or.inl ⟨rfl,rfl⟩,fun w=>absurd w e⟩
  ·rw[if_neg e,if_neg e]
   have hg':=hg (by omega);refine ⟨rfl,fun w=>absurd rfl w,fun _ p=>⟨⟨(fun w=>by cases w),fun _=>⟨rfl,rfl,hg'.1,hg'.2⟩,?_,?_,?_,?_,?_⟩,Or.inl ⟨rfl,rfl⟩,Or.inr ⟨rfl,?_⟩⟩⟩
   ·show q.sp=false
    rw[hD.sp,hN.sp,hA.sp,w2,decide_eq_false (by rw[hk];exact vU)];rfl
   ·show q.sc=false
    rw[hD.sc,hN.sc,hA.sc,w2,decide_eq_false (by rw[hk];exact Aj)];rfl
   ·show q.sd=decide (0<0)
    rw[hD.sd,hN.sd,hA.sd,w2];rfl
   ·show q.dov=false
    rw[hD.dov,hN.dov,hA.dov,hA.sd,w2];rfl
   ·show q.tl.colours=0 / 3
    rw[hD.col,hN.col,if_neg (by rw[hk];exact vU),hA.col,w2];rfl
   ·show q.ctype≠cS
    rw[hc];exact Hg
 have hf:=iA c1 hb;obtain ⟨a1,a2,a3,a4⟩:=hA.on hf;have hb2:=wC hf hb;have ho:=FD (k:=k) hf hi;obtain ⟨o,hF⟩:=yM (k:=k) hf;have hoo:o=(f.over || decide (0<f.ids)):=by rw[hF] at ho;exact ho
 have q1:q.hd=f.hd:=by rw[hD.hd,hN.hd,a1]
 have q2:q.sp=(f.hasPal || decide (k=cj)):=by rw[hD.sp,hN.sp,hA.sp,hk]
 have q3:q.sc=(f.hasClear || decide (k=bY)):=by rw[hD.sc,hN.sc,hA.sc,hk]
 have q4:q.sd=decide (0<f.ids):=by rw[hD.sd,hN.sd,hA.sd]
 have q5:q.dov=o:=by rw[hD.dov,hN.dov,hA.dov,hA.sd,hoo]
 have q6:q.tl.colours=if k=cj then d.length / 3 else f.pal.length / 3:=by rw[hD.col,hN.col,hk,hA.col,hl]
 have q7:q.st=t.st:=by rw[hD.st,hN.st]
 have q8:q.rw=t.rw:=by rw[hD.rw,hN.rw]
 rw[hF];by_cases c2:k=cj
 ·subst c2
  have i0:=AY hf hb2;have hz:f.z=[]:=by
   rcases hS with ⟨_,z⟩ | ⟨z,_⟩
   ·exact z
   ·omega
  have ea:q.accept=(q,0):=by unfold Rd.accept;rw[if_neg (by rw[hc];exact fun e=>vU e.symm),if_neg (by rw[hc];exact xe)]
  have ee:({ f with over:=o }:Fl).ends cj d=({ f with over:=o,hasPal:=true,pal:=d },0):=by unfold Fl.ends;rw[if_neg (fun e=>vU e.symm),if_pos rfl]
  rw[ea,ee];refine ⟨rfl,fun w=>absurd rfl w,fun _ p=>⟨⟨fun w=>(by rw[hf] at w;cases w),fun _=>⟨q1,a2,by show q.hd.W≠0;rw[q1,<- a1];exact a3,a4⟩,?_,?_,q4,q5,?_⟩,Or.inl ⟨i0,hz⟩,Or.inr ⟨hd0,?_⟩⟩⟩
  ·show q.sp=true
   rw[q2,decide_eq_true rfl,Bool.or_true]
  ·show q.sc=f.hasClear
   rw[q3,decide_eq_false xe,Bool.or_false]
  ·show q.tl.colours=d.length / 3
   rw[q6,if_pos rfl]
  ·show q.ctype≠cS
   rw[hc];exact Hc
 by_cases c3:k=bY
 ·subst c3
  obtain ⟨i0,hK⟩:=AX hf a4 hb2;have hz:f.z=[]:=by
   rcases hS with ⟨_,z⟩ | ⟨z,_⟩
   ·exact z
   ·omega
  have ea:q.accept=(q,q.acceptClear):=by unfold Rd.accept;rw[if_neg (by rw[hc];exact fun e=>Aj e.symm),if_pos hc]
  have ee:({ f with over:=o }:Fl).ends bY d=if f.hd.K≠3/\cU f.hd.D d=true then ({ f with over:=o },9) else ({ f with over:=o,hasClear:=true,clear:=d },0):=by unfold Fl.ends;rw[if_neg (fun e=>Aj e.symm),if_neg (fun e=>xe e.symm),if_pos rfl]
  have ec:q.acceptClear=if f.hd.K≠3/\cU f.hd.D d=true then 9 else 0:=by
   rcases hK with k3 | k3
   ·unfold Rd.acceptClear
    rw[if_pos (by rw[q1];exact k3),if_neg (fun e=>e.1 k3)]
   ·have hp:=GM (t:=q) (d:=d) (by rw[q1];rcases k3 with ⟨x,y⟩ | ⟨x,y⟩;exact Or.inl ⟨x,by omega⟩;exact Or.inr ⟨x,by omega⟩) (hD.clr hc2)
    rw[hp,q1];have hk3:f.hd.K≠3:=by omega
    by_cases e:cU f.hd.D d=true
    ·rw[if_pos e,if_pos ⟨hk3,e⟩]
    ·rw[if_neg e,if_neg (fun w=>e w.2)]
  rw[ea,ee,ec];by_cases e:f.hd.K≠3/\cU f.hd.D d=true
  ·rw[if_pos e,if_pos e]
   exact ⟨rfl,fun _=>Or.inl ⟨i0,hz⟩,fun w=>by cases w⟩
  ·rw[if_neg e,if_neg e]
   refine ⟨rfl,fun w=>absurd rfl w,fun _ p=>⟨⟨fun w=>(by rw[hf] at w;cases w),fun _=>⟨q1,a2,by show q.hd.W≠0;rw[q1,<- a1];exact a3,a4⟩,?_,?_,q4,q5,?_⟩,Or.inl ⟨i0,hz⟩,Or.inr ⟨hd0,?_⟩⟩⟩
   ·show q.sp=f.hasPal
    rw[q2,decide_eq_false (fun w=>c2 w),Bool.or_false]
   ·show q.sc=true
    rw[q3,decide_eq_true rfl,Bool.or_true]
   ·show q.tl.colours=f.pal.length / 3
    rw[q6,if_neg c2]
   ·show q.ctype≠cS
    rw[hc];exact Hb
 have ea:q.accept=(q,0):=by unfold Rd.accept;rw[if_neg (by rw[hc];exact c1),if_neg (by rw[hc];exact c3)]
 have ag:∀ (p:Nat) (dd:Bool),Ag (q.enter p) ({ f with over:=o,done:=dd }:Fl):=fun p dd=>⟨fun w=>(by rw[hf] at w;cases w),fun _=>⟨q1,a2,by show q.hd.W≠0;rw[q1,<- a1];exact a3,a4⟩,by show q.sp=f.hasPal;rw[q2,decide_eq_false c2,Bool.or_false],by show q.sc=f.hasClear;rw[q3,decide_eq_false c3,Bool.or_false],q4,q5,by show q.tl.colours=f.pal.length / 3;rw[q6,if_neg c2]⟩
 by_cases c4:k=cS
 ·subst c4
  have ee:({ f with over:=o }:Fl).ends cS d=({ f with over:=o,done:=true },0):=by unfold Fl.ends;rw[if_neg c1,if_neg c2,if_neg c3,if_pos rfl]
  rw[ea,ee];exact ⟨rfl,fun w=>absurd rfl w,fun _ p=>⟨ag p true,hS.to q7 q8 rfl rfl rfl,Or.inl ⟨rfl,hc⟩⟩⟩
 ·have ee:({ f with over:=o }:Fl).ends k d=({ f with over:=o },0):=by unfold Fl.ends;rw[if_neg c1,if_neg c2,if_neg c3,if_neg c4]
  rw[ea,ee];refine ⟨rfl,fun w=>absurd rfl w,fun _ p=>⟨?_,hS.to q7 q8 rfl rfl rfl,Or.inr ⟨hd0,by show q.ctype≠cS;rw[hc];exact c4⟩⟩⟩
  have:=ag p f.done
  exact this
theorem DQ (s:Nat) (l m:List Nat):bE s (l++m)=bE (bE s l) m:=by unfold bE;rw[List.foldl_append]
theorem A8.enter {t q:Rd} (h:A8 t q) (p:Nat):A8 t (q.enter p):=⟨h.hd,h.st,h.rw,h.sd,h.sum,h.length,h.ctype,h.sp,h.sc,h.dov,h.col⟩
theorem CI {t:Rd} {f:Fl} {h r:List Nat} {k n i:Nat} {dn:Bool} (hA:Ag t f) (hS:Sm t f) (hk:t.ctype=k) (hn:t.length=n) (hsum:t.sum=bE ar (h.drop 4)) (hi:k≠aJ) (hb:f.begE k n dn=0) (hd0:f.done=false) :
  uO (t.note.enter (if t.note.length=0 then 4 else 3)) r (Fl.body (f.begF k) k n h r i) i:=by
 have hN:=(vR (t:=t) (by rw[hk];exact hi)).enter (if t.note.length=0 then 4 else 3);have hlen:t.note.length=n:=(vR (t:=t) (by rw[hk];exact hi)).length.trans hn;rw[hlen] at hN ⊢;obtain ⟨s2,h2⟩:∃ s2,s2=t.note.enter (if n=0 then 4 else 3):=⟨_,rfl⟩;have p2:s2.part=if n=0 then 4 else 3:=by rw[h2];rfl
 have p3:s2.taken=0:=by rw[h2];rfl
 have p4:s2.number=0:=by rw[h2];rfl
 rw[<- h2] at hN ⊢;clear h2;have hc2:s2.ctype=k:=hN.ctype.trans hk;have hl2:s2.length=n:=hN.length.trans hn;have hs2:s2.sum=bE ar (h.drop 4):=hN.sum.trans hsum;have hdata:∀ d j,(f.begF k).data k d j=f.begF k:=fun d j=>by unfold Fl.data;rw[if_neg hi]
 have hok:pP (f.begF k):=by
  refine hS.ok.to ?_ ?_ ?_
  ·unfold Fl.begF;split;rfl;split<;>rfl
  ·unfold Fl.begF;split;rfl;split<;>rfl
  ·unfold Fl.begF;split;rfl;split<;>rfl
 unfold Fl.body;rw[hdata];by_cases c:n<=r.length
 ·have key:∃ q,aw s2 r=shf n (aw q (r.drop n))/\DtA s2 (r.take n) q/\q.part=4/\q.taken=0/\q.number=0:=by
   by_cases n0:n=0
   ·subst n0
    rw[if_pos rfl] at p2;exact ⟨s2,rfl,DtA.refl s2,p2,p3,p4⟩
   ·rw[if_neg n0] at p2
    have hlt:(r.take n).length=n:=by simp;omega
    obtain ⟨q,d1,d2⟩:=Iw (s0:=s2) (by rw[hc2];exact hi) (r.take n) p2 p3 (by rw[hlt,hl2]) (by intro w;rw[w] at hlt;simp at hlt;omega);refine ⟨q.enter 4,?_,d1.enter 4,rfl,rfl,rfl⟩
    conv=>lhs;rw[<- List.take_append_drop n r]
    rw[tU,d2,if_pos rfl,hlt]
  obtain ⟨q,k1,k2,k3,k4,k5⟩:=key;refine Da (k:=k) c k1 k3 k4 k5 (by rw[k2.sum,hs2,DQ]) hok (fun x y u v => ?_);have hd:=(((k2.num x).num y).num u).num v;have ac:=FK (dn:=dn) hA hS hk hi (by rw[hn];exact hb) hd0 hN hd (by rw[hn];simp;omega);exact ⟨ac.1,ac.2.1,fun e=>ac.2.2 e _⟩
 ·have n0:¬ n=0:=by omega
  rw[if_neg n0] at p2;rw[if_pos (by omega)];obtain ⟨q,d1,d2,d3,d4⟩:=wj (s0:=s2) (by rw[hc2];exact hi) r [] s2 (DtA.refl s2) p2 p3 (by rw[hl2];simp;omega);refine uO.stop rfl (by rw[d1]) (fun w=>absurd rfl w) (fun _ => ?_) hok;rw[d1];show q.part≠5
  rw[d3];decide
theorem El {t:Rd} (hi:t.ctype=aJ):t.note=t.begin:=by
 have e1:t.note1=t.begin:=by unfold Rd.note1;rw[if_neg (by rw[hi];exact qF),if_neg (by rw[hi];exact qE),if_pos hi]
 have e2:t.begin.ctype=aJ:=by unfold Rd.begin;split<;>exact hi
 unfold Rd.note;rw[e1];unfold Rd.note2;rw[decide_eq_false (fun w=>w e2),Bool.and_false];rfl
theorem IdA.enter {s0 q:Rd} {dk:List Nat} (h:IdA s0 dk q) (p:Nat):IdA s0 dk (q.enter p):=⟨h.sum,h.ctype,h.length,h.hd,h.tl,h.sp,h.sc,h.sd,h.dov⟩
theorem Dl (f:Fl):f.ov aJ=false:=by unfold Fl.ov;simp
theorem IV {f:Fl} {n:Nat} {dn:Bool} (hf:f.first=true) (h:f.begE aJ n dn=0):f.over=false:=by
 unfold Fl.begE at h;by_cases c:tyB aJ=false
 ·rw[if_pos c] at h;cases h
 rw[if_neg c,hf,if_neg (show ¬ (true=false) by decide)] at h;rw[Dl,if_neg (by simp),if_neg kT,if_neg qF,if_neg qE,if_pos rfl] at h;cases he:f.over with
 | false=>rfl
 | true=>rw[he,if_pos (Or.inl rfl)] at h;cases h
theorem Fu {t:Rd} {f:Fl} {h r:List Nat} {n i:Nat} {dn:Bool} (hA:Ag t f) (hS:Sm t f) (hk:t.ctype=aJ) (hn:t.length=n) (hsum:t.sum=bE ar (h.drop 4)) (hb:f.begE aJ n dn=0) (hd0:f.done=false) (hcap:Cap f.r0) :
  uO (t.note.enter (if t.note.length=0 then 4 else 3)) r (Fl.body (f.begF aJ) aJ n h r i) i:=by
 have hf:=iA kT hb;obtain ⟨a1,a2,a3,a4⟩:=hA.on hf;have hov:=IV hf hb;have hF:f.begF aJ=f:=by
  unfold Fl.begF;rw[if_neg (by rw[hf];decide)];rw[Dl,if_neg (by decide)]
 rw[El hk,hF];obtain ⟨b,hbg⟩:∃ b,b=t.begin:=⟨_,rfl⟩;have bl:b.length=n:=by rw[hbg,<- hn];unfold Rd.begin;split<;>rfl
 have bc:b.ctype=aJ:=by rw[hbg,<- hk];unfold Rd.begin;split<;>rfl
 have bs:b.sum=bE ar (h.drop 4):=by rw[hbg,<- hsum];unfold Rd.begin;split<;>rfl
 have bh:b.hd=t.hd:=by rw[hbg];unfold Rd.begin;split<;>rfl
 have bt:b.tl=t.tl:=by rw[hbg];unfold Rd.begin;split<;>rfl
 have bp:b.sp=t.sp:=by rw[hbg];unfold Rd.begin;split<;>rfl
 have bq:b.sc=t.sc:=by rw[hbg];unfold Rd.begin;split<;>rfl
 have bo:b.dov=t.dov:=by rw[hbg];unfold Rd.begin;split<;>rfl
 have bd:b.sd=true:=by
  rw[hbg];unfold Rd.begin;cases e:t.sd with
  | true=>rw[if_pos rfl];exact e
  | false=>rw[if_neg (by decide)]
 have bsk:∀ d,SK f.r0 (f.z++d) f.z.length b.st b.rw:=fun d=>by
  by_cases c:0<f.ids
  ·have e:t.begin=t:=by unfold Rd.begin;rw[hA.sd,decide_eq_true c];rfl
   rw[hbg,e];exact hS.sk c d
  ·have hz:f.z=[]:=by
    rcases hS with ⟨_,z⟩ | ⟨z,_⟩
    ·exact z
    ·exact absurd z c
   have e:t.begin={ t with sd:=true,st:=St.start,rw:=Rw.start t.hd t.tl.colours }:=by unfold Rd.begin;rw[hA.sd,decide_eq_false c];rfl
   have er:Rw.start t.hd t.tl.colours=f.r0:=by unfold Fl.r0;rw[a1,hA.col]
   rw[hbg,e,hz,er];exact tQ _ _
 rw[<- hbg,bl];clear hbg;obtain ⟨s2,h2⟩:∃ s2,s2=b.enter (if n=0 then 4 else 3):=⟨_,rfl⟩;have p2:s2.part=if n=0 then 4 else 3:=by rw[h2];rfl
 have p3:s2.taken=0:=by rw[h2];rfl
 have p4:s2.number=0:=by rw[h2];rfl
 have g:IdA b [] s2:=by rw[h2];exact ⟨rfl,rfl,rfl,rfl,rfl,rfl,rfl,rfl,rfl⟩
 have g1:s2.st=b.st:=by rw[h2];rfl
 have g2:s2.rw=b.rw:=by rw[h2];rfl
 rw[<- h2];clear h2;have gr:IdA s2 [] s2:=⟨rfl,rfl,rfl,rfl,rfl,rfl,rfl,rfl,rfl⟩;have hdt:∀ d,f.data aJ d i={ f with ids:=f.ids+1,z:=f.z++plc d i }:=fun d=>by unfold Fl.data;rw[if_pos rfl]
 have hr0:∀ d,(f.data aJ d i).r0=f.r0:=fun d=>by rw[hdt];rfl
 obtain ⟨sb1,sb2⟩:=zP (d:=r.take n) (i:=i) hcap bsk;have bad:(fe b.st b.rw (r.take n)).2.2≠0->∀ C:Ch,C.f=f.data aJ (r.take n) i->(aw s2 r).2.1=(fe b.st b.rw (r.take n)).2.2->(aw s2 r).2.2=stN b.st b.rw (r.take n)->uO s2 r C i:=fun e C hC h1 h3=>by
  refine uO.bad (by rw[h1];exact e) (by rw[hC,hdt];show 0<f.ids+1;omega) ?_;rw[hC,hr0,hdt,h1,h3];exact sb1 e
 have okE:∀ d,f.data aJ d i=((f.data aJ d i).ends aJ d).1:=fun d=>by unfold Fl.ends;rw[if_neg kT,if_neg qF,if_neg qE,if_neg vV]
 have okE2:∀ d,((f.data aJ d i).ends aJ d).2=0:=fun d=>by unfold Fl.ends;rw[if_neg kT,if_neg qF,if_neg qE,if_neg vV]
 have fld:∀ (C:Ch),C=Fl.body f aJ n h r i->C.f=f.data aJ (r.take n) i:=fun C hC=>by
  rw[hC];unfold Fl.body;split
  ·rfl
  ·split
   ·rfl
   ·split
    ·exact (okE _).symm
    ·exact (okE _).symm
 have fin:∀ (q:Rd),IdA s2 (r.take n) q->q.st=(fe b.st b.rw (r.take n)).1->q.rw=(fe b.st b.rw (r.take n)).2.1->(fe b.st b.rw (r.take n)).2.2=0->q.part=4->q.taken=0->q.number=0->n<=r.length->aw s2 r=shf n (aw q (r.drop n))->uO s2 r (Fl.body f aJ n h r i) i:=by
  intro q I1 I2 I3 I4 I5 I6 I7 I8 I9;have hok:pP (f.data aJ (r.take n) i):=Or.inr ⟨by rw[hdt];show 0<f.ids+1;omega,q.st,q.rw,by
   have:=sb2 I4 []
   rw[List.append_nil] at this;rw[hr0,hdt,I2,I3];exact this⟩
  refine Da (k:=aJ) I8 I9 I5 I6 I7 (by rw[I1.sum,g.sum,bs];show bE (bE (bE ar (h.drop 4)) []) _=_;rw[DQ];rfl) hok (fun x y u v => ?_);have hcq:((((q.num x).num y).num u).num v).ctype=aJ:=(I1.ctype.trans g.ctype).trans bc;have ea:((((q.num x).num y).num u).num v).accept=((((q.num x).num y).num u).num v,0):=by
   unfold Rd.accept;rw[if_neg (by rw[hcq];exact kT),if_neg (by rw[hcq];exact qE)]
  rw[ea,okE2,<- okE];refine ⟨rfl,fun w=>absurd rfl w,fun _=>⟨?_,?_,Or.inr ⟨by rw[hdt];exact hd0,by show ((((q.num x).num y).num u).num v).ctype≠cS;rw[hcq];exact vV⟩⟩⟩
  ·rw[hdt]
   exact ⟨fun w=>(by rw[hf] at w;cases w),fun _=>⟨by show q.hd=_;rw[I1.hd,g.hd,bh,a1],a2,by show q.hd.W≠0;rw[I1.hd,g.hd,bh];exact a3,a4⟩,by show q.sp=_;rw[I1.sp,g.sp,bp,hA.sp],by show q.sc=_;rw[I1.sc,g.sc,bq,hA.sc],by show q.sd=decide (0<f.ids+1);rw[I1.sd,g.sd,bd,decide_eq_true (by omega)],by show q.dov=_;rw[I1.dov,g.dov,bo,hA.dov],by show q.tl.colours=_;rw[I1.tl,g.tl,bt,hA.col]⟩
  ·rw[hdt]
   refine Or.inr ⟨by show 0<f.ids+1;omega,fun e => ?_⟩;show SK f.r0 (f.z++plc (r.take n) i++e) (f.z++plc (r.take n) i).length q.st q.rw
   rw[I2,I3];exact sb2 I4 e
 by_cases n0:n=0
 ·subst n0
  rw[if_pos rfl] at p2;exact fin s2 gr g1 g2 rfl p2 p3 p4 (Nat.zero_le _) rfl
 ·rw[if_neg n0] at p2
  have hle:(r.take n).length<=n:=by simp;omega
  have I:=Dy (s0:=s2) (g.ctype.trans bc) (r.take n) [] s2 gr p2 p3 (by rw[g.length,bl];simpa using hle);rw[g1,g2] at I;rcases I with ⟨e1,e2,e3⟩ | ⟨e1,q,e2,e3,e4,e5,e6,e7⟩
  ·have er:aw s2 r=aw s2 (r.take n):=by
    conv=>lhs;rw[<- List.take_append_drop n r]
    rw[tU,if_neg (by rw[e2];exact e1)]
   exact bad e1 _ (fld _ rfl) (by rw[er];exact e2) (by rw[er];exact e3)
  ·rw[List.nil_append] at e3 e5
   by_cases c:n<=r.length
   ·have hlt:(r.take n).length=n:=by simp;omega
    rw[if_pos ⟨by intro w;rw[w] at hlt;simp at hlt;omega,by rw[g.length,bl];simp;omega⟩] at e2;refine fin (q.enter 4) (e3.enter 4) e6 e7 e1 rfl rfl rfl c ?_
    conv=>lhs;rw[<- List.take_append_drop n r]
    rw[tU,e2,if_pos rfl,hlt]
   ·have hr:r.take n=r:=List.take_of_length_le (by omega)
    rw[hr] at e2;rw[if_neg (fun w=>by have:=w.2;rw[g.length,bl] at this;simp at this;omega)] at e2;unfold Fl.body;rw[if_pos (by omega)];refine uO.stop rfl (by rw[e2]) (fun w=>absurd rfl w) (fun _ => ?_) ?_
    ·rw[e2];show q.part≠5;rw[e4];decide
    ·refine Or.inr ⟨by rw[hdt];show 0<f.ids+1;omega,q.st,q.rw,?_⟩
     have:=sb2 e1 []
     rw[List.append_nil] at this;rw[hr0,hdt,e6,e7];exact this
inductive wF (s:Rd) (l:List Nat) (C:Ch) (i:Nat):Prop
 | bad (h1:(aw s l).2.1≠0) (h2:0<C.f.ids) (h3:mA C.f.r0 C.f.z (aw s l).2.1 (i+(aw s l).2.2))
 | stop (h1:C.took=0) (h2:(aw s l).2.1=C.err) (h3:C.err≠0->(aw s l).2.2=C.at') (h4:C.err=0->(aw s l).1.part≠5) (h5:pP C.f)
 | on (s':Rd) (h1:8<=C.took) (h0:C.err=0) (hm:C.took<=l.length) (h2:aw s l=shf C.took (aw s' (l.drop C.took))) (h3:Ag s' C.f) (h4:Sm s' C.f) (h5:(C.f.done=true/\s'.part=5)\/(C.f.done=false/\s'.part=1/\s'.taken=0/\s'.number=0))
theorem vi (a b:Nat) (q:Rd × Nat × Nat):shf a (shf b q)=shf (b+a) q:=by
 unfold shf;simp;omega
theorem Nb {a b c d:Nat} (ha:a<256) (hb:b<256) (hc:c<256) (hd:d<256):n4 a b c d<4294967296:=by unfold n4;omega
theorem DH (l:List Nat) (h:4<=l.length):∃ a b c d r,l=a::b::c::d::r:=by
 match l,h with
 | a::b::c::d::r,_=>exact ⟨a,b,c,d,r,rfl⟩
theorem AN {s:Rd} {f:Fl} {l:List Nat} {i:Nat} {dn:Bool} (hA:Ag s f) (hS:Sm s f) (hp:s.part=1) (ht:s.taken=0) (hm:s.number=0) (hd0:f.done=false) (hb:∀ x ∈ l,x<256) (hcap:f.first=true->Cap f.r0) (hdn:dn=decide (s.st.part=10)) :
  wF s l (f.chunk l i dn) i:=by
 subst hdn;unfold Fl.chunk;by_cases c1:l.length<4
 ·rw[if_pos c1]
  obtain ⟨s',e1,e2,e3⟩:=yu 1 (Or.inl rfl) l s hp (by omega);refine wF.stop rfl (by rw[e1]) (fun w=>absurd rfl w) (fun _ => ?_) hS.ok;rw[e1];show s'.part≠5;rw[e3];decide
 rw[if_neg c1];obtain ⟨a,b,c,d,r,rfl⟩:=DH l (by omega);have hl4:=Hs (a:=a) (b:=b) (c:=c) (d:=d) (r:=r) hp ht hm;show wF s _ (if 2147483648<=n4 a b c d then _ else _) i
 by_cases c2:2147483648<=n4 a b c d
 ·rw[if_pos c2]
  rw[if_pos c2] at hl4;refine wF.stop rfl (by rw[hl4]) (fun _=>by rw[hl4]) (fun w=>by cases w) hS.ok
 rw[if_neg c2];rw[if_neg c2] at hl4;have sm1:lx s (lnS s (n4 a b c d)):=⟨rfl,rfl,rfl,rfl,rfl,rfl,rfl,rfl⟩;by_cases c3:(a::b::c::d::r).length<8
 ·rw[if_pos c3]
  obtain ⟨s',e1,e2,e3⟩:=yu 2 (Or.inr (Or.inl rfl)) r (lnS s (n4 a b c d)) rfl (by show 0+r.length<4;simp at c3;omega);rw[e1] at hl4;refine wF.stop rfl (by rw[hl4];rfl) (fun w=>absurd rfl w) (fun _ => ?_) hS.ok;rw[hl4];show s'.part≠5;rw[e3];decide
 rw[if_neg c3];obtain ⟨a',b',c',d',r2,rfl⟩:=DH r (by simp at c3;omega);have ht4:=Jq (s:=lnS s (n4 a b c d)) (a:=a') (b:=b') (c:=c') (d:=d') (r:=r2) rfl rfl rfl;obtain ⟨t,htt⟩:∃ t,t=tyS (lnS s (n4 a b c d)) (n4 a' b' c' d') (bE (lnS s (n4 a b c d)).sum [a',b',c',d']):=⟨_,rfl⟩;rw[<- htt] at ht4;have smt:lx s t:=by rw[htt];exact ⟨rfl,rfl,rfl,rfl,rfl,rfl,rfl,rfl⟩
 have hct:t.ctype=n4 a' b' c' d':=by rw[htt];rfl
 have hlt:t.length=n4 a b c d:=by rw[htt];rfl
 have hst:t.sum=bE ar [a',b',c',d']:=by rw[htt];rfl
 have hm':∀ x,x ∈ [a',b',c',d']->x<256:=fun x hx=>hb x (by simp at hx ⊢;rcases hx with rfl | rfl | rfl | rfl<;>simp)
 have hk:n4 a' b' c' d'<4294967296:=Nb (hm' a' (by simp)) (hm' b' (by simp)) (hm' c' (by simp)) (hm' d' (by simp));have hAt:=hA.same smt;have hSt:=hS.same smt;have hbe:=IU hAt (by rw[hct];exact hk);rw[hct,hlt,smt.st] at hbe;rw[hbe] at ht4;show wF s _ (if f.begE (n4 a' b' c' d') (n4 a b c d) (decide (s.st.part=10))≠0 then ⟨f,f.begE (n4 a' b' c' d') (n4 a b c d) (decide (s.st.part=10)),7,0⟩ else Fl.body (f.begF (n4 a' b' c' d')) (n4 a' b' c' d') (n4 a b c d) [a,b,c,d,a',b',c',d'] r2 (i+8)) i
 by_cases c4:f.begE (n4 a' b' c' d') (n4 a b c d) (decide (s.st.part=10))≠0
 ·rw[if_pos c4]
  rw[if_pos c4] at ht4;rw[ht4] at hl4;refine wF.stop rfl (by rw[hl4];rfl) (fun _=>by rw[hl4];rfl) (fun w=>absurd w c4) hS.ok
 rw[if_neg c4];rw[if_neg c4] at ht4;rw[ht4,vi] at hl4;have c4':f.begE (n4 a' b' c' d') (n4 a b c d) (decide (s.st.part=10))=0:=by omega
 have B:uO (t.note.enter (if t.note.length=0 then 4 else 3)) r2 (Fl.body (f.begF (n4 a' b' c' d')) (n4 a' b' c' d') (n4 a b c d) [a,b,c,d,a',b',c',d'] r2 (i+8)) (i+8):=by
  by_cases ci:n4 a' b' c' d'=aJ
  ·rw[ci] at hct c4' ⊢
   exact Fu hAt hSt hct hlt hst c4' hd0 (hcap (iA kT c4'))
  ·exact CI hAt hSt hct hlt hst ci c4' hd0
 generalize Fl.body (f.begF (n4 a' b' c' d')) (n4 a' b' c' d') (n4 a b c d) [a,b,c,d,a',b',c',d'] r2 (i+8)=C at B;generalize t.note.enter (if t.note.length=0 then 4 else 3)=s2 at B hl4;cases B with
 | bad h1 h2 h3=>
  refine wF.bad (by rw[hl4];exact h1) h2 ?_;rw[hl4];show mA C.f.r0 C.f.z (aw s2 r2).2.1 (i+((aw s2 r2).2.2+(4+4)))
  rw[show i+((aw s2 r2).2.2+(4+4))=i+8+(aw s2 r2).2.2 by omega];exact h3
 | stop h1 h2 h3 h4 h5=>
  refine wF.stop h1 (by rw[hl4];exact h2) (fun w => ?_) (fun w=>by rw[hl4];exact h4 w) h5;rw[hl4];show (aw s2 r2).2.2+(4+4)=_
  have:=h3 w
  omega
 | on m s' h1 h0 hm h2 h3 h4 h5=>
  refine wF.on s' (by omega) h0 (by rw[h1];simp;omega) ?_ h3 h4 h5;rw[hl4,h2,h1,vi,show m+(4+4)=8+m by omega];rw[show 8+m=m+8 by omega];rfl
structure Jj (h:Hd):Prop where
 W:h.W<=16
 H:h.H<=16
 W1:1<=h.W
 H1:1<=h.H
 L:h.L<=1
 D:okD h.D
 K:kOk h.K
 leg:(h.K=0\/h.K=3)\/(h.D=8\/h.D=16)
theorem Jj.bits {h:Hd} (k:Jj h):1<=bG h:=by
 have h1:=k.D;have h2:=k.K;unfold okD at h1;unfold bG
 have:1<=chn h.K:=by rcases h2 with e | e | e | e | e<;>rw[e]<;>decide
 have:=Nat.mul_le_mul this (show 1<=h.D by omega)
 omega
theorem Hv {k d:Nat} (h:¬ kZ k d=false):kOk k/\okD d/\((k=0\/k=3)\/(d=8\/d=16)):=by
 have hk:=xg h;refine ⟨hk,?_⟩;unfold kZ at h;unfold okD;rcases hk with e | e | e | e | e<;>subst e<;>simp at h<;>omega
theorem xi (r:Nat->Nat) (h:(aB r).1=0):Jj (aB r).2:=by
 unfold aB at h ⊢;simp only at h ⊢
 split at h
 ·cases h
 ·split at h
  ·cases h
  ·split at h
   ·cases h
   ·rename_i h1 h2 h3
    rw[if_neg h1,if_neg h2,if_neg h3];have hl:¬ kZ (r 9) (r 8)=false:=fun q=>h1 (Or.inr (Or.inr (Or.inr (Or.inr q))))
    obtain ⟨l1,l2,l3⟩:=Hv hl;have w0:¬ ((r 0*256+r 1)*256+r 2)*256+r 3=0:=fun q=>h1 (Or.inl q)
    have g0:¬ ((r 4*256+r 5)*256+r 6)*256+r 7=0:=fun q=>h1 (Or.inr (Or.inl q))
    have l0:¬ 1<r 12:=fun q=>h2 (Or.inr (Or.inr q))
    exact ⟨by show ((r 0*256+r 1)*256+r 2)*256+r 3<=16;omega,by show ((r 4*256+r 5)*256+r 6)*256+r 7<=16;omega,by show 1<=((r 0*256+r 1)*256+r 2)*256+r 3;omega,by show 1<=((r 4*256+r 5)*256+r 6)*256+r 7;omega,by show r 12<=1;omega,l2,l1,l3⟩
structure FOk (f:Fl):Prop where
 ids:0<f.ids->f.first=true
 on:f.first=true->f.on=true/\Jj f.hd
 z:f.ids=0->f.z=[]
theorem FOk.cap {f:Fl} (h:FOk f) (hf:f.first=true):Cap f.r0:=by
 obtain ⟨_,k⟩:=h.on hf;exact Ft k.W k.H k.D k.bits
structure fW (f g:Fl):Prop where
 ids:f.ids<=g.ids
 z:∃ d,g.z=f.z++d
 r0:0<f.ids->g.r0=f.r0
theorem fW.refl (f:Fl):fW f f:=⟨Nat.le_refl _,⟨[],by simp⟩,fun _=>rfl⟩
theorem KR {f:Fl} {k n:Nat} {dn:Bool} (h:FOk f) (hb:f.begE k n dn=0):fW f (f.begF k)/\(f.begF k).first=true/\(k≠aY->FOk (f.begF k))/\(k=aY->f.first=false):=by
 by_cases hf:f.first=true
 ·obtain ⟨o,e⟩:=yM (k:=k) hf
  rw[e];exact ⟨⟨Nat.le_refl _,⟨[],by simp⟩,fun _=>rfl⟩,hf,fun _=>⟨h.ids,h.on,h.z⟩,fun q=>by subst q;exact (wD hb).1⟩
 ·have hf':f.first=false:=by simpa using hf
  have e:f.begF k={ f with first:=true }:=by unfold Fl.begF;rw[if_pos hf']
  rw[e];refine ⟨⟨Nat.le_refl _,⟨[],by simp⟩,fun _=>rfl⟩,rfl,fun q => ?_,fun _=>hf'⟩;exact absurd (iA q hb) hf
theorem Kz {f:Fl} {k:Nat} (h:FOk f\/k=aY) (hf:f.first=true) (d:List Nat) (i:Nat):fW f (f.data k d i)/\(k≠aY->FOk (f.data k d i)):=by
 unfold Fl.data;by_cases c:k=aJ
 ·rw[if_pos c]
  refine ⟨⟨by show f.ids<=f.ids+1;omega,⟨plc d i,rfl⟩,fun _=>rfl⟩,fun q => ?_⟩;rcases h with h | h
  ·exact ⟨fun _=>hf,h.on,fun w=>by cases w⟩
  ·exact absurd h q
 ·rw[if_neg c]
  refine ⟨fW.refl f,fun q => ?_⟩;rcases h with h | h
  ·exact h
  ·exact absurd h q
theorem fW.trans {a b c:Fl} (h:fW a b) (k:fW b c):fW a c:=by
 obtain ⟨d,hd⟩:=h.z;obtain ⟨e,he⟩:=k.z;refine ⟨Nat.le_trans h.ids k.ids,⟨d++e,by rw[he,hd,List.append_assoc]⟩,fun q => ?_⟩
 have:=h.ids
 rw[k.r0 (by omega),h.r0 q]
theorem Kr {f f0:Fl} {k n:Nat} {dn:Bool} {d:List Nat} (h:k≠aY->FOk f) (hf:f.first=true) (hz:k=aY->f.ids=0/\f.z=[]) (hp:k=cj->f.ids=0):fW f (f.ends k d).1/\((f.ends k d).2=0->FOk (f.ends k d).1):=by
 unfold Fl.ends;by_cases c1:k=aY
 ·rw[if_pos c1]
  obtain ⟨z1,z2⟩:=hz c1;by_cases e:(aB (fun i=>d.getD i 0)).1≠0
  ·rw[if_pos e]
   exact ⟨fW.refl f,fun w=>absurd w e⟩
  ·rw[if_neg e]
   refine ⟨⟨Nat.le_refl _,⟨[],by simp⟩,fun w=>absurd w (by omega)⟩,fun _=>⟨fun w=>hf,fun _=>⟨rfl,xi _ (by omega)⟩,fun _=>z2⟩⟩
 rw[if_neg c1];have hk:=h c1;by_cases c2:k=cj
 ·rw[if_pos c2]
  have i0:=hp c2;exact ⟨⟨Nat.le_refl _,⟨[],by simp⟩,fun w=>absurd w (by omega)⟩,fun _=>⟨hk.ids,hk.on,hk.z⟩⟩
 rw[if_neg c2];by_cases c3:k=bY
 ·rw[if_pos c3]
  by_cases e:f.hd.K≠3/\cU f.hd.D d=true
  ·rw[if_pos e];exact ⟨fW.refl f,fun w=>by cases w⟩
  ·rw[if_neg e];exact ⟨⟨Nat.le_refl _,⟨[],by simp⟩,fun _=>rfl⟩,fun _=>⟨hk.ids,hk.on,hk.z⟩⟩
 rw[if_neg c3];by_cases c4:k=cS
 ·rw[if_pos c4];exact ⟨⟨Nat.le_refl _,⟨[],by simp⟩,fun _=>rfl⟩,fun _=>⟨hk.ids,hk.on,hk.z⟩⟩
 ·rw[if_neg c4];exact ⟨fW.refl f,fun _=>hk⟩
theorem chunk_ok {f:Fl} (h:FOk f) (l:List Nat) (i:Nat) (dn:Bool):fW f (f.chunk l i dn).f/\((f.chunk l i dn).took≠0->FOk (f.chunk l i dn).f):=by
 unfold Fl.chunk;by_cases c1:l.length<4
 ·rw[if_pos c1];exact ⟨fW.refl f,fun w=>absurd rfl w⟩
 rw[if_neg c1];by_cases c2:2147483648<=n4 (l.getD 0 0) (l.getD 1 0) (l.getD 2 0) (l.getD 3 0)
 ·rw[if_pos c2];exact ⟨fW.refl f,fun w=>absurd rfl w⟩
 rw[if_neg c2];by_cases c3:l.length<8
 ·rw[if_pos c3];exact ⟨fW.refl f,fun w=>absurd rfl w⟩
 rw[if_neg c3];generalize n4 (l.getD 4 0) (l.getD 5 0) (l.getD 6 0) (l.getD 7 0)=k;generalize n4 (l.getD 0 0) (l.getD 1 0) (l.getD 2 0) (l.getD 3 0)=n;by_cases c4:f.begE k n dn≠0
 ·rw[if_pos c4];exact ⟨fW.refl f,fun w=>absurd rfl w⟩
 rw[if_neg c4];have c4':f.begE k n dn=0:=by omega
 obtain ⟨b1,b2,b3,b4⟩:=KR h c4';have D:=Kz (f:=f.begF k) (k:=k) (by by_cases q:k=aY;exact Or.inr q;exact Or.inl (b3 q)) b2 ((l.drop 8).take n) (i+8);have hgd:=b1.trans D.1;have hfd:((f.begF k).data k ((l.drop 8).take n) (i+8)).first=true:=by unfold Fl.data;split<;>exact b2
 have E:=Kr (n:=n) (dn:=dn) (f0:=f) (d:=(l.drop 8).take n) D.2 hfd (fun q=>by
   have hf0:=b4 q;have i0:f.ids=0:=by
    by_cases e:0<f.ids
    ·rw[h.ids e] at hf0;cases hf0
    ·omega
   subst q;have e:(f.begF aY).data aY ((l.drop 8).take n) (i+8)={ f with first:=true }:=by unfold Fl.data;rw[if_neg (fun w=>kT w.symm)];unfold Fl.begF;rw[if_pos hf0]
   rw[e];exact ⟨i0,h.z i0⟩) (fun q=>by
   subst q;have hf:f.first=true:=iA (fun e=>vU e.symm) c4';have i0:=AY hf (wC hf c4');obtain ⟨o,e⟩:=yM (k:=cj) hf;have e2:(f.begF cj).data cj ((l.drop 8).take n) (i+8)=f.begF cj:=by unfold Fl.data;rw[if_neg (fun w=>qF w.symm)]
   rw[e2,e];exact i0)
 unfold Fl.body;generalize (f.begF k).data k ((l.drop 8).take n) (i+8)=g at *;by_cases q1:(l.drop 8).length<n+4
 ·rw[if_pos q1];exact ⟨hgd,fun w=>absurd rfl w⟩
 rw[if_neg q1];by_cases q2:bJ (bE ar ((l.take 8).drop 4++(l.drop 8).take n))≠n4 ((l.drop 8).getD n 0) ((l.drop 8).getD (n+1) 0) ((l.drop 8).getD (n+2) 0) ((l.drop 8).getD (n+3) 0)
 ·rw[if_pos q2];exact ⟨hgd,fun w=>absurd rfl w⟩
 rw[if_neg q2];by_cases q3:(g.ends k ((l.drop 8).take n)).2≠0
 ·rw[if_pos q3];exact ⟨hgd.trans E.1,fun w=>absurd rfl w⟩
 ·rw[if_neg q3];exact ⟨hgd.trans E.1,fun _=>E.2 (by omega)⟩
def vA (l:List Nat):Nat:=n4 (l.getD 4 0) (l.getD 5 0) (l.getD 6 0) (l.getD 7 0)
def yR (z:List One) (dn:Bool):Prop:=∃ out sm er at' en,rU z out dn sm er at' en
theorem II {f:Fl} {l:List Nat} {i:Nat} {dn dn':Bool} (h:f.ov (vA l)=false):f.chunk l i dn=f.chunk l i dn':=by
 have e:∀ n,f.begE (vA l) n dn=f.begE (vA l) n dn':=fun n=>by
  unfold Fl.begE;rw[h,Bool.false_and,Bool.false_and]
 unfold Fl.chunk;unfold vA at e;rw[e]
def LA (l:List Nat):Prop:=∀ j,j<8->j<l.length->l.getD j 0=lr j
inductive Wk (l:List Nat):Nat->Fl->Prop
 | start (h:LA l):Wk l 8 Fl.start
 | next {i:Nat} {f:Fl} {dn:Bool} (h:Wk l i f) (hd:f.done=false) (hi:i<l.length) (hr:f.ov (vA (l.drop i))=true->yR f.z dn) (ht:(f.chunk (l.drop i) i dn).took≠0):Wk l (i+(f.chunk (l.drop i) i dn).took) (f.chunk (l.drop i) i dn).f
inductive pO (l:List Nat):Fl->Nat->Nat->Prop
 | sign (i:Nat) (h8:i<8) (hi:i<l.length) (hb:l.getD i 0≠lr i) (hg:∀ j,j<i->l.getD j 0=lr j):pO l Fl.start 1 i
 | out {i:Nat} {f:Fl} (h:Wk l i f) (hi:l.length<=i):pO l f 0 0
 | trail {i:Nat} {f:Fl} (h:Wk l i f) (hd:f.done=true) (hi:i<l.length):pO l f 22 i
 | stop {i:Nat} {f:Fl} {dn:Bool} (h:Wk l i f) (hd:f.done=false) (hi:i<l.length) (hr:f.ov (vA (l.drop i))=true->yR f.z dn) (ht:(f.chunk (l.drop i) i dn).took=0):pO l (f.chunk (l.drop i) i dn).f (f.chunk (l.drop i) i dn).err (if (f.chunk (l.drop i) i dn).err=0 then 0 else i+(f.chunk (l.drop i) i dn).at')
theorem vD:∀ (m j:Nat) (s:Rd) (l:List Nat),j+m=8->s.part=0->s.taken=j ->
  ((∃ i,i<m/\i<l.length/\l.getD i 0≠lr (j+i)/\(∀ k,k<i->l.getD k 0=lr (j+k))/\(aw s l).2.1=1/\(aw s l).2.2=i) \/
   ((∀ k,k<m->k<l.length->l.getD k 0=lr (j+k))/\l.length<m/\(aw s l).2.1=0/\(aw s l).1.part=0) \/
   ((∀ k,k<m->l.getD k 0=lr (j+k))/\m<=l.length/\∃ s',aw s l=shf m (aw s' (l.drop m))/\(0<m->s'.part=1/\s'.taken=0/\s'.number=0)/\lx s s'))
 | 0,j,s,l,hj,hp,ht=>Or.inr (Or.inr ⟨fun k hk=>by omega,Nat.zero_le _,s,rfl,fun w=>by omega,lx.refl s⟩)
 | m+1,j,s,[],hj,hp,ht=>Or.inr (Or.inl ⟨fun k _ hk=>by simp at hk,by simp,rfl,hp⟩)
 | m+1,j,s,x::l,hj,hp,ht=>by
  have et:s.take x=s.takeSign x:=by unfold Rd.take;rw[if_pos hp]
  by_cases c:x=lr j
  ·have e1:s.take x=if j+1=8 then (({ s with taken:=j+1 }:Rd).enter 1,0) else ({ s with taken:=j+1 },0):=by
    rw[et];unfold Rd.takeSign;rw[ht,if_neg (by rintro (w | w);omega;exact w c)]
   by_cases c8:j+1=8
   ·rw[if_pos c8] at e1
    have m0:m=0:=by omega
    subst m0;refine Or.inr (Or.inr ⟨fun k hk => ?_,by simp,({ s with taken:=j+1 }:Rd).enter 1,?_,fun _=>⟨rfl,rfl,rfl⟩,⟨rfl,rfl,rfl,rfl,rfl,rfl,rfl,rfl⟩⟩)
    ·have:k=0:=by omega
     subst this;exact c
    ·rw[aS e1];rfl
   ·rw[if_neg c8] at e1
    have ih:=vD m (j+1) { s with taken:=j+1 } l (by omega) hp rfl;rcases ih with ⟨i,h1,h2,h3,h4,h5,h6⟩ | ⟨h1,h2,h3,h4⟩ | ⟨h1,h2,s',h3,h4,h5⟩
    ·left
     refine ⟨i+1,by omega,by simp;omega,by rw[List.getD_cons_succ,show j+(i+1)=j+1+i by omega];exact h3,fun k hk => ?_,?_,?_⟩
     ·cases k with
      | zero=>exact c
      | succ k=>rw[List.getD_cons_succ,show j+(k+1)=j+1+k by omega];exact h4 k (by omega)
     ·rw[aS e1];exact h5
     ·rw[aS e1];show _+1=_;rw[h6]
    ·right;left
     refine ⟨fun k hk hl => ?_,by simp;omega,by rw[aS e1];exact h3,by rw[aS e1];exact h4⟩;cases k with
     | zero=>exact c
     | succ k=>rw[List.getD_cons_succ,show j+(k+1)=j+1+k by omega];exact h1 k (by omega) (by simpa using hl)
    ·right;right
     refine ⟨fun k hk => ?_,by simp;omega,s',?_,fun _=>h4 (by omega),⟨h5.hd,h5.tl,h5.st,h5.rw,h5.sp,h5.sc,h5.sd,h5.dov⟩⟩
     ·cases k with
      | zero=>exact c
      | succ k=>rw[List.getD_cons_succ,show j+(k+1)=j+1+k by omega];exact h1 k (by omega)
     ·rw[aS e1,h3,vi];rfl
  ·left
   have e1:s.take x=(s,1):=by
    rw[et];unfold Rd.takeSign;rw[if_pos (by right;rw[ht];exact c)]
   refine ⟨0,by omega,by simp,c,fun k hk=>by omega,?_,?_⟩
   ·rw[kP e1 (by decide)]
   ·rw[kP e1 (by decide)]
theorem Ja {s:Rd} (h:lx rd0 s):Ag s Fl.start:=⟨fun _=>⟨by rw[h.hd];rfl,rfl⟩,(fun w=>by cases w),h.sp,h.sc,h.sd,h.dov,by rw[h.tl];rfl⟩
theorem EB:FOk Fl.start:=⟨(fun w=>by simp [Fl.start] at w),(fun w=>by cases w),fun _=>rfl⟩
inductive WI (l:List Nat) (i:Nat) (f:Fl):Prop
 | bad (h1:(aw rd0 l).2.1≠0) (h2:0<f.ids) (h3:mA f.r0 f.z (aw rd0 l).2.1 (aw rd0 l).2.2)
 | few (h1:l.length<8) (h2:i=8) (h3:f=Fl.start) (h4:(aw rd0 l).2.1=0) (h5:(aw rd0 l).1.part≠5)
 | ok (s':Rd) (hi:i<=l.length) (h2:aw rd0 l=shf i (aw s' (l.drop i))) (h3:Ag s' f) (h4:Sm s' f) (h5:(f.done=true/\s'.part=5)\/(f.done=false/\s'.part=1/\s'.taken=0/\s'.number=0))
theorem mA.grow {f g:Fl} {e p:Nat} (h:mA f.r0 f.z e p) (k:fW f g) (hi:0<f.ids):mA g.r0 g.z e p:=by
 obtain ⟨d,hd⟩:=k.z;refine ⟨h.1,fun d' out dn sm er at' en q => ?_⟩;rw[hd,List.append_assoc] at q;rw[k.r0 hi];exact h.2 (d++d') out dn sm er at' en q
theorem Nh {s:Rd} {f:Fl} {k:Nat} {dn:Bool} (hS:Sm s f) (h:f.ov k=true) (hr:yR f.z dn):dn=decide (s.st.part=10):=by
 obtain ⟨out,sm,er,at',en,q⟩:=hr;refine hS.dn ?_ q;unfold Fl.ov at h;simp at h;exact h.1.1
theorem xw {s:Rd} {f:Fl} {l:List Nat} {i:Nat} {dn:Bool} (hA:Ag s f) (hS:Sm s f) (hp:s.part=1) (ht:s.taken=0) (hm:s.number=0) (hd0:f.done=false) (hb:∀ x ∈ l,x<256) (hcap:f.first=true->Cap f.r0) (hr:f.ov (vA l)=true->yR f.z dn):wF s l (f.chunk l i dn) i:=by
 cases ho:f.ov (vA l) with
 | true=>exact AN hA hS hp ht hm hd0 hb hcap (Nh hS ho (hr ho))
 | false=>rw[II (dn':=decide (s.st.part=10)) ho];exact AN hA hS hp ht hm hd0 hb hcap rfl
theorem wS {l:List Nat} (hb:∀ x ∈ l,x<256) {i:Nat} {f:Fl} (h:Wk l i f):WI l i f/\FOk f:=by
 induction h with
 | start hs=>
  refine ⟨?_,EB⟩;rcases vD 8 0 rd0 l rfl rfl rfl with ⟨i,h1,h2,h3,_⟩ | ⟨h1,h2,h3,h4⟩ | ⟨h1,h2,s',h3,h4,h5⟩
  ·have:=hs i h1 h2
   rw[Nat.zero_add] at h3;exact absurd this h3
  ·exact WI.few h2 rfl rfl h3 (by rw[h4];decide)
  ·exact WI.ok s' h2 h3 (Ja h5) (Or.inl ⟨rfl,rfl⟩) (Or.inr ⟨rfl,h4 (by decide)⟩)
 | next h hd hi hr ht ih=>
  rename_i i f dn
  obtain ⟨w,fk⟩:=ih;obtain ⟨g,gk⟩:=chunk_ok fk (l.drop i) i dn;refine ⟨?_,gk ht⟩;cases w with
  | bad h1 h2 h3=>exact WI.bad h1 (Nat.lt_of_lt_of_le h2 g.ids) (h3.grow g h2)
  | few h1 h2 h3 h4 h5=>omega
  | ok s' h1 h2 h3 h4 h5=>
   rcases h5 with ⟨h5,_⟩ | ⟨_,h6,h7,h8⟩
   ·rw[hd] at h5;cases h5
   have K:=xw (i:=i) h3 h4 h6 h7 h8 hd (fun x hx=>hb x (List.mem_of_mem_drop hx)) (fun q=>fk.cap q) hr;cases K with
   | bad k1 k2 k3=>
    refine WI.bad (by rw[h2];exact k1) k2 ?_;rw[h2];show mA _ _ (aw s' (l.drop i)).2.1 ((aw s' (l.drop i)).2.2+i)
    rw[Nat.add_comm];exact k3
   | stop k1=>exact absurd k1 ht
   | on s2 k1 k0 km k2 k3 k4 k5=>
    refine WI.ok s2 (by simp at km;omega) ?_ k3 k4 k5;rw[h2,k2,vi,List.drop_drop,Nat.add_comm i]
theorem CD {f:Fl} {l:List Nat} {i:Nat} {dn:Bool} (hd:f.done=false) (ht:(f.chunk l i dn).took=0) (he:(f.chunk l i dn).err=0):(f.chunk l i dn).f.done=false:=by
 unfold Fl.chunk at ht he ⊢;by_cases c1:l.length<4
 ·rw[if_pos c1];exact hd
 rw[if_neg c1] at ht he ⊢;by_cases c2:2147483648<=n4 (l.getD 0 0) (l.getD 1 0) (l.getD 2 0) (l.getD 3 0)
 ·rw[if_pos c2];exact hd
 rw[if_neg c2] at ht he ⊢;by_cases c3:l.length<8
 ·rw[if_pos c3];exact hd
 rw[if_neg c3] at ht he ⊢;generalize n4 (l.getD 4 0) (l.getD 5 0) (l.getD 6 0) (l.getD 7 0)=k at *;generalize n4 (l.getD 0 0) (l.getD 1 0) (l.getD 2 0) (l.getD 3 0)=n at *;by_cases c4:f.begE k n dn≠0
 ·rw[if_pos c4];exact hd
 rw[if_neg c4] at ht he ⊢;unfold Fl.body at ht he ⊢;have hg:((f.begF k).data k ((l.drop 8).take n) (i+8)).done=false:=by
  have hb:(f.begF k).done=false:=by
   unfold Fl.begF;split
   ·exact hd
   ·split<;>exact hd
  unfold Fl.data;split<;>exact hb
 generalize (f.begF k).data k ((l.drop 8).take n) (i+8)=g at *;by_cases q1:(l.drop 8).length<n+4
 ·rw[if_pos q1];exact hg
 rw[if_neg q1] at ht he ⊢;by_cases q2:bJ (bE ar ((l.take 8).drop 4++(l.drop 8).take n))≠n4 ((l.drop 8).getD n 0) ((l.drop 8).getD (n+1) 0) ((l.drop 8).getD (n+2) 0) ((l.drop 8).getD (n+3) 0)
 ·rw[if_pos q2];exact hg
 rw[if_neg q2] at ht he ⊢;by_cases q3:(g.ends k ((l.drop 8).take n)).2≠0
 ·rw[if_pos q3] at he;exact absurd he q3
 ·rw[if_neg q3] at ht
  exact absurd ht (by show ¬ (8+n+4=0);omega)
theorem Jn {l:List Nat} (hb:∀ x ∈ l,x<256) {F:Fl} {er at':Nat} (h:pO l F er at') :
  ((aw rd0 l).2.1≠0/\0<F.ids/\mA F.r0 F.z (aw rd0 l).2.1 (aw rd0 l).2.2) \/
  ((aw rd0 l).2.1=er/\(er≠0->(aw rd0 l).2.2=at')/\(er=0->((aw rd0 l).1.part=5 ↔ F.done=true))/\pP F):=by
 cases h with
 | sign _ h8 hi hn hg=>
  right
  rcases vD 8 0 rd0 l rfl rfl rfl with ⟨j,h1,h2,h3,h4,h5,h6⟩ | ⟨h1,h2,h3,h4⟩ | ⟨h1,h2,s',h3,h4,h5⟩
  ·have e:j=at':=by
    by_cases c:j<at'
    ·have:=hg j c;rw[Nat.zero_add] at h3;exact absurd this h3
    ·by_cases c':at'<j
     ·have:=h4 at' c';rw[Nat.zero_add] at this;exact absurd this hn
     ·omega
   subst e;exact ⟨h5,fun _=>h6,(fun w=>by cases w),Or.inl ⟨rfl,rfl⟩⟩
  ·have:=h1 at' h8 hi;rw[Nat.zero_add] at this;exact absurd this hn
  ·have:=h1 at' h8;rw[Nat.zero_add] at this;exact absurd this hn
 | out h hi=>
  obtain ⟨w,fk⟩:=wS hb h;cases w with
  | bad h1 h2 h3=>exact Or.inl ⟨h1,h2,h3⟩
  | few h1 h2 h3 h4 h5=>subst h3;exact Or.inr ⟨h4,fun w=>absurd rfl w,fun _=>⟨fun w=>absurd w h5,(fun w=>by cases w)⟩,Or.inl ⟨rfl,rfl⟩⟩
  | ok s' h1 h2 h3 h4 h5=>
   rename_i i
   have e:l.drop i=[]:=List.drop_eq_nil_iff.2 hi;rw[e] at h2
   right
   refine ⟨by rw[h2];rfl,fun w=>absurd rfl w,fun _ => ?_,h4.ok⟩;rw[h2];show s'.part=5 ↔ _
   rcases h5 with ⟨a,b⟩ | ⟨a,b,_⟩
   ·exact ⟨fun _=>a,fun _=>b⟩
   ·rw[a,b];exact ⟨(fun w=>by cases w),(fun w=>by cases w)⟩
 | trail h hd hi=>
  obtain ⟨w,fk⟩:=wS hb h;cases w with
  | bad h1 h2 h3=>exact Or.inl ⟨h1,h2,h3⟩
  | few h1 h2 h3 h4 h5=>omega
  | ok s' h1 h2 h3 h4 h5=>
   right
   rcases h5 with ⟨a,b⟩ | ⟨a,b,_⟩
   ·have hx:∃ x m,l.drop at'=x::m:=by
     cases e:l.drop at' with
     | nil=>have:=List.drop_eq_nil_iff.1 e;omega
     | cons x m=>exact ⟨x,m,rfl⟩
    obtain ⟨x,m,e⟩:=hx;rw[e] at h2;have et:s'.take x=(s',22):=by unfold Rd.take;rw[if_neg (by omega),if_neg (by omega),if_neg (by omega),if_neg (by omega),if_neg (by omega)]
    rw[kP et (by decide)] at h2;refine ⟨by rw[h2];rfl,fun _=>by rw[h2];show 0+at'=at';omega,(fun w=>by cases w),h4.ok⟩
   ·rw[hd] at a;cases a
 | stop h hd hi hr ht=>
  rename_i i f dn
  obtain ⟨w,fk⟩:=wS hb h;obtain ⟨g,gk⟩:=chunk_ok fk (l.drop i) i dn;cases w with
  | bad h1 h2 h3=>exact Or.inl ⟨h1,Nat.lt_of_lt_of_le h2 g.ids,h3.grow g h2⟩
  | few h1 h2 h3 h4 h5=>omega
  | ok s' h1 h2 h3 h4 h5=>
   rcases h5 with ⟨h5,_⟩ | ⟨_,h6,h7,h8⟩
   ·rw[hd] at h5;cases h5
   have K:=xw (i:=i) h3 h4 h6 h7 h8 hd (fun x hx=>hb x (List.mem_of_mem_drop hx)) (fun q=>fk.cap q) hr;cases K with
   | bad k1 k2 k3=>
    refine Or.inl ⟨by rw[h2];exact k1,k2,?_⟩;rw[h2];show mA _ _ (aw s' (l.drop i)).2.1 ((aw s' (l.drop i)).2.2+i)
    rw[Nat.add_comm];exact k3
   | stop k1 k2 k3 k4 k5=>
    right
    refine ⟨by rw[h2];exact k2,fun w => ?_,fun w => ?_,k5⟩
    ·rw[h2,if_neg w]
     show (aw s' (l.drop i)).2.2+i=_
     rw[k3 w];omega
    ·rw[h2]
     show (aw s' (l.drop i)).1.part=5 ↔ _
     rw[CD hd ht w];exact ⟨fun q=>absurd q (k4 w),(fun q=>by cases q)⟩
   | on s2 k1=>omega
structure FOn (f:Fl):Prop where
 ids:0<f.ids->f.on=true
 hd:f.on=true->Jj f.hd
 z:f.ids=0->f.z=[]
theorem xj:FOn Fl.start:=⟨(fun w=>by simp [Fl.start] at w),(fun w=>by cases w),fun _=>rfl⟩
theorem FOn.of {f g:Fl} (h:FOn f) (h1:g.on=f.on) (h2:g.hd=f.hd) (h3:g.ids=f.ids) (h4:g.z=f.z):FOn g:=⟨fun w=>by rw[h1];exact h.ids (by omega),fun w=>by rw[h2];exact h.hd (by rw[<- h1];exact w),fun w=>by rw[h4];exact h.z (by omega)⟩
theorem AM {f:Fl} (hk:FOk f) (h:FOn f) (l:List Nat) (i:Nat) (dn:Bool):FOn (f.chunk l i dn).f:=by
 unfold Fl.chunk;by_cases c1:l.length<4
 ·rw[if_pos c1];exact h
 rw[if_neg c1];by_cases c2:2147483648<=n4 (l.getD 0 0) (l.getD 1 0) (l.getD 2 0) (l.getD 3 0)
 ·rw[if_pos c2];exact h
 rw[if_neg c2];by_cases c3:l.length<8
 ·rw[if_pos c3];exact h
 rw[if_neg c3];generalize n4 (l.getD 4 0) (l.getD 5 0) (l.getD 6 0) (l.getD 7 0)=k;generalize n4 (l.getD 0 0) (l.getD 1 0) (l.getD 2 0) (l.getD 3 0)=n;by_cases c4:f.begE k n dn≠0
 ·rw[if_pos c4];exact h
 rw[if_neg c4];have c4':f.begE k n dn=0:=by omega
 have hb:FOn (f.begF k):=by
  unfold Fl.begF;split
  ·exact h.of rfl rfl rfl rfl
  ·split
   ·exact h.of rfl rfl rfl rfl
   ·exact h
 have hon:k=aJ->(f.begF k).on=true:=fun q=>by
  subst q;have hf:=iA kT c4'
  have:(f.begF aJ).on=f.on:=by
   unfold Fl.begF;split
   ·rfl
   ·split<;>rfl
  rw[this];exact (hk.on hf).1
 have hd:FOn ((f.begF k).data k ((l.drop 8).take n) (i+8)):=by
  unfold Fl.data;by_cases q:k=aJ
  ·rw[if_pos q]
   exact ⟨fun _=>hon q,hb.hd,(fun w=>by cases w)⟩
  ·rw[if_neg q];exact hb
 have he:FOn (((f.begF k).data k ((l.drop 8).take n) (i+8)).ends k ((l.drop 8).take n)).1:=by
  generalize (f.begF k).data k ((l.drop 8).take n) (i+8)=g at *;generalize (l.drop 8).take n=d at *;unfold Fl.ends;split
  ·split
   ·exact hd
   ·rename_i e
    exact ⟨fun _=>rfl,fun _=>xi _ (by omega),hd.z⟩
  ·split
   ·exact hd.of rfl rfl rfl rfl
   ·split
    ·split
     ·exact hd
     ·exact hd.of rfl rfl rfl rfl
    ·split
     ·exact hd.of rfl rfl rfl rfl
     ·exact hd
 unfold Fl.body;split
 ·exact hd
 ·split
  ·exact hd
  ·split
   ·exact he
   ·exact he
theorem F7 {l:List Nat} (hb:∀ x ∈ l,x<256) {i:Nat} {f:Fl} (h:Wk l i f):FOn f:=by
 induction h with
 | start hs=>exact xj
 | next h hd hi hr ht ih=>exact AM (wS hb h).2 ih _ _ _
theorem Iq {l:List Nat} (hb:∀ x ∈ l,x<256) {F:Fl} {er at':Nat} (h:pO l F er at'):FOn F:=by
 cases h with
 | sign _ h8 hi hn hg=>exact xj
 | out h hi=>exact F7 hb h
 | trail h hd hi=>exact F7 hb h
 | stop h hd hi hr ht=>exact AM (wS hb h).2 (F7 hb h) _ _ _
def imE (im:ImR) (dn sm:Bool) (en:Nat):Nat × Nat:=
 match im with
 | .bad _ e p=>(e,p)
 | .part _=>if (dn && sm)=true then (18,en) else (0,0)
 | .full _=>(0,0)
def wI (F:Fl) (er at':Nat) (im:ImR) (dn sm:Bool) (ser sat sen:Nat):Nat × Nat:=
 if F.on=true/\(imE im dn sm sen).1≠0 then imE im dn sm sen else if ser≠0 then (ser,sat) else (er,at')
theorem Kg {h:Hd} {C:Nat} (hD:okD h.D) (hb:1<=bG h) (up:Nat->Nat) (out:List One) (dn sm:Bool) (er at' en:Nat) (hz:er=0->at'=0) :
  ofV (aN h C (ay h (aF h.L) 0) up out) dn sm er at' en=if (imE (aN h C (ay h (aF h.L) 0) up out) dn sm en).1≠0 then imE (aN h C (ay h (aF h.L) 0) up out) dn sm en else (er,at'):=by
 have I:=yi hD hb _ _ _ up out (Nat.le_refl _) (vC h C up);generalize aN h C (ay h (aF h.L) 0) up out=im at I;cases im with
 | bad ls e p=>
  have:=I.1
  unfold ofV imE;rw[if_pos this]
 | part ls=>
  unfold ofV imE;by_cases c:(dn && sm)=true
  ·simp only [c,if_true];rfl
  ·simp only [c,if_false];rfl
 | full ls=>unfold ofV imE;rfl
def RdZ (ser sat:Nat):Prop:=ser=0->sat=0
theorem Ba {l:List Nat} (hb:∀ x ∈ l,x<256) {F:Fl} {er at':Nat} (h:pO l F er at') {out:List One} {dn sm:Bool} {ser sat sen:Nat} (q:rU F.z out dn sm ser sat sen) (hz:RdZ ser sat) (up:Nat->Nat) :
  (wI F er at' (aN F.hd (F.pal.length / 3) (ay F.hd (aF F.hd.L) 0) up out) dn sm ser sat sen).1=(aw rd0 l).2.1 /\
  ((aw rd0 l).2.1≠0->(wI F er at' (aN F.hd (F.pal.length / 3) (ay F.hd (aF F.hd.L) 0) up out) dn sm ser sat sen).2=(aw rd0 l).2.2) /\
  ((aw rd0 l).2.1=0->((aw rd0 l).1.part=5 ↔ F.done=true)):=by
 have on:=Iq hb h;have W:=Jn hb h;by_cases hon:F.on=true
 ·have hh:=on.hd hon
  have V:=LP (C:=F.pal.length / 3) hh.D hh.bits up out dn sm ser sat sen;rw[Kg hh.D hh.bits up out dn sm ser sat sen hz] at V;have er0:Rw.start F.hd (F.pal.length / 3)=F.r0:=rfl;rw[er0] at V;unfold wI;generalize imE (aN F.hd (F.pal.length / 3) (ay F.hd (aF F.hd.L) 0) up out) dn sm sen=E at *;rcases W with ⟨w1,w2,w3⟩ | ⟨w1,w2,w3,w4⟩
  ·have:=w3.2 [] out dn sm ser sat sen (by rw[List.append_nil];exact q)
   obtain ⟨e1,e2⟩:=Bb V this;by_cases c:E.1≠0
   ·rw[if_pos c] at e1 e2
    rw[if_pos ⟨hon,c⟩];exact ⟨e1,fun _=>e2,fun w=>absurd w w1⟩
   ·rw[if_neg c] at e1 e2
    have hs:ser≠0:=by intro w;exact w1 (e1.symm.trans w)
    rw[if_neg (fun w=>c w.2),if_pos hs];exact ⟨e1,fun _=>e2,fun w=>absurd w w1⟩
  ·have clean:E.1=0/\ser=0:=by
    rcases w4 with ⟨i0,z0⟩ | ⟨i0,st,rw',sk⟩
    ·have sk:=tQ F.r0 F.z
     rw[z0] at q;have hq:=pU (z:=[]) (tQ F.r0 []) q;have vd0:Vd F.r0 out dn sm ser sat sen 0 sat:=Or.inr ⟨F.r0,hq.1,Or.inr ⟨hq.2.2.2.2,hq.2.1.symm,rfl⟩⟩;obtain ⟨e1,e2⟩:=Bb V vd0;by_cases c:E.1≠0
     ·rw[if_pos c] at e1;exact absurd e1 c
     ·exact ⟨by omega,hq.2.1⟩
    ·have hq:=pU sk q
     have vd0:Vd F.r0 out dn sm ser sat sen 0 sat:=Or.inr ⟨rw',hq.1,Or.inr ⟨hq.2.2.2.2,hq.2.1.symm,rfl⟩⟩;obtain ⟨e1,e2⟩:=Bb V vd0;by_cases c:E.1≠0
     ·rw[if_pos c] at e1;exact absurd e1 c
     ·exact ⟨by omega,hq.2.1⟩
   rw[if_neg (fun w=>w.2 clean.1),if_neg (fun w=>w clean.2)];exact ⟨w1.symm,fun w=>(w2 (by rw[<- w1];exact w)).symm,fun w=>w3 (by rw[<- w1];exact w)⟩
 ·have i0:F.ids=0:=by
   by_cases c:0<F.ids
   ·exact absurd (on.ids c) hon
   ·omega
  have z0:=on.z i0;rw[z0] at q;have hq:=pU (z:=[]) (tQ F.r0 []) q;unfold wI;rw[if_neg (fun w=>hon w.1),if_neg (fun w=>w hq.2.1)];rcases W with ⟨w1,w2,w3⟩ | ⟨w1,w2,w3,w4⟩
  ·omega
  ·exact ⟨w1.symm,fun w=>(w2 (by rw[<- w1];exact w)).symm,fun w=>w3 (by rw[<- w1];exact w)⟩
