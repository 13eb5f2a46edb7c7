import Derived.Test.YtgooinallljbpaaGreatDoorTd23
import Derived.Test.YtgooinallljbpaaGreatDoorTd14
set_option maxRecDepth 100000
set_option maxHeartbeats 6400000
namespace Go.Proofs.YtgooinallljbpaaGreatDoor
open Go.RowKit Px
set_option linter.unusedSimpArgs false
set_option linter.unusedVariables false
theorem Dw (h:Hd) (C:Nat):∀ (rs:List (Nat × Nat)) (up:Nat->Nat) (out:List One),(∃ ls,aN h C rs up out = .part ls/\out.length<aH h rs)\/(∃ ls,aN h C rs up out = .full ls/\out.length=aH h rs)\/(∃ ls e p,aN h C rs up out = .bad ls e p)
 | [],up,[]=>Or.inr (Or.inl ⟨[],by rw[aN],rfl⟩)
 | [],up,x::o=>Or.inr (Or.inr ⟨[],17,x.2,by rw[aN]⟩)
 | (p,k)::rs,up,[]=>Or.inl ⟨[],by rw[aN],by rw[aH];simp;omega⟩
 | (p,k)::rs,up,x::o=>by
  rw[aN];by_cases c4:4<x.1
  ·rw[if_pos c4];exact Or.inr (Or.inr ⟨_,_,_,rfl⟩)
  rw[if_neg c4];by_cases c5:o.length<aL h p
  ·rw[if_pos c5];exact Or.inl ⟨_,rfl,by rw[aH];simp;omega⟩
  rw[if_neg c5];by_cases c6:ly h C p (cy h p k x.1 up o)=true
  ·rw[if_pos c6];exact Or.inr (Or.inr ⟨_,_,_,rfl⟩)
  rw[if_neg c6];have hl:(o.drop (aL h p)).length=o.length - aL h p:=by simp
  rcases Dw h C rs (cy h p k x.1 up o) (o.drop (aL h p)) with ⟨ls,e1,e2⟩ | ⟨ls,e1,e2⟩ | ⟨ls,e,q,e1⟩
  ·rw[e1];exact Or.inl ⟨_,rfl,by rw[aH];simp at e2 ⊢;omega⟩
  ·rw[e1];exact Or.inr (Or.inl ⟨_,rfl,by rw[aH];simp at e2 ⊢;omega⟩)
  ·rw[e1];exact Or.inr (Or.inr ⟨_,_,_,rfl⟩)
theorem fe.err {r:Rw} {out:List One} {p e:Nat} (h:fe r out p e):(cR r out).2=e/\e≠0:=by
 obtain ⟨h0,pre,x,post,r1,rfl,h1,h2⟩:=h;refine ⟨?_,h0⟩;rw[pP,h1];show (cR r1 ((x,p)::post)).2=e
 rw[cR,if_neg (by show ¬ (r1.take x).2=0;rw[h2];exact h0)];exact h2
theorem BJ {r:Rw} {out:List One} {p e p' e':Nat} (h:fe r out p e) (k:fe r out p' e'):e=e'/\p=p':=by
 refine ⟨by rw[<- h.err.1,<- k.err.1],?_⟩;obtain ⟨h0,pre,x,post,r1,rfl,h1,h2⟩:=h;obtain ⟨k0,pre',x',post',r1',eq,k1,k2⟩:=k;have key:∀ (a b:List One) (u v:One) (c d:List One) (q q':Rw),a++u::c=b++v::d->cR r a=(q,0)->(q.take u.1).2≠0->cR r b=(q',0)->¬ a.length<b.length:=by
  intro a b u v c d q q' e1 e2 e3 e4 hl;have t1:b.take (a.length+1)=a++[u]:=by
   have:(b++v::d).take (a.length+1)=b.take (a.length+1):=by rw[List.take_append_of_le_length (by omega)]
   rw[<- this,<- e1,List.take_append];simp;exact List.take_of_length_le (by omega)
  have t2:b=(a++[u])++b.drop (a.length+1):=by rw[<- t1,List.take_append_drop]
  rw[t2,pP,pO e2,if_neg e3] at e4;rw[if_neg e3] at e4;rw[e4] at e3;exact e3 rfl
 have l1:=key pre pre' (x,p) (x',p') post post' r1 r1' eq h1 (by rw[h2];exact h0) k1;have l2:=key pre' pre (x',p') (x,p) post' post r1' r1 eq.symm k1 (by rw[k2];exact k0) h1;have l3:pre.length=pre'.length:=by omega
 have:=List.append_inj eq l3
 have e:=this.2;simp at e;exact e.1.2
theorem A9 {r0:Rw} {out:List One} {dn sm:Bool} {er at' en e p e' p':Nat} (h:Vd r0 out dn sm er at' en e p) (k:Vd r0 out dn sm er at' en e' p'):e=e'/\p=p':=by
 rcases h with h | ⟨r,h1,h2⟩
 ·rcases k with k | ⟨r',k1,k2⟩
  ·exact BJ h k
  ·have:=h.err;rw[k1] at this;exact absurd this.1.symm this.2
 ·rcases k with k | ⟨r',k1,k2⟩
  ·have:=k.err;rw[h1] at this;exact absurd this.1.symm this.2
  ·rw[h1] at k1
   obtain rfl:r=r':=by injection k1
   rcases h2 with ⟨a,b,c,d,f⟩ | ⟨a,b,c⟩
   ·rcases k2 with ⟨a',b',c',d',f'⟩ | ⟨a',b',c'⟩
    ·exact ⟨by rw[d,d'],by rw[f,f']⟩
    ·exact absurd ⟨a,b,c⟩ a'
   ·rcases k2 with ⟨a',b',c',d',f'⟩ | ⟨a',b',c'⟩
    ·exact absurd ⟨a',b',c'⟩ a
    ·exact ⟨by rw[b,b'],by rw[c,c']⟩
def ofV (im:ImR) (dn sm:Bool) (er at' en:Nat):Nat × Nat:=
 match im with
 | .inl (_,e,p)=>(e,p)
 | .inr (.inl _)=>if (dn && sm)=true then (18,en) else (er,at')
 | .inr (.inr _)=>(er,at')
theorem LP {h:Hd} {C:Nat} (hD:okD h.D) (hb:1<=bG h) (up:Nat->Nat) (out:List One) (dn sm:Bool) (er at' en:Nat) :
  Vd (Rw.start h C) out dn sm er at' en (ofV (aN h C (az h (aF h.L) 0) up out) dn sm er at' en).1 (ofV (aN h C (az h (aF h.L) 0) up out) dn sm er at' en).2:=by
 have I:=Ce hD hb _ _ _ up out (Nat.le_refl _) (vH h C up);generalize aN h C (az h (aF h.L) 0) up out=im at I;cases im using ImR.cs with
 | bad ls e p=>exact Or.inl I
 | part ls=>
  obtain ⟨r',i1,i2⟩:=I;refine Or.inr ⟨r',i1,?_⟩;unfold ofV;by_cases c:(dn && sm)=true
  ·rw[if_pos c]
   simp at c;exact Or.inl ⟨c.1,c.2,i2,rfl,rfl⟩
  ·rw[if_neg c]
   refine Or.inr ⟨?_,rfl,rfl⟩;rintro ⟨a,b,_⟩;exact c (by rw[a,b];rfl)
 | full ls=>
  obtain ⟨r',i1,i2⟩:=I;refine Or.inr ⟨r',i1,Or.inr ⟨?_,rfl,rfl⟩⟩;rw[i2];rintro ⟨_,_,q⟩;cases q
theorem Gf (h:Hd) (p k:Nat):aH h (fC h p k)=(fL h p - k)*(1+aL h p):=by
 have:∀ n k,aH h ((List.range' k n).map fun j=>(p,j))=n*(1+aL h p):=by
  intro n
  induction n with
  | zero=>intro k;simp [aH]
  | succ n ih=>intro k;rw[List.range'_succ,List.map_cons,aH,ih,Nat.succ_mul];show 1+aL h p+_=_;omega
 exact this _ _
theorem wU {f s m n:Nat} (h:m<=n):bz f s m<=bz f s n:=by
 unfold bz;by_cases c:m<=f
 ·rw[if_pos c];exact Nat.zero_le _
 ·rw[if_neg c,if_neg (by omega)]
  have:(m - f - 1) / s<=(n - f - 1) / s:=Nat.div_le_div_right (by omega)
  omega
theorem IR {h:Hd} (hD:h.D<=16):bG h<=64:=Nat.mul_le_mul (ob _) hD
theorem LM {h:Hd} (hW:h.W<=16) (hH:h.H<=16) (hD:h.D<=16) (p:Nat):aH h (if 0<bY h p then fC h p 0 else [])<=bz (aK h.L p).rf (aK h.L p).rs 16*(1+(bz (aK h.L p).cf (aK h.L p).cs 16*64+7) / 8):=by
 split
 ·rw[Gf]
  refine Nat.mul_le_mul ?_ ?_
  ·show fL h p - 0<=_
   exact wU hH
  ·have h1:bY h p*bG h<=bz (aK h.L p).cf (aK h.L p).cs 16*64:=Nat.mul_le_mul (wU hW) (IR hD)
   unfold aL
   have:=Nat.div_le_div_right (c:=8) (show bY h p*bG h+7<=bz (aK h.L p).cf (aK h.L p).cs 16*64+7 by omega)
   omega
 ·exact Nat.zero_le _
theorem Lu {h:Hd} (hW:h.W<=16) (hH:h.H<=16) (hD:h.D<=16):aH h (az h (aF h.L) 0)<=2078:=by
 have P:=LM hW hH hD;by_cases c:h.L=1
 ·rw[c] at P
  have e:aF h.L=7:=by rw[c];rfl
  rw[e];simp only [az,pN,List.append_nil];have p0:aH h (if 0<bY h 0 then fC h 0 0 else [])<=_:=P 0;have p1:aH h (if 0<bY h (0+1) then fC h (0+1) 0 else [])<=_:=P 1;have p2:aH h (if 0<bY h (0+1+1) then fC h (0+1+1) 0 else [])<=_:=P 2;have p3:aH h (if 0<bY h (0+1+1+1) then fC h (0+1+1+1) 0 else [])<=_:=P 3;have p4:aH h (if 0<bY h (0+1+1+1+1) then fC h (0+1+1+1+1) 0 else [])<=_:=P 4;have p5:aH h (if 0<bY h (0+1+1+1+1+1) then fC h (0+1+1+1+1+1) 0 else [])<=_:=P 5;have p6:aH h (if 0<bY h (0+1+1+1+1+1+1) then fC h (0+1+1+1+1+1+1) 0 else [])<=_:=P 6;have k0:bz (aK 1 0).rf (aK 1 0).rs 16*(1+(bz (aK 1 0).cf (aK 1 0).cs 16*64+7) / 8)=34:=by decide
  have k1:bz (aK 1 1).rf (aK 1 1).rs 16*(1+(bz (aK 1 1).cf (aK 1 1).cs 16*64+7) / 8)=34:=by decide
  have k2:bz (aK 1 2).rf (aK 1 2).rs 16*(1+(bz (aK 1 2).cf (aK 1 2).cs 16*64+7) / 8)=66:=by decide
  have k3:bz (aK 1 3).rf (aK 1 3).rs 16*(1+(bz (aK 1 3).cf (aK 1 3).cs 16*64+7) / 8)=132:=by decide
  have k4:bz (aK 1 4).rf (aK 1 4).rs 16*(1+(bz (aK 1 4).cf (aK 1 4).cs 16*64+7) / 8)=260:=by decide
  have k5:bz (aK 1 5).rf (aK 1 5).rs 16*(1+(bz (aK 1 5).cf (aK 1 5).cs 16*64+7) / 8)=520:=by decide
  have k6:bz (aK 1 6).rf (aK 1 6).rs 16*(1+(bz (aK 1 6).cf (aK 1 6).cs 16*64+7) / 8)=1032:=by decide
  rw[k0] at p0;rw[k1] at p1;rw[k2] at p2;rw[k3] at p3;rw[k4] at p4;rw[k5] at p5;rw[k6] at p6;have z:aH h []=0:=rfl;omega
 ·have e:aF h.L=1:=by unfold aF;rw[if_neg c]
  have e2:aK h.L 0=⟨0,1,1,0,1,1⟩:=by unfold aK;rw[if_neg (fun q=>c q.1)]
  rw[e];simp only [az,pN,List.append_nil];have p0:=P 0;rw[e2] at p0;have k0:bz 0 1 16*(1+(bz 0 1 16*64+7) / 8)=2064:=by decide
  have p0':aH h (if 0<bY h 0 then fC h 0 0 else [])<=bz 0 1 16*(1+(bz 0 1 16*64+7) / 8):=p0;rw[k0] at p0';have z:aH h []=0:=rfl;omega
theorem Ft {h:Hd} {C:Nat} (hW:h.W<=16) (hH:h.H<=16) (hD:okD h.D) (hb:1<=bG h):Cap (Rw.start h C):=by
 intro out r x h1 h2;have hD16:h.D<=16:=by unfold okD at hD;omega
 have hr:cR (Rw.start h C) (out++[(x,0)])=((r.take x).1,0):=by rw[pO h1,if_pos h2]
 have I:=Ce hD hb _ _ _ (fun _=>0) (out++[(x,0)]) (Nat.le_refl _) (vH h C (fun _=>0));have T:=Lu hW hH hD16;rcases Dw h C (az h (aF h.L) 0) (fun _=>0) (out++[(x,0)]) with ⟨ls,e1,e2⟩ | ⟨ls,e1,e2⟩ | ⟨ls,e,q,e1⟩
 ·simp at e2;omega
 ·simp at e2;omega
 ·rw[e1] at I
  have:=I.err
  rw[hr] at this;exact absurd this.1.symm this.2
end Go.Proofs.YtgooinallljbpaaGreatDoor
namespace Px
theorem Jp (z d:List One) (i:Nat) (h:i<z.length):vAt (z++d) i=vAt z i:=by
 unfold vAt;rw[List.getD_eq_getElem?_getD,List.getD_eq_getElem?_getD,List.getElem?_append_left h]
theorem JR (z d:List One) (i:Nat) (h:i<z.length):pAt (z++d) i=pAt z i:=by
 unfold pAt;rw[List.getD_eq_getElem?_getD,List.getD_eq_getElem?_getD,List.getElem?_append_left h]
theorem xz (z d:List One) (i:Nat) (h:i<8*z.length):aZ (z++d) i=aZ z i:=by
 unfold aZ;rw[Jp z d _ (by omega)]
theorem xe (z d:List One) (a n:Nat) (h:a+n<=8*z.length):ab (z++d) a n=ab z a n:=by
 induction n with
 | zero=>rfl
 | succ n ih=>rw[ab,ab,ih (by omega),xz z d _ (by omega)]
theorem vt (z d:List One) (a n:Nat) (h:a+n<=8*z.length):msb (z++d) a n=msb z a n:=by
 induction n with
 | zero=>rfl
 | succ n ih=>rw[msb,msb,ih (by omega),xz z d _ (by omega)]
theorem Ab (z d:List One) (a:Nat) (h0:0<z.length) (h:a<=8*z.length):ay (z++d) a=ay z a:=by
 unfold ay;rw[JR z d _ (by omega)]
theorem wX {z d:List One} {a:Nat} {l:List Nat} {n:Nat} (h:a+n<=8*z.length) (k:cY z a l n):cY (z++d) a l n:=fun m h1 h2=>by
 rw[vt z d a m (by omega)];exact k m h1 h2
theorem Bx {z d:List One} {a:Nat} {l:List Nat} {c n:Nat} (k:bK z a l c n):bK (z++d) a l c n:=by
 obtain ⟨h1,h2,h3,h4,h5,h6⟩:=k;refine ⟨h1,by simp;omega,wX (by omega) h3,h4,?_,?_⟩
 ·rw[vt z d a n h2];exact h5
 ·rw[vt z d a n h2];exact h6
theorem Step.pre {z d:List One} {a b:Nat} {s t:St} (h0:0<z.length) (k:Step z a s b t):Step (z++d) a s b t:=by
 cases k using Px.Step.cs with
 | num hi hn hr=>
  refine Step.num hi (by simp;omega) ?_;rw[xe z d a _ hn,Ab z d _ h0 hn];exact hr
 | sym hi hg hr=>
  refine Step.sym hi (Bx hg) ?_;rw[Ab z d _ h0 hg.2.1];exact hr
theorem Run.pre {z d:List One} {a b:Nat} {s t:St} (h0:0<z.length) (k:Run z a s b t):Run (z++d) a s b t:=by
 induction k using Px.Run.cs with
 | refl=>exact .refl _ _
 | tail _ q ih=>exact .tail ih (q.pre h0)
end Px
namespace Go.Proofs.YtgooinallljbpaaGreatDoor
open Go.RowKit Px
set_option linter.unusedSimpArgs false
set_option linter.unusedVariables false
theorem Under.pre {z d:List One} {a i:Nat} {s:St} {it:Px.Item} (hi:i<=8*z.length) (ha:a<=i) (h:Under z a i s it):Under (z++d) a i s it:=by
 cases it using Px.Item.cs with
 | num n=>obtain ⟨h1,h2,h3⟩:=h;exact ⟨h1,h2,by rw[xe z d a _ (by omega)];exact h3⟩
 | code l=>obtain ⟨h1,h2,h3⟩:=h;exact ⟨wX (by omega) h1,by rw[vt z d a _ (by omega)];exact h2,h3⟩
 | none=>trivial
theorem SK.pre {r0:Rw} {z d:List One} {k:Nat} {s:St} {r:Rw} (h0:0<z.length) (hk:k<=z.length) (h:SK r0 z k s r):SK r0 (z++d) k s r:=by
 obtain ⟨⟨a,t,q⟩,w⟩:=h;exact ⟨⟨a,t,q.run.pre h0,q.le,q.cm,q.ph,q.und.pre (by omega) q.le,q.sum,q.fin⟩,w⟩
def fi (s:St) (r:Rw):List Nat->(St × Rw × Nat)
 | []=>(s,r,0)
 | x::l=>if rZ s r x=0 then fi (takeB s r x).1 (takeB s r x).2.1 l else ((takeB s r x).1,(takeB s r x).2.1,rZ s r x)
def stN (s:St) (r:Rw):List Nat->Nat
 | []=>0
 | x::l=>if rZ s r x=0 then stN (takeB s r x).1 (takeB s r x).2.1 l+1 else 0
theorem Cq {z:List One} {k:Nat} (hk:k<z.length):(z.drop k).map Prod.fst=vAt z k::(z.drop (k+1)).map Prod.fst:=by
 rw[List.drop_eq_getElem_cons hk,List.map_cons]
 congr 1
 unfold vAt;rw[List.getD_eq_getElem?_getD,List.getElem?_eq_getElem hk];rfl
theorem sC {r0:Rw} (hcap:Cap r0) (z:List One):∀ (m k:Nat) (s:St) (r:Rw),k+m=z.length->SK r0 z k s r ->
  ((fi s r ((z.drop k).map Prod.fst)).2.2=0/\SK r0 z z.length (fi s r ((z.drop k).map Prod.fst)).1 (fi s r ((z.drop k).map Prod.fst)).2.1) \/
  ((fi s r ((z.drop k).map Prod.fst)).2.2≠0/\stN s r ((z.drop k).map Prod.fst)<m/\∀ out dn sm er at' en,se z out dn sm er at' en->Vd r0 out dn sm er at' en (fi s r ((z.drop k).map Prod.fst)).2.2 (pAt z (k+stN s r ((z.drop k).map Prod.fst))))
 | 0,k,s,r,hk,h=>by
  have:z.drop k=[]:=List.drop_eq_nil_iff.2 (by omega)
  rw[this];have e:k=z.length:=by omega
  subst e;exact Or.inl ⟨rfl,h⟩
 | m+1,k,s,r,hk,h=>by
  have hlt:k<z.length:=by omega
  rw[Cq hlt,fi,stN];rcases zO hcap hlt h with ⟨e1,e2,e3⟩ | ⟨e1,e2⟩
  ·rw[if_pos e1,if_pos e1]
   rcases sC hcap z m (k+1) _ _ (by omega) e3 with q | ⟨q1,q2,q3⟩
   ·exact Or.inl q
   ·refine Or.inr ⟨q1,by omega,fun out dn sm er at' en hr => ?_⟩
    have:=q3 out dn sm er at' en hr
    rw[show k+1+stN (takeB s r (vAt z k)).1 (takeB s r (vAt z k)).2.1 ((z.drop (k+1)).map Prod.fst)=k+(stN (takeB s r (vAt z k)).1 (takeB s r (vAt z k)).2.1 ((z.drop (k+1)).map Prod.fst)+1) by omega] at this;exact this
  ·rw[if_neg e1,if_neg e1]
   exact Or.inr ⟨e1,by omega,e2⟩
def hd0:Hd:=⟨0,0,0,0,0⟩
def rwN:Rw:=⟨hd0,0,0,0,0,0,0,0,0,fun _=>0,fun _=>0,fun _=>false,fun _=>0⟩
def tl0:Tl:=⟨fun _=>0,fun _=>0,0,0⟩
def rd0:Rd:=⟨0,0,0,0,0,0,hd0,fun _=>0,tl0,st0 0,rwN,false,false,false,false⟩
def dc0:Dc:=⟨rd0,0,0,0⟩
def dcA:List Value:=[.int .i64 0,.int .u32 0,.int .u32 0,.int .u32 0,.int .u32 0,.int .u32 0,.int .i64 0,.int .i64 0,.int .i64 0,.int .i64 0,.int .i64 0]
def dcB:List Value:=List.replicate 1037 (.int .u8 0)
def dcC:List Value:=[.int .i64 0,.int .i64 0]
def dcD:List Value:=stH++(stT++[.int .i64 0,.int .u32 0])
def dcE:List Value:=List.replicate 12 (.int .i64 0)++mD
def dcF:List Value:=[.bool false,.bool false,.bool false,.bool false,.int .i64 0,.int .i64 0,.int .i64 0]
theorem yU:Tryz.zeroCells74.toList=dcA++(dcB++(dcC++(dcD++(dcE++dcF)))):=by kernel_rfl
theorem vx:dcD.length=3351:=by
 unfold dcD;rw[List.length_append,List.length_append,rM,show stH.length=10 from rfl];simp only [List.length_cons,List.length_nil]
theorem yA:dcE.length=1549:=by unfold dcE;rw[List.length_append,vK,List.length_replicate]
theorem um:dcB.length=1037:=List.length_replicate ..
theorem Gu:Tryz.zeroCells74.size=5957:=by
 rw[<- Array.length_toList,yU,List.length_append,List.length_append,List.length_append,List.length_append,List.length_append,um,vx,yA,show dcA.length=11 from rfl,show dcC.length=2 from rfl,show dcF.length=7 from rfl]
theorem MY:RwV (fun j=>dcE.getD j undef) 0 rwN:=by
 have h12:(List.replicate 12 (Value.int .i64 0)).length=12:=List.length_replicate ..;have g:∀ i,i<12->dcE.getD i undef = .int .i64 0:=fun i hi=>da _ _ _ _ hi
 have t:∀ i j v,i=12+j->mD.getD j undef=v->dcE.getD i undef=v:=fun i j v hi e=>by rw[hi];exact (av _ _ 12 j h12).trans e
 exact ⟨⟨g 0 (by omega),g 1 (by omega),g 2 (by omega),g 3 (by omega),g 4 (by omega)⟩,g 5 (by omega),g 6 (by omega),g 7 (by omega),g 8 (by omega),g 9 (by omega),g 10 (by omega),g 11 (by omega),t 12 0 _ rfl (lM 0 (by omega)),fun i hi=>t _ (1+i) _ (by omega) (lM _ (by omega)),fun i hi=>t _ (129+i) _ (by omega) (lM _ (by omega)),fun i hi=>t _ (257+i) _ (by omega) (wZ _ hi),fun i hi=>t _ (257+(256+i)) _ (by omega) (vJ _ hi)⟩
theorem Ng:DcV (fun i=>Tryz.zeroCells74.getD i undef) 0 dc0:=by
 obtain ⟨L,hL⟩:∃ L,L=Tryz.zeroCells74.toList:=⟨_,rfl⟩;have hc:∀ i,Tryz.zeroCells74.getD i undef=L.getD i undef:=fun i=>by
  rw[hL,Array.getD_eq_getD_getElem?,List.getD_eq_getElem?_getD,Array.getElem?_toList]
 rw[yU] at hL;have e:(fun i=>Tryz.zeroCells74.getD i undef)=fun i=>L.getD i undef:=funext hc
 rw[e];have h11:dcA.length=11:=rfl;have h2:dcC.length=2:=rfl;have A:∀ i v,i<11->dcA.getD i undef=v->L.getD i undef=v:=fun i v hi q=>by rw[hL];exact (fM _ _ i (by rw[h11];exact hi)).trans q
 have B:∀ i,11<=i->i<1048->L.getD i undef = .int .u8 0:=fun i h1 h2=>by
  rw[hL,show i=11+(i - 11) from by omega];exact (av _ _ 11 _ h11).trans (da _ _ _ _ (by omega))
 have C:∀ j v,j<2->dcC.getD j undef=v->L.getD (1048+j) undef=v:=fun j v hj q=>by
  rw[hL,show 1048+j=11+(1037+j) from by omega];exact (av _ _ 11 _ h11).trans ((av _ _ 1037 _ um).trans ((fM _ _ j (by rw[h2];exact hj)).trans q))
 have D:∀ j,j<3351->L.getD (1050+j) undef=dcD.getD j undef:=fun j hj=>by
  rw[hL,show 1050+j=11+(1037+(2+j)) from by omega];exact (av _ _ 11 _ h11).trans ((av _ _ 1037 _ um).trans ((av _ _ 2 _ h2).trans (fM _ _ j (by rw[vx];exact hj))))
 have E:∀ j,j<1549->L.getD (4401+j) undef=dcE.getD j undef:=fun j hj=>by
  rw[hL,show 4401+j=11+(1037+(2+(3351+j))) from by omega];exact (av _ _ 11 _ h11).trans ((av _ _ 1037 _ um).trans ((av _ _ 2 _ h2).trans ((av _ _ 3351 _ vx).trans (fM _ _ j (by rw[yA];exact hj)))))
 have F:∀ j v,dcF.getD j undef=v->L.getD (5950+j) undef=v:=fun j v q=>by
  rw[hL,show 5950+j=11+(1037+(2+(3351+(1549+j)))) from by omega];exact (av _ _ 11 _ h11).trans ((av _ _ 1037 _ um).trans ((av _ _ 2 _ h2).trans ((av _ _ 3351 _ vx).trans ((av _ _ 1549 _ yA).trans q))))
 clear hL e hc;have VS:StV (fun i=>L.getD i undef) 1050 (st0 0):=by
  have h:=(Gs 0).shift (fun i=>L.getD i undef) 1050;exact h.congr (fun i h1 h2=>by
   obtain ⟨j,rfl⟩:∃ j,i=1050+j:=⟨i - 1050,by omega⟩;show L.getD (1050+j) undef=_
   rw[ff (by omega),D j (by omega)]
   rfl)
 have VR:RwV (fun i=>L.getD i undef) 4401 rwN:=by
  have h:=MY.shift (fun i=>L.getD i undef) 4401;exact h.congr (fun i h1 h2=>by
   obtain ⟨j,rfl⟩:∃ j,i=4401+j:=⟨i - 4401,by omega⟩;show L.getD (4401+j) undef=_
   rw[ff (by omega),E j (by omega)])
 refine ⟨⟨A 0 _ (by omega) rfl,A 1 _ (by omega) rfl,A 2 _ (by omega) rfl,A 3 _ (by omega) rfl,A 4 _ (by omega) rfl,A 5 _ (by omega) rfl,⟨A 6 _ (by omega) rfl,A 7 _ (by omega) rfl,A 8 _ (by omega) rfl,A 9 _ (by omega) rfl,A 10 _ (by omega) rfl⟩,fun i hi=>B _ (by omega) (by omega),⟨fun i hi=>B _ (by omega) (by omega),fun i hi=>B _ (by omega) (by omega),C 0 _ (by omega) rfl,C 1 _ (by omega) rfl⟩,?_,?_,F 0 _ rfl,F 1 _ rfl,F 2 _ rfl,F 3 _ rfl⟩,F 4 _ rfl,F 5 _ rfl,F 6 _ rfl⟩
 ·exact VS
 ·exact VR
theorem M7 (w:World) :
  Calls Tryz.prog 8 #[] w fun e w'=>e = .returned (.pointer (some ⟨w.heap.size,0,none⟩))/\∃ c,Blk w' w.heap.size 5957 c/\DcV c 0 dc0/\Kept w w':=by
 have B:=Blk.new w Tryz.zeroCells74 74 5957 Gu;replace B:Hid _:=B;go_enter Tryz.func8,Tryz.ntmps8;go_wp2;go_ret;exact ⟨rfl,_,B.out,Ng,Below.alloc (Below.refl _ _) (Nat.le_refl _) _⟩
theorem L4:FU rd0:=⟨by decide,by decide,by decide,by decide,by decide⟩
theorem take1 {s:Rd} (h:s.part=1) (x:Nat):s.take x=s.takeLength x:=by unfold Rd.take;rw[if_neg (by omega),if_pos h]
theorem take2 {s:Rd} (h:s.part=2) (x:Nat):s.take x=s.takeType x:=by unfold Rd.take;rw[if_neg (by omega),if_neg (by omega),if_pos h]
theorem take3 {s:Rd} (h:s.part=3) (x:Nat):s.take x=s.takeData x:=by unfold Rd.take;rw[if_neg (by omega),if_neg (by omega),if_neg (by omega),if_pos h]
theorem zL {s:Rd} (h:s.part=4) (x:Nat):s.take x=s.takeSum x:=by unfold Rd.take;rw[if_neg (by omega),if_neg (by omega),if_neg (by omega),if_neg (by omega),if_pos h]
def lnS (s:Rd) (n:Nat):Rd:={ s with part:=2,taken:=0,number:=0,length:=n,sum:=au }
def tyS (s:Rd) (T S:Nat):Rd:={ s with sum:=S,number:=T,taken:=4,ctype:=T }
theorem HJ {s:Rd} {x:Nat} (h:s.ctype=aY):s.keep x=({ s with raw:=upd s.raw s.taken x },0):=by unfold Rd.keep;rw[if_pos h]
theorem Ia {s:Rd} {x:Nat} (h:s.ctype=cq):s.keep x=({ s with tl:={ s.tl with pal:=upd s.tl.pal s.taken x } },0):=by unfold Rd.keep;rw[if_neg (by rw[h];decide),if_pos h]
theorem Ib {s:Rd} {x:Nat} (h:s.ctype=bZ):s.keep x=({ s with tl:={ s.tl with clear:=upd s.tl.clear s.taken x } },0):=by unfold Rd.keep;rw[if_neg (by rw[h];decide),if_neg (by rw[h];decide),if_pos h]
theorem Ep {s:Rd} {x:Nat} (h:s.ctype=aJ):s.keep x=s.takeStream x:=by unfold Rd.keep;rw[if_neg (by rw[h];decide),if_neg (by rw[h];decide),if_neg (by rw[h];decide),if_pos h]
def ak (s:Rd):List Nat->Rd × Nat × Nat
 | []=>(s,0,0)
 | x::l=>if (s.take x).2=0 then ((ak (s.take x).1 l).1,(ak (s.take x).1 l).2.1,(ak (s.take x).1 l).2.2+1) else ((s.take x).1,(s.take x).2,0)
def shf (k:Nat) (q:Rd × Nat × Nat):Rd × Nat × Nat:=(q.1,q.2.1,q.2.2+k)
theorem ud (l m:List Nat):∀ s,ak s (l++m)=if (ak s l).2.1=0 then shf l.length (ak (ak s l).1 m) else ak s l:=by
 induction l with
 | nil=>intro s;rfl
 | cons x l ih=>
  intro s;rw[List.cons_append,ak,ak];by_cases h:(s.take x).2=0
  ·rw[if_pos h,if_pos h,ih]
   by_cases k:(ak (s.take x).1 l).2.1=0
   ·rw[if_pos k,if_pos k];rfl
   ·rw[if_neg k,if_neg k]
  ·rw[if_neg h,if_neg h,if_neg h]
theorem vR (l:List Nat):∀ s,(ak s l).2.1=0->(ak s l).2.2=l.length:=by
 induction l with
 | nil=>intro s _;rfl
 | cons x l ih=>
  intro s h;rw[ak] at h ⊢;by_cases k:(s.take x).2=0
  ·rw[if_pos k] at h ⊢
   show (ak (s.take x).1 l).2.2+1=_
   rw[ih _ h];rfl
  ·rw[if_neg k] at h;exact absurd h k
theorem DH (l:List Nat):∀ (s:Rd) (c a:Nat),(⟨s,c,0,a⟩:Dc).feed l=⟨(ak s l).1,c+(ak s l).2.2,(ak s l).2.1,if (ak s l).2.1=0 then a else c+(ak s l).2.2⟩:=by
 induction l with
 | nil=>intro s c a;rfl
 | cons x l ih=>
  intro s c a;show ((⟨s,c,0,a⟩:Dc).one x).feed l=_
  unfold Dc.one;rw[if_neg (show ¬ ((0:Nat)≠0) by decide)];rw[ak];by_cases h:(s.take x).2=0
  ·rw[if_neg (by rw[h];decide),if_pos h]
   show (⟨(s.take x).1,c+1,0,a⟩:Dc).feed l=_
   rw[ih];show (⟨_,c+1+_,_,if _ then a else c+1+_⟩:Dc)=⟨_,c+(_+1),_,if _ then a else c+(_+1)⟩
   rw[show c+1+(ak (s.take x).1 l).2.2=c+((ak (s.take x).1 l).2.2+1) by omega]
  ·rw[if_pos h,if_neg h]
   show (⟨(s.take x).1,c,(s.take x).2,c⟩:Dc).feed l=_
   have:∀ (m:List Nat) (d:Dc),d.err≠0->d.feed m=d:=by
    intro m
    induction m with
    | nil=>intro d _;rfl
    | cons y m im=>
     intro d hd;show (d.one y).feed m=d
     have e:d.one y=d:=by unfold Dc.one;rw[if_pos hd]
     rw[e];exact im d hd
   rw[this _ _ h];show _=(⟨(s.take x).1,c+0,(s.take x).2,if (s.take x).2=0 then a else c+0⟩:Dc)
   rw[if_neg h];rfl
def n4 (a b c d:Nat):Nat:=((a*256+b)*256+c)*256+d
structure lF (s s':Rd):Prop where
 hd:s'.hd=s.hd
 tl:s'.tl=s.tl
 st:s'.st=s.st
 rw:s'.rw=s.rw
 sp:s'.sp=s.sp
 sc:s'.sc=s.sc
 sd:s'.sd=s.sd
 dov:s'.dov=s.dov
theorem lF.refl (s:Rd):lF s s:=⟨rfl,rfl,rfl,rfl,rfl,rfl,rfl,rfl⟩
theorem lF.trans {a b c:Rd} (h:lF a b) (k:lF b c):lF a c:=⟨k.hd.trans h.hd,k.tl.trans h.tl,k.st.trans h.st,k.rw.trans h.rw,k.sp.trans h.sp,k.sc.trans h.sc,k.sd.trans h.sd,k.dov.trans h.dov⟩
theorem aS {s a:Rd} {x:Nat} (e:s.take x=(a,0)) (l:List Nat):ak s (x::l)=shf 1 (ak a l):=by
 rw[ak,e];rfl
theorem kU {s a:Rd} {x e:Nat} (h:s.take x=(a,e)) (he:e≠0) (l:List Nat):ak s (x::l)=(a,e,0):=by
 rw[ak,h];exact if_neg he
theorem yu (p:Nat) (hp:p=1\/p=2\/p=4):∀ (l:List Nat) (s:Rd),s.part=p->s.taken+l.length<4->∃ s',ak s l=(s',0,l.length)/\lF s s'/\s'.part=p
 | [],s,h,_=>⟨s,rfl,lF.refl s,h⟩
 | x::l,s,h,hl=>by
  simp only [List.length_cons] at hl;have key:∃ a,s.take x=(a,0)/\lF s a/\a.part=p/\a.taken=s.taken+1:=by
   rcases hp with rfl | rfl | rfl
   ·exact ⟨s.num x,by rw[take1 h];unfold Rd.takeLength;rw[if_pos (by omega)],⟨rfl,rfl,rfl,rfl,rfl,rfl,rfl,rfl⟩,h,rfl⟩
   ·exact ⟨s.seen x,by rw[take2 h];unfold Rd.takeType;rw[if_pos (by omega)],⟨rfl,rfl,rfl,rfl,rfl,rfl,rfl,rfl⟩,h,rfl⟩
   ·exact ⟨s.num x,by rw[zL h];unfold Rd.takeSum;rw[if_pos (by omega)],⟨rfl,rfl,rfl,rfl,rfl,rfl,rfl,rfl⟩,h,rfl⟩
  obtain ⟨a,e,k1,k2,k3⟩:=key;obtain ⟨s',e2,k4,k5⟩:=yu p hp l a k2 (by omega);refine ⟨s',?_,k1.trans k4,k5⟩;rw[aS e,e2];rfl
theorem Hu {s:Rd} {a b c d:Nat} {r:List Nat} (h:s.part=1) (ht:s.taken=0) (hn:s.number=0) :
  ak s (a::b::c::d::r)=if 2147483648<=n4 a b c d then ((((s.num a).num b).num c).num d,2,3) else shf 4 (ak (lnS s (n4 a b c d)) r):=by
 have e1:s.take a=(s.num a,0):=by rw[take1 h];unfold Rd.takeLength;rw[if_pos (by omega)]
 have e2:(s.num a).take b=((s.num a).num b,0):=by rw[take1 (s:=s.num a) h];unfold Rd.takeLength;rw[if_pos (by show s.taken+1+1≠4;omega)]
 have e3:((s.num a).num b).take c=(((s.num a).num b).num c,0):=by rw[take1 (s:=(s.num a).num b) h];unfold Rd.takeLength;rw[if_pos (by show s.taken+1+1+1≠4;omega)]
 have eN:(((s.number*256+a)*256+b)*256+c)*256+d=n4 a b c d:=by rw[hn];unfold n4;omega
 have e4:(((s.num a).num b).num c).take d=if 2147483648<=n4 a b c d then ((((s.num a).num b).num c).num d,2) else (lnS s (n4 a b c d),0):=by
  rw[take1 (s:=((s.num a).num b).num c) h];unfold Rd.takeLength;rw[if_neg (by show ¬ (s.taken+1+1+1+1≠4);omega)];have eN':(((s.num a).num b).num c).number*256+d=n4 a b c d:=eN;rw[eN'];by_cases q:2147483648<=n4 a b c d
  ·rw[if_pos q,if_pos q]
  ·rw[if_neg q,if_neg q];rfl
 rw[aS e1,aS e2,aS e3];by_cases q:2147483648<=n4 a b c d
 ·rw[if_pos q] at e4
  rw[kU e4 (by decide),if_pos q];rfl
 ·rw[if_neg q] at e4
  rw[aS e4,if_neg q];rfl
theorem Jr {s:Rd} {a b c d:Nat} {r:List Nat} (h:s.part=2) (ht:s.taken=0) (hn:s.number=0) :
  ak s (a::b::c::d::r)=if (tyS s (n4 a b c d) (bE s.sum [a,b,c,d])).checkType≠0 then (tyS s (n4 a b c d) (bE s.sum [a,b,c,d]),(tyS s (n4 a b c d) (bE s.sum [a,b,c,d])).checkType,3)
   else shf 4 (ak ((tyS s (n4 a b c d) (bE s.sum [a,b,c,d])).note.enter (if (tyS s (n4 a b c d) (bE s.sum [a,b,c,d])).note.length=0 then 4 else 3)) r):=by
 have e1:s.take a=(s.seen a,0):=by rw[take2 h];unfold Rd.takeType;rw[if_pos (by omega)]
 have e2:(s.seen a).take b=((s.seen a).seen b,0):=by rw[take2 (s:=s.seen a) h];unfold Rd.takeType;rw[if_pos (by show s.taken+1+1≠4;omega)]
 have e3:((s.seen a).seen b).take c=(((s.seen a).seen b).seen c,0):=by rw[take2 (s:=(s.seen a).seen b) h];unfold Rd.takeType;rw[if_pos (by show s.taken+1+1+1≠4;omega)]
 have eT:(((s.seen a).seen b).seen c).typed d=tyS s (n4 a b c d) (bE s.sum [a,b,c,d]):=by
  have eN:(((s.number*256+a)*256+b)*256+c)*256+d=n4 a b c d:=by rw[hn];unfold n4;omega
  show ({ s with sum:=cB (cB (cB (cB s.sum a) b) c) d,number:=(((s.number*256+a)*256+b)*256+c)*256+d,taken:=s.taken+1+1+1+1,ctype:=(((s.number*256+a)*256+b)*256+c)*256+d }:Rd)=_
  rw[eN,ht];rfl
 have e4:(((s.seen a).seen b).seen c).take d=if (tyS s (n4 a b c d) (bE s.sum [a,b,c,d])).checkType≠0 then (tyS s (n4 a b c d) (bE s.sum [a,b,c,d]),(tyS s (n4 a b c d) (bE s.sum [a,b,c,d])).checkType)
   else ((tyS s (n4 a b c d) (bE s.sum [a,b,c,d])).note.enter (if (tyS s (n4 a b c d) (bE s.sum [a,b,c,d])).note.length=0 then 4 else 3),0):=by
  rw[take2 (s:=((s.seen a).seen b).seen c) h];unfold Rd.takeType;rw[if_neg (by show ¬ (s.taken+1+1+1+1≠4);omega),eT];by_cases q:(tyS s (n4 a b c d) (bE s.sum [a,b,c,d])).checkType≠0
  ·rw[if_pos q,if_pos q]
  ·rw[if_neg q,if_neg q]
   split<;>rfl
 rw[aS e1,aS e2,aS e3];by_cases q:(tyS s (n4 a b c d) (bE s.sum [a,b,c,d])).checkType≠0
 ·rw[if_pos q] at e4
  rw[kU e4 q,if_pos q];rfl
 ·rw[if_neg q] at e4
  rw[aS e4,if_neg q];rfl
theorem Gl {s:Rd} {a b c d:Nat} {r:List Nat} (h:s.part=4) (ht:s.taken=0) (hn:s.number=0) :
  ak s (a::b::c::d::r)=if n4 a b c d≠bL s.sum then ((((s.num a).num b).num c).num d,6,3)
   else if ((((s.num a).num b).num c).num d).accept.2≠0 then (((((s.num a).num b).num c).num d).accept.1,((((s.num a).num b).num c).num d).accept.2,3)
   else shf 4 (ak (((((s.num a).num b).num c).num d).accept.1.enter (if ((((s.num a).num b).num c).num d).accept.1.ctype=cS then 5 else 1)) r):=by
 have e1:s.take a=(s.num a,0):=by rw[zL h];unfold Rd.takeSum;rw[if_pos (by omega)]
 have e2:(s.num a).take b=((s.num a).num b,0):=by rw[zL (s:=s.num a) h];unfold Rd.takeSum;rw[if_pos (by show s.taken+1+1≠4;omega)]
 have e3:((s.num a).num b).take c=(((s.num a).num b).num c,0):=by rw[zL (s:=(s.num a).num b) h];unfold Rd.takeSum;rw[if_pos (by show s.taken+1+1+1≠4;omega)]
 have eN:(((s.number*256+a)*256+b)*256+c)*256+d=n4 a b c d:=by rw[hn];unfold n4;omega
 have e4:(((s.num a).num b).num c).take d=if n4 a b c d≠bL s.sum then ((((s.num a).num b).num c).num d,6) else if ((((s.num a).num b).num c).num d).accept.2≠0 then ((((s.num a).num b).num c).num d).accept else (((((s.num a).num b).num c).num d).accept.1.enter (if ((((s.num a).num b).num c).num d).accept.1.ctype=cS then 5 else 1),0):=by
  rw[zL (s:=((s.num a).num b).num c) h];unfold Rd.takeSum;rw[if_neg (by show ¬ (s.taken+1+1+1+1≠4);omega)];show (if (((s.number*256+a)*256+b)*256+c)*256+d≠bL s.sum then _ else _)=_
  rw[eN];by_cases q:n4 a b c d≠bL s.sum
  ·rw[if_pos q,if_pos q]
  ·rw[if_neg q,if_neg q]
   by_cases q2:((((s.num a).num b).num c).num d).accept.2≠0
   ·rw[if_pos q2,if_pos q2]
   ·rw[if_neg q2,if_neg q2]
    split<;>rfl
 rw[aS e1,aS e2,aS e3];by_cases q:n4 a b c d≠bL s.sum
 ·rw[if_pos q] at e4
  rw[kU e4 (by decide),if_pos q];rfl
 ·rw[if_neg q] at e4
  rw[if_neg q];by_cases q2:((((s.num a).num b).num c).num d).accept.2≠0
  ·rw[if_pos q2] at e4
   rw[kU (e4.trans (Prod.ext rfl rfl)) q2,if_pos q2];rfl
  ·rw[if_neg q2] at e4
   rw[aS e4,if_neg q2];rfl
structure Fl where
 on:Bool
 hd:Hd
 hasPal:Bool
 hasClear:Bool
 pal:List Nat
 clear:List Nat
 z:List One
 ids:Nat
 over:Bool
 first:Bool
 done:Bool
def Fl.start:Fl:=⟨false,⟨0,0,0,0,0⟩,false,false,[],[],[],0,false,false,false⟩
def Fl.ov (f:Fl) (k:Nat):Bool:=decide (0<f.ids) && decide (k≠aJ) && !f.over
def vi (K:Nat):Nat:=if K=2 then 3 else if K=4 then 2 else if K=6 then 4 else 1
def Fl.begE (f:Fl) (k n:Nat) (dn:Bool):Nat:=
 if tyB k=false then 3
 else if f.first=false then (if k≠aY then 4 else if n≠13 then 5 else 0)
 else if (f.ov k && !dn)=true then 21
 else if k=aY then 4
 else if k=cq then
  (if 0<f.ids\/f.hasPal=true\/f.hasClear=true\/¬ (f.hd.K=2\/f.hd.K=3\/f.hd.K=6) then 4
   else if n=0\/n % 3≠0\/768<n\/(f.hd.K=3/\3*2^f.hd.D<n) then 5 else 0)
 else if k=bZ then
  (if 0<f.ids\/f.hasClear=true\/(f.hd.K=4\/f.hd.K=6)\/(f.hd.K=3/\f.hasPal=false) then 4
   else if f.hd.K=3/\(n=0\/f.pal.length / 3<n) then 5
   else if f.hd.K≠3/\n≠2*vi f.hd.K then 5 else 0)
 else if k=aJ then (if f.over=true\/(f.hd.K=3/\f.hasPal=false) then 4 else 0)
 else if k=cS then (if f.ids=0 then 4 else if n≠0 then 5 else 0)
 else if qb (k / 16777216 % 256) then 3 else 0
def Fl.begF (f:Fl) (k:Nat):Fl:=if f.first=false then { f with first:=true } else if f.ov k=true then { f with over:=true } else f
def kOk (k:Nat):Prop:=k=0\/k=2\/k=3\/k=4\/k=6
structure Ag (s:Rd) (f:Fl):Prop where
 w:f.first=false->s.hd.W=0/\f=Fl.start
 on:f.first=true->s.hd=f.hd/\f.on=true/\s.hd.W≠0/\kOk f.hd.K
 sp:s.sp=f.hasPal
 sc:s.sc=f.hasClear
 sd:s.sd=decide (0<f.ids)
 dov:s.dov=f.over
 col:s.tl.colours=f.pal.length / 3
theorem Ag.same {s t:Rd} {f:Fl} (h:Ag s f) (k:lF s t):Ag t f:=
 ⟨fun e=>by rw[k.hd];exact h.w e,fun e=>by rw[k.hd];exact h.on e,k.sp.trans h.sp,k.sc.trans h.sc,k.sd.trans h.sd,k.dov.trans h.dov,by rw[k.tl];exact h.col⟩
theorem IW {t:Rd} {f:Fl} (h:Ag t f) (hc:t.ctype<4294967296):t.checkType=f.begE t.ctype t.length (decide (t.st.part=10)):=by
 unfold Rd.checkType Fl.begE;by_cases h1:tyB t.ctype=false
 ·rw[if_pos h1,if_pos h1]
 rw[if_neg h1,if_neg h1];cases hf:f.first with
 | false=>
  rw[if_pos (h.w hf).1,if_pos rfl];rfl
 | true=>
  obtain ⟨e1,e2,e3,e5⟩:=h.on hf;rw[if_neg e3,if_neg (show ¬ (true=false) by decide)];have hs:t.short=(f.ov t.ctype && !decide (t.st.part=10)):=by
   unfold Rd.short Fl.ov;rw[h.sd,h.dov];by_cases a:t.st.part=10
   ·rw[decide_eq_true a,decide_eq_false (show ¬ (t.st.part≠10) from fun q=>q a)];simp
   ·rw[decide_eq_false a,decide_eq_true a]
    cases decide (0<f.ids)<;>cases decide (t.ctype≠aJ)<;>cases f.over<;>rfl
  rw[hs];by_cases q:(f.ov t.ctype && !decide (t.st.part=10))=true
  ·rw[if_pos q,if_pos q]
  rw[if_neg q,if_neg q];unfold Rd.checkKind;by_cases c1:t.ctype=aY
  ·rw[if_pos c1,if_pos c1]
  rw[if_neg c1,if_neg c1];by_cases c2:t.ctype=cq
  ·rw[if_pos c2,if_pos c2]
   unfold Rd.checkPalette;rw[h.sd,h.sp,h.sc,e1];unfold kOk at e5;by_cases i0:0<f.ids
   ·rw[if_pos (Or.inl i0),decide_eq_true i0];rfl
   rw[decide_eq_false i0];cases hp:f.hasPal with
   | true=>rw[if_pos (Or.inr (Or.inl rfl))];rfl
   | false=>
    cases hl:f.hasClear with
    | true=>rw[if_pos (Or.inr (Or.inr (Or.inl rfl)))];rfl
    | false=>
     rw[if_neg (show ¬ ((false || false || false)=true) by decide)];by_cases k1:f.hd.K=0\/f.hd.K=4
     ·rw[if_pos k1,if_pos (Or.inr (Or.inr (Or.inr (by omega))))]
     ·have k1n:¬ (0<f.ids\/false=true\/false=true\/¬ (f.hd.K=2\/f.hd.K=3\/f.hd.K=6)):=by
       rintro (a | a | a | a)
       ·exact i0 a
       ·cases a
       ·cases a
       ·exact a (by omega)
      rw[if_neg k1,if_neg k1n];by_cases k2:t.length<3\/768<t.length\/t.length % 3≠0
      ·rw[if_pos k2,if_pos (by omega)]
      ·rw[if_neg k2]
       by_cases k3:f.hd.K=3/\3*2^f.hd.D<t.length
       ·rw[if_pos k3,if_pos (Or.inr (Or.inr (Or.inr k3)))]
       ·rw[if_neg k3,if_neg (by rintro (a | a | a | a);omega;omega;omega;exact k3 a)]
  rw[if_neg c2,if_neg c2];by_cases c3:t.ctype=bZ
  ·rw[if_pos c3,if_pos c3]
   unfold Rd.checkClear Rd.checkAlphas;rw[h.sd,h.sp,h.sc,e1,h.col];by_cases i0:0<f.ids
   ·rw[if_pos (Or.inl i0),decide_eq_true i0];rfl
   rw[decide_eq_false i0];cases hl:f.hasClear with
   | true=>rw[if_pos (Or.inr (Or.inl rfl))];rfl
   | false=>
    rw[if_neg (show ¬ ((false || false)=true) by decide)];rcases e5 with k | k | k | k | k
    ·rw[k];simp [chn,vi,i0]
    ·rw[k];simp [chn,vi,i0]
    ·rw[k]
     cases hp:f.hasPal with
     | false=>simp [i0]
     | true=>
      simp [i0]
      first | done | (congr 1;rw[eq_iff_iff];omega) | omega
    ·rw[k];simp [chn,vi,i0]
    ·rw[k];simp [chn,vi,i0]
  rw[if_neg c3,if_neg c3];by_cases c4:t.ctype=aJ
  ·rw[if_pos c4,if_pos c4]
   unfold Rd.checkData;rw[h.dov,h.sp,e1];cases f.over<;>cases f.hasPal<;>by_cases k:f.hd.K=3<;>simp [k]
  rw[if_neg c4,if_neg c4];by_cases c5:t.ctype=cS
  ·rw[if_pos c5,if_pos c5]
   unfold Rd.checkEnd;rw[h.sd];by_cases i0:f.ids=0
   ·rw[if_pos i0,if_pos (decide_eq_false (by omega))]
   ·rw[if_neg i0,if_neg (by rw[decide_eq_true (by omega)];decide)]
  ·rw[if_neg c5,if_neg c5]
   have:t.ctype / 16777216 % 256=t.ctype / 16777216:=Nat.mod_eq_of_lt (by omega)
   rw[this]
theorem wB (s:Nat) (l:List Nat) (x:Nat):bE s (l++[x])=cB (bE s l) x:=by unfold bE;rw[List.foldl_append];rfl
structure DtA (s0:Rd) (dk:List Nat) (s:Rd):Prop where
 sum:s.sum=bE s0.sum dk
 ctype:s.ctype=s0.ctype
 length:s.length=s0.length
 hd:s.hd=s0.hd
 col:s.tl.colours=s0.tl.colours
 cls:s.tl.clears=s0.tl.clears
 st:s.st=s0.st
 rw:s.rw=s0.rw
 sp:s.sp=s0.sp
 sc:s.sc=s0.sc
 sd:s.sd=s0.sd
 dov:s.dov=s0.dov
 raw:s0.ctype=aY->∀ j,j<dk.length->s.raw j=dk.getD j 0
 pal:s0.ctype=cq->∀ j,j<dk.length->s.tl.pal j=dk.getD j 0
 clr:s0.ctype=bZ->∀ j,j<dk.length->s.tl.clear j=dk.getD j 0
 pal':s0.ctype≠cq->s.tl.pal=s0.tl.pal
 clr':s0.ctype≠bZ->s.tl.clear=s0.tl.clear
theorem DtA.refl (s:Rd):DtA s [] s:=⟨rfl,rfl,rfl,rfl,rfl,rfl,rfl,rfl,rfl,rfl,rfl,rfl,(fun _ j h=>by simp at h),(fun _ j h=>by simp at h),(fun _ j h=>by simp at h),(fun _=>rfl),(fun _=>rfl)⟩
theorem EA (l:List Nat) (x j:Nat) (h:j<(l++[x]).length):(l++[x]).getD j 0=if j=l.length then x else l.getD j 0:=by
 rw[List.getD_eq_getElem?_getD,List.getD_eq_getElem?_getD];simp at h;by_cases e:j=l.length
 ·subst e;rw[if_pos rfl,List.getElem?_append_right (Nat.le_refl _)];simp
 ·rw[if_neg e,List.getElem?_append_left (by omega)]
theorem vE {f:Nat->Nat} {dk:List Nat} {x:Nat} (h:∀ j,j<dk.length->f j=dk.getD j 0):∀ j,j<(dk++[x]).length->upd f dk.length x j=(dk++[x]).getD j 0:=fun j hj=>by
 rw[EA _ _ _ hj];simp at hj;by_cases e:j=dk.length
 ·rw[if_pos e,e,upd_same]
 ·rw[if_neg e,upd_ne _ _ _ e];exact h j (by omega)
theorem vZ:aY≠cq:=by decide
theorem Ah:aY≠bZ:=by decide
theorem xg:cq≠bZ:=by decide
theorem Er {s:Rd} {x:Nat} (h1:s.ctype≠aY) (h2:s.ctype≠cq) (h3:s.ctype≠bZ) (h4:s.ctype≠aJ):s.keep x=(s,0):=by
 unfold Rd.keep;rw[if_neg h1,if_neg h2,if_neg h3,if_neg h4]
theorem EX {s0 s:Rd} {dk:List Nat} {x:Nat} (h:DtA s0 dk s) (hp:s.part=3) (ht:s.taken=dk.length) (hi:s0.ctype≠aJ):∃ q:Rd,(s.summed x).keep x=(q,0)/\DtA s0 (dk++[x]) q/\q.part=3/\q.taken=dk.length:=by
 have hc:(s.summed x).ctype=s0.ctype:=h.ctype;obtain ⟨u,hu⟩:∃ u,u=s.summed x:=⟨_,rfl⟩;have hsum:u.sum=bE s0.sum (dk++[x]):=by rw[hu,wB];show cB s.sum x=_;rw[h.sum]
 have g1:u.length=s0.length:=by rw[hu];exact h.length
 have g2:u.hd=s0.hd:=by rw[hu];exact h.hd
 have g3:u.tl=s.tl:=by rw[hu];rfl
 have g4:u.st=s0.st:=by rw[hu];exact h.st
 have g5:u.rw=s0.rw:=by rw[hu];exact h.rw
 have g6:u.sp=s0.sp:=by rw[hu];exact h.sp
 have g7:u.sc=s0.sc:=by rw[hu];exact h.sc
 have g8:u.sd=s0.sd:=by rw[hu];exact h.sd
 have g9:u.dov=s0.dov:=by rw[hu];exact h.dov
 have g10:u.raw=s.raw:=by rw[hu];rfl
 have g11:u.part=3:=by rw[hu];exact hp
 have g12:u.taken=dk.length:=by rw[hu];exact ht
 rw[<- hu] at hc ⊢;clear hu;by_cases c1:s0.ctype=aY
 ·refine ⟨{ u with raw:=upd u.raw u.taken x },HJ (hc.trans c1),⟨hsum,hc,g1,g2,by show u.tl.colours=_;rw[g3];exact h.col,by show u.tl.clears=_;rw[g3];exact h.cls,g4,g5,g6,g7,g8,g9,(fun _ => ?_),(fun e=>absurd (c1.symm.trans e) vZ),(fun e=>absurd (c1.symm.trans e) Ah),(fun e=>by show u.tl.pal=_;rw[g3];exact h.pal' e),(fun e=>by show u.tl.clear=_;rw[g3];exact h.clr' e)⟩,g11,g12⟩
  show ∀ j,j<(dk++[x]).length->upd u.raw u.taken x j=_
  rw[g12,g10];exact vE (h.raw c1)
 by_cases c2:s0.ctype=cq
 ·refine ⟨{ u with tl:={ u.tl with pal:=upd u.tl.pal u.taken x } },Ia (hc.trans c2),⟨hsum,hc,g1,g2,by show u.tl.colours=_;rw[g3];exact h.col,by show u.tl.clears=_;rw[g3];exact h.cls,g4,g5,g6,g7,g8,g9,(fun e=>absurd e c1),(fun _ => ?_),(fun e=>absurd (c2.symm.trans e) xg),(fun e=>absurd c2 e),(fun e=>by show u.tl.clear=_;rw[g3];exact h.clr' e)⟩,g11,g12⟩
  show ∀ j,j<(dk++[x]).length->upd u.tl.pal u.taken x j=_
  rw[g12,g3];exact vE (h.pal c2)
 by_cases c3:s0.ctype=bZ
 ·refine ⟨{ u with tl:={ u.tl with clear:=upd u.tl.clear u.taken x } },Ib (hc.trans c3),⟨hsum,hc,g1,g2,by show u.tl.colours=_;rw[g3];exact h.col,by show u.tl.clears=_;rw[g3];exact h.cls,g4,g5,g6,g7,g8,g9,(fun e=>absurd e c1),(fun e=>absurd e c2),(fun _ => ?_),(fun e=>by show u.tl.pal=_;rw[g3];exact h.pal' e),(fun e=>absurd c3 e)⟩,g11,g12⟩
  show ∀ j,j<(dk++[x]).length->upd u.tl.clear u.taken x j=_
  rw[g12,g3];exact vE (h.clr c3)
 ·exact ⟨u,Er (fun e=>c1 (hc.symm.trans e)) (fun e=>c2 (hc.symm.trans e)) (fun e=>c3 (hc.symm.trans e)) (fun e=>hi (hc.symm.trans e)),⟨hsum,hc,g1,g2,by rw[g3];exact h.col,by rw[g3];exact h.cls,g4,g5,g6,g7,g8,g9,(fun e=>absurd e c1),(fun e=>absurd e c2),(fun e=>absurd e c3),(fun e=>by rw[g3];exact h.pal' e),(fun e=>by rw[g3];exact h.clr' e)⟩,g11,g12⟩
theorem xm {s0 s:Rd} {dk:List Nat} {x:Nat} (h:DtA s0 dk s) (hp:s.part=3) (ht:s.taken=dk.length) (hi:s0.ctype≠aJ) :
  ∃ q,s.take x=(if dk.length+1=s0.length then q.enter 4 else q,0)/\DtA s0 (dk++[x]) q/\q.part=3/\q.taken=dk.length+1:=by
 obtain ⟨q,k1,k2,k3,k4⟩:=EX (x:=x) h hp ht hi;refine ⟨{ q with taken:=q.taken+1 },?_,⟨k2.sum,k2.ctype,k2.length,k2.hd,k2.col,k2.cls,k2.st,k2.rw,k2.sp,k2.sc,k2.sd,k2.dov,k2.raw,k2.pal,k2.clr,k2.pal',k2.clr'⟩,k3,by show q.taken+1=_;rw[k4]⟩;rw[take3 hp];unfold Rd.takeData;rw[k1,if_neg (show ¬ ((0:Nat)≠0) by decide)];unfold Rd.dataEnd;show (if q.taken+1=q.length then ({ q with taken:=q.taken+1 }:Rd).enter 4 else { q with taken:=q.taken+1 },0)=_
 rw[k4,k2.length]
theorem wy {s0:Rd} (hi:s0.ctype≠aJ):∀ (l dk:List Nat) (s:Rd),DtA s0 dk s->s.part=3->s.taken=dk.length->dk.length+l.length<s0.length->∃ q,ak s l=(q,0,l.length)/\DtA s0 (dk++l) q/\q.part=3/\q.taken=(dk++l).length
 | [],dk,s,h,hp,ht,_=>⟨s,rfl,by rw[List.append_nil];exact h,hp,by rw[List.append_nil];exact ht⟩
 | x::l,dk,s,h,hp,ht,hl=>by
  simp only [List.length_cons] at hl;obtain ⟨q,e,k1,k2,k3⟩:=xm (x:=x) h hp ht hi;rw[if_neg (by omega)] at e;obtain ⟨q2,e2,k4,k5,k6⟩:=wy hi l (dk++[x]) q k1 k2 (by rw[k3];simp) (by simp;omega);refine ⟨q2,?_,by rw[List.append_assoc] at k4;exact k4,k5,by rw[List.append_assoc] at k6;exact k6⟩;rw[aS e,e2];rfl
theorem Iy {s0:Rd} (hi:s0.ctype≠aJ) (l:List Nat) (hp:s0.part=3) (ht:s0.taken=0) (hl:l.length=s0.length) (hn:l≠[]):∃ q,DtA s0 l q/\ak s0 l=(q.enter 4,0,l.length):=by
 obtain ⟨m,x,rfl⟩:∃ m x,l=m++[x]:=⟨l.dropLast,l.getLast hn,(List.dropLast_concat_getLast hn).symm⟩;simp at hl;obtain ⟨q,e1,k1,k2,k3⟩:=wy hi m [] s0 (DtA.refl s0) hp ht (by simp;omega);rw[List.nil_append] at k1 k3;obtain ⟨q2,e2,k4,k5,k6⟩:=xm (x:=x) k1 k2 k3 hi;rw[if_pos (by omega)] at e2;refine ⟨q2,k4,?_⟩;rw[ud,e1,if_pos rfl];show shf m.length (ak q [x])=_
 rw[aS e2];show (q2.enter 4,0,0+1+m.length)=_
 rw[List.length_append,show 0+1+m.length=m.length+[x].length by simp;omega]
structure IdA (s0:Rd) (dk:List Nat) (s:Rd):Prop where
 sum:s.sum=bE s0.sum dk
 ctype:s.ctype=s0.ctype
 length:s.length=s0.length
 hd:s.hd=s0.hd
 tl:s.tl=s0.tl
 sp:s.sp=s0.sp
 sc:s.sc=s0.sc
 sd:s.sd=s0.sd
 dov:s.dov=s0.dov
theorem Bz (s:Rd) (x:Nat):(s.takeStream x).1=s.streamed x:=by
 unfold Rd.takeStream;split
 ·rfl
 ·split<;>rfl
theorem By (s:Rd) (x:Nat):(s.takeStream x).2=rZ s.st s.rw x:=by
 unfold Rd.takeStream rZ;by_cases c:(takeB s.st s.rw x).2.2≠0
 ·rw[if_pos c,if_pos c]
 ·rw[if_neg c,if_neg c]
  by_cases d:(decide ((takeB s.st s.rw x).1.part=10) && !aR (takeB s.st s.rw x).2.1)=true
  ·rw[if_pos d,if_pos d]
  ·rw[if_neg d,if_neg d]
structure NQ (s q:Rd) (x:Nat):Prop where
 st:q.st=(takeB s.st s.rw x).1
 rw:q.rw=(takeB s.st s.rw x).2.1
 sum:q.sum=s.sum
 ctype:q.ctype=s.ctype
 length:q.length=s.length
 hd:q.hd=s.hd
 tl:q.tl=s.tl
 sp:q.sp=s.sp
 sc:q.sc=s.sc
 sd:q.sd=s.sd
 dov:q.dov=s.dov
 part:q.part=s.part
 taken:q.taken=s.taken
theorem NA (s:Rd) (x:Nat):NQ s (s.streamed x) x:=by
 unfold Rd.streamed;exact ⟨rfl,rfl,rfl,rfl,rfl,rfl,rfl,rfl,rfl,rfl,rfl,rfl,rfl⟩
theorem Eu {s0 s:Rd} {dk:List Nat} {x:Nat} (h:IdA s0 dk s) (hp:s.part=3) (ht:s.taken=dk.length) (hi:s0.ctype=aJ) :
  (rZ s.st s.rw x≠0/\(s.take x).2=rZ s.st s.rw x) \/
  (rZ s.st s.rw x=0/\∃ q,s.take x=(if dk.length+1=s0.length then q.enter 4 else q,0)/\IdA s0 (dk++[x]) q/\q.part=3/\q.taken=dk.length+1/\q.st=(takeB s.st s.rw x).1/\q.rw=(takeB s.st s.rw x).2.1):=by
 obtain ⟨u,hu⟩:∃ u,u=s.summed x:=⟨_,rfl⟩;have hc:u.ctype=s0.ctype:=by rw[hu];exact h.ctype
 have hsum:u.sum=bE s0.sum (dk++[x]):=by rw[hu,wB];show cB s.sum x=_;rw[h.sum]
 have g1:u.length=s0.length:=by rw[hu];exact h.length
 have g2:u.hd=s0.hd:=by rw[hu];exact h.hd
 have g3:u.tl=s0.tl:=by rw[hu];exact h.tl
 have g4:u.st=s.st:=by rw[hu];rfl
 have g5:u.rw=s.rw:=by rw[hu];rfl
 have g6:u.sp=s0.sp:=by rw[hu];exact h.sp
 have g7:u.sc=s0.sc:=by rw[hu];exact h.sc
 have g8:u.sd=s0.sd:=by rw[hu];exact h.sd
 have g9:u.dov=s0.dov:=by rw[hu];exact h.dov
 have g11:u.part=3:=by rw[hu];exact hp
 have g12:u.taken=dk.length:=by rw[hu];exact ht
 have ek:u.keep x=u.takeStream x:=Ep (hc.trans hi);have e2:=By u x;have e1:=Bz u x;have sd:=NA u x;rw[g4,g5] at e2;obtain ⟨q,hq⟩:∃ q,q=u.streamed x:=⟨_,rfl⟩;rw[<- hq] at e1 sd;have et:s.take x=if (u.takeStream x).2≠0 then u.takeStream x else ((u.takeStream x).1.dataEnd,0):=by
  rw[take3 hp];unfold Rd.takeData;rw[<- hu,ek]
 rw[e1] at et;by_cases c:rZ s.st s.rw x=0
 ·right
  rw[if_neg (by rw[e2,c];decide)] at et;refine ⟨c,{ q with taken:=q.taken+1 },?_,⟨sd.sum.trans hsum,sd.ctype.trans hc,sd.length.trans g1,sd.hd.trans g2,sd.tl.trans g3,sd.sp.trans g6,sd.sc.trans g7,sd.sd.trans g8,sd.dov.trans g9⟩,sd.part.trans g11,?_,?_,?_⟩
  ·rw[et]
   unfold Rd.dataEnd;rw[sd.taken,g12,sd.length,g1]
  ·show q.taken+1=_
   rw[sd.taken,g12]
  ·show q.st=_
   rw[sd.st,g4,g5]
  ·show q.rw=_
   rw[sd.rw,g4,g5]
 ·left
  refine ⟨c,?_⟩;rw[if_pos (by rw[e2];exact c)] at et;rw[et,e2]
theorem Dx {s0:Rd} (hi:s0.ctype=aJ):∀ (l dk:List Nat) (s:Rd),IdA s0 dk s->s.part=3->s.taken=dk.length->dk.length+l.length<=s0.length ->
  ((fi s.st s.rw l).2.2≠0/\(ak s l).2.1=(fi s.st s.rw l).2.2/\(ak s l).2.2=stN s.st s.rw l) \/
  ((fi s.st s.rw l).2.2=0/\∃ q,ak s l=(if l≠[]/\dk.length+l.length=s0.length then q.enter 4 else q,0,l.length)/\IdA s0 (dk++l) q/\q.part=3/\q.taken=(dk++l).length/\q.st=(fi s.st s.rw l).1/\q.rw=(fi s.st s.rw l).2.1)
 | [],dk,s,h,hp,ht,_=>Or.inr ⟨rfl,s,by rw[if_neg (fun q=>q.1 rfl)];rfl,by rw[List.append_nil];exact h,hp,by rw[List.append_nil];exact ht,rfl,rfl⟩
 | x::l,dk,s,h,hp,ht,hl=>by
  simp only [List.length_cons] at hl;rcases Eu (x:=x) h hp ht hi with ⟨c1,c2⟩ | ⟨c1,q,e,k1,k2,k3,k4,k5⟩
  ·left
   rw[fi,stN,if_neg c1,if_neg c1];have hx:s.take x=((s.take x).1,rZ s.st s.rw x):=Prod.ext rfl c2;rw[kU hx c1 l];exact ⟨c1,rfl,rfl⟩
  ·rw[fi,stN,if_pos c1,if_pos c1]
   by_cases hl0:l=[]
   ·subst hl0
    right
    refine ⟨rfl,q,?_,k1,k2,by rw[k3];simp,k4,k5⟩;rw[aS e];by_cases d:dk.length+1=s0.length
    ·rw[if_pos d,if_pos ⟨by simp,by simpa using d⟩];rfl
    ·rw[if_neg d,if_neg (fun w=>d (by simpa using w.2))];rfl
   ·have hlen:0<l.length:=List.length_pos_iff.2 hl0
    rw[if_neg (by omega)] at e;have ih:=Dx hi l (dk++[x]) q k1 k2 (by rw[k3];simp) (by simp;omega);rw[k4,k5] at ih;rcases ih with ⟨i1,i2,i3⟩ | ⟨i1,q2,i2,i3,i4,i5,i6,i7⟩
    ·left
     rw[aS e];exact ⟨i1,i2,by show _+1=_;rw[i3]⟩
    ·right
     refine ⟨i1,q2,?_,by rw[List.append_assoc] at i3;exact i3,i4,by rw[List.append_assoc] at i5;exact i5,i6,i7⟩;rw[aS e,i2];show (_,0,l.length+1)=_
     have e2:(l≠[]/\(dk++[x]).length+l.length=s0.length) ↔ (x::l≠[]/\dk.length+(x::l).length=s0.length):=by
      constructor
      ·rintro ⟨_,w⟩;exact ⟨by simp,by simp at w ⊢;omega⟩
      ·rintro ⟨_,w⟩;exact ⟨hl0,by simp at w ⊢;omega⟩
     by_cases d:l≠[]/\(dk++[x]).length+l.length=s0.length
     ·rw[if_pos d,if_pos (e2.1 d)];rfl
     ·rw[if_neg d,if_neg (fun w=>d (e2.2 w))];rfl
