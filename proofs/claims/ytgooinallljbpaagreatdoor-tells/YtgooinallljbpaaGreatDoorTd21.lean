import Derived.Test.YtgooinallljbpaaGreatDoorTd19
import Derived.Test.YtgooinallljbpaaGreatDoorTd09
namespace Px
def bX (l:List Nat) (n:Nat):Nat->Nat
 | 0=>0
 | k+1=>bX l n k+if l.getD k 0=n then 1 else 0
def gL (l:List Nat) (n:Nat):Nat->Nat
 | 0=>0
 | k+1=>gL l n k+if 0<l.getD k 0/\l.getD k 0<n then 2^(n - l.getD k 0) else 0
def eL (l:List Nat) (n:Nat):Nat:=gL l n l.length+if n=0 then 0 else bX l n l.length
def xL (l:List Nat):Nat->Nat
 | 0=>0
 | 1=>0
 | n+2=>xL l (n+1)+bX l (n+1) l.length
theorem Kl (l:List Nat) (k:Nat):gL l 0 k=0:=by
 induction k with
 | zero=>rfl
 | succ k ih=>rw[gL,ih,if_neg (by omega)]
theorem Ma (l:List Nat) (k:Nat):gL l 1 k=0:=by
 induction k with
 | zero=>rfl
 | succ k ih=>rw[gL,ih,if_neg (by omega)]
theorem Km (l:List Nat) (n k:Nat) (hn:1<=n):gL l (n+1) k=2*(gL l n k+bX l n k):=by
 induction k with
 | zero=>rfl
 | succ k ih=>
  rw[gL,ih,gL,bX];by_cases h0:0<l.getD k 0
  ·by_cases h1:l.getD k 0<n
   ·rw[if_pos ⟨h0,by omega⟩,if_pos ⟨h0,h1⟩,if_neg (by omega)]
    have:n+1 - l.getD k 0=(n - l.getD k 0)+1:=by omega
    rw[this,Nat.pow_succ];omega
   ·by_cases h2:l.getD k 0=n
    ·rw[if_pos ⟨h0,by omega⟩,if_neg (by omega),if_pos h2,h2]
     have:n+1 - n=1:=by omega
     rw[this];omega
    ·rw[if_neg (by omega),if_neg (by omega),if_neg h2];omega
  ·rw[if_neg (by omega),if_neg (by omega),if_neg (by omega)];omega
theorem yz (l:List Nat):eL l 0=0:=by unfold eL;rw[Kl,if_pos rfl]
theorem Mb (l:List Nat) (n:Nat):gL l (n+1) l.length=2*eL l n:=by
 by_cases h:n=0
 ·subst h;rw[Ma,yz]
 ·rw[Km l n _ (by omega)];unfold eL;rw[if_neg h]
theorem uk (l:List Nat) (n:Nat):eL l (n+1)=2*eL l n+bX l (n+1) l.length:=by
 conv=>lhs;unfold eL
 rw[if_neg (by omega),Mb]
theorem Fb (l:List Nat) (s k:Nat) (hs:1<=l.getD s 0):lA l s k=gL l (l.getD s 0) k+bX l (l.getD s 0) (min k s):=by
 induction k with
 | zero=>rw[Nat.zero_min];rfl
 | succ k ih=>
  rw[lA,ih,gL];by_cases hk:k<s
  ·rw[Nat.min_eq_left (by omega),Nat.min_eq_left (by omega),bX]
   by_cases h0:0<l.getD k 0
   ·by_cases h1:l.getD k 0<l.getD s 0
    ·rw[if_pos ⟨h0,Or.inl h1⟩,if_pos ⟨h0,h1⟩,if_neg (by omega)];omega
    ·by_cases h2:l.getD k 0=l.getD s 0
     ·rw[if_pos ⟨h0,Or.inr ⟨h2,hk⟩⟩,if_neg (by omega),if_pos h2,h2,Nat.sub_self];omega
     ·rw[if_neg (by omega),if_neg (by omega),if_neg h2];omega
   ·rw[if_neg (by omega),if_neg (by omega),if_neg (by omega)];omega
  ·rw[Nat.min_eq_right (by omega),Nat.min_eq_right (by omega)]
   by_cases h0:0<l.getD k 0/\l.getD k 0<l.getD s 0
   ·rw[if_pos ⟨h0.1,Or.inl h0.2⟩,if_pos h0];omega
   ·rw[if_neg (by omega),if_neg h0];omega
theorem uR (l:List Nat) (s:Nat) (hl:s<l.length) (hs:1<=l.getD s 0):codeOf l s=gL l (l.getD s 0) l.length+bX l (l.getD s 0) s:=by
 unfold codeOf;rw[Fb l s _ hs,Nat.min_eq_right (by omega)]
theorem Ff (l:List Nat) (n:Nat) {a b:Nat} (h:a<=b):bX l n a<=bX l n b:=by
 induction b with
 | zero=>
  have:a=0:=by omega
  subst this;exact Nat.le_refl _
 | succ b ih=>
  by_cases e:a=b+1
  ·subst e;exact Nat.le_refl _
  ·have:=ih (by omega);rw[bX];omega
theorem rU (l:List Nat) (n:Nat) {a b:Nat} (h:a<b) (ha:l.getD a 0=n):bX l n a<bX l n b:=by
 have:=Ff l n (show a+1<=b by omega)
 rw[bX,if_pos ha] at this;omega
theorem AJ (l:List Nat) (n:Nat) {a b:Nat} (ha:l.getD a 0=n) (hb:l.getD b 0=n) (h:bX l n a=bX l n b):a=b:=by
 by_cases h1:a<b
 ·have:=rU l n h1 ha;omega
 ·by_cases h2:b<a
  ·have:=rU l n h2 hb;omega
  ·omega
theorem yF (l:List Nat) (n:Nat):∀ (k r:Nat),r<bX l n k->∃ s,s<k/\l.getD s 0=n/\bX l n s=r
 | 0,r,h=>by simp [bX] at h
 | k+1,r,h=>by
  rw[bX] at h;by_cases h1:r<bX l n k
  ·obtain ⟨s,a,b,c⟩:=yF l n k r h1
   exact ⟨s,by omega,b,c⟩
  ·by_cases h2:l.getD k 0=n
   ·rw[if_pos h2] at h
    exact ⟨k,by omega,h2,by omega⟩
   ·rw[if_neg h2] at h;omega
theorem rT {l:List Nat} {n v s:Nat} (hs:s<l.length) (hn:1<=n):kZ l n v s ↔ l.getD s 0=n/\v=gL l n l.length+bX l n s:=by
 unfold kZ
 constructor
 ·rintro ⟨h1,h2⟩
  refine ⟨h1,?_⟩;rw[uR l s hs (by omega),h1] at h2;exact h2.symm
 ·rintro ⟨h1,h2⟩
  refine ⟨h1,?_⟩;rw[uR l s hs (by omega),h1];exact h2.symm
theorem Dz {l:List Nat} {n v s t:Nat} (hs:s<l.length) (ht:t<l.length) (hn:1<=n) (h1:kZ l n v s) (h2:kZ l n v t):s=t:=by
 rw[rT hs hn] at h1;rw[rT ht hn] at h2;exact AJ l n h1.1 h2.1 (by omega)
theorem L3 {l:List Nat} {n v s:Nat} (hs:s<l.length) (hn:1<=n) (h:kZ l n v s):fD l n v s:=fun t ht k=>by
 have:=Dz hs (by omega) hn h k;omega
theorem DL (l:List Nat) (n:Nat):∀ k,eL l n*2^k<=eL l (n+k)
 | 0=>by simp
 | k+1=>by
  have:=DL l n k
  rw[<- Nat.add_assoc,uk,Nat.pow_succ];rw[<- Nat.mul_assoc];omega
theorem J9 {l:List Nat} {n v:Nat} (hf:eL l 15=32768) (hn:n<15) (hv:v<2^n) (he:eL l n<=v):fA l n v l.length:=by
 have key:∀ d,(∀ j,j<=d->eL l (n+j)<=v*2^j)\/∃ m,n<m/\m<=n+d/\eL l (m - 1)<=v*2^(m - 1 - n)/\v*2^(m - n)<eL l m:=by
  intro d
  induction d with
  | zero=>
   left
   intro j hj
   have:j=0:=by omega
   subst this;simpa using he
  | succ d ih=>
   rcases ih with ih | ⟨m,a,b,c⟩
   ·by_cases h:eL l (n+(d+1))<=v*2^(d+1)
    ·left
     intro j hj;by_cases e:j=d+1
     ·subst e;exact h
     ·exact ih j (by omega)
    ·right
     refine ⟨n+(d+1),by omega,Nat.le_refl _,?_,?_⟩
     ·have:=ih d (Nat.le_refl _)
      have e1:n+(d+1) - 1=n+d:=by omega
      have e2:n+(d+1) - 1 - n=d:=by omega
      rw[e2,e1];exact this
     ·have e2:n+(d+1) - n=d+1:=by omega
      rw[e2];omega
   ·exact Or.inr ⟨m,a,by omega,c⟩
 rcases key (15 - n) with h | ⟨m,h1,h2,h3,h4⟩
 ·exfalso
  have:=h (15 - n) (Nat.le_refl _)
  have e:n+(15 - n)=15:=by omega
  rw[e,hf] at this;have h5:(v+1)*2^(15 - n)<=2^n*2^(15 - n):=Nat.mul_le_mul_right _ (by omega);rw[<- Nat.pow_add,e,Nat.add_mul] at h5
  have:0<2^(15 - n):=Nat.pow_pos (by omega)
  omega
 ·obtain ⟨q,rfl⟩:∃ q,m=q+1:=⟨m - 1,by omega⟩
  rw[uk] at h4;simp only [Nat.add_sub_cancel] at h3;have e1:q+1 - n=(q - n)+1:=by omega
  rw[e1,Nat.pow_succ,<- Nat.mul_assoc] at h4;obtain ⟨s,a,b,c⟩:=yF l (q+1) l.length (v*2^(q - n)*2 - 2*eL l q) (by omega);refine ⟨s,a,?_,?_⟩
  ·rw[b];omega
  ·rw[uR l s a (by omega),b,c,Mb]
   have:2*eL l q+(v*2^(q - n)*2 - 2*eL l q)=v*2^(q+1 - n):=by rw[e1,Nat.pow_succ,<- Nat.mul_assoc];omega
   rw[this];exact Nat.mul_div_cancel _ (Nat.pow_pos (by omega))
theorem Ai {l:List Nat} {n v:Nat} (h:∀ s,s<l.length->l.getD s 0<=n):¬ fA l n v l.length:=by
 rintro ⟨s,hs,hm,_⟩
 have:=h s hs;omega
end Px
namespace Go.Proofs.YtgooinallljbpaaGreatDoor
open Go.RowKit Px
set_option linter.unusedSimpArgs false
set_option linter.unusedVariables false
theorem yZ {f s n i:Nat} (hs:1<=s) (hi:i<bz f s n):f+i*s<n:=by
 unfold bz at hi
 split at hi
 ·omega
 ·have h1:i<=(n - f - 1) / s:=by omega
  have h2:i*s<=(n - f - 1) / s*s:=Nat.mul_le_mul_right _ h1;have h3:=Nat.div_mul_le_self (n - f - 1) s;omega
theorem II (L:Nat):1<=aF L/\aF L<=7:=by unfold aF;split<;>omega
structure RwJ (r:Rw):Prop where
 ok:lq r
 dd:okD r.hd.D
 col:r.columns<=16
 lns:r.lines<=16
 line:r.line<=16
 size:r.size<=128
 tk:r.taken<=128
 p0:0<=r.pass
 p7:r.pass<=7
 colours:r.colours<=256
 geo:aR r=false->r.columns=bz r.ps.cf r.ps.cs r.hd.W/\r.line<bz r.ps.rf r.ps.rs r.hd.H/\r.lines=bz r.ps.rf r.ps.rs r.hd.H
theorem RwJ.good {r:Rw} (j:RwJ r):rj r:=by
 have po:=fj r.hd.L r.pass.toNat;refine ⟨⟨j.ok,j.dd,j.col,j.lns,j.line,?_,j.size,by have:=j.tk;omega,j.p0,j.p7,j.colours⟩,j.tk,fun w => ?_⟩
 ·have h3:r.columns*bG r.hd<=16*64:=Nat.mul_le_mul j.col (ra j.ok)
  omega
 ·obtain ⟨g1,g2,g3⟩:=j.geo w
  refine ⟨fun i hi => ?_,?_⟩
  ·rw[g1] at hi
   exact Nat.lt_of_lt_of_le (yZ po.2.1 hi) j.ok.W
  ·exact Nat.lt_of_lt_of_le (yZ po.2.2.2.2.2.1 g2) j.ok.H
structure NpJ (r q:Rw):Prop where
 hd:q.hd=r.hd
 colours:q.colours=r.colours
 taken:q.taken=r.taken
 col:q.columns<=16
 lns:q.lines<=16
 p0:0<=q.pass
 p7:q.pass<=(aF r.hd.L:Int)
 geo:aR q=false->q.columns=bz q.ps.cf q.ps.cs r.hd.W/\0<bz q.ps.rf q.ps.rs r.hd.H/\q.lines=bz q.ps.rf q.ps.rs r.hd.H
theorem npJ:∀ (n:Nat) (r:Rw) (p:Nat),r.pass=(p:Int)->p<=aF r.hd.L->aF r.hd.L<p+n->r.hd.W<=16->r.hd.H<=16->r.columns<=16->r.lines<=16->NpJ r (kX n r)
 | 0,r,p,hp,h1,h2,_,_,_,_=>by omega
 | n+1,r,p,hp,h1,h2,hW,hH,hc,hl=>by
  have po:=fj r.hd.L r.pass.toNat;have ego:kX (n+1) r=if r.pass<(aF r.hd.L:Int) then (if 0<(bV r).columns/\0<(bV r).lines then bV r else kX n { bV r with pass:=r.pass+1 }) else r:=rfl
  have c1:(bV r).columns=bz r.ps.cf r.ps.cs r.hd.W:=rfl;have c2:(bV r).lines=bz r.ps.rf r.ps.rs r.hd.H:=rfl;have b1:(bV r).columns<=16:=fT po.2.1 hW;have b2:(bV r).lines<=16:=fT po.2.2.2.2.2.1 hH;rw[ego];by_cases q1:r.pass<(aF r.hd.L:Int)
  ·rw[if_pos q1]
   by_cases q2:0<(bV r).columns/\0<(bV r).lines
   ·rw[if_pos q2]
    exact ⟨rfl,rfl,rfl,b1,b2,by show 0<=r.pass;omega,by show r.pass<=_;omega,fun _=>⟨rfl,q2.2,rfl⟩⟩
   ·rw[if_neg q2]
    have ih:=npJ n { bV r with pass:=r.pass+1 } (p+1) (by show r.pass+1=((p+1:Nat):Int);rw[hp];omega) (by show p+1<=aF r.hd.L;omega) (by show aF r.hd.L<p+1+n;omega) hW hH b1 b2;exact ⟨ih.hd,ih.colours,ih.taken,ih.col,ih.lns,ih.p0,ih.p7,ih.geo⟩
  ·rw[if_neg q1]
   refine ⟨rfl,rfl,rfl,hc,hl,by omega,by omega,fun w => ?_⟩;unfold aR at w
   have:=of_decide_eq_false w
   omega
theorem Hb {r:Rw} (ok:lq r) (dd:okD r.hd.D) (col:r.columns<=16) (lns:r.lines<=16) (tk:r.taken<=128) (cl:r.colours<=256) (p:Nat) (hp:r.pass+1=(p:Int)) (hp2:p<=aF r.hd.L):RwJ r.next:=by
 have hc:=II r.hd.L;have n:=npJ 8 { r with pass:=r.pass+1 } p hp hp2 (by show aF r.hd.L<p+8;omega) ok.W ok.H col lns;have k:=yb 8 { r with pass:=r.pass+1 } ⟨ok.W,ok.H,ok.D,ok.K,ok.L,ok.filter,ok.row,ok.above⟩;unfold Rw.next;generalize kX 8 { r with pass:=r.pass+1 }=q at *;have e1:q.hd=r.hd:=n.hd;have e2:q.colours=r.colours:=n.colours;have e3:q.taken=r.taken:=n.taken;have e4:q.pass<=(aF r.hd.L:Int):=n.p7;have g:=n.geo;replace g:aR q=false->q.columns=bz q.ps.cf q.ps.cs r.hd.W/\0<bz q.ps.rf q.ps.rs r.hd.H/\q.lines=bz q.ps.rf q.ps.rs r.hd.H:=g;rw[<- e1] at g;refine ⟨⟨k.W,k.H,k.D,k.K,k.L,k.filter,k.row,fun i=>by show 0<256;omega⟩,by show okD q.hd.D;rw[e1];exact dd,n.col,n.lns,by show 0<=16;omega,?_,by show q.taken<=128;omega,n.p0,by show q.pass<=7;omega,by show q.colours<=256;omega,fun w=>g w⟩;have h3:q.columns*bG q.hd<=16*64:=Nat.mul_le_mul n.col (ra k);show (q.columns*bG q.hd+7) / 8<=128
 omega
theorem RwJ.start {h:Hd} {C:Nat} (hW:h.W<=16) (hH:h.H<=16) (hD:h.D<=16) (hK:h.K<=6) (hL:h.L<=1) (dd:okD h.D) (hC:C<=256):RwJ (Rw.start h C) :=
 Hb (r:=rw0 h C) ⟨hW,hH,hD,hK,hL,by show 0<256;omega,fun i=>by show 0<256;omega,fun i=>by show 0<256;omega⟩ dd (by show 0<=16;omega) (by show 0<=16;omega) (by show 0<=128;omega) hC 0 (by show (-1:Int)+1=0;decide) (by omega)
theorem lq.lay {r:Rw} (h:lq r) (i x:Nat):lq (r.lay i x):=⟨h.W,h.H,h.D,h.K,h.L,h.filter,fun j=>by
 show upd r.row i (zG r i x) j<256
 by_cases e:j=i
 ·subst e;rw[upd_same];exact Nat.mod_lt _ (by omega)
 ·rw[upd_ne _ _ _ e];exact h.row j,h.above⟩
theorem RwJ.take {r:Rw} {x:Nat} (j:RwJ r) (he:(r.take x).2=0):RwJ (r.take x).1:=by
 unfold Rw.take at he ⊢;by_cases w:aR r=true
 ·rw[if_pos w] at he;exact absurd he (by show ¬ 17=0;omega)
 rw[if_neg w] at he ⊢;have wf:aR r=false:=by cases h:aR r with | false=>rfl | true=>exact absurd h w
 have ok:=j.ok;by_cases t0:r.taken=0
 ·rw[if_pos t0] at he ⊢
  unfold Rw.takeF at he ⊢;by_cases h4:4<x
  ·rw[if_pos h4] at he;exact absurd he (by show ¬ 15=0;omega)
  ·rw[if_neg h4]
   exact ⟨⟨ok.W,ok.H,ok.D,ok.K,ok.L,by show x<256;omega,ok.row,ok.above⟩,j.dd,j.col,j.lns,j.line,j.size,by show 1<=128;omega,j.p0,j.p7,j.colours,j.geo⟩
 rw[if_neg t0] at he ⊢;by_cases t1:r.taken+1<=r.size
 ·rw[if_pos t1]
  have ok1:lq { r with taken:=r.taken+1 }:=⟨ok.W,ok.H,ok.D,ok.K,ok.L,ok.filter,ok.row,ok.above⟩;have hs:=j.size;exact ⟨ok1.lay _ _,j.dd,j.col,j.lns,j.line,j.size,by show r.taken+1<=128;omega,j.p0,j.p7,j.colours,j.geo⟩
 rw[if_neg t1] at he ⊢;obtain ⟨q,hq⟩:∃ q,q=({ r with taken:=r.taken+1 }:Rw).lay (r.taken - 1) x:=⟨_,rfl⟩;have kq:lq q:=by
  have ok1:lq { r with taken:=r.taken+1 }:=⟨ok.W,ok.H,ok.D,ok.K,ok.L,ok.filter,ok.row,ok.above⟩;rw[hq];exact ok1.lay _ _
 have q1:okD q.hd.D:=by rw[hq];exact j.dd
 have q2:q.columns<=16:=by rw[hq];exact j.col
 have q3:q.lines<=16:=by rw[hq];exact j.lns
 have q4:q.size<=128:=by rw[hq];exact j.size
 have q5:0<=q.pass:=by rw[hq];exact j.p0
 have q6:q.pass<=7:=by rw[hq];exact j.p7
 have q7:q.colours<=256:=by rw[hq];exact j.colours
 have q8:aR q=false:=by rw[hq];exact wf
 have q9:q.columns=bz q.ps.cf q.ps.cs q.hd.W/\q.line<bz q.ps.rf q.ps.rs q.hd.H/\q.lines=bz q.ps.rf q.ps.rs q.hd.H:=by rw[hq];exact j.geo wf
 rw[<- hq] at he ⊢;clear hq;unfold Rw.endRow at he ⊢;by_cases hb:q.bad=true
 ·rw[if_pos hb] at he;exact absurd he (by show ¬ 16=0;omega)
 rw[if_neg hb];show RwJ (if q.lines<=q.line+1 then q.laid.next else q.laid)
 obtain ⟨l1,l2,l3,l4,l5,l6,l7,l8,l9,l10,l11⟩:=iG q q.columns;have lk:=Ds kq;have e1:q.laid.hd=q.hd:=l1;have e2:q.laid.colours=q.colours:=l2;have e3:q.laid.pass=q.pass:=l3;have e5:q.laid.columns=q.columns:=l5;have e6:q.laid.lines=q.lines:=l6;have e7:q.laid.size=q.size:=l7;have hpl:q.pass<(aF q.hd.L:Int):=by
  unfold aR at q8
  have:=of_decide_eq_false q8
  omega
 by_cases hn:q.lines<=q.line+1
 ·rw[if_pos hn]
  exact Hb lk (by rw[e1];exact q1) (by rw[e5];exact q2) (by rw[e6];exact q3) (by show 0<=128;omega) (by rw[e2];exact q7) (q.pass.toNat+1) (by rw[e3];omega) (by rw[e1];omega)
 ·rw[if_neg hn]
  have ep:q.laid.ps=q.ps:=by show aK q.laid.hd.L q.laid.pass.toNat=aK q.hd.L q.pass.toNat;rw[e1,e3]
  refine ⟨lk,by rw[e1];exact q1,by rw[e5];exact q2,by rw[e6];exact q3,by show q.line+1<=16;omega,by rw[e7];exact q4,by show 0<=128;omega,by rw[e3];exact q5,by rw[e3];exact q6,by rw[e2];exact q7,fun _ => ?_⟩;rw[e5,e6,ep,e1];refine ⟨q9.1,?_,q9.2.2⟩;show q.line+1<_
  omega
structure StK (s:St):Prop where
 lit:mI s.lit
 dist:mI s.dist
 short:mI s.tb.short
 sym:∀ i,s.tb.short.sym i<=18
 len:s.length<=300
 base:s.base<=30000
 win:s.window<=32768
 cnt:s.count<=2078
 hist:∀ j,s.hist j<256
 sum:s.sum<4294967296
 sl:∀ i,s.tb.sl i<256
 ls:∀ i,s.tb.ls i<256
 left:s.left<=65535
structure Wnt (p w:Nat):Prop where
 w0:p=0->w=16
 w1:p=1->w=3
 w2:p=2->w=32
 w3:p=3->w=8
 w4:p=4->w=14
 w5:p=5->w=3
 w6:p=6->1<=w/\w<=7
 w7:p=7->1<=w/\w<=5
 w8:p=8->1<=w/\w<=13
 w9:p=9->w=32
structure StP (s:St):Prop where
 part:s.part<=13
 want:Wnt s.part s.wanted
 left:s.part=3->1<=s.left
 l7:s.part=7->s.length<=258
 t5:s.part=5->s.tb.told<s.tb.shorts/\s.tb.shorts<=19
 tb:s.part=5\/s.part=6\/s.part=11->257<=s.tb.literals/\s.tb.literals<=286/\1<=s.tb.distances/\s.tb.distances<=30
 td:s.part=6\/s.part=11->s.tb.told<=s.tb.literals+s.tb.distances
 rep:s.part=6->s.tb.rep=16\/s.tb.rep=17\/s.tb.rep=18
structure PtJ (p:Pt):Prop where
 bits:p.bits<=14
 offset:p.offset<2^p.bits
 ahead:p.ahead<=288*p.bits
structure StJ (s:St):Prop where
 k:StK s
 p:StP s
 got:s.part<=9->s.got<s.wanted
 num:s.number<2^s.got
 path:PtJ s.path
theorem PtJ.ok {p:Pt} (h:PtJ p):Ji p:=by
 have h1:=h.bits;have h2:=h.offset;have h3:=h.ahead;have h4:2^p.bits<=2^14:=Nat.pow_le_pow_right (by omega) h1;exact ⟨by omega,by omega,by omega⟩
theorem CS.step_more {c:CS} {p:Pt} {t:Nat} (hc:mI c) (hp:PtJ p) (ht:t<=1) (h:(c.step p t).2 = -1):PtJ (c.step p t).1:=by
 unfold CS.step at h ⊢;by_cases h1:c.longest<p.bits+1\/15<p.bits+1
 ·rw[if_pos h1] at h;exact absurd h (by show ¬ (-2:Int) = -1;decide)
 rw[if_neg h1] at h ⊢;by_cases h2:2*p.offset+t<c.count (p.bits+1)
 ·rw[if_pos h2] at h
  replace h:c.symbol (p.ahead+(2*p.offset+t)) = -1:=h;unfold CS.symbol at h
  split at h
  ·exact absurd h (by decide)
  ·omega
 rw[if_neg h2] at h ⊢;replace h:(if p.bits+1=c.longest then (-2:Int) else -1) = -1:=h;by_cases h3:p.bits+1=c.longest
 ·rw[if_pos h3] at h;exact absurd h (by decide)
 have hl:=hc.longest;have hcc:=hc.count (p.bits+1) (by omega);have ho:=hp.offset;have ha:=hp.ahead;refine ⟨by show p.bits+1<=14;omega,?_,?_⟩
 ·show 2*p.offset+t - c.count (p.bits+1)<2^(p.bits+1)
  rw[Nat.pow_succ];omega
 ·show p.ahead+c.count (p.bits+1)<=288*(p.bits+1)
  omega
theorem CS.step_lo (c:CS) (p:Pt) (t:Nat) : -2<=(c.step p t).2:=by
 unfold CS.step;split
 ·show (-2:Int) <= -2;decide
 split
 ·show (-2:Int)<=c.symbol _
  unfold CS.symbol;split
  ·decide
  ·omega
 ·show (-2:Int)<=(if p.bits+1=c.longest then (-2:Int) else -1)
  split<;>decide
theorem CS.step_hi (c:CS) (p:Pt) (t M:Nat) (h:∀ i,i<288->c.sym i<=M):(c.step p t).2<=M:=by
 unfold CS.step;split
 ·show (-2:Int)<=M;omega
 split
 ·show c.symbol _<=M
  unfold CS.symbol;split
  ·omega
  ·rename_i q
   have:=h (p.ahead+(2*p.offset+t)) (by omega)
   omega
 ·show (if p.bits+1=c.longest then (-2:Int) else -1)<=M
  split<;>omega
theorem StK.enter {s:St} (k:StK s) (p w:Nat):StK (s.enter p w):=⟨k.lit,k.dist,k.short,k.sym,k.len,k.base,k.win,k.cnt,k.hist,k.sum,k.sl,k.ls,k.left⟩
theorem qT {s:St} {p w:Nat} (k:StK s) (q:StP (s.enter p w)):StJ (s.enter p w):=by
 refine ⟨k.enter p w,q,fun h => ?_,by show 0<2^0;decide,⟨by show 0<=14;omega,by show 0<2^0;decide,by show 0<=288*0;omega⟩⟩;show 0<w
 have a:=q.want;replace a:Wnt p w:=a;replace h:p<=9:=h
 have:p=0\/p=1\/p=2\/p=3\/p=4\/p=5\/p=6\/p=7\/p=8\/p=9:=by omega
 rcases this with e | e | e | e | e | e | e | e | e | e
 ·have:=a.w0 e;omega
 ·have:=a.w1 e;omega
 ·have:=a.w2 e;omega
 ·have:=a.w3 e;omega
 ·have:=a.w4 e;omega
 ·have:=a.w5 e;omega
 ·have:=a.w6 e;omega
 ·have:=a.w7 e;omega
 ·have:=a.w8 e;omega
 ·have:=a.w9 e;omega
theorem fZ {s:St} {p w:Nat} (k:StK s) (hp:p<=13) (hw:Wnt p w) (h3:p≠3) (h5:p≠5) (h6:p≠6) (h7:p≠7) (h11:p≠11):StJ (s.enter p w) :=
 qT k ⟨hp,hw,fun q=>absurd q h3,fun q=>absurd q h7,fun q=>absurd q h5,fun q=>by rcases q with q | q | q<;>exact absurd q (by assumption),fun q=>by rcases q with q | q<;>exact absurd q (by assumption),fun q=>absurd q h6⟩
theorem Wnt.any {p w:Nat} (h:10<=p):Wnt p w:=⟨fun q=>by omega,fun q=>by omega,fun q=>by omega,fun q=>by omega,fun q=>by omega,fun q=>by omega,fun q=>by omega,fun q=>by omega,fun q=>by omega,fun q=>by omega⟩
theorem Wnt.w_1:Wnt 1 3:=⟨by omega,by omega,by omega,by omega,by omega,by omega,by omega,by omega,by omega,by omega⟩
theorem Wnt.w_2:Wnt 2 32:=⟨by omega,by omega,by omega,by omega,by omega,by omega,by omega,by omega,by omega,by omega⟩
theorem Wnt.w_3:Wnt 3 8:=⟨by omega,by omega,by omega,by omega,by omega,by omega,by omega,by omega,by omega,by omega⟩
theorem Wnt.w_4:Wnt 4 14:=⟨by omega,by omega,by omega,by omega,by omega,by omega,by omega,by omega,by omega,by omega⟩
theorem Wnt.w_5:Wnt 5 3:=⟨by omega,by omega,by omega,by omega,by omega,by omega,by omega,by omega,by omega,by omega⟩
theorem Wnt.w_6 {w:Nat} (h1:1<=w) (h2:w<=7):Wnt 6 w:=⟨by omega,by omega,by omega,by omega,by omega,by omega,by omega,by omega,by omega,by omega⟩
theorem Wnt.w_7 {w:Nat} (h1:1<=w) (h2:w<=5):Wnt 7 w:=⟨by omega,by omega,by omega,by omega,by omega,by omega,by omega,by omega,by omega,by omega⟩
theorem Wnt.w_8 {w:Nat} (h1:1<=w) (h2:w<=13):Wnt 8 w:=⟨by omega,by omega,by omega,by omega,by omega,by omega,by omega,by omega,by omega,by omega⟩
theorem Wnt.w_9:Wnt 9 32:=⟨by omega,by omega,by omega,by omega,by omega,by omega,by omega,by omega,by omega,by omega⟩
theorem Wnt.w_0:Wnt 0 16:=⟨by omega,by omega,by omega,by omega,by omega,by omega,by omega,by omega,by omega,by omega⟩
theorem vy:mI wA:=⟨fun _ _=>by show 0<=288;omega,fun _ _=>by show 0<288;omega,by show 0<=288;omega,by show 0<=15;omega⟩
theorem StJ.start:StJ St.start:=by
 refine fZ (s:=st0 1) ⟨vy,vy,vy,fun _=>by show 0<=18;omega,by show 0<=300;omega,by show 0<=30000;omega,by show 0<=32768;omega,by show 0<=2078;omega,fun _=>by show 0<256;omega,by show 1<4294967296;omega,fun _=>by show 0<256;omega,fun _=>by show 0<256;omega,by show 0<=65535;omega⟩ (by omega) Wnt.w_0 (by omega) (by omega) (by omega) (by omega) (by omega)
theorem Ko:mI qA:=by
 refine ⟨fun i _ => ?_,fun i hi => ?_,by decide,by decide⟩
 ·show uO i<=288;unfold uO;split<;>(try split)<;>(try split)<;>omega
 ·show cO i<288;unfold cO;split<;>(try split)<;>(try split)<;>omega
theorem Kp:mI qR:=by
 refine ⟨fun i _ => ?_,fun i hi => ?_,by decide,by decide⟩
 ·show (if i=5 then 32 else 0)<=288;split<;>omega
 ·show (if i<32 then i else 0)<288;split<;>omega
theorem uQ {s:St} (k:StK s):StJ s.endBlock:=by
 unfold St.endBlock;split
 ·exact fZ (s:={ s with skip:=true }) ⟨k.lit,k.dist,k.short,k.sym,k.len,k.base,k.win,k.cnt,k.hist,k.sum,k.sl,k.ls,k.left⟩ (by omega) Wnt.w_9 (by omega) (by omega) (by omega) (by omega) (by omega)
 ·exact fZ k (by omega) Wnt.w_1 (by omega) (by omega) (by omega) (by omega) (by omega)
theorem Nc {s:St} (k:StK s) {x:Nat} (hx:x<256) (hc:s.count<2078):StK (s.give x) :=
 ⟨k.lit,k.dist,k.short,k.sym,k.len,k.base,k.win,by show s.count+1<=2078;omega,fun j=>by
  show upd s.hist s.count x j<256
  by_cases e:j=s.count
  ·rw[e,upd_same];exact hx
  ·rw[upd_ne _ _ _ e];exact k.hist j,Mr _ _,k.sl,k.ls,k.left⟩
theorem vw {s:St} {r:Rw} {x:Nat} (k:StK s) (j:RwJ r) (hx:x<256) (he:(aD s r x).2.2=0):aD s r x=(s.give x,(r.take x).1,0)/\StK (s.give x)/\RwJ (r.take x).1/\s.count<2078:=by
 unfold aD at he ⊢;by_cases h1:(r.take x).2=0
 ·rw[if_pos h1] at he ⊢
  by_cases h2:2078<=s.count
  ·rw[if_pos h2] at he;exact absurd he (by show ¬ 17=0;omega)
  ·rw[if_neg h2];exact ⟨rfl,Nc k hx (by omega),j.take h1,by omega⟩
 ·rw[if_neg h1] at he;exact absurd he h1
theorem uq:∀ (n D:Nat) (s:St) (r:Rw),StK s->RwJ r->D<=s.count->mH n D s r/\((dm n D s r).2.2=0->StJ (dm n D s r).1/\RwJ (dm n D s r).2.1)
 | 0,D,s,r,k,j,h=>⟨trivial,fun _=>⟨fZ k (by omega) (Wnt.any (by omega)) (by omega) (by omega) (by omega) (by omega) (by omega),j⟩⟩
 | n+1,D,s,r,k,j,h=>by
  have hx:=k.hist (s.count - D);refine ⟨⟨⟨j.good,k.sum,k.cnt,h,k.hist⟩,fun he => ?_⟩,?_⟩
  ·obtain ⟨e1,e2,e3,e4⟩:=vw k j hx he
   rw[e1];exact (uq n D _ _ e2 e3 (by show D<=s.count+1;omega)).1
  ·unfold dm
   by_cases he:(aD s r (s.hist (s.count - D))).2.2=0
   ·rw[if_pos he]
    obtain ⟨e1,e2,e3,e4⟩:=vw k j hx he;rw[e1];exact (uq n D _ _ e2 e3 (by show D<=s.count+1;omega)).2
   ·rw[if_neg he]
    exact fun q=>absurd q he
theorem vA {s:St} {r:Rw} {D:Nat} (k:StK s) (j:RwJ r):(1<=D->D<=s.count->D<=s.window->mH s.length D s r)/\((ft s r D).2.2=0->StJ (ft s r D).1/\RwJ (ft s r D).2.1):=by
 refine ⟨fun _ h _=>(uq _ _ s r k j h).1,fun he => ?_⟩;unfold ft at he ⊢;by_cases h:D<1\/s.count<D\/s.window<D
 ·rw[if_pos h] at he;exact absurd he (by show ¬ 14=0;omega)
 ·rw[if_neg h] at he ⊢
  exact (uq _ _ s r k j (by omega)).2 he
theorem Kw {s:St} {r:Rw} {σ:Int} (k:StK s) (j:RwJ r) (h1:σ ≠ -1) (he:(eY s r σ).2.2=0):StJ (eY s r σ).1/\RwJ (eY s r σ).2.1:=by
 unfold eY at he ⊢;rw[if_neg h1] at he ⊢;by_cases h2:σ<0\/30<=σ
 ·rw[if_pos h2] at he;exact absurd he (by show ¬ 13=0;omega)
 rw[if_neg h2] at he ⊢;have hd:=DM σ.toNat (by omega);by_cases h3:σ.toNat / 2 - 1=0
 ·rw[if_pos h3] at he ⊢
  exact (vA k j).2 he
 ·rw[if_neg h3]
  refine ⟨fZ (s:={ s with base:=sJ.getD σ.toNat 0 }) ⟨k.lit,k.dist,k.short,k.sym,k.len,by show sJ.getD σ.toNat 0<=30000;omega,k.win,k.cnt,k.hist,k.sum,k.sl,k.ls,k.left⟩ (by omega) (Wnt.w_8 (by omega) (by omega)) (by omega) (by omega) (by omega) (by omega) (by omega),j⟩
theorem Nh {s:St} {n:Nat} (k:StK s) (h:n<29):StJ (s.copy n):=by
 have hl:=Do n h;unfold St.copy;have k':StK { s with length:=sF.getD n 0 }:=⟨k.lit,k.dist,k.short,k.sym,by show sF.getD n 0<=300;omega,k.base,k.win,k.cnt,k.hist,k.sum,k.sl,k.ls,k.left⟩;split
 ·exact fZ k' (by omega) (Wnt.any (by omega)) (by omega) (by omega) (by omega) (by omega) (by omega)
 ·rename_i h0
  refine qT k' ⟨by show 7<=13;omega,Wnt.w_7 (by show 1<=uL.getD n 0;omega) hl.2.2,fun q=>absurd q (by show ¬ 7=3;omega),fun _=>hl.2.1,fun q=>absurd q (by show ¬ 7=5;omega),fun q=>absurd q (by show ¬ (7=5\/7=6\/7=11);omega),fun q=>absurd q (by show ¬ (7=6\/7=11);omega),fun q=>absurd q (by show ¬ 7=6;omega)⟩
theorem Gz (f:Nat->Nat) (N:Nat) (h0:0<N) (i:Nat):(cw f N).sym i<N:=BX f _ _ N (fun _=>h0) N (Nat.le_refl _) i
theorem BZ {s:St} (k:StK s) (h1:257<=s.tb.literals) (h2:s.tb.literals<=286) (h3:s.tb.literals<s.tb.told) (h4:s.tb.told<=s.tb.literals+30) (he:s.makeCodes.2=0):StJ s.makeCodes.1:=by
 have k2:StK s.mkLit.mkDist:=⟨rO _ _ (by omega) (by omega),rO _ _ (by show 0<s.tb.told - s.tb.literals;omega) (by show s.tb.told - s.tb.literals<=288;omega),k.short,k.sym,k.len,k.base,k.win,k.cnt,k.hist,k.sum,k.sl,k.ls,k.left⟩;unfold St.makeCodes at he ⊢;generalize s.mkLit.mkDist=s2 at *;split
 ·rename_i q;rw[if_pos q] at he;exact absurd he (by show ¬ 12=0;omega)
 rename_i q1
 rw[if_neg q1] at he;split
 ·rename_i q;rw[if_pos q] at he;exact absurd he (by show ¬ 12=0;omega)
 rename_i q2
 rw[if_neg q2] at he;split
 ·rename_i q;rw[if_pos q] at he;exact absurd he (by show ¬ 12=0;omega)
 exact fZ k2 (by omega) (Wnt.any (by omega)) (by omega) (by omega) (by omega) (by omega) (by omega)
theorem Hz:∀ (n x:Nat) (s:St),StK s->x<256->StK (St.layN n x s)/\(St.layN n x s).tb.literals=s.tb.literals/\(St.layN n x s).tb.distances=s.tb.distances/\(St.layN n x s).tb.told=s.tb.told+n
 | 0,_,s,k,_=>⟨k,rfl,rfl,rfl⟩
 | n+1,x,s,k,hx=>by
  have k1:StK (s.lay1 x):=⟨k.lit,k.dist,k.short,k.sym,k.len,k.base,k.win,k.cnt,k.hist,k.sum,k.sl,fun i=>by
   show upd s.tb.ls s.tb.told x i<256
   by_cases e:i=s.tb.told
   ·rw[e,upd_same];exact hx
   ·rw[upd_ne _ _ _ e];exact k.ls i,k.left⟩
  obtain ⟨h1,h2,h3,h4⟩:=Hz n x (s.lay1 x) k1 hx;refine ⟨h1,h2,h3,h4.trans ?_⟩;show s.tb.told+1+n=_
  omega
theorem Kc {s:St} {x n:Nat} (k:StK s) (hx:x<256) (h1:257<=s.tb.literals) (h2:s.tb.literals<=286) (h3:1<=s.tb.distances) (h4:s.tb.distances<=30) (he:(s.lay x n).2=0):StJ (s.lay x n).1:=by
 unfold St.lay at he ⊢;by_cases q:s.tb.literals+s.tb.distances<s.tb.told+n
 ·rw[if_pos q] at he;exact absurd he (by show ¬ 12=0;omega)
 rw[if_neg q] at he ⊢;obtain ⟨k1,e1,e2,e3⟩:=Hz n x s k hx;generalize St.layN n x s=s1 at *;by_cases q2:s1.tb.told<s.tb.literals+s.tb.distances
 ·rw[if_pos q2]
  refine qT k1 ⟨by show 11<=13;omega,Wnt.any (by show 10<=11;omega),fun q=>absurd q (by show ¬ 11=3;omega),fun q=>absurd q (by show ¬ 11=7;omega),fun q=>absurd q (by show ¬ 11=5;omega),fun _ => ?_,fun _ => ?_,fun q=>absurd q (by show ¬ 11=6;omega)⟩
  ·show 257<=s1.tb.literals/\s1.tb.literals<=286/\1<=s1.tb.distances/\s1.tb.distances<=30
   omega
  ·show s1.tb.told<=s1.tb.literals+s1.tb.distances
   omega
 ·rw[if_neg q2] at he ⊢
  exact BZ k1 (by omega) (by omega) (by omega) (by omega) he
theorem StK.setRep {s:St} (k:StK s) (σ:Int):StK (s.setRep σ):=⟨k.lit,k.dist,k.short,k.sym,k.len,k.base,k.win,k.cnt,k.hist,k.sum,k.sl,k.ls,k.left⟩
theorem yv {s:St} {w:Nat} (k:StK s) (h1:257<=s.tb.literals) (h2:s.tb.literals<=286) (h3:1<=s.tb.distances) (h4:s.tb.distances<=30) (h5:s.tb.told<=s.tb.literals+s.tb.distances) (hr:s.tb.rep=16\/s.tb.rep=17\/s.tb.rep=18) (w1:1<=w) (w2:w<=7):StJ (s.enter 6 w) :=
 qT k ⟨by show 6<=13;omega,Wnt.w_6 w1 w2,fun q=>absurd q (by show ¬ 6=3;omega),fun q=>absurd q (by show ¬ 6=7;omega),fun q=>absurd q (by show ¬ 6=5;omega),fun _=>⟨h1,h2,h3,h4⟩,fun _=>h5,fun _=>hr⟩
theorem IF {s:St} {σ:Int} (k:StK s) (t:od s.tb) (h0 : -2<=σ) (h1:σ<=18) (hm:σ ≠ -1) (he:(s.codeLen σ).2=0):StJ (s.codeLen σ).1:=by
 have k1:=k.setRep σ;unfold St.codeLen at he ⊢;rw[if_neg hm] at he ⊢;by_cases q2:σ = -2
 ·rw[if_pos q2] at he;exact absurd he (by show ¬ 13=0;omega)
 rw[if_neg q2] at he ⊢;by_cases q3:σ=16
 ·rw[if_pos q3] at he ⊢
  by_cases q4:s.tb.told=0
  ·rw[if_pos q4] at he;exact absurd he (by show ¬ 12=0;omega)
  ·rw[if_neg q4]
   exact yv k1 t.l1 t.l2 t.d1 t.d2 t.td (Or.inl q3) (by omega) (by omega)
 rw[if_neg q3] at he ⊢;by_cases q5:σ=17
 ·rw[if_pos q5]
  exact yv k1 t.l1 t.l2 t.d1 t.d2 t.td (Or.inr (Or.inl q5)) (by omega) (by omega)
 rw[if_neg q5] at he ⊢;by_cases q6:σ=18
 ·rw[if_pos q6]
  exact yv k1 t.l1 t.l2 t.d1 t.d2 t.td (Or.inr (Or.inr q6)) (by omega) (by omega)
 rw[if_neg q6] at he ⊢;exact Kc k1 (by omega) t.l1 t.l2 t.d1 t.d2 he
theorem JM {s:St} {v:Nat} (k:StK s) (t:od s.tb) (he:(s.repeat v).2=0):StJ (s.repeat v).1:=by
 unfold St.repeat at he ⊢;by_cases q1:s.tb.rep=17
 ·rw[if_pos q1] at he ⊢;exact Kc k (by omega) t.l1 t.l2 t.d1 t.d2 he
 rw[if_neg q1] at he ⊢;by_cases q2:s.tb.rep=18
 ·rw[if_pos q2] at he ⊢;exact Kc k (by omega) t.l1 t.l2 t.d1 t.d2 he
 rw[if_neg q2] at he ⊢;by_cases q3:s.tb.told<1
 ·rw[if_pos q3] at he;exact absurd he (by show ¬ 12=0;omega)
 rw[if_neg q3] at he ⊢;exact Kc k (k.ls _) t.l1 t.l2 t.d1 t.d2 he
theorem JI {s:St} {v:Nat} (k:StK s) (hv:v<256):StK (s.short1 v):=⟨k.lit,k.dist,k.short,k.sym,k.len,k.base,k.win,k.cnt,k.hist,k.sum,fun i=>by
 show upd s.tb.sl (uJ.getD s.tb.told 0) v i<256
 by_cases e:i=uJ.getD s.tb.told 0
 ·rw[e,upd_same];exact hv
 ·rw[upd_ne _ _ _ e];exact k.sl i,k.ls,k.left⟩
theorem D3 {s:St} {v:Nat} (k:StK s) (hv:v<256) (h1:257<=s.tb.literals) (h2:s.tb.literals<=286) (h3:1<=s.tb.distances) (h4:s.tb.distances<=30) (h5:s.tb.shorts<=19) (he:(s.shortLen v).2=0):StJ (s.shortLen v).1:=by
 have k1:=JI k hv;unfold St.shortLen at he ⊢;by_cases q1:s.tb.told+1<s.tb.shorts
 ·rw[if_pos q1]
  exact qT k1 ⟨by show 5<=13;omega,Wnt.w_5,fun q=>absurd q (by show ¬ 5=3;omega),fun q=>absurd q (by show ¬ 5=7;omega),fun _=>⟨q1,h5⟩,fun _=>⟨h1,h2,h3,h4⟩,fun q=>absurd q (by show ¬ (5=6\/5=11);omega),fun q=>absurd q (by show ¬ 5=6;omega)⟩
 rw[if_neg q1] at he ⊢;by_cases q2:(s.short1 v).short2.tb.short.full=true
 ·rw[if_pos q2]
  have k2:StK { (s.short1 v).short2 with tb:={ (s.short1 v).short2.tb with told:=0 } }:=⟨k1.lit,k1.dist,rO _ _ (by omega) (by omega),fun i=>by have:=Gz (s.short1 v).tb.sl 19 (by omega) i;show (cw (s.short1 v).tb.sl 19).sym i<=18;omega,k1.len,k1.base,k1.win,k1.cnt,k1.hist,k1.sum,k1.sl,k1.ls,k1.left⟩;exact qT k2 ⟨by show 11<=13;omega,Wnt.any (by show 10<=11;omega),fun q=>absurd q (by show ¬ 11=3;omega),fun q=>absurd q (by show ¬ 11=7;omega),fun q=>absurd q (by show ¬ 11=5;omega),fun _=>⟨h1,h2,h3,h4⟩,fun _=>by show 0<=_;omega,fun q=>absurd q (by show ¬ 11=6;omega)⟩
 ·rw[if_neg q2] at he;exact absurd he (by show ¬ 12=0;omega)
theorem KC {s:St} {v:Nat} (k:StK s) (hv:v<16384) (he:(s.counts v).2=0):StJ (s.counts v).1:=by
 unfold St.counts at he ⊢;by_cases q:286<v % 32+257\/30<v / 32 % 32+1
 ·rw[if_pos q] at he;exact absurd he (by show ¬ 12=0;omega)
 rw[if_neg q];have k1:StK { s with tb:=tbN (v % 32+257) (v / 32 % 32+1) (v / 1024+4) }:=⟨k.lit,k.dist,vy,fun _=>by show 0<=18;omega,k.len,k.base,k.win,k.cnt,k.hist,k.sum,fun _=>by show 0<256;omega,fun _=>by show 0<256;omega,k.left⟩;refine qT k1 ⟨by show 5<=13;omega,Wnt.w_5,fun q=>absurd q (by show ¬ 5=3;omega),fun q=>absurd q (by show ¬ 5=7;omega),fun _ => ?_,fun _ => ?_,fun q=>absurd q (by show ¬ (5=6\/5=11);omega),fun q=>absurd q (by show ¬ 5=6;omega)⟩
 ·show 0<v / 1024+4/\v / 1024+4<=19
  omega
 ·show 257<=v % 32+257/\v % 32+257<=286/\1<=v / 32 % 32+1/\v / 32 % 32+1<=30
  omega
theorem Mn {s:St} {v:Nat} (k:StK s) (hv:v<8) (he:dq v=0):StJ (s.block v):=by
 unfold dq at he;unfold St.block;split
 ·exact fZ (s:={ s with last:=decide (v % 2=1),skip:=true }) ⟨k.lit,k.dist,k.short,k.sym,k.len,k.base,k.win,k.cnt,k.hist,k.sum,k.sl,k.ls,k.left⟩ (by omega) Wnt.w_2 (by omega) (by omega) (by omega) (by omega) (by omega)
 split
 ·exact fZ (s:={ s with last:=decide (v % 2=1),lit:=qA,dist:=qR }) ⟨Ko,Kp,k.short,k.sym,k.len,k.base,k.win,k.cnt,k.hist,k.sum,k.sl,k.ls,k.left⟩ (by omega) (Wnt.any (by omega)) (by omega) (by omega) (by omega) (by omega) (by omega)
 split
 ·exact fZ (s:=s.lastIs v) ⟨k.lit,k.dist,k.short,k.sym,k.len,k.base,k.win,k.cnt,k.hist,k.sum,k.sl,k.ls,k.left⟩ (by omega) Wnt.w_4 (by omega) (by omega) (by omega) (by omega) (by omega)
 ·split at he
  ·omega
  ·omega
theorem D0 {s:St} {v:Nat} (k:StK s) (he:(s.takeHead v).2=0):StJ (s.takeHead v).1:=by
 unfold St.takeHead at he ⊢;by_cases q:sj v=true
 ·rw[if_pos q]
  have q':=of_decide_eq_true q;have hp:2^(v % 256 / 16)<=2^7:=Nat.pow_le_pow_right (by omega) q'.2.1;exact fZ (s:={ s with window:=256*2^(v % 256 / 16) }) ⟨k.lit,k.dist,k.short,k.sym,k.len,k.base,by show 256*2^(v % 256 / 16)<=32768;omega,k.cnt,k.hist,k.sum,k.sl,k.ls,k.left⟩ (by omega) Wnt.w_1 (by omega) (by omega) (by omega) (by omega) (by omega)
 ·rw[if_neg q] at he;exact absurd he (by show ¬ 10=0;omega)
theorem DK {s:St} (k:StK s) (h:1<=s.left):StJ (s.enter 3 8) :=
 qT k ⟨by show 3<=13;omega,Wnt.w_3,fun _=>h,fun q=>absurd q (by show ¬ 3=7;omega),fun q=>absurd q (by show ¬ 3=5;omega),fun q=>absurd q (by show ¬ (3=5\/3=6\/3=11);omega),fun q=>absurd q (by show ¬ (3=6\/3=11);omega),fun q=>absurd q (by show ¬ 3=6;omega)⟩
theorem StK.setLeft {s:St} (k:StK s) {n:Nat} (h:n<=65535):StK { s with left:=n }:=⟨k.lit,k.dist,k.short,k.sym,k.len,k.base,k.win,k.cnt,k.hist,k.sum,k.sl,k.ls,h⟩
theorem DZ {s:St} {v:Nat} (k:StK s) (he:(s.takeSize v).2=0):StJ (s.takeSize v).1:=by
 unfold St.takeSize at he ⊢;by_cases q:v % 65536+v / 65536=65535
 ·rw[if_pos q]
  have k1:StK { s with left:=v % 65536 }:=k.setLeft (by omega);show StJ (if v % 65536=0 then ({ s with left:=v % 65536 }:St).endBlock else ({ s with left:=v % 65536 }:St).enter 3 8)
  by_cases h0:v % 65536=0
  ·rw[if_pos h0];exact uQ k1
  ·rw[if_neg h0];exact DK k1 (by show 1<=v % 65536;omega)
 ·rw[if_neg q] at he;exact absurd he (by show ¬ 11=0;omega)
theorem GT {s:St} (k:StK s):StJ s.oneLess:=by
 have hl:=k.left;have k1:StK { s with left:=s.left - 1 }:=k.setLeft (by omega);unfold St.oneLess;split
 ·exact uQ k1
 ·rename_i h;exact DK k1 (by show 1<=s.left - 1;omega)
theorem Gn {s:St} {r:Rw} {x:Nat} (k:StK s) (j:RwJ r) (hx:x<256) (he:(cg s r x).2.2=0):StJ (cg s r x).1/\RwJ (cg s r x).2.1:=by
 unfold cg at he ⊢;by_cases h:(aD s r x).2.2=0
 ·rw[if_pos h]
  obtain ⟨e1,e2,e3,e4⟩:=vw k j hx h;rw[e1];exact ⟨GT e2,e3⟩
 ·rw[if_neg h] at he;exact absurd he h
theorem Gg {s:St} {v:Nat} (k:StK s) (he:(s.takeSum v).2=0):StJ (s.takeSum v).1:=by
 unfold St.takeSum at he ⊢;by_cases q:ur v=s.sum
 ·rw[if_pos q];exact fZ k (by omega) (Wnt.any (by omega)) (by omega) (by omega) (by omega) (by omega) (by omega)
 ·rw[if_neg q] at he;exact absurd he (by show ¬ 19=0;omega)
theorem An {s:St} {v:Nat} (k:StK s) (h1:s.length<=258) (hv:v<32):StJ (s.lengthRest v) :=
 fZ (s:={ s with length:=s.length+v }) ⟨k.lit,k.dist,k.short,k.sym,by show s.length+v<=300;omega,k.base,k.win,k.cnt,k.hist,k.sum,k.sl,k.ls,k.left⟩ (by omega) (Wnt.any (by omega)) (by omega) (by omega) (by omega) (by omega) (by omega)
theorem MP {s:St} {r:Rw} {σ:Int} (k:StK s) (j:RwJ r) (hm:σ ≠ -1) (he:(fK s r σ).2.2=0):StJ (fK s r σ).1/\RwJ (fK s r σ).2.1:=by
 unfold fK at he ⊢;rw[if_neg hm] at he ⊢;by_cases q1:σ<0\/286<=σ
 ·rw[if_pos q1] at he;exact absurd he (by show ¬ 13=0;omega)
 rw[if_neg q1] at he ⊢;by_cases q2:σ=256
 ·rw[if_pos q2];exact ⟨uQ k,j⟩
 rw[if_neg q2] at he ⊢;by_cases q3:257<=σ
 ·rw[if_pos q3]
  have hM:σ.toNat - 257<29:=by omega
  generalize σ.toNat - 257=M at hM ⊢;exact ⟨Nh k hM,j⟩
 rw[if_neg q3] at he ⊢;have k1:=k.enter 12 0;obtain ⟨e1,e2,e3,e4⟩:=vw k1 j (by omega) he;rw[e1];refine ⟨?_,e3⟩
 have:StJ (s.enter 12 0):=fZ k (by omega) (Wnt.any (by omega)) (by omega) (by omega) (by omega) (by omega) (by omega)
 exact ⟨e2,⟨this.p.part,this.p.want,this.p.left,this.p.l7,this.p.t5,this.p.tb,this.p.td,this.p.rep⟩,this.got,this.num,this.path⟩
theorem vr {v w n:Nat} (h:v<2^w) (hw:w<=n):v<2^n:=Nat.lt_of_lt_of_le h (Nat.pow_le_pow_right (by omega) hw)
theorem GZ {s:St} {r:Rw} {v:Nat} (k:StK s) (p:StP s) (j:RwJ r) (h9:s.part<=9) (hv:v<2^s.wanted):fS s r v:=by
 have a:=p.want;have hc:=k.cnt;have hl:=k.left;have hln:=k.len;have hb:=k.base;have hw:=k.win;refine ⟨h9,fun q => ?_,fun q => ?_,fun q => ?_,fun q => ?_,fun q => ?_,fun q => ?_,fun _=>by omega,fun q => ?_,?_,fun q=>p.left q,fun _=>hl,fun _=>j.good,k.sum⟩
 ·rw[a.w0 q] at hv;exact hv
 ·rw[a.w1 q] at hv;exact hv
 ·rw[a.w3 q] at hv;exact hv
 ·rw[a.w4 q] at hv;exact hv
 ·rw[a.w5 q] at hv
  have t:=p.t5 q;exact ⟨by omega,by omega,t.2,fun i _=>k.sl i⟩
 ·have t:=p.tb (Or.inr (Or.inl q))
  have hv7:=vr hv (a.w6 q).2;exact ⟨by omega,p.rep q,t.1,t.2.1,t.2.2.1,t.2.2.2,p.td (Or.inl q),k.ls⟩
 ·have hv13:=vr hv (a.w8 q).2
  exact ⟨by omega,by omega,hc,by omega,by omega,(vA k j).1⟩
 ·have:s.wanted<=32:=by
   have:s.part=0\/s.part=1\/s.part=2\/s.part=3\/s.part=4\/s.part=5\/s.part=6\/s.part=7\/s.part=8\/s.part=9:=by omega
   rcases this with e | e | e | e | e | e | e | e | e | e
   ·have:=a.w0 e;omega
   ·have:=a.w1 e;omega
   ·have:=a.w2 e;omega
   ·have:=a.w3 e;omega
   ·have:=a.w4 e;omega
   ·have:=a.w5 e;omega
   ·have:=a.w6 e;omega
   ·have:=a.w7 e;omega
   ·have:=a.w8 e;omega
   ·have:=a.w9 e;omega
  exact vr hv this
theorem prE {A:St × Nat} {r:Rw} (h:((A.1,r,A.2):St × Rw × Nat).2.2=0):A.2=0:=h
theorem prJ {A:St × Nat} {r:Rw} (h:StJ A.1) (j:RwJ r):StJ ((A.1,r,A.2):St × Rw × Nat).1/\RwJ ((A.1,r,A.2):St × Rw × Nat).2.1:=⟨h,j⟩
theorem prF {A:St} {r:Rw} {e:Nat} (h:((A,r,e):St × Rw × Nat).2.2=0):e=0:=h
theorem prK {A:St} {r:Rw} {e:Nat} (h:StJ A) (j:RwJ r):StJ ((A,r,e):St × Rw × Nat).1/\RwJ ((A,r,e):St × Rw × Nat).2.1:=⟨h,j⟩
theorem M5 {s:St} {r:Rw} {v:Nat} (k:StK s) (p:StP s) (j:RwJ r) (h9:s.part<=9) (hv:v<2^s.wanted) (he:(aI s r v).2.2=0):StJ (aI s r v).1/\RwJ (aI s r v).2.1:=by
 have n:=GZ k p j h9 hv;have a:=p.want;unfold aI at he ⊢;by_cases q0:s.part=0
 ·rw[if_pos q0] at he ⊢;exact prJ (D0 k (prE he)) j
 rw[if_neg q0] at he ⊢;by_cases q1:s.part=1
 ·rw[if_pos q1] at he ⊢;exact prK (Mn k (n.v1 q1) (prF he)) j
 rw[if_neg q1] at he ⊢;by_cases q2:s.part=2
 ·rw[if_pos q2] at he ⊢;exact prJ (DZ k (prE he)) j
 rw[if_neg q2] at he ⊢;by_cases q3:s.part=3
 ·rw[if_pos q3] at he ⊢;exact Gn k j (n.v3 q3) he
 rw[if_neg q3] at he ⊢;by_cases q4:s.part=4
 ·rw[if_pos q4] at he ⊢;exact prJ (KC k (n.v4 q4) (prE he)) j
 rw[if_neg q4] at he ⊢;by_cases q5:s.part=5
 ·rw[if_pos q5] at he ⊢
  have t:=p.tb (Or.inl q5);exact prJ (D3 k (n.v5 q5).vl t.1 t.2.1 t.2.2.1 t.2.2.2 (p.t5 q5).2 (prE he)) j
 rw[if_neg q5] at he ⊢;by_cases q6:s.part=6
 ·rw[if_pos q6] at he ⊢;exact prJ (JM k (n.v6 q6).tb (prE he)) j
 rw[if_neg q6] at he ⊢;by_cases q7:s.part=7
 ·rw[if_pos q7] at he ⊢;exact prK (An k (p.l7 q7) (vr hv (a.w7 q7).2)) j
 rw[if_neg q7] at he ⊢;by_cases q8:s.part=8
 ·rw[if_pos q8] at he ⊢;exact (vA k j).2 he
 rw[if_neg q8] at he ⊢;exact prJ (Gg k (prE he)) j
theorem StK.setPath {s:St} (k:StK s) (p:Pt):StK { s with path:=p }:=⟨k.lit,k.dist,k.short,k.sym,k.len,k.base,k.win,k.cnt,k.hist,k.sum,k.sl,k.ls,k.left⟩
theorem StJ.setPath {s:St} (h:StJ s) {p:Pt} (hp:PtJ p):StJ { s with path:=p }:=⟨h.k.setPath p,⟨h.p.part,h.p.want,h.p.left,h.p.l7,h.p.t5,h.p.tb,h.p.td,h.p.rep⟩,h.got,h.num,hp⟩
theorem StJ.wle {s:St} (h:StJ s) (h9:s.part<=9):s.wanted<=32:=by
 have a:=h.p.want
 have:s.part=0\/s.part=1\/s.part=2\/s.part=3\/s.part=4\/s.part=5\/s.part=6\/s.part=7\/s.part=8\/s.part=9:=by omega
 rcases this with e | e | e | e | e | e | e | e | e | e
 ·have:=a.w0 e;omega
 ·have:=a.w1 e;omega
 ·have:=a.w2 e;omega
 ·have:=a.w3 e;omega
 ·have:=a.w4 e;omega
 ·have:=a.w5 e;omega
 ·have:=a.w6 e;omega
 ·have:=a.w7 e;omega
 ·have:=a.w8 e;omega
 ·have:=a.w9 e;omega
theorem od.of {s:St} (k:StK s) (p:StP s) (h:s.part=11):od s.tb:=by
 have t:=p.tb (Or.inr (Or.inr h));exact ⟨t.1,t.2.1,t.2.2.1,t.2.2.2,p.td (Or.inr h),k.ls⟩
theorem IV {m g t:Nat} (hm:m<2^g) (ht:t<=1):m+t*2^g<2^(g+1):=by
 have:t*2^g<=1*2^g:=Nat.mul_le_mul_right _ ht
 rw[Nat.pow_succ];omega
theorem Mp {s:St} {r:Rw} {t:Nat} (h:StJ s) (j:RwJ r) (h10:s.part≠10) (ht:t<=1):xE s r t:=by
 have hp:=h.p.part;have hln:=h.k.len;have hw:=h.k.win;refine ⟨by omega,fun q => ?_,fun q => ?_,fun q => ?_,fun q => ?_,fun q=>h.wle q,fun _=>h.num,ht,fun q hg => ?_⟩
 ·exact ⟨h.k.lit,h.path.ok,ht,CS.step_lo _ _ _,by have:=CS.step_hi s.lit s.path t 288 (fun i hi=>by have:=h.k.lit.sym i hi;omega);omega,j.good,h.k.sum⟩
 ·exact ⟨h.k.short,h.path.ok,ht,CS.step_lo _ _ _,CS.step_hi _ _ _ 18 (fun i _=>h.k.sym i),od.of h.k h.p q⟩
 ·exact ⟨h.k.dist,h.path.ok,ht,CS.step_lo _ _ _,by have:=CS.step_hi s.dist s.path t 288 (fun i hi=>by have:=h.k.dist.sym i hi;omega);omega,h.k.cnt,by omega,by omega,fun D h1 h2 h3=>(vA (D:=D) (h.k.setPath (s.dist.step s.path t).1) j).1 h1 h2 h3⟩
 ·have:=h.got q;have:=h.wle q;omega
 ·have hgt:=h.got q
  have e:s.got+1=s.wanted:=by omega
  refine GZ (s:=s.oneBit t) ⟨h.k.lit,h.k.dist,h.k.short,h.k.sym,h.k.len,h.k.base,h.k.win,h.k.cnt,h.k.hist,h.k.sum,h.k.sl,h.k.ls,h.k.left⟩ ⟨h.p.part,h.p.want,h.p.left,h.p.l7,h.p.t5,h.p.tb,h.p.td,h.p.rep⟩ j q ?_;show s.number+t*2^s.got<2^s.wanted
  rw[<- e];exact IV h.num ht
theorem Ni {s:St} {r:Rw} {t:Nat} (h:StJ s) (j:RwJ r) (h10:s.part≠10) (ht:t<=1) (he:(aW s r t).2.2=0):StJ (aW s r t).1/\RwJ (aW s r t).2.1:=by
 have hp:=h.p.part;unfold aW at he ⊢;by_cases q12:s.part=12
 ·rw[if_pos q12] at he ⊢
  by_cases hm:(s.lit.step s.path t).2 = -1
  ·have e:uG s r t=({ s with path:=(s.lit.step s.path t).1 },r,0):=by unfold uG fK;rw[if_pos hm]
   rw[e];exact ⟨h.setPath (CS.step_more h.k.lit h.path ht hm),j⟩
  ·exact MP (h.k.setPath _) j hm he
 rw[if_neg q12] at he ⊢;by_cases q11:s.part=11
 ·rw[if_pos q11] at he ⊢
  refine ⟨?_,j⟩;replace he:(clP s t).2=0:=he;show StJ (clP s t).1
  by_cases hm:(s.tb.short.step s.path t).2 = -1
  ·have e:(clP s t).1=({ s with path:=(s.tb.short.step s.path t).1 }:St).setRep (s.tb.short.step s.path t).2:=by unfold clP St.codeLen;rw[if_pos hm]
   rw[e];have h1:=h.setPath (CS.step_more h.k.short h.path ht hm);refine ⟨h1.k.setRep _,⟨h1.p.part,h1.p.want,h1.p.left,h1.p.l7,h1.p.t5,h1.p.tb,h1.p.td,fun q => ?_⟩,h1.got,h1.num,h1.path⟩;replace q:s.part=6:=q;omega
  ·exact IF (h.k.setPath _) (od.of (s:=s) h.k h.p q11) (CS.step_lo _ _ _) (CS.step_hi _ _ _ 18 (fun i _=>h.k.sym i)) hm he
 rw[if_neg q11] at he ⊢;by_cases q13:s.part=13
 ·rw[if_pos q13] at he ⊢
  by_cases hm:(s.dist.step s.path t).2 = -1
  ·have e:dsP s r t=({ s with path:=(s.dist.step s.path t).1 },r,0):=by unfold dsP eY;rw[if_pos hm]
   rw[e];exact ⟨h.setPath (CS.step_more h.k.dist h.path ht hm),j⟩
  ·exact Kw (h.k.setPath _) j hm he
 rw[if_neg q13] at he ⊢;have h9:s.part<=9:=by omega
 have hgt:=h.got h9;have k1:StK (s.oneBit t):=⟨h.k.lit,h.k.dist,h.k.short,h.k.sym,h.k.len,h.k.base,h.k.win,h.k.cnt,h.k.hist,h.k.sum,h.k.sl,h.k.ls,h.k.left⟩;have p1:StP (s.oneBit t):=⟨h.p.part,h.p.want,h.p.left,h.p.l7,h.p.t5,h.p.tb,h.p.td,h.p.rep⟩;have hb:=IV h.num ht;by_cases qw:s.got+1<s.wanted
 ·rw[if_pos qw]
  exact ⟨⟨k1,p1,fun _=>qw,hb,h.path⟩,j⟩
 ·rw[if_neg qw] at he ⊢
  have e:s.got+1=s.wanted:=by omega
  refine M5 k1 p1 j h9 ?_ he;show s.number+t*2^s.got<2^s.wanted
  rw[<- e];exact hb
theorem StJ.skip {s:St} (h:StJ s) (b:Bool):StJ { s with skip:=b }:=⟨⟨h.k.lit,h.k.dist,h.k.short,h.k.sym,h.k.len,h.k.base,h.k.win,h.k.cnt,h.k.hist,h.k.sum,h.k.sl,h.k.ls,h.k.left⟩,⟨h.p.part,h.p.want,h.p.left,h.p.l7,h.p.t5,h.p.tb,h.p.td,h.p.rep⟩,h.got,h.num,h.path⟩
structure PN (s:St):Prop where
 n10:s.part≠10
 n9:s.part=9->s.skip=true/\s.got=0
theorem br (s:St) {p w:Nat} (h1:p≠9) (h2:p≠10):PN (s.enter p w):=⟨h2,fun q=>absurd q h1⟩
theorem qU (s:St):PN s.endBlock:=by
 unfold St.endBlock;split
 ·exact ⟨by show 9≠10;omega,fun _=>⟨rfl,rfl⟩⟩
 ·exact br _ (by omega) (by omega)
theorem uj {s:St} (h:PN s) (r:Rw) (x:Nat):PN (aD s r x).1:=by
 unfold aD;split
 ·split
  ·exact h
  ·exact ⟨h.n10,h.n9⟩
 ·exact h
theorem xr:∀ (k D:Nat) (s:St) (r:Rw),PN s->PN (dm k D s r).1
 | 0,_,s,_,_=>br s (by omega) (by omega)
 | k+1,D,s,r,h=>by
  unfold dm;split
  ·exact xr k D _ _ (uj h _ _)
  ·exact uj h _ _
theorem AF {s:St} (h:PN s) (r:Rw) (D:Nat):PN (ft s r D).1:=by
 unfold ft;split
 ·exact h
 ·exact xr _ _ _ _ h
theorem PN.same {s s':St} (h:PN s) (h1:s'.part=s.part) (h2:s'.skip=s.skip) (h3:s'.got=s.got):PN s':=⟨by rw[h1];exact h.n10,fun q=>by rw[h2,h3];exact h.n9 (by rw[<- h1];exact q)⟩
theorem Dq:∀ (n x:Nat) (s:St),PN s->PN (St.layN n x s)
 | 0,_,_,h=>h
 | n+1,x,s,h=>Dq n x (s.lay1 x) (h.same rfl rfl rfl)
theorem yc {s:St} (h:PN s):PN s.makeCodes.1:=by
 have h2:PN s.mkLit.mkDist:=h.same rfl rfl rfl;unfold St.makeCodes;split
 ·exact h2
 split
 ·exact h2
 split
 ·exact h2
 ·exact br _ (by omega) (by omega)
theorem yg {s:St} (h:PN s) (x n:Nat):PN (s.lay x n).1:=by
 unfold St.lay;split
 ·exact h
 split
 ·exact br _ (by omega) (by omega)
 ·exact yc (Dq n x s h)
theorem Cx {s:St} (h:PN s) (σ:Int):PN (s.codeLen σ).1:=by
 have h1:PN (s.setRep σ):=h.same rfl rfl rfl;unfold St.codeLen;split
 ·exact h1
 split
 ·exact h1
 split
 ·split
  ·exact h1
  ·exact br _ (by omega) (by omega)
 split
 ·exact br _ (by omega) (by omega)
 split
 ·exact br _ (by omega) (by omega)
 ·exact yg h1 _ _
theorem Ea {s:St} (h:PN s) (v:Nat):PN (s.repeat v).1:=by
 unfold St.repeat;split
 ·exact yg h _ _
 split
 ·exact yg h _ _
 split
 ·exact h
 ·exact yg h _ _
theorem zT {s:St} (h:PN s) (v:Nat):PN (s.shortLen v).1:=by
 unfold St.shortLen;split
 ·exact br _ (by omega) (by omega)
 split
 ·exact br _ (by omega) (by omega)
 ·exact h.same rfl rfl rfl
theorem E3 {s:St} (h:PN s) (v:Nat):PN (s.counts v).1:=by
 unfold St.counts;split
 ·exact h.same rfl rfl rfl
 ·exact br _ (by omega) (by omega)
theorem KF (s:St) (j:Nat):PN (s.copy j):=by
 unfold St.copy;split
 ·exact br _ (by omega) (by omega)
 ·exact br _ (by omega) (by omega)
theorem J3 {s:St} (h:PN s) (h9:s.part≠9) (h':s.part<=9) (r:Rw) (v:Nat):PN (aI s r v).1:=by
 unfold aI;split
 ·unfold St.takeHead
  split
  ·exact br _ (by omega) (by omega)
  ·exact h
 split
 ·show PN (s.block v)
  unfold St.block;split
  ·exact br _ (by omega) (by omega)
  split
  ·exact br _ (by omega) (by omega)
  split
  ·exact br _ (by omega) (by omega)
  ·exact h.same rfl rfl rfl
 split
 ·show PN (s.takeSize v).1
  unfold St.takeSize;split
  ·show PN (if v % 65536=0 then ({ s with left:=v % 65536 }:St).endBlock else ({ s with left:=v % 65536 }:St).enter 3 8)
   split
   ·exact qU _
   ·exact br _ (by omega) (by omega)
  ·exact h
 split
 ·unfold cg
  split
  ·show PN (aD s r v).1.oneLess
   unfold St.oneLess;split
   ·exact qU _
   ·exact br _ (by omega) (by omega)
  ·exact uj h _ _
 split
 ·exact E3 h v
 split
 ·exact zT h v
 split
 ·exact Ea h v
 split
 ·exact br _ (by omega) (by omega)
 split
 ·exact AF h _ _
 ·rename_i q0 q1 q2 q3 q4 q5 q6 q7 q8
  omega
theorem DT {s:St} (h9:s.part≠9) (h10:s.part≠10) (hp:s.part<=13) (r:Rw) (t:Nat):PN (aW s r t).1:=by
 have h:PN s:=⟨h10,fun q=>absurd q h9⟩;unfold aW;split
 ·have h1:PN { s with path:=(s.lit.step s.path t).1 }:=h.same rfl rfl rfl
  unfold uG fK;split
  ·exact h1
  split
  ·exact h1
  split
  ·exact qU _
  split
  ·generalize (s.lit.step s.path t).2.toNat - 257=M
   exact KF _ _
  ·exact uj (br _ (by omega) (by omega)) _ _
 split
 ·exact Cx (s:={ s with path:=(s.tb.short.step s.path t).1 }) (h.same rfl rfl rfl) _
 split
 ·have h1:PN { s with path:=(s.dist.step s.path t).1 }:=h.same rfl rfl rfl
  unfold dsP eY;split
  ·exact h1
  split
  ·exact h1
  split
  ·exact AF h1 _ _
  ·exact br _ (by omega) (by omega)
 split
 ·exact ⟨h10,fun q=>absurd q h9⟩
 ·exact J3 (s:=s.oneBit t) ⟨h10,fun q=>absurd q h9⟩ h9 (by show s.part<=9;omega) _ _
theorem AS (x:Nat):∀ (k i:Nat) (s:St) (r:Rw),i+k=8->StJ s->RwJ r->(s.part=10->k=0)->(s.part=9->(s.skip=true->s.got=0)/\(s.skip=false->s.got % 8=i % 8))->oe k i s r x/\((bU k i s r x).2.2=0->StJ (bU k i s r x).1/\RwJ (bU k i s r x).2.1/\((bU k i s r x).1.part=9->(bU k i s r x).1.got % 8=0))
 | 0,i,s,r,hi,h,j,_,h9=>⟨trivial,fun _=>⟨h,j,fun q=>by
   replace q:s.part=9:=q;show s.got % 8=0
   obtain ⟨a,b⟩:=h9 q;cases hs:s.skip with
   | true=>rw[a hs]
   | false=>have:=b hs;omega⟩⟩
 | k+1,i,s,r,hi,h,j,h10,h9=>by
  have n10:s.part≠10:=fun q=>absurd (h10 q) (by omega)
  by_cases hs:s.skip=true
  ·refine ⟨Or.inl hs,?_⟩
   unfold bU;rw[if_pos hs];exact fun _=>⟨h,j,fun q=>by show s.got % 8=0;rw[(h9 q).1 hs]⟩
  ·have hsf:s.skip=false:=by cases e:s.skip with | false=>rfl | true=>exact absurd e hs
   have ht:x / 2^i % 2<=1:=by omega
   have ok:=Mp h j n10 ht;generalize ht':x / 2^i % 2=t at *;have key:(aW s r t).2.2=0->oe k (i+1) (aW s r t).1 (aW s r t).2.1 x/\((bU k (i+1) (aW s r t).1 (aW s r t).2.1 x).2.2=0->StJ (bU k (i+1) (aW s r t).1 (aW s r t).2.1 x).1/\RwJ (bU k (i+1) (aW s r t).1 (aW s r t).2.1 x).2.1/\((bU k (i+1) (aW s r t).1 (aW s r t).2.1 x).1.part=9->(bU k (i+1) (aW s r t).1 (aW s r t).2.1 x).1.got % 8=0)):=fun he=>by
    obtain ⟨h1,j1⟩:=Ni h j n10 ht he;refine AS x k (i+1) _ _ (by omega) h1 j1 ?_ ?_
    ·by_cases q9:s.part=9
     ·intro q10
      have g:=(h9 q9).2 hsf;have w:=h.p.want.w9 q9;have hgt:=h.got (by omega);unfold aW at q10;rw[if_neg (by omega),if_neg (by omega),if_neg (by omega)] at q10;by_cases qw:s.got+1<s.wanted
      ·rw[if_pos qw] at q10
       replace q10:s.part=10:=q10;omega
      ·omega
     ·intro q10
      exact absurd q10 (DT q9 n10 h.p.part r t).n10
    ·by_cases q9:s.part=9
     ·intro q9'
      have g:=(h9 q9).2 hsf;unfold aW at q9' he ⊢;rw[if_neg (by omega),if_neg (by omega),if_neg (by omega)] at q9' he ⊢;by_cases qw:s.got+1<s.wanted
      ·rw[if_pos qw]
       refine ⟨fun q => ?_,fun _ => ?_⟩
       ·replace q:s.skip=true:=q
        exact absurd q hs
       ·show (s.got+1) % 8=(i+1) % 8
        omega
      ·exfalso
       rw[if_neg qw] at q9' he;unfold aI at q9' he;have e9:(s.oneBit t).part=9:=q9;rw[if_neg (by omega),if_neg (by omega),if_neg (by omega),if_neg (by omega),if_neg (by omega),if_neg (by omega),if_neg (by omega),if_neg (by omega),if_neg (by omega)] at q9' he;unfold St.takeSum at q9' he;by_cases qs:ur (s.number+t*2^s.got)=(s.oneBit t).sum
       ·rw[if_pos qs] at q9'
        exact absurd q9' (by show ¬ 10=9;omega)
       ·rw[if_neg qs] at he
        exact absurd he (by show ¬ 19=0;omega)
     ·intro q9'
      obtain ⟨a,b⟩:=(DT q9 n10 h.p.part r t).n9 q9';exact ⟨fun _=>b,fun q=>by rw[a] at q;cases q⟩
   refine ⟨?_,?_⟩
   ·refine Or.inr ?_
    rw[ht'];exact ⟨ok,fun he=>(key he).1⟩
   ·unfold bU
    rw[if_neg hs,ht'];by_cases he:(aW s r t).2.2=0
    ·rw[if_pos he];exact (key he).2
    ·rw[if_neg he];exact fun q=>absurd q he
structure StB (s:St):Prop where
 j:StJ s
 al:s.part=9->s.got % 8=0
theorem StB.start:StB St.start:=⟨StJ.start,fun q=>absurd q (by show ¬ 0=9;omega)⟩
theorem C7 {s:St} {r:Rw} {x:Nat} (h:StB s) (j:RwJ r):(s.part≠10->oe 8 0 { s with skip:=false } r x)/\((takeB s r x).2.2=0->StB (takeB s r x).1/\RwJ (takeB s r x).2.1):=by
 have key:s.part≠10->_:=fun h10=>AS x 8 0 { s with skip:=false } r rfl (h.j.skip false) j (fun q=>absurd q h10) (fun q=>⟨fun e=>(by cases e),fun _=>h.al q⟩)
 refine ⟨fun h10=>(key h10).1,fun he => ?_⟩;unfold takeB at he ⊢;by_cases h10:s.part=10
 ·rw[if_pos h10] at he;exact absurd he (by show ¬ 20=0;omega)
 ·rw[if_neg h10] at he ⊢
  obtain ⟨a,b,c⟩:=(key h10).2 he;exact ⟨⟨a,c⟩,b⟩
