import Derived.Test.YtgooinallljbpaaGreatDoorTd21
namespace Go.Proofs.YtgooinallljbpaaGreatDoor
open Go.RowKit Px
set_option linter.unusedSimpArgs false
set_option linter.unusedVariables false
structure fB (C:CS) (l:List Nat):Prop where
 short:∀ s,l.getD s 0<=15
 count:∀ n,1<=n->n<=15->C.count n=bX l n l.length
 sym:∀ s,s<l.length->1<=l.getD s 0->C.symbol (xL l (l.getD s 0)+bX l (l.getD s 0) s)=(s:Int)
 long:∀ s,s<l.length->l.getD s 0<=C.longest
 longest:C.longest<=15
 full:C.longest<=1\/eL l 15=32768
structure sP (l:List Nat) (n v:Nat) (p:Pt):Prop where
 bits:p.bits=n
 off:v=eL l n+p.offset
 ahead:p.ahead=xL l (n+1)
theorem sP.start (l:List Nat):sP l 0 0 ⟨0,0,0⟩:=⟨rfl,by rw[yz];rfl,rfl⟩
theorem E7 {C:CS} {l:List Nat} (h:fB C l) {n v t:Nat} {p:Pt} (hp:sP l n v p) (hv:v<2^n) (ht:t<2) (hn:n<=14) :
  ((C.step p t).2 = -1/\fD l (n+1) (2*v+t) l.length/\fA l (n+1) (2*v+t) l.length/\sP l (n+1) (2*v+t) (C.step p t).1/\n+1<=14) \/
  (∃ c:Nat,(C.step p t).2=(c:Int)/\c<l.length/\fD l (n+1) (2*v+t) c/\kZ l (n+1) (2*v+t) c) \/
  ((C.step p t).2 = -2/\fD l (n+1) (2*v+t) l.length/\¬ fA l (n+1) (2*v+t) l.length):=by
 obtain ⟨h1,h2,h3⟩:=hp;have hg:=Mb l n;have hlong:=h.longest;unfold CS.step;rw[h1];by_cases c1:C.longest<n+1
 ·rw[if_pos (Or.inl c1)]
  refine Or.inr (Or.inr ⟨rfl,fun s hs hh => ?_,Ai fun s hs => ?_⟩)
  ·have:=h.long s hs
   rw[rT hs (by omega)] at hh;omega
  ·have:=h.long s hs;omega
 ·rw[if_neg (by omega)]
  have hc:=h.count (n+1) (by omega) (by omega);rw[hc];have hval:2*v+t=gL l (n+1) l.length+(2*p.offset+t):=by rw[hg];omega
  by_cases c2:2*p.offset+t<bX l (n+1) l.length
  ·rw[if_pos c2]
   obtain ⟨s,a,b,c⟩:=yF l (n+1) l.length _ c2;refine Or.inr (Or.inl ⟨s,?_,a,?_,?_⟩)
   ·have:=h.sym s a (by omega)
    rw[b,c] at this;show C.symbol (p.ahead+(2*p.offset+t))=_
    rw[h3];exact this
   ·refine L3 a (by omega) ?_
    rw[rT a (by omega)];exact ⟨b,by rw[hval,c]⟩
   ·rw[rT a (by omega)]
    exact ⟨b,by rw[hval,c]⟩
  ·rw[if_neg c2]
   have hno:fD l (n+1) (2*v+t) l.length:=fun s hs hh=>by
    rw[rT hs (by omega)] at hh
    have:=rU l (n+1) hs hh.1
    omega
   by_cases c3:n+1=C.longest
   ·refine Or.inr (Or.inr ⟨?_,hno,Ai fun s hs => ?_⟩)
    ·show (if n+1=C.longest then (-2:Int) else -1) = -2
     rw[if_pos c3]
    ·rw[c3];exact h.long s hs
   ·refine Or.inl ⟨?_,hno,?_,⟨rfl,?_,?_⟩,by omega⟩
    ·show (if n+1=C.longest then (-2:Int) else -1) = -1
     rw[if_neg c3]
    ·have hf:eL l 15=32768:=by
      rcases h.full with q | q
      ·omega
      ·exact q
     refine J9 hf (by omega) (by rw[Nat.pow_succ];omega) ?_;rw[uk];omega
    ·show 2*v+t=eL l (n+1)+(2*p.offset+t - bX l (n+1) l.length)
     rw[uk];omega
    ·show p.ahead+bX l (n+1) l.length=xL l (n+1+1)
     rw[h3];rfl
def aA (f:Nat->Nat) (N:Nat):List Nat:=(List.range N).map f
theorem fm (f:Nat->Nat) (N:Nat):(aA f N).length=N:=by simp [aA]
theorem iJ (f:Nat->Nat) (N i:Nat) (h:i<N):(aA f N).getD i 0=f i:=by
 unfold aA;rw[List.getD_eq_getElem?_getD,List.getElem?_map,List.getElem?_range h];rfl
theorem uh (f:Nat->Nat) (N:Nat) (hf:∀ i,i<N->f i<=15):∀ i,i<=N->∀ n,1<=n->mkC f i n=bX (aA f N) n i
 | 0,_,n,_=>rfl
 | i+1,h,n,hn=>by
  have ih:=uh f N hf i (by omega) n hn;have hl:=iJ f N i (by omega);have hb:=hf i (by omega);rw[bX,hl,mkC];by_cases k:okL (f i)
  ·rw[if_pos k]
   by_cases e:f i=n
   ·rw[if_pos e,e,upd_same,ih]
   ·rw[if_neg e,upd_ne _ _ _ (by omega),ih];rfl
  ·rw[if_neg k,ih]
   have:f i=0:=by unfold okL at k;omega
   rw[if_neg (by omega)];rfl
theorem Lj (f:Nat->Nat) (N:Nat) (hf:∀ i,i<N->f i<=15):∀ k,k<=16->mkX (mkC f N) k=xL (aA f N) k
 | 0,_=>rfl
 | 1,_=>rfl
 | k+2,h=>by
  show mkX (mkC f N) (k+1)+mkC f N (k+1)=xL (aA f N) (k+1)+bX (aA f N) (k+1) (aA f N).length
  rw[Lj f N hf (k+1) (by omega),uh f N hf N (Nat.le_refl _) (k+1) (by omega),fm]
def eZ (l:List Nat) (k:Nat):Nat->Nat
 | 0=>0
 | i+1=>eZ l k i+if 1<=l.getD i 0/\l.getD i 0<k then 1 else 0
theorem lh (l:List Nat) (k i:Nat) (hk:1<=k):eZ l (k+1) i=eZ l k i+bX l k i:=by
 induction i with
 | zero=>rfl
 | succ i ih=>
  rw[eZ,eZ,bX,ih];by_cases a:1<=l.getD i 0/\l.getD i 0<k
  ·rw[if_pos ⟨a.1,by omega⟩,if_pos a,if_neg (by omega)];omega
  ·by_cases b:l.getD i 0=k
   ·rw[if_pos ⟨by omega,by omega⟩,if_neg a,if_pos b];omega
   ·rw[if_neg (by omega),if_neg a,if_neg b];omega
theorem CI (l:List Nat) (i:Nat):eZ l 1 i=0:=by
 induction i with
 | zero=>rfl
 | succ i ih=>rw[eZ,ih,if_neg (by omega)]
theorem qB (l:List Nat):∀ k,1<=k->xL l k=eZ l k l.length
 | 0,h=>by omega
 | 1,_=>by rw[CI];rfl
 | k+2,_=>by
  show xL l (k+1)+bX l (k+1) l.length=_
  rw[lh l (k+1) _ (by omega),qB l (k+1) (by omega)]
theorem rR (f:Nat->Nat) (N:Nat) (hf:∀ i,i<N->f i<=15):∀ i,i<=N->mkT f i=eZ (aA f N) 16 i
 | 0,_=>rfl
 | i+1,h=>by
  have ih:=rR f N hf i (by omega);have hl:=iJ f N i (by omega);have hb:=hf i (by omega);rw[eZ,hl,mkT,ih];by_cases k:okL (f i)
  ·rw[if_pos k,if_pos ⟨k.1,by omega⟩]
  ·rw[if_neg k,if_neg (by unfold okL at k;omega)];omega
theorem mM (l:List Nat) (i:Nat) {a b:Nat} (h:a<=b):eZ l a i<=eZ l b i:=by
 induction i with
 | zero=>exact Nat.le_refl _
 | succ i ih=>
  rw[eZ,eZ];by_cases c:1<=l.getD i 0/\l.getD i 0<a
  ·rw[if_pos c,if_pos ⟨c.1,by omega⟩];omega
  ·rw[if_neg c];omega
theorem ug (f:Nat->Nat) (N:Nat) (hf:∀ i,i<N->f i<=15) (s:Nat) (hs:s<N) (h1:1<=f s):xL (aA f N) (f s)+bX (aA f N) (f s) s<mkT f N:=by
 have hb:=hf s hs;have e:=iJ f N s hs;have h2:=rU (aA f N) (f s) hs e;rw[rR f N hf N (Nat.le_refl _),qB _ _ h1,fm];have h3:=lh (aA f N) (f s) N h1;have h4:=mM (aA f N) N (show f s+1<=16 by omega);omega
theorem Eb (f:Nat->Nat) (N:Nat) (s t:Nat) (hs:s<N) (ht:t<N) (h1:1<=f s) (h2:1<=f t) (h:xL (aA f N) (f s)+bX (aA f N) (f s) s=xL (aA f N) (f t)+bX (aA f N) (f t) t):s=t:=by
 have es:=iJ f N s hs;have et:=iJ f N t ht;have a1:=rU (aA f N) (f s) hs es;have a2:=rU (aA f N) (f t) ht et;have b1:=lh (aA f N) (f s) N h1;have b2:=lh (aA f N) (f t) N h2;rw[qB _ _ h1,qB _ _ h2,fm] at h;by_cases c:f s=f t
 ·rw[c] at h es
  exact AJ (aA f N) (f t) es et (by omega)
 ·by_cases d:f s<f t
  ·have:=mM (aA f N) N (show f s+1<=f t by omega);omega
  ·have:=mM (aA f N) N (show f t+1<=f s by omega);omega
theorem Lk (f:Nat->Nat) (N:Nat) (hf:∀ i,i<N->f i<=15) (hN:N<=288):∀ i,i<=N->∀ n,1<=n->n<=15->mkN f (mkX (mkC f N)) i n=xL (aA f N) n+bX (aA f N) n i
 | 0,_,n,h1,h2=>by rw[bX];exact Lj f N hf n (by omega)
 | i+1,h,n,h1,h2=>by
  have ih:=Lk f N hf hN i (by omega);have hl:=iJ f N i (by omega);have hb:=hf i (by omega);rw[bX,hl,mkN];by_cases k:okL (f i)
  ·have hm:=ih (f i) k.1 k.2
   have hp:=ug f N hf i (by omega) k.1;have hT:=sE f N;rw[if_pos ⟨k,by omega⟩];by_cases e:f i=n
   ·rw[if_pos e,e,upd_same,ih n h1 h2];omega
   ·rw[if_neg e,upd_ne _ _ _ (by omega),ih n h1 h2];omega
  ·rw[if_neg (fun q=>k q.1),ih n h1 h2,if_neg (by unfold okL at k;omega)];omega
theorem Ho (f:Nat->Nat) (N:Nat) (hf:∀ i,i<N->f i<=15) (hN:N<=288) (s0:Nat->Nat):∀ i,i<=N->∀ s,s<i->1<=f s->mkS f (mkX (mkC f N)) s0 i (xL (aA f N) (f s)+bX (aA f N) (f s) s)=s
 | 0,_,s,h,_=>by omega
 | i+1,h,s,hs,h1=>by
  have hb:=hf i (by omega);have hT:=sE f N;rw[mkS];by_cases k:okL (f i)
  ·have hm:=Lk f N hf hN i (by omega) (f i) k.1 k.2
   have hp:=ug f N hf i (by omega) k.1;rw[if_pos ⟨k,by omega⟩,hm];by_cases e:s=i
   ·subst e;rw[upd_same]
   ·rw[upd_ne _ _ _ (fun q=>e (Eb f N s i (by omega) (by omega) h1 k.1 q))]
    exact Ho f N hf hN s0 i (by omega) s (by omega) h1
  ·rw[if_neg (fun q=>k q.1)]
   have e:s≠i:=fun e=>by subst e;exact k ⟨h1,hb⟩
   exact Ho f N hf hN s0 i (by omega) s (by omega) h1
theorem BY (f:Nat->Nat) (N:Nat) (hf:∀ i,i<N->f i<=15):∀ i,i<=N->∀ s,s<i->f s<=mkG f i
 | 0,_,s,h=>by omega
 | i+1,h,s,hs=>by
  have hb:=hf i (by omega);rw[mkG];by_cases k:okL (f i)
  ·rw[if_pos k]
   by_cases e:s=i
   ·subst e;omega
   ·have:=BY f N hf i (by omega) s (by omega);omega
  ·rw[if_neg k]
   by_cases e:s=i
   ·subst e;unfold okL at k;omega
   ·exact BY f N hf i (by omega) s (by omega)
theorem D6 (f:Nat->Nat) (N:Nat) (hf:∀ i,i<N->f i<=15) (hN:N<=288) (hfull:(cw f N).longest<=1\/eL (aA f N) 15=32768):fB (cw f N) (aA f N):=by
 refine ⟨fun s => ?_,fun n h1 h2 => ?_,fun s hs h1 => ?_,fun s hs => ?_,we f N,hfull⟩
 ·by_cases h:s<N
  ·rw[iJ f N s h];exact hf s h
  ·rw[List.getD_eq_getElem?_getD,List.getElem?_eq_none (by rw[fm];omega)];exact Nat.zero_le _
 ·rw[fm];exact uh f N hf N (Nat.le_refl _) n h1
 ·rw[fm] at hs
  rw[iJ f N s hs] at h1 ⊢;have hp:=ug f N hf s hs h1;have hT:=sE f N;unfold CS.symbol;rw[if_neg (by show ¬ (mkT f N<=_\/_);omega)];show ((mkS f (mkX (mkC f N)) (fun _=>0) N _:Nat):Int)=_
  rw[Ho f N hf hN _ N (Nat.le_refl _) s hs h1]
 ·rw[fm] at hs
  rw[iJ f N s hs];exact BY f N hf N (Nat.le_refl _) s hs
theorem DF (C:CS) (l:List Nat) (hc:∀ n,1<=n->n<=15->C.count n=bX l n l.length):∀ n k g,k+n=16->1<=k->g+eL l (k - 1)=2^(k - 1)->(sH C n g k=true ↔ eL l 15=32768)
 | 0,k,g,h,h1,hg=>by
  have:k=16:=by omega
  subst this;show decide (g=0)=true ↔ _
  rw[decide_eq_true_iff];have e:(2:Nat)^(16 - 1)=32768:=rfl;rw[e] at hg;have e2:16 - 1=15:=rfl;rw[e2] at hg;omega
 | n+1,k,g,h,h1,hg=>by
  obtain ⟨q,rfl⟩:∃ q,k=q+1:=⟨k - 1,by omega⟩;rw[Nat.add_sub_cancel] at hg;have hq:=hc (q+1) (by omega) (by omega);have he:=uk l q;show (if 2*g<C.count (q+1) then false else sH C n (2*g - C.count (q+1)) (q+1+1))=true ↔ _
  by_cases c:2*g<C.count (q+1)
  ·rw[if_pos c]
   have hx:2^(q+1)<eL l (q+1):=by rw[Nat.pow_succ];omega
   have gr:=DL l (q+1) (15 - (q+1));have e:q+1+(15 - (q+1))=15:=by omega
   rw[e] at gr;have h2:(2^(q+1)+1)*2^(15 - (q+1))<=eL l (q+1)*2^(15 - (q+1)):=Nat.mul_le_mul_right _ (by omega);rw[Nat.add_mul,<- Nat.pow_add,e] at h2
   have:0<2^(15 - (q+1)):=Nat.pow_pos (by omega)
   constructor
   ·intro k;cases k
   ·intro k;omega
  ·rw[if_neg c]
   refine DF C l hc n (q+1+1) _ (by omega) (by omega) ?_;rw[Nat.add_sub_cancel,Nat.pow_succ];omega
theorem Au (C:CS) (l:List Nat) (hc:∀ n,1<=n->n<=15->C.count n=bX l n l.length):C.full=true ↔ eL l 15=32768:=by
 refine DF C l hc 15 1 1 rfl (by omega) ?_;show 1+eL l 0=2^0
 rw[yz]
theorem JG (l:List Nat) (hl:∀ s,l.getD s 0<=15) (k:Nat):fU l k=gL l 15 k+bX l 15 k:=by
 induction k with
 | zero=>rfl
 | succ k ih=>
  have:=hl k
  rw[fU,gL,bX,ih];by_cases a:0<l.getD k 0
  ·rw[if_pos a]
   by_cases b:l.getD k 0=15
   ·rw[if_neg (by omega),if_pos b,b];omega
   ·rw[if_pos ⟨a,by omega⟩,if_neg b];omega
  ·rw[if_neg a,if_neg (by omega),if_neg (by omega)];omega
theorem MQ (l:List Nat) (hl:∀ s,l.getD s 0<=15):fU l l.length=eL l 15:=by rw[JG l hl];rfl
theorem AI (l:List Nat) (hl:∀ s,l.getD s 0<=15) (k:Nat):fG l k=eZ l 16 k:=by
 induction k with
 | zero=>rfl
 | succ k ih=>
  have:=hl k
  rw[fG,eZ,ih];by_cases a:0<l.getD k 0
  ·rw[if_pos a,if_pos ⟨by omega,by omega⟩]
  ·rw[if_neg a,if_neg (by omega)]
theorem Ee (l:List Nat) (k:Nat):mG l k=bX l 1 k:=by
 induction k with
 | zero=>rfl
 | succ k ih=>rw[mG,bX,ih]
theorem rN (f:Nat->Nat) (N:Nat) (hf:∀ i,i<N->f i<=15) (lone none:Bool) :
  ((cw f N).full || ((lone && (cw f N).lone) || (none && (cw f N).empty)))=db (aA f N) lone none:=by
 have hl:∀ s,(aA f N).getD s 0<=15:=fun s=>by
  by_cases h:s<N
  ·rw[iJ f N s h];exact hf s h
  ·rw[List.getD_eq_getElem?_getD,List.getElem?_eq_none (by rw[fm];omega)];exact Nat.zero_le _
 have hc:∀ n,1<=n->n<=15->(cw f N).count n=bX (aA f N) n (aA f N).length:=fun n h1 h2=>by rw[fm];exact uh f N hf N (Nat.le_refl _) n h1
 have a1:(cw f N).full=decide (fU (aA f N) (aA f N).length=32768):=by
  rw[Bool.eq_iff_iff,Au _ _ hc,decide_eq_true_iff,MQ _ hl]
 have hT:(cw f N).total=fG (aA f N) (aA f N).length:=by
  rw[AI _ hl,fm];exact rR f N hf N (Nat.le_refl _)
 have a2:(cw f N).lone=(decide (fG (aA f N) (aA f N).length=1) && decide (mG (aA f N) (aA f N).length=1)):=by
  unfold CS.lone;rw[hT,hc 1 (by omega) (by omega),Ee]
 have a3:(cw f N).empty=decide (fG (aA f N) (aA f N).length=0):=by unfold CS.empty;rw[hT]
 unfold db;rw[a1,a2,a3];by_cases h0:fG (aA f N) (aA f N).length=0
 ·have hz:fU (aA f N) (aA f N).length=0:=by
   have:∀ k,fG (aA f N) k=0->fU (aA f N) k=0:=by
    intro k
    induction k with
    | zero=>intro _;rfl
    | succ k ih=>
     intro h;rw[fG] at h;by_cases a:0<(aA f N).getD k 0
     ·rw[if_pos a] at h;omega
     ·rw[fU,if_neg a,ih (by omega)]
   exact this _ h0
  rw[if_pos h0,hz,h0];cases lone<;>cases none<;>rfl
 ·rw[if_neg h0]
  rw[decide_eq_false h0];cases lone<;>cases none<;>simp
theorem xW (f:Nat->Nat) (N:Nat) (hf:∀ i,i<N->f i<=15) (hN:N<=288) (lone none:Bool) (h:db (aA f N) lone none=true):fB (cw f N) (aA f N):=by
 have hc:∀ n,1<=n->n<=15->(cw f N).count n=bX (aA f N) n (aA f N).length:=fun n h1 h2=>by rw[fm];exact uh f N hf N (Nat.le_refl _) n h1
 rw[<- rN f N hf] at h;refine D6 f N hf hN ?_;by_cases a:(cw f N).full=true
 ·exact Or.inr ((Au _ _ hc).1 a)
 ·left
  have hG:∀ i,i<=N->mkG f i<=1\/(∃ s,s<i/\2<=f s/\f s<=15):=by
   intro i
   induction i with
   | zero=>intro _;left;show (0:Nat)<=1;omega
   | succ i ih=>
    intro hi;have hb:=hf i (by omega);rcases ih (by omega) with q | ⟨s,q1,q2⟩
    ·by_cases k:2<=f i
     ·exact Or.inr ⟨i,by omega,k,hb⟩
     ·left
      rw[mkG];split<;>omega
    ·exact Or.inr ⟨s,by omega,q2⟩
  rcases hG N (Nat.le_refl _) with q | ⟨s,q1,q2,q3⟩
  ·exact q
  ·exfalso
   have hT:(cw f N).total=eZ (aA f N) 16 N:=rR f N hf N (Nat.le_refl _);have p1:=ug f N hf s q1 (by omega);have t1:(cw f N).total=mkT f N:=rfl;have b1:=qB (aA f N) (f s) (by omega);have c1:bX (aA f N) 1 N<=xL (aA f N) (f s):=by
    rw[b1,fm]
    have:=lh (aA f N) 1 N (by omega)
    have:=mM (aA f N) N (show 1+1<=f s by omega)
    omega
   have h1:=hc 1 (by omega) (by omega);rw[fm] at h1;have lo:(cw f N).lone=false:=by
    unfold CS.lone;by_cases e:(cw f N).total=1
    ·rw[decide_eq_false (show ¬ (cw f N).count 1=1 by omega),Bool.and_false]
    ·rw[decide_eq_false e];rfl
   have em:(cw f N).empty=false:=by unfold CS.empty;exact decide_eq_false (by omega)
   have fu:(cw f N).full=false:=by simpa using a
   rw[fu,lo,em] at h;cases lone<;>cases none<;>simp at h
theorem EF:fB qA aO:=by
 refine ⟨fun s => ?_,fun n h1 h2 => ?_,fun s hs h1 => ?_,fun s hs => ?_,by decide,Or.inr (by decide +kernel)⟩
 ·by_cases h:s<288
  ·have:∀ s,s<288->aO.getD s 0<=15:=by decide +kernel
   exact this s h
  ·have e:aO.length=288:=by decide +kernel
   rw[List.getD_eq_getElem?_getD,List.getElem?_eq_none (by omega)];exact Nat.zero_le _
 ·have:∀ n,n<16->1<=n->qA.count n=bX aO n aO.length:=by decide +kernel
  exact this n (by omega) h1
 ·have e:aO.length=288:=by decide +kernel
  have:∀ s,s<288->qA.symbol (xL aO (aO.getD s 0)+bX aO (aO.getD s 0) s)=(s:Int):=by decide +kernel
  exact this s (by omega)
 ·have e:aO.length=288:=by decide +kernel
  have:∀ s,s<288->aO.getD s 0<=qA.longest:=by decide +kernel
  exact this s (by omega)
theorem EG:fB qR bW:=by
 refine ⟨fun s => ?_,fun n h1 h2 => ?_,fun s hs h1 => ?_,fun s hs => ?_,by decide,Or.inr (by decide +kernel)⟩
 ·by_cases h:s<32
  ·have:∀ s,s<32->bW.getD s 0<=15:=by decide +kernel
   exact this s h
  ·have e:bW.length=32:=by decide +kernel
   rw[List.getD_eq_getElem?_getD,List.getElem?_eq_none (by omega)];exact Nat.zero_le _
 ·have:∀ n,n<16->1<=n->qR.count n=bX bW n bW.length:=by decide +kernel
  exact this n (by omega) h1
 ·have e:bW.length=32:=by decide +kernel
  have:∀ s,s<32->qR.symbol (xL bW (bW.getD s 0)+bX bW (bW.getD s 0) s)=(s:Int):=by decide +kernel
  exact this s (by omega)
 ·have e:bW.length=32:=by decide +kernel
  have:∀ s,s<32->bW.getD s 0<=qR.longest:=by decide +kernel
  exact this s (by omega)
def cR (r:Rw):List One->Rw × Nat
 | []=>(r,0)
 | x::l=>if (r.take x.1).2=0 then cR (r.take x.1).1 l else r.take x.1
theorem pP (r:Rw) (l m:List One):cR r (l++m)=if (cR r l).2=0 then cR (cR r l).1 m else cR r l:=by
 induction l generalizing r with
 | nil=>rfl
 | cons x l ih=>
  show cR r (x::(l++m))=_
  rw[cR,cR];by_cases h:(r.take x.1).2=0
  ·rw[if_pos h,if_pos h];exact ih _
  ·rw[if_neg h,if_neg h,if_neg h]
theorem pO {r r':Rw} {l:List One} (h:cR r l=(r',0)) (x:One):cR r (l++[x])=if (r'.take x.1).2=0 then ((r'.take x.1).1,0) else r'.take x.1:=by
 rw[pP,h];rfl
def fe (r0:Rw) (out:List One) (p e:Nat):Prop:=e≠0/\∃ pre x post r1,out=pre++(x,p)::post/\cR r0 pre=(r1,0)/\(r1.take x).2=e
theorem fe.more {r0:Rw} {out:List One} {p e:Nat} (h:fe r0 out p e) (q:List One):fe r0 (out++q) p e:=by
 obtain ⟨h0,pre,x,post,r1,rfl,h1,h2⟩:=h;exact ⟨h0,pre,x,post++q,r1,by simp,h1,h2⟩
structure Cm (r0:Rw) (s:St) (r:Rw) (t:Px.St):Prop where
 win:s.window=t.window
 last:s.last=t.last
 cnt:s.count=t.out.length
 hist:∀ j,j<t.out.length->s.hist j=vAt t.out j
 sum:s.sum=65536*bJ t.out+bx t.out
 rows:cR r0 t.out=(r,0)
def Cap (r0:Rw):Prop:=∀ out r x,cR r0 out=(r,0)->(r.take x).2=0->out.length<2078
theorem Jd (l:List One) (x:One):65536*bJ (l++[x])+bx (l++[x])=adl (65536*bJ l+bx l) x.1:=by
 have h:=AY l l.length;rw[xD] at h;have e1:bx (l++[x])=(bx l+x.1) % 65521:=by unfold bx;rw[List.foldl_append];rfl
 have e2:bJ (l++[x])=(bJ l+(bx l+x.1) % 65521) % 65521:=by
  have f:=Av l (1,0);unfold bJ bx;rw[List.foldl_append];show ((l.foldl _ (1,0)).2+((l.foldl _ (1,0)).1+x.1) % 65521) % 65521=_
  rw[f]
 rw[e1,e2];unfold adl;have h1:=h.1;have h2:=h.2;simp only at h1 h2;have a1:(65536*bJ l+bx l) / 65536=bJ l:=by omega
 have a2:(65536*bJ l+bx l) % 65536=bx l:=by omega
 rw[a1,a2];omega
theorem Ga (l:List One) (x:One) (j:Nat) (h:j<(l++[x]).length):vAt (l++[x]) j=if j=l.length then x.1 else vAt l j:=by
 unfold vAt;rw[List.getD_eq_getElem?_getD,List.getD_eq_getElem?_getD];simp at h;by_cases e:j=l.length
 ·subst e;rw[if_pos rfl,List.getElem?_append_right (Nat.le_refl _)];simp
 ·rw[if_neg e,List.getElem?_append_left (by omega)]
theorem yp {r0:Rw} {s:St} {r:Rw} {t:Px.St} (hc:Cap r0) (h:Cm r0 s r t) (x p:Nat) :
  ((aD s r x).2.2=0/\aD s r x=(s.give x,(aD s r x).2.1,0)/\Cm r0 (s.give x) (aD s r x).2.1 (t.give x p))\/((aD s r x).2.2≠0/\fe r0 (t.give x p).out p (aD s r x).2.2):=by
 unfold aD;by_cases e:(r.take x).2=0
 ·have hlt:=hc t.out r x h.rows e
  have hcnt:=h.cnt;rw[if_pos e,if_neg (by omega)];refine Or.inl ⟨rfl,rfl,h.win,h.last,?_,fun j hj => ?_,?_,?_⟩
  ·show s.count+1=(t.out++[(x,p)]).length
   simp;omega
  ·show upd s.hist s.count x j=vAt (t.out++[(x,p)]) j
   rw[Ga _ _ _ hj,hcnt];have hj':j<t.out.length+1:=by simpa [Px.St.give] using hj
   by_cases q:j=t.out.length
   ·rw[if_pos q,q,upd_same]
   ·rw[if_neg q,upd_ne _ _ _ q]
    exact h.hist j (by omega)
  ·show adl s.sum x=65536*bJ (t.out++[(x,p)])+bx (t.out++[(x,p)])
   rw[Jd,h.sum]
  ·show cR r0 (t.out++[(x,p)])=_
   rw[pO h.rows,if_pos e]
 ·rw[if_neg e]
  exact Or.inr ⟨e,e,t.out,x,[],r,rfl,h.rows,rfl⟩
theorem vf (p D:Nat):∀ (n:Nat) (o:List One),∃ q,aT p D n o=o++q
 | 0,o=>⟨[],by simp [aT]⟩
 | n+1,o=>by
  obtain ⟨q,hq⟩:=vf p D n (o++[(vAt o (o.length - D),p)]);exact ⟨(vAt o (o.length - D),p)::q,by rw[aT,hq];simp⟩
theorem Cm.enter {r0:Rw} {s:St} {r:Rw} {t:Px.St} (h:Cm r0 s r t) (p w:Nat):Cm r0 (s.enter p w) r t:=⟨h.win,h.last,h.cnt,h.hist,h.sum,h.rows⟩
structure Rest (s s':St):Prop where
 lit:s'.lit=s.lit
 dist:s'.dist=s.dist
 skip:s'.skip=s.skip
 left:s'.left=s.left
theorem DR {r0:Rw} (hc:Cap r0) (p D:Nat) (hD:1<=D):∀ (n:Nat) (s:St) (r:Rw) (t:Px.St),Cm r0 s r t->D<=t.out.length ->
  ((dm n D s r).2.2=0/\(∃ s1,(dm n D s r).1=s1.enter 12 0/\Rest s s1/\Cm r0 s1 (dm n D s r).2.1 { t with out:=aT p D n t.out }))\/((dm n D s r).2.2≠0/\fe r0 (aT p D n t.out) p (dm n D s r).2.2)
 | 0,s,r,t,h,hD2=>Or.inl ⟨rfl,s,rfl,⟨rfl,rfl,rfl,rfl⟩,h⟩
 | n+1,s,r,t,h,hD2=>by
  have hv:s.hist (s.count - D)=vAt t.out (t.out.length - D):=by rw[h.cnt];exact h.hist _ (by omega)
  have g:=yp hc h (s.hist (s.count - D)) p;rw[dm,aT];rcases g with ⟨g1,g2,g3⟩ | ⟨g1,g2⟩
  ·rw[if_pos g1]
   have e1:(aD s r (s.hist (s.count - D))).1=s.give (s.hist (s.count - D)):=by rw[g2]
   rw[e1];have ih:=DR hc p D hD n _ _ _ g3 (by show D<=(t.out++[_]).length;simp;omega);have eo:(t.give (s.hist (s.count - D)) p).out=t.out++[(vAt t.out (t.out.length - D),p)]:=by rw[<- hv];rfl
   rw[eo] at ih;rcases ih with ⟨i1,s1,i2,i3,i4⟩ | ih
   ·exact Or.inl ⟨i1,s1,i2,⟨i3.lit,i3.dist,i3.skip,i3.left⟩,i4⟩
   ·exact Or.inr ih
  ·rw[if_neg g1]
   refine Or.inr ⟨g1,?_⟩;have eo:(t.give (s.hist (s.count - D)) p).out=t.out++[(vAt t.out (t.out.length - D),p)]:=by rw[<- hv];rfl
   rw[eo] at g2;obtain ⟨q,hq⟩:=vf p D n (t.out++[(vAt t.out (t.out.length - D),p)]);rw[hq];exact g2.more q
structure A7 (s:St) (nl nd:Nat) (sl out:List Nat):Prop where
 lit:s.tb.literals=nl
 dist:s.tb.distances=nd
 b1:257<=nl
 b2:nl<=286
 b3:1<=nd
 b4:nd<=30
 told:s.tb.told=out.length
 ls:∀ i,i<out.length->s.tb.ls i=out.getD i 0
 le:∀ x ∈ out,x<=15
 lt:out.length<nl+nd
 code:fB s.tb.short sl
 sl19:sl.length=19
structure CO (s:St) (lit dist:List Nat):Prop where
 lit:fB s.lit lit
 dist:fB s.dist dist
def gE (s:St):Ph->Prop
 | .inl _=>s.part=0/\s.wanted=16
 | .inr (.inl _)=>s.part=1/\s.wanted=3
 | .inr (.inr (.inl _))=>s.part=2/\s.wanted=32
 | .inr (.inr (.inr (.inl left)))=>s.part=3/\s.wanted=8/\s.left=left/\1<=left
 | .inr (.inr (.inr (.inr (.inl _))))=>s.part=4/\s.wanted=14
 | .inr (.inr (.inr (.inr (.inr (.inl (nl,nd,ns,told))))))=>s.part=5/\s.wanted=3/\s.tb.literals=nl/\s.tb.distances=nd/\s.tb.shorts=ns/\s.tb.told=told.length/\told.length<ns/\ns<=19/\(∀ i,i<19->s.tb.sl i=(aM told).getD i 0)/\(∀ x ∈ told,x<8)/\257<=nl/\nl<=286/\1<=nd/\nd<=30
 | .inr (.inr (.inr (.inr (.inr (.inr (.inl (nl,nd,sl,out)))))))=>s.part=11/\A7 s nl nd sl out
 | .inr (.inr (.inr (.inr (.inr (.inr (.inr (.inl (nl,nd,sl,out,c))))))))=>s.part=6/\s.wanted=cF c/\s.tb.rep=(c:Int)/\(c=16\/c=17\/c=18)/\(c=16->out≠[])/\A7 s nl nd sl out
 | .inr (.inr (.inr (.inr (.inr (.inr (.inr (.inr (.inl (lit,dist)))))))))=>s.part=12/\CO s lit dist
 | .inr (.inr (.inr (.inr (.inr (.inr (.inr (.inr (.inr (.inl (lit,dist,base,bits))))))))))=>s.part=7/\s.wanted=bits/\1<=bits/\s.length=base/\CO s lit dist
 | .inr (.inr (.inr (.inr (.inr (.inr (.inr (.inr (.inr (.inr (.inl (lit,dist,len)))))))))))=>s.part=13/\s.length=len/\CO s lit dist
 | .inr (.inr (.inr (.inr (.inr (.inr (.inr (.inr (.inr (.inr (.inr (.inl (lit,dist,len,base,bits))))))))))))=>s.part=8/\s.wanted=bits/\1<=bits/\s.length=len/\s.base=base/\1<=base/\CO s lit dist
 | .inr (.inr (.inr (.inr (.inr (.inr (.inr (.inr (.inr (.inr (.inr (.inr (.inl _))))))))))))=>s.part=9/\s.wanted=32
 | .inr (.inr (.inr (.inr (.inr (.inr (.inr (.inr (.inr (.inr (.inr (.inr (.inr _))))))))))))=>s.part=10
structure Beg (r0:Rw) (s:St) (r:Rw) (t:Px.St):Prop where
 cm:Cm r0 s r t
 ph:gE s t.ph
 got:s.got=0
 num:s.number=0
 path:s.path=⟨0,0,0⟩
def bu (r0:Rw) (R:St × Rw × Nat) (p:Nat):Res->Prop
 | .inl e=>R.2.2=e/\e≠0
 | .inr (t',k)=>(R.2.2=0/\Beg r0 R.1 R.2.1 t'/\R.1.skip=k)\/(R.2.2≠0/\fe r0 t'.out p R.2.2)
theorem yx {r0:Rw} {s:St} {r:Rw} {t:Px.St} (p:Nat) (h:Cm r0 s r t) (hk:s.skip=false):bu r0 (s.endBlock,r,0) p t.endBlock:=by
 unfold St.endBlock Px.St.endBlock;have hl:=h.last;by_cases e:t.last=true
 ·rw[if_pos e,if_pos (by rw[hl];exact e)]
  exact Or.inl ⟨rfl,⟨⟨h.win,h.last,h.cnt,h.hist,h.sum,h.rows⟩,⟨rfl,rfl⟩,rfl,rfl,rfl⟩,rfl⟩
 ·rw[if_neg e,if_neg (by rw[hl];exact e)]
  exact Or.inl ⟨rfl,⟨⟨h.win,h.last,h.cnt,h.hist,h.sum,h.rows⟩,⟨rfl,rfl⟩,rfl,rfl,rfl⟩,hk⟩
theorem GY {r0:Rw} {s:St} {r:Rw} {t:Px.St} {v p:Nat} (h:Cm r0 s r t) (hp:t.ph = .head) (hq:gE s t.ph) (hk:s.skip=false):bu r0 (aI s r v) p (bF t v p):=by
 rw[hp] at hq;unfold aI bF;rw[if_pos hq.1,hp];show bu r0 ((s.takeHead v).1,r,(s.takeHead v).2) p (if v % 256 % 16≠8\/7<v % 256 / 16\/(256*(v % 256)+v / 256) % 31≠0\/v / 256 / 32 % 2=1 then _ else _)
 unfold St.takeHead;by_cases e:v % 256 % 16≠8\/7<v % 256 / 16\/(256*(v % 256)+v / 256) % 31≠0\/v / 256 / 32 % 2=1
 ·rw[if_pos e]
  have:sj v=false:=by unfold sj;exact decide_eq_false (by omega)
  rw[this];exact ⟨rfl,by decide⟩
 ·rw[if_neg e]
  have:sj v=true:=by unfold sj;exact decide_eq_true (by omega)
  rw[this];refine Or.inl ⟨rfl,⟨⟨?_,h.last,h.cnt,h.hist,h.sum,h.rows⟩,⟨rfl,rfl⟩,rfl,rfl,rfl⟩,hk⟩;show 256*2^(v % 256 / 16)=2^(8+v % 256 / 16)
  rw[Nat.pow_add]
theorem Ek {r0:Rw} {s:St} {r:Rw} {t:Px.St} {v p:Nat} (h:Cm r0 s r t) (hp:t.ph = .block) (hq:gE s t.ph) (hk:s.skip=false) (hv:v<8):bu r0 (aI s r v) p (bF t v p):=by
 rw[hp] at hq;unfold aI bF;rw[if_neg (by have:=hq.1;omega),if_pos hq.1,hp];show bu r0 (s.block v,r,dq v) p (if v / 2=0 then _ else if v / 2=1 then _ else if v / 2=2 then _ else _)
 unfold St.block dq;by_cases e0:v / 2=0
 ·rw[if_pos e0,if_pos e0,if_neg (by omega)]
  exact Or.inl ⟨rfl,⟨⟨h.win,rfl,h.cnt,h.hist,h.sum,h.rows⟩,⟨rfl,rfl⟩,rfl,rfl,rfl⟩,rfl⟩
 rw[if_neg e0,if_neg e0];by_cases e1:v / 2=1
 ·rw[if_pos e1,if_pos e1,if_neg (by omega)]
  exact Or.inl ⟨rfl,⟨⟨h.win,rfl,h.cnt,h.hist,h.sum,h.rows⟩,⟨rfl,EF,EG⟩,rfl,rfl,rfl⟩,hk⟩
 rw[if_neg e1,if_neg e1];by_cases e2:v / 2=2
 ·rw[if_pos e2,if_pos e2,if_neg (by omega)]
  exact Or.inl ⟨rfl,⟨⟨h.win,rfl,h.cnt,h.hist,h.sum,h.rows⟩,⟨rfl,rfl⟩,rfl,rfl,rfl⟩,hk⟩
 rw[if_neg e2,if_neg e2,if_pos (by omega)];exact ⟨rfl,by decide⟩
theorem Eg {r0:Rw} {s:St} {r:Rw} {t:Px.St} {v p:Nat} (h:Cm r0 s r t) (hp:t.ph = .ssize) (hq:gE s t.ph) (hk:s.skip=false):bu r0 (aI s r v) p (bF t v p):=by
 rw[hp] at hq;have h2:=hq.1;unfold aI bF;rw[if_neg (by omega),if_neg (by omega),if_pos h2,hp];show bu r0 ((s.takeSize v).1,r,(s.takeSize v).2) p (if v % 65536+v / 65536≠65535 then _ else if v % 65536=0 then _ else _)
 unfold St.takeSize;by_cases e:v % 65536+v / 65536=65535
 ·rw[if_pos e,if_neg (show ¬ (v % 65536+v / 65536≠65535) from fun k=>k e)]
  by_cases e0:v % 65536=0
  ·rw[if_pos e0,if_pos e0]
   exact yx p (s:={ s with left:=v % 65536 }) ⟨h.win,h.last,h.cnt,h.hist,h.sum,h.rows⟩ hk
  ·rw[if_neg e0,if_neg e0]
   exact Or.inl ⟨rfl,⟨⟨h.win,h.last,h.cnt,h.hist,h.sum,h.rows⟩,⟨rfl,rfl,rfl,by omega⟩,rfl,rfl,rfl⟩,hk⟩
 ·rw[if_neg e,if_pos (show v % 65536+v / 65536≠65535 from e)]
  exact ⟨rfl,by decide⟩
theorem BS {r0:Rw} {s:St} {r:Rw} {t:Px.St} {v p left:Nat} (hc:Cap r0) (h:Cm r0 s r t) (hp:t.ph = .stored left) (hq:gE s t.ph) (hk:s.skip=false):bu r0 (aI s r v) p (bF t v p):=by
 rw[hp] at hq;have h2:=hq.1;obtain ⟨-,-,hl,hl1⟩:=hq;unfold aI bF;rw[if_neg (by omega),if_neg (by omega),if_neg (by omega),if_pos h2,hp];show bu r0 (cg s r v) p (if left<=1 then (t.give v p).endBlock else (t.give v p).to (.stored (left - 1)))
 unfold cg;rcases yp hc h v p with ⟨g1,g2,g3⟩ | ⟨g1,g2⟩
 ·rw[if_pos g1]
  have e1:(aD s r v).1=s.give v:=by rw[g2]
  rw[e1];unfold St.oneLess;have el:(s.give v).left=left:=hl;rw[el];by_cases c:left<=1
  ·rw[if_pos c,if_pos (by omega)]
   exact yx p (s:={ s.give v with left:=left - 1 }) ⟨g3.win,g3.last,g3.cnt,g3.hist,g3.sum,g3.rows⟩ hk
  ·rw[if_neg c,if_neg (by omega)]
   exact Or.inl ⟨rfl,⟨⟨g3.win,g3.last,g3.cnt,g3.hist,g3.sum,g3.rows⟩,⟨rfl,rfl,rfl,by omega⟩,rfl,rfl,rfl⟩,hk⟩
 ·rw[if_neg g1]
  by_cases c:left<=1
  ·rw[if_pos c]
   unfold Px.St.endBlock;split
   ·exact Or.inr ⟨g1,g2⟩
   ·exact Or.inr ⟨g1,g2⟩
  ·rw[if_neg c]
   exact Or.inr ⟨g1,g2⟩
theorem BU {r0:Rw} {s:St} {r:Rw} {t:Px.St} {v p:Nat} (h:Cm r0 s r t) (hp:t.ph = .counts) (hq:gE s t.ph) (hk:s.skip=false) (hv:v<16384):bu r0 (aI s r v) p (bF t v p):=by
 rw[hp] at hq;have h2:=hq.1;unfold aI bF;rw[if_neg (by omega),if_neg (by omega),if_neg (by omega),if_neg (by omega),if_pos h2,hp];show bu r0 ((s.counts v).1,r,(s.counts v).2) p (if 286<v % 32+257\/30<v / 32 % 32+1 then _ else _)
 unfold St.counts;by_cases e:286<v % 32+257\/30<v / 32 % 32+1
 ·rw[if_pos e,if_pos e]
  exact ⟨rfl,by decide⟩
 ·rw[if_neg e,if_neg e]
  refine Or.inl ⟨rfl,⟨⟨h.win,h.last,h.cnt,h.hist,h.sum,h.rows⟩,⟨rfl,rfl,rfl,rfl,rfl,rfl,?_,?_,fun i hi => ?_,(fun x hx=>by cases hx),?_,?_,?_,?_⟩,rfl,rfl,rfl⟩,hk⟩
  ·show 0<v / 1024+4;omega
  ·omega
  ·show 0=(List.replicate 19 0).getD i 0
   rw[List.getD_eq_getElem?_getD,List.getElem?_replicate,if_pos hi];rfl
  ·omega
  ·omega
  ·omega
  ·omega
theorem Dr:∀ (k x:Nat) (s:St),∃ g:Nat->Nat,St.layN k x s={ s with tb:={ s.tb with ls:=g,told:=s.tb.told+k } }/\∀ i,g i=if s.tb.told<=i/\i<s.tb.told+k then x else s.tb.ls i
 | 0,x,s=>⟨s.tb.ls,rfl,fun i=>by rw[if_neg (by omega)]⟩
 | k+1,x,s=>by
  obtain ⟨g,h1,h2⟩:=Dr k x (s.lay1 x);refine ⟨g,?_,fun i => ?_⟩
  ·rw[St.layN,h1]
   show ({ s with tb:={ s.tb with ls:=g,told:=s.tb.told+1+k } }:St)=_
   rw[Nat.add_assoc,Nat.add_comm 1 k]
  ·rw[h2 i]
   show (if s.tb.told+1<=i/\i<s.tb.told+1+k then x else upd s.tb.ls s.tb.told x i)=_
   by_cases c:i=s.tb.told
   ·subst c;rw[if_neg (by omega),upd_same,if_pos (by omega)]
   ·rw[upd_ne _ _ _ c]
    by_cases d:s.tb.told+1<=i/\i<s.tb.told+1+k
    ·rw[if_pos d,if_pos (by omega)]
    ·rw[if_neg d,if_neg (by omega)]
theorem yq (out:List Nat) (x k i:Nat) (h:i<out.length+k):(out++List.replicate k x).getD i 0=if i<out.length then out.getD i 0 else x:=by
 rw[List.getD_eq_getElem?_getD,List.getD_eq_getElem?_getD];by_cases c:i<out.length
 ·rw[if_pos c,List.getElem?_append_left c]
 ·rw[if_neg c,List.getElem?_append_right (by omega),List.getElem?_replicate,if_pos (by omega)];rfl
theorem Al (f:Nat->Nat) (out:List Nat) (N:Nat) (hN:N<=out.length) (h:∀ i,i<N->f i=out.getD i 0):aA f N=out.take N:=by
 apply List.ext_getElem?;intro i;unfold aA;rw[List.getElem?_map,List.getElem?_take];by_cases c:i<N
 ·rw[List.getElem?_range c,if_pos c,Option.map_some,h i c,List.getD_eq_getElem?_getD,List.getElem?_eq_getElem (by omega)];rfl
 ·rw[if_neg c,List.getElem?_eq_none (by simp;omega)];rfl
theorem Hs (f:Nat->Nat) (out:List Nat) (a N:Nat) (hN:a+N=out.length) (h:∀ i,i<N->f i=out.getD (a+i) 0):aA f N=out.drop a:=by
 apply List.ext_getElem?;intro i;unfold aA;rw[List.getElem?_map,List.getElem?_drop];by_cases c:i<N
 ·rw[List.getElem?_range c,Option.map_some,h i c,List.getD_eq_getElem?_getD,List.getElem?_eq_getElem (by omega)];rfl
 ·rw[List.getElem?_eq_none (by simp;omega),List.getElem?_eq_none (by omega)];rfl
theorem vu {r0:Rw} {s:St} {r:Rw} {t:Px.St} {nl nd:Nat} {sl out:List Nat} {x k p:Nat} (h:Cm r0 s r t) (hl:A7 s nl nd sl out) (hx:x<=15) (hk:s.skip=false) :
  bu r0 ((s.lay x k).1,r,(s.lay x k).2) p (if nl+nd<out.length+k then .err 12 else t.lens nl nd sl (out++List.replicate k x)):=by
 obtain ⟨l1,l2,b1,b2,b3,b4,l3,l4,l5,l6,l7,l8⟩:=hl;unfold St.lay;rw[l1,l2,l3];by_cases c:nl+nd<out.length+k
 ·rw[if_pos c,if_pos c]
  exact ⟨rfl,by decide⟩
 rw[if_neg c,if_neg c];obtain ⟨g,hg,hg2⟩:=Dr k x s;rw[hg];have hlen:(out++List.replicate k x).length=out.length+k:=by simp
 have hgi:∀ i,i<out.length+k->g i=(out++List.replicate k x).getD i 0:=fun i hi=>by
  rw[hg2 i,yq _ _ _ _ hi,l3];by_cases d:i<out.length
  ·rw[if_pos d,if_neg (by omega)];exact l4 i d
  ·rw[if_neg d,if_pos (by omega)]
 have hle:∀ y ∈ out++List.replicate k x,y<=15:=fun y hy=>by
  rw[List.mem_append] at hy;rcases hy with q | q
  ·exact l5 y q
  ·have:=List.eq_of_mem_replicate q;omega
 unfold Px.St.lens;rw[hlen];show bu r0 ((if s.tb.told+k<nl+nd then (_,0) else _:St × Nat).1,r,(if s.tb.told+k<nl+nd then (_,0) else _:St × Nat).2) p _
 rw[l3];by_cases d:out.length+k<nl+nd
 ·rw[if_pos d,if_pos d]
  exact Or.inl ⟨rfl,⟨⟨h.win,h.last,h.cnt,h.hist,h.sum,h.rows⟩,⟨rfl,l1,l2,b1,b2,b3,b4,by rw[hlen];rfl,fun i hi=>hgi i (by omega),hle,by rw[hlen];exact d,l7,l8⟩,rfl,rfl,rfl⟩,hk⟩
 rw[if_neg d,if_neg d];have hall:(out++List.replicate k x).length=nl+nd:=by omega
 obtain ⟨S,hS⟩:∃ S:St,S={ s with tb:={ s.tb with ls:=g,told:=out.length+k } }:=⟨_,rfl⟩;rw[<- hS];have s1:S.tb.literals=nl:=by rw[hS];exact l1
 have s2:S.tb.told=nl+nd:=by rw[hS];show out.length+k=_;omega
 have s3:S.tb.ls=g:=by rw[hS]
 have hcm:Cm r0 S r t:=by rw[hS];exact ⟨h.win,h.last,h.cnt,h.hist,h.sum,h.rows⟩
 have hsk:S.skip=false:=by rw[hS];exact hk
 clear hS;have e1:aA S.tb.ls nl=(out++List.replicate k x).take nl:=Al _ _ _ (by omega) (fun i hi=>by rw[s3];exact hgi i (by omega));have e2:aA (fun i=>S.tb.ls (nl+i)) (nl+nd - nl)=(out++List.replicate k x).drop nl:=Hs _ _ _ _ (by omega) (fun i hi=>by rw[s3];exact hgi (nl+i) (by omega));have f1:∀ i,i<nl->S.tb.ls i<=15:=fun i hi=>by
  rw[s3,hgi i (by omega),List.getD_eq_getElem?_getD,List.getElem?_eq_getElem (by omega)];exact hle _ (List.getElem_mem _)
 have f2:∀ i,i<nl+nd - nl->S.tb.ls (nl+i)<=15:=fun i hi=>by
  rw[s3,hgi (nl+i) (by omega),List.getD_eq_getElem?_getD,List.getElem?_eq_getElem (by omega)];exact hle _ (List.getElem_mem _)
 have e3:S.tb.ls 256=(out++List.replicate k x).getD 256 0:=by rw[s3];exact hgi 256 (by omega)
 have t1:=rN S.tb.ls nl f1 true false;have t2:=rN (fun i=>S.tb.ls (nl+i)) (nl+nd - nl) f2 true true;rw[e1] at t1;rw[e2] at t2;simp only [Bool.true_and,Bool.false_and,Bool.or_false] at t1 t2;have m1:S.mkLit.mkDist.lit=cw S.tb.ls nl:=by show cw S.tb.ls S.tb.literals=_;rw[s1]
 have m2:S.mkLit.mkDist.dist=cw (fun i=>S.tb.ls (nl+i)) (nl+nd - nl):=by show cw (fun i=>S.tb.ls (S.tb.literals+i)) (S.tb.told - S.tb.literals)=_;rw[s1,s2]
 unfold St.makeCodes;rw[m1,m2,t1,t2,e3];generalize out++List.replicate k x=O at *;by_cases q1:db (O.take nl) true false=false
 ·rw[if_pos q1,if_pos (Or.inl q1)]
  exact ⟨rfl,by decide⟩
 by_cases q2:db (O.drop nl) true true=false
 ·rw[if_neg q1,if_pos q2,if_pos (Or.inr (Or.inl q2))]
  exact ⟨rfl,by decide⟩
 by_cases q3:O.getD 256 0=0
 ·rw[if_neg q1,if_neg q2,if_pos q3,if_pos (Or.inr (Or.inr q3))]
  exact ⟨rfl,by decide⟩
 rw[if_neg q1,if_neg q2,if_neg q3,if_neg (by rintro (a | a | a);exact q1 a;exact q2 a;exact q3 a)];have c1:fB (cw S.tb.ls nl) (O.take nl):=by rw[<- e1];exact xW _ _ f1 (by omega) true false (by rw[e1];simpa using q1)
 have c2:fB (cw (fun i=>S.tb.ls (nl+i)) (nl+nd - nl)) (O.drop nl):=by rw[<- e2];exact xW _ _ f2 (by omega) true true (by rw[e2];simpa using q2)
 refine Or.inl ⟨rfl,⟨⟨hcm.win,hcm.last,hcm.cnt,hcm.hist,hcm.sum,hcm.rows⟩,⟨rfl,?_,?_⟩,rfl,rfl,rfl⟩,hsk⟩
 ·show fB S.mkLit.mkDist.lit _
  rw[m1];exact c1
 ·show fB S.mkLit.mkDist.dist _
  rw[m2];exact c2
theorem Eh {r0:Rw} {s:St} {r:Rw} {t:Px.St} {v p nl nd ns:Nat} {told:List Nat} (h:Cm r0 s r t) (hp:t.ph = .short nl nd ns told) (hq:gE s t.ph) (hk:s.skip=false) (hv:v<8):bu r0 (aI s r v) p (bF t v p):=by
 rw[hp] at hq;obtain ⟨h2,-,l1,l2,l3,l4,l5,l6,l7,l8,b1,b2,b3,b4⟩:=hq;unfold aI bF;rw[if_neg (by omega),if_neg (by omega),if_neg (by omega),if_neg (by omega),if_neg (by omega),if_pos h2,hp];show bu r0 ((s.shortLen v).1,r,(s.shortLen v).2) p (if told.length+1<ns then _ else if db (aM (told++[v])) false false=false then _ else _)
 have ho:uJ.getD told.length 0<19:=Dk told.length (by omega);have hle:∀ x ∈ told++[v],x<8:=fun x hx=>by
  rw[List.mem_append,List.mem_singleton] at hx;rcases hx with q | q
  ·exact l8 x q
  ·omega
 have hsl:∀ i,i<19->(s.short1 v).tb.sl i=(aM (told++[v])).getD i 0:=fun i hi=>by
  show upd s.tb.sl (uJ.getD s.tb.told 0) v i=_
  rw[ua,l4];have hln:(aM told).length=19:=qG _ _;have eo:x9.getD told.length 0=uJ.getD told.length 0:=rfl;rw[eo];generalize uJ.getD told.length 0=O at *;rw[List.getD_eq_getElem?_getD,List.getElem?_set];by_cases c:i=O
  ·subst c
   rw[upd_same,if_pos rfl,if_pos (by omega)];rfl
  ·rw[upd_ne _ _ _ c,if_neg (fun q=>c q.symm),l7 i hi,List.getD_eq_getElem?_getD]
 unfold St.shortLen;rw[l4,l3];by_cases c:told.length+1<ns
 ·rw[if_pos c,if_pos c]
  refine Or.inl ⟨rfl,⟨⟨h.win,h.last,h.cnt,h.hist,h.sum,h.rows⟩,⟨rfl,rfl,l1,l2,l3,?_,?_,l6,hsl,hle,b1,b2,b3,b4⟩,rfl,rfl,rfl⟩,hk⟩
  ·show s.tb.told+1=(told++[v]).length
   simp;omega
  ·simp;exact c
 rw[if_neg c,if_neg c];have hl19:(aM (told++[v])).length=19:=qG _ _;have e1:aA (s.short1 v).tb.sl 19=aM (told++[v]):=by
  have:=Al (s.short1 v).tb.sl (aM (told++[v])) 19 (by omega) hsl
  rw[this,List.take_of_length_le (by omega)]
 have f1:∀ i,i<19->(s.short1 v).tb.sl i<=15:=fun i hi=>by
  rw[hsl i hi,List.getD_eq_getElem?_getD,List.getElem?_eq_getElem (by omega)]
  have:=BD (told++[v]) hle _ _ (List.getElem_mem (l:=aM (told++[v])) (n:=i) (by omega))
  exact Nat.le_of_lt (Nat.lt_of_lt_of_le this (by omega))
 have t1:=rN (s.short1 v).tb.sl 19 f1 false false;rw[e1] at t1;simp only [Bool.true_and,Bool.false_and,Bool.or_false] at t1;have m1:(s.short1 v).short2.tb.short=cw (s.short1 v).tb.sl 19:=rfl;rw[m1,t1];by_cases q:db (aM (told++[v])) false false=false
 ·rw[if_pos q,if_neg (by rw[q];decide)]
  exact ⟨rfl,by decide⟩
 rw[if_neg q,if_pos (by simpa using q)];have c1:fB (cw (s.short1 v).tb.sl 19) (aM (told++[v])):=by rw[<- e1];exact xW _ _ f1 (by omega) false false (by rw[e1];simpa using q)
 exact Or.inl ⟨rfl,⟨⟨h.win,h.last,h.cnt,h.hist,h.sum,h.rows⟩,⟨rfl,l1,l2,b1,b2,b3,b4,rfl,(fun i hi=>by simp at hi),(fun x hx=>by cases hx),by simp;omega,c1,hl19⟩,rfl,rfl,rfl⟩,hk⟩
theorem J0 {r0:Rw} {s:St} {r:Rw} {t:Px.St} {v p nl nd c:Nat} {sl out:List Nat} (h:Cm r0 s r t) (hp:t.ph = .rep nl nd sl out c) (hq:gE s t.ph) (hk:s.skip=false):bu r0 (aI s r v) p (bF t v p):=by
 rw[hp] at hq;obtain ⟨h2,-,l1,l2,l3,l4⟩:=hq;unfold aI bF;rw[if_neg (by omega),if_neg (by omega),if_neg (by omega),if_neg (by omega),if_neg (by omega),if_neg (by omega),if_pos h2,hp];show bu r0 ((s.repeat v).1,r,(s.repeat v).2) p (if nl+nd<out.length+(if c=18 then v+11 else v+3) then _ else t.lens nl nd sl (out++List.replicate (if c=18 then v+11 else v+3) (if c=16 then out.getD (out.length - 1) 0 else 0)))
 unfold St.repeat;rw[l1];rcases l2 with e | e | e
 ·subst e
  have hne:0<out.length:=List.length_pos_iff.2 (l3 rfl);have ht:=l4.told;rw[if_neg (by decide),if_neg (by decide),if_neg (by omega),if_neg (show ¬ 16=18 by decide),if_pos rfl];have e1:s.tb.ls (s.tb.told - 1)=out.getD (out.length - 1) 0:=by rw[ht];exact l4.ls _ (by omega)
  rw[e1];refine vu h l4 ?_ hk;rw[List.getD_eq_getElem?_getD,List.getElem?_eq_getElem (by omega)];exact l4.le _ (List.getElem_mem _)
 ·subst e
  rw[if_pos (by decide),if_neg (show ¬ 17=18 by decide),if_neg (show ¬ 17=16 by decide)];exact vu h l4 (by omega) hk
 ·subst e
  rw[if_neg (by decide),if_pos (by decide),if_pos rfl,if_neg (show ¬ 18=16 by decide)];exact vu h l4 (by omega) hk
theorem Ei {r0:Rw} {s:St} {r:Rw} {t:Px.St} {v p base bits:Nat} {lit dist:List Nat} (h:Cm r0 s r t) (hp:t.ph = .lrest lit dist base bits) (hq:gE s t.ph) (hk:s.skip=false):bu r0 (aI s r v) p (bF t v p):=by
 rw[hp] at hq;obtain ⟨h2,-,-,l1,l2⟩:=hq;unfold aI bF;rw[if_neg (by omega),if_neg (by omega),if_neg (by omega),if_neg (by omega),if_neg (by omega),if_neg (by omega),if_neg (by omega),if_pos h2,hp];exact Or.inl ⟨rfl,⟨⟨h.win,h.last,h.cnt,h.hist,h.sum,h.rows⟩,⟨rfl,by show s.length+v=_;rw[l1],l2.lit,l2.dist⟩,rfl,rfl,rfl⟩,hk⟩
theorem xq {r0:Rw} {s:St} {r:Rw} {t:Px.St} {lit dist:List Nat} {D p:Nat} (hc:Cap r0) (h:Cm r0 s r t) (hd:CO s lit dist) (hk:s.skip=false) (hD:1<=D):bu r0 (ft s r D) p (t.copy lit dist s.length D p):=by
 unfold ft Px.St.copy;rw[h.cnt,h.win];by_cases c:t.out.length<D\/t.window<D
 ·rw[if_pos c,if_pos (by omega)]
  exact ⟨rfl,by decide⟩
 rw[if_neg c,if_neg (by omega)];rcases DR hc p D hD s.length s r t h (by omega) with ⟨g1,s1,g2,g3,g4⟩ | ⟨g1,g2⟩
 ·refine Or.inl ⟨g1,⟨?_,?_,?_,?_,?_⟩,?_⟩
  ·rw[g2];exact ⟨g4.win,g4.last,g4.cnt,g4.hist,g4.sum,g4.rows⟩
  ·rw[g2];exact ⟨rfl,by show fB s1.lit _;rw[g3.lit];exact hd.lit,by show fB s1.dist _;rw[g3.dist];exact hd.dist⟩
  ·rw[g2];rfl
  ·rw[g2];rfl
  ·rw[g2];rfl
  ·rw[g2];show s1.skip=_;rw[g3.skip,hk]
 ·exact Or.inr ⟨g1,g2⟩
theorem Ej {r0:Rw} {s:St} {r:Rw} {t:Px.St} {v p len base bits:Nat} {lit dist:List Nat} (hc:Cap r0) (h:Cm r0 s r t) (hp:t.ph = .drest lit dist len base bits) (hq:gE s t.ph) (hk:s.skip=false):bu r0 (aI s r v) p (bF t v p):=by
 rw[hp] at hq;obtain ⟨h2,-,-,l1,l2,l3,l4⟩:=hq;unfold aI bF;rw[if_neg (by omega),if_neg (by omega),if_neg (by omega),if_neg (by omega),if_neg (by omega),if_neg (by omega),if_neg (by omega),if_neg (by omega),if_pos h2,hp];show bu r0 (ft s r (s.base+v)) p (t.copy lit dist len (base+v) p)
 rw[<- l1,<- l2];exact xq hc h l4 hk (by omega)
theorem JY {r0:Rw} {s:St} {r:Rw} {t:Px.St} {v p:Nat} (h:Cm r0 s r t) (hp:t.ph = .sum) (hq:gE s t.ph) (hk:s.skip=false) (hv:v<4294967296):bu r0 (aI s r v) p (bF t v p):=by
 rw[hp] at hq;have h2:=hq.1;unfold aI bF;rw[if_neg (by omega),if_neg (by omega),if_neg (by omega),if_neg (by omega),if_neg (by omega),if_neg (by omega),if_neg (by omega),if_neg (by omega),if_neg (by omega),hp];show bu r0 ((s.takeSum v).1,r,(s.takeSum v).2) p (if gG v≠65536*bJ t.out+bx t.out then _ else _)
 unfold St.takeSum;have e:ur v=gG v:=by unfold ur gG;omega
 rw[e,h.sum];by_cases c:gG v=65536*bJ t.out+bx t.out
 ·rw[if_pos c,if_neg (show ¬ (gG v≠_) from fun k=>k c)]
  exact Or.inl ⟨rfl,⟨⟨h.win,h.last,h.cnt,h.hist,h.sum,h.rows⟩,rfl,rfl,rfl,rfl⟩,hk⟩
 ·rw[if_neg c,if_pos (show gG v≠_ from c)]
  exact ⟨rfl,by decide⟩
theorem JZ {r0:Rw} {s:St} {r:Rw} {t:Px.St} {v p n:Nat} (hc:Cap r0) (h:Cm r0 s r t) (hq:gE s t.ph) (hk:s.skip=false) (hi:item t.ph = .num n) (hv:v<2^n):bu r0 (aI s r v) p (bF t v p):=by
 cases hp:t.ph using Px.Ph.cs with
 | head=>exact GY h hp hq hk
 | block=>rw[hp] at hi;cases hi;exact Ek h hp hq hk hv
 | ssize=>exact Eg h hp hq hk
 | stored left=>exact BS hc h hp hq hk
 | counts=>rw[hp] at hi;cases hi;exact BU h hp hq hk hv
 | short nl nd ns told=>rw[hp] at hi;cases hi;exact Eh h hp hq hk hv
 | clen nl nd sl out=>rw[hp] at hi;cases hi
 | rep nl nd sl out c=>exact J0 h hp hq hk
 | sym lit dist=>rw[hp] at hi;cases hi
 | lrest lit dist base bits=>exact Ei h hp hq hk
 | dist lit dist len=>rw[hp] at hi;cases hi
 | drest lit dist len base bits=>exact Ej hc h hp hq hk
 | sum=>rw[hp] at hi;cases hi;exact JY h hp hq hk hv
 | fin=>rw[hp] at hi;cases hi
