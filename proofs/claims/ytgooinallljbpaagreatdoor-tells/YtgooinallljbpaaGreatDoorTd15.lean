import Derived.Test.YtgooinallljbpaaGreatDoorTd00
import Derived.Test.YtgooinallljbpaaGreatDoorTd14
set_option maxRecDepth 100000
set_option maxHeartbeats 6400000
namespace Go.Proofs.YtgooinallljbpaaGreatDoor
open Go.RowKit
set_option linter.unusedSimpArgs false
set_option linter.unusedVariables false
theorem AH (l:List Nat) (s:Nat) (h:s<l.length):(cG l).getD s 0=Px.codeOf l s:=by
 simp [cG,List.getD_eq_getElem?_getD,h]
def qd (z:List Px.One) (t:Px.Bt) (l:List Nat) (i0:Nat) (i1:Px.Bt):Prop:=
 (∃ (s n:Nat) (h1:1<=n) (h2:t.a+n<=8*z.length) (go:Px.cY z t.a l (n - 1)) (hs:s<l.length) (no:Px.fD l n (Px.msb z t.a n) s) (hit:Px.kZ l n (Px.msb z t.a n) s),s=i0/\{ t with a:=t.a+n }=i1) \/
 (∃ (n:Nat) (h1:1<=n) (h2:t.a+n<=8*z.length) (go:Px.cY z t.a l (n - 1)) (no:Px.fD l n (Px.msb z t.a n) l.length) (nm:¬ Px.fA l n (Px.msb z t.a n) l.length),0=i0/\{ t with a:=t.a+n,err:=13 }=i1) \/
 (∃ (go:Px.cY z t.a l (8*z.length - t.a)),0=i0/\{ t with a:=8*z.length,cut:=true }=i1)
theorem qd.got {z:List Px.One} {t:Px.Bt} {l:List Nat} (s n:Nat) (h1:1<=n) (h2:t.a+n<=8*z.length) (go:Px.cY z t.a l (n - 1)) (hs:s<l.length) (no:Px.fD l n (Px.msb z t.a n) s) (hit:Px.kZ l n (Px.msb z t.a n) s):qd z t l s { t with a:=t.a+n }:=Or.inl ⟨s,n,h1,h2,go,hs,no,hit,rfl,rfl⟩
theorem qd.bad {z:List Px.One} {t:Px.Bt} {l:List Nat} (n:Nat) (h1:1<=n) (h2:t.a+n<=8*z.length) (go:Px.cY z t.a l (n - 1)) (no:Px.fD l n (Px.msb z t.a n) l.length) (nm:¬ Px.fA l n (Px.msb z t.a n) l.length):qd z t l 0 { t with a:=t.a+n,err:=13 }:=Or.inr (Or.inl ⟨n,h1,h2,go,no,nm,rfl,rfl⟩)
theorem qd.cut {z:List Px.One} {t:Px.Bt} {l:List Nat} (go:Px.cY z t.a l (8*z.length - t.a)):qd z t l 0 { t with a:=8*z.length,cut:=true }:=Or.inr (Or.inr ⟨go,rfl,rfl⟩)
theorem qd.cs {z:List Px.One} {t:Px.Bt} {l:List Nat} {motive:∀ i0 i1,qd z t l i0 i1->Prop}
  (got:∀ (s n:Nat) (h1:1<=n) (h2:t.a+n<=8*z.length) (go:Px.cY z t.a l (n - 1)) (hs:s<l.length) (no:Px.fD l n (Px.msb z t.a n) s) (hit:Px.kZ l n (Px.msb z t.a n) s),motive s { t with a:=t.a+n } (qd.got s n h1 h2 go hs no hit))
  (bad:∀ (n:Nat) (h1:1<=n) (h2:t.a+n<=8*z.length) (go:Px.cY z t.a l (n - 1)) (no:Px.fD l n (Px.msb z t.a n) l.length) (nm:¬ Px.fA l n (Px.msb z t.a n) l.length),motive 0 { t with a:=t.a+n,err:=13 } (qd.bad n h1 h2 go no nm))
  (cut:∀ (go:Px.cY z t.a l (8*z.length - t.a)),motive 0 { t with a:=8*z.length,cut:=true } (qd.cut go))
  {i0:Nat} {i1:Px.Bt} (h:qd z t l i0 i1):motive i0 i1 h:=by
 rcases h with ⟨s,n,h1,h2,go,hs,no,hit,rfl,rfl⟩ | ⟨n,h1,h2,go,no,nm,rfl,rfl⟩ | ⟨go,rfl,rfl⟩
 ·exact got s n h1 h2 go hs no hit
 ·exact bad n h1 h2 go no nm
 ·exact cut go
theorem sB (b B:Nat) (v:Value) (z:List Px.One) (t:Px.Bt) (l:List Nat) (w:World) (h:BAt w b v t) (hz:ZAt w v z) (hv:∀ g,ae v=some g->g≠b) (hk:si w B l (fun k=>k=b)) (hl:Px.bD l) (hg:Px.good z) (ha:t.a<=8*z.length) (hc:t.cut=false) (he:t.err=0) :
  Calls Tryz.prog 105 #[.pointer (some ⟨b,0,none⟩),.pointer (some ⟨B,0,none⟩)] w fun r w'=>∃ (s:Nat) (t':Px.Bt),r = .returned (.int .i64 (s:Int))/\qd z t l s t'/\BAt w' b v t'/\Fr1 b w w':=by
 have hlen:=hl.2;go_enter Tryz.func105,Tryz.ntmps105;go_wp2;go_loopw [5,6] (fun u j W=>∃ n:Nat,u = .int .i64 (Px.msb z t.a n:Int)/\j = .int .i64 ((n:Int)+1)/\t.a+n<=8*z.length/\Fr1 b w W/\((Px.cY z t.a l n/\BAt W b v { t with a:=t.a+n })\/(1<=n/\Px.cY z t.a l (n - 1)/\Px.fD l n (Px.msb z t.a n) l.length/\¬ Px.fA l n (Px.msb z t.a n) l.length/\BAt W b v { t with a:=t.a+n,err:=13 }))) (fun _ j W=>8*z.length+2 - (intOf j).toNat)
 case atStart=>exact ⟨0,rfl,rfl,by omega,Fr.refl _ _,Or.inl ⟨fun m h1 h2=>by omega,h⟩⟩
 case round=>
  obtain ⟨n,rfl,rfl,hn,hw,⟨hgo,hb⟩ | ⟨h1,hgo,hno,hnm,hb⟩⟩:=hrel
  ·have hz1:Hid (ZAt wr v z):=hz.fr hw hv
   have hk1:Hid (si wr B l (fun k=>k=b)):=hk.fr hw;have ON:Hid (Calls Tryz.prog 61 #[.pointer (some ⟨b,0,none⟩)] wr fun r w'=>r = .returned (.bool true)/\w'=wr):=by
    have:=a9 b v _ wr hb
    have e:({ t with a:=t.a+n }:Px.Bt).on=true:=by show (!t.cut && decide (t.err=0))=true;rw[hc,he];rfl
    rw[e] at this;exact this
   have hn15:n<=15:=by have:=Px.Gk hgo hl;omega
   have hm:=Px.Hl z t.a n;have hp:=Px.xc n hn15;by_cases hfit:t.a+n<8*z.length
   ·have F:Hid (Calls Tryz.prog 62 #[.pointer (some ⟨b,0,none⟩)] wr fun r w'=>r = .returned (.int .i64 (Px.aZ z (t.a+n):Int))/\BAt w' b v { t with a:=t.a+(n+1) }/\Fr1 b wr w'):=vB b v z _ wr hb hz1.out hg hfit
    have HM:Hid (Px.msb z t.a (n+1)=2*Px.msb z t.a n+Px.aZ z (t.a+n)):=rfl;have hbt:=Px.pT z (t.a+n);have hbm:Px.msb z t.a n<32768:=by omega
    clear hm hp;generalize Px.aZ z (t.a+n)=K at *;go_wp2_with fail;refine ON.out.mono ?_;rintro r w1 ⟨rfl,rfl⟩;go_wp2_with fail;refine F.out.mono ?_;rintro r w1 ⟨rfl,hb1,hw1⟩;have c2:w1.cell? ⟨b,2,none⟩=some (.bool false):=by rw[<- hc];exact hb1.c2
    have hk2:Hid (si w1 B l (fun k=>k=b)):=hk1.out.fr hw1;go_wp2;obtain ⟨V,hV,hV2⟩:∃ V:Nat,2*(Px.msb z t.a n:Int)+(K:Int)=(V:Int)/\V=Px.msb z t.a (n+1):=⟨2*Px.msb z t.a n+K,by omega,HM.out.symm⟩;obtain ⟨N,hN⟩:∃ N:Nat,(n:Int)+1=(N:Int):=⟨n+1,by omega⟩;have hN2:N=n+1:=by omega
    have hV65:V<65536:=by omega
    rw[hV,hN];obtain ⟨vl,vc,e0,e1,il,ic,sl,sc⟩:=hk2.out.ex;obtain ⟨pl,cl,rfl⟩:=il.form;have HV:Hid (V=Px.msb z t.a (n+1)):=hV2;have HN:Hid (N=n+1):=hN2;have hN16:N<=16:=by omega
    have hN1:1<=N:=by omega
    clear hV hV2 hN hN2;go_loopw [8,9] (fun u j W=>∃ (s:Nat) (q:Bool),u = .bool q/\j = .int .i64 (s:Int)/\s<=l.length/\(q=true ↔ Px.fA l N V s)/\Px.fD l N V s/\Kept w1 W) (fun _ j _=>l.length - (intOf j).toNat)
    case atStart=>exact ⟨0,false,rfl,rfl,by omega,⟨(fun h=>by cases h),(fun ⟨s,h,_⟩=>by omega)⟩,fun s h=>by omega,Kept.refl _⟩
    case round=>
     obtain ⟨s,q,rfl,rfl,hs,hq,hno,hkw⟩:=hrel;have hB:B<w1.heap.size:=World.block_lt_of_cell? _ _ e0;have f0:wr.cell? ⟨B,0,none⟩=_:=(hkw.cell (p:=⟨B,0,none⟩) hB).trans e0;have f1:wr.cell? ⟨B,1,none⟩=_:=(hkw.cell (p:=⟨B,1,none⟩) hB).trans e1;by_cases hlt:s<l.length
     ·obtain ⟨g1,o1,hp1,hL⟩:=il.cells pl cl rfl s hlt
      subst hp1;obtain ⟨g2,o2,c2',hp2,hCs⟩:=ic.addr (by simp [cG];omega);subst hp2;have hCl:(cG l).length=l.length:=by simp [cG]
      have hC:=hCs s (by rw[hCl];exact hlt);rw[AH l s hlt] at hC;have hC':wr.cell? ⟨g2,o2+s,none⟩=_:=(hkw.cell (p:=⟨g2,o2+s,none⟩) (World.block_lt_of_cell? _ _ hC)).trans hC;have hL':wr.cell? ⟨g1,o1+s,none⟩=_:=(hkw.cell (p:=⟨g1,o1+s,none⟩) (World.block_lt_of_cell? _ _ hL)).trans hL;have hL15:=Px.iE hl s;have hCb:=Px.Fc hl s;have HNO:Hid (Px.fD l N V s):=hno;have HQ:Hid (q=true ↔ Px.fA l N V s):=hq;have HH:Hid (Px.kZ l N V s ↔ (l.getD s 0=N/\Px.codeOf l s=V)):=Iff.rfl;have HMo:Hid (Px.uK l N V s ↔ (N<l.getD s 0/\Px.codeOf l s / 2^(l.getD s 0 - N)=V)):=Iff.rfl;rw[hCl] at f1;have hw2:Hid (Kept w1 wr):=hkw;clear hL hC hCs hno hq e0 e1 sl sc il ic hkw;generalize l.getD s 0=L at *;generalize Px.codeOf l s=C at *;have cont:∀ W,Kept w1 W->¬ Px.kZ l N V s->¬ Px.uK l N V s->(∃ (s2:Nat) (q2:Bool),Value.bool q = .bool q2/\Value.int .i64 ((s:Int)+1) = .int .i64 (s2:Int)/\s2<=l.length/\(q2=true ↔ Px.fA l N V s2)/\Px.fD l N V s2/\Kept w1 W)/\l.length - (intOf (.int .i64 ((s:Int)+1))).toNat<l.length - (intOf (.int .i64 (s:Int))).toNat:=by
       intro W hW h1 h2;refine ⟨⟨s+1,q,rfl,by go_num,by omega,?_,Px.vX HNO.out h1,hW⟩,by simp [intOf];omega⟩;rw[Px.vb,HQ.out];exact ⟨Or.inl,fun h=>h.resolve_right h2⟩
      have CONT:Hid _:=cont;clear cont;have hsh:N<=L->min (IntKind.u64.wrap (IntKind.i64.wrap ((L:Int) - (N:Int)))).toNat 64=L - N:=by
       intro h;rw[IntKind.wrap_i64,IntKind.wrap_u64];omega
      by_cases hLN:L<N
      ·clear hsh
       go_wp2;go_quiet (fail);go_wp2;exact CONT.out _ (hw2.out.drewN _) (fun h=>by have:=HH.out.1 h;omega) (fun h=>by have:=HMo.out.1 h;omega)
      ·by_cases hCV:C / 2^(L - N)=V
       ·have gC:((C:Int) / 2^(L - N) != (V:Int))=false:=by
         rw[bne_eq_false_iff_eq,show (C:Int) / 2^(L - N)=((C / 2^(L - N):Nat):Int) from by simp,hCV]
        by_cases hE:L=N
        ·have hHit:Hid (Px.kZ l N V s):=HH.out.2 ⟨hE,by rw[hE,Nat.sub_self] at hCV;simpa using hCV⟩
         clear hsh;subst hE;have gC2:((C:Int) != (V:Int))=false:=by
          rw[Nat.sub_self] at gC;simpa using gC
         go_wp2;go_quiet (fail);have f0':(wr.drewN nq).cell? ⟨B,0,none⟩=_:=f0;have hL2:(wr.drewN nq).cell? ⟨g1,o1+s,none⟩=_:=hL';have hw3:Hid (Kept w1 (wr.drewN nq)):=hw2.out.drewN nq;generalize wr.drewN nq=wr3 at *;clear f0 hL';go_wp2;go_ret;refine ⟨s,{ t with a:=t.a+L },rfl,?_,?_,?_⟩
         ·have e1:=HN.out
          have e2:=HV.out;refine qd.got s L (by omega) (by omega) (by rw[e1];exact hgo) hlt ?_ ?_
          ·rw[show Px.msb z t.a L=V from by rw[e1];exact e2.symm];exact HNO.out
          ·rw[show Px.msb z t.a L=V from by rw[e1];exact e2.symm];exact hHit.out
         ·have e1:=HN.out
          rw[e1];exact hb1.kept hw3.out
         ·exact (hw.trans hw1).kept hw3.out
        ·have hMore:Hid (Px.uK l N V s):=HMo.out.2 ⟨by omega,hCV⟩
         have hNoh:Hid (¬ Px.kZ l N V s):=fun h=>hE (HH.out.1 h).1
         have hNL:N<L:=by omega
         have gD:decide (L<N)=false:=decide_eq_false (by omega);have gC3:((C:Int) / 2^min (IntKind.u64.wrap (IntKind.i64.wrap ((L:Int) - (N:Int)))).toNat 64 != (V:Int))=false:=by rw[hsh (by omega)];exact gC
         clear hE hLN hsh hCV;go_wp2;go_quiet (fail);have f0':(wr.drewN nq).cell? ⟨B,0,none⟩=_:=f0;have hL2:(wr.drewN nq).cell? ⟨g1,o1+s,none⟩=_:=hL';have hw3:Hid (Kept w1 (wr.drewN nq)):=hw2.out.drewN nq;generalize wr.drewN nq=wr3 at *;clear f0 hL';have gLN:((L:Int) == (N:Int))=false:=beq_eq_false_iff_ne.2 (by omega);go_wp2;refine ⟨⟨s+1,true,rfl,by go_num,by omega,⟨fun _=>Px.vb.2 (Or.inr hMore.out),fun _=>rfl⟩,Px.vX HNO.out hNoh.out,hw3.out⟩,by simp [intOf];omega⟩
       ·have gC:((C:Int) / 2^(L - N) != (V:Int))=true:=by
         rw[bne_iff_ne,show (C:Int) / 2^(L - N)=((C / 2^(L - N):Nat):Int) from by simp];omega
        have hNoh:Hid (¬ Px.kZ l N V s):=fun h=>by
         have:=HH.out.1 h
         apply hCV;rw[this.1,Nat.sub_self,this.2];simp
        have hNom:Hid (¬ Px.uK l N V s):=fun h=>hCV (HMo.out.1 h).2
        have hNL:N<=L:=by omega
        have gD:decide (L<N)=false:=decide_eq_false (by omega);have gC3:((C:Int) / 2^min (IntKind.u64.wrap (IntKind.i64.wrap ((L:Int) - (N:Int)))).toNat 64 != (V:Int))=true:=by rw[hsh (by omega)];exact gC
        clear hCV hLN hsh;go_wp2;go_quiet (fail);go_wp2;exact CONT.out _ (hw2.out.drewN _) hNoh.out hNom.out
     ·have hse:s=l.length:=by omega
      subst hse;have FAIL:Hid (∀ W,BAt W b v { t with a:=t.a+(n+1) }->Calls Tryz.prog 60 #[.pointer (some ⟨b,0,none⟩),.int .i64 13] W fun r w'=>r = .returned (.tuple #[])/\BAt w' b v { t with a:=t.a+(n+1),err:=13 }/\Fr1 b W w'):=fun W hW=>cV b v _ 13 W hW hc he
      have hb2:BAt wr b v { t with a:=t.a+(n+1) }:=hb1.kept hkw;cases q
      ·go_wp2_with fail
       refine (FAIL.out _ hb2).mono ?_;rintro r w3 ⟨rfl,hb3,hw3⟩;go_wp2;have e1:=HN.out;have e2:=HV.out;subst e1;refine ⟨⟨n+1,aV (by rw[e2]),by go_num,by omega,(hw.trans hw1).trans' ((Fr.of_kept hkw).trans hw3) (fun i _ h=>h),Or.inr ⟨by omega,hgo,?_,?_,hb3⟩⟩,by simp [intOf];omega⟩
       ·rw[<- e2];exact hno
       ·rw[<- e2];exact fun h=>by cases hq.2 h
      ·go_wp2
       have e1:=HN.out;have e2:=HV.out;subst e1;refine ⟨⟨n+1,aV (by rw[e2]),by go_num,by omega,(hw.trans hw1).kept hkw,Or.inl ⟨Px.vG hgo (by rw[<- e2];exact hno) (by rw[<- e2];exact hq.1 rfl),hb2⟩⟩,by simp [intOf];omega⟩
   ·have hat:t.a+n=8*z.length:=by omega
    have F:Hid (Calls Tryz.prog 62 #[.pointer (some ⟨b,0,none⟩)] wr fun r w'=>r = .returned (.int .i64 0)/\BAt w' b v { t with a:=8*z.length,cut:=true }/\Fr1 b wr w'):=by
     have:=yK b v z _ wr hb hz1.out hg hat
     rw[hat] at this;exact this
    have hgo2:Hid (Px.cY z t.a l (8*z.length - t.a)):=by rw[show 8*z.length - t.a=n from by omega];exact hgo
    clear hm hp;go_wp2_with fail;refine ON.out.mono ?_;rintro r w1 ⟨rfl,rfl⟩;go_wp2_with fail;refine F.out.mono ?_;rintro r w1 ⟨rfl,hb1,hw1⟩;have c2:w1.cell? ⟨b,2,none⟩=some (.bool true):=hb1.c2;go_wp2;go_ret;exact ⟨0,_,rfl,qd.cut hgo2.out,hb1,hw.trans hw1⟩
  ·have ON:Hid (Calls Tryz.prog 61 #[.pointer (some ⟨b,0,none⟩)] wr fun r w'=>r = .returned (.bool false)/\w'=wr):=by
    have:=a9 b v _ wr hb
    have e:({ t with a:=t.a+n,err:=13 }:Px.Bt).on=false:=by show (!t.cut && decide (13=0))=false;simp
    rw[e] at this;exact this
   go_wp2_with fail;refine ON.out.mono ?_;rintro r w1 ⟨rfl,rfl⟩;go_wp2;go_ret;exact ⟨0,_,rfl,qd.bad n h1 hn hgo hno hnm,hb,hw⟩
end Go.Proofs.YtgooinallljbpaaGreatDoor
/-
 Plain mathematics,no Go: the stream,read item by item (a number of some bits,or a code): what comes next,what an item leads to.
-/
namespace Px
def x9:List Nat:=[16,17,18,0,8,7,9,6,10,5,11,4,12,3,13,2,14,1,15]
def dr (told:List Nat):Nat->List Nat
 | 0=>List.replicate 19 0
 | k+1=>(dr told k).set (x9.getD k 0) (told.getD k 0)
def aM (told:List Nat):List Nat:=dr told told.length
def aO:List Nat:=(List.range 288).map fun s=>if s<144 then 8 else if s<256 then 9 else if s<280 then 7 else 8
def bW:List Nat:=List.replicate 32 5
def aG (s:Nat):Nat:=if s - 257=28 then 0 else if s - 257<8 then 0 else (s - 257) / 4 - 1
def bH (s:Nat):Nat:=if s - 257=28 then 258 else if s - 257<8 then 3+(s - 257) else 3+(4+(s - 257) % 4)*2^((s - 257) / 4 - 1)
def aE (s:Nat):Nat:=if s<4 then 0 else s / 2 - 1
def bI (s:Nat):Nat:=if s<4 then 1+s else 1+(2+s % 2)*2^(s / 2 - 1)
abbrev Ph:Type:=Unit ⊕ Unit ⊕ Unit ⊕ Nat ⊕ Unit ⊕ (Nat × Nat × Nat × List Nat) ⊕ (Nat × Nat × List Nat × List Nat) ⊕ (Nat × Nat × List Nat × List Nat × Nat) ⊕ (List Nat × List Nat) ⊕ (List Nat × List Nat × Nat × Nat) ⊕ (List Nat × List Nat × Nat) ⊕ (List Nat × List Nat × Nat × Nat × Nat) ⊕ Unit ⊕ Unit
abbrev Ph.head:Ph := .inl ()
abbrev Ph.block:Ph := .inr (.inl ())
abbrev Ph.ssize:Ph := .inr (.inr (.inl ()))
abbrev Ph.stored (x0:Nat):Ph := .inr (.inr (.inr (.inl x0)))
abbrev Ph.counts:Ph := .inr (.inr (.inr (.inr (.inl ()))))
abbrev Ph.short (x0:Nat) (x1:Nat) (x2:Nat) (x3:List Nat):Ph := .inr (.inr (.inr (.inr (.inr (.inl (x0,x1,x2,x3))))))
abbrev Ph.clen (x0:Nat) (x1:Nat) (x2:List Nat) (x3:List Nat):Ph := .inr (.inr (.inr (.inr (.inr (.inr (.inl (x0,x1,x2,x3)))))))
abbrev Ph.rep (x0:Nat) (x1:Nat) (x2:List Nat) (x3:List Nat) (x4:Nat):Ph := .inr (.inr (.inr (.inr (.inr (.inr (.inr (.inl (x0,x1,x2,x3,x4))))))))
abbrev Ph.sym (x0:List Nat) (x1:List Nat):Ph := .inr (.inr (.inr (.inr (.inr (.inr (.inr (.inr (.inl (x0,x1)))))))))
abbrev Ph.lrest (x0:List Nat) (x1:List Nat) (x2:Nat) (x3:Nat):Ph := .inr (.inr (.inr (.inr (.inr (.inr (.inr (.inr (.inr (.inl (x0,x1,x2,x3))))))))))
abbrev Ph.dist (x0:List Nat) (x1:List Nat) (x2:Nat):Ph := .inr (.inr (.inr (.inr (.inr (.inr (.inr (.inr (.inr (.inr (.inl (x0,x1,x2)))))))))))
abbrev Ph.drest (x0:List Nat) (x1:List Nat) (x2:Nat) (x3:Nat) (x4:Nat):Ph := .inr (.inr (.inr (.inr (.inr (.inr (.inr (.inr (.inr (.inr (.inr (.inl (x0,x1,x2,x3,x4))))))))))))
abbrev Ph.sum:Ph := .inr (.inr (.inr (.inr (.inr (.inr (.inr (.inr (.inr (.inr (.inr (.inr (.inl ()))))))))))))
abbrev Ph.fin:Ph := .inr (.inr (.inr (.inr (.inr (.inr (.inr (.inr (.inr (.inr (.inr (.inr (.inr ()))))))))))))
theorem Ph.cs {motive:Ph->Prop} (head:motive (Ph.head)) (block:motive (Ph.block)) (ssize:motive (Ph.ssize)) (stored:∀ (x0:Nat),motive (Ph.stored x0)) (counts:motive (Ph.counts)) (short:∀ (x0:Nat) (x1:Nat) (x2:Nat) (x3:List Nat),motive (Ph.short x0 x1 x2 x3)) (clen:∀ (x0:Nat) (x1:Nat) (x2:List Nat) (x3:List Nat),motive (Ph.clen x0 x1 x2 x3)) (rep:∀ (x0:Nat) (x1:Nat) (x2:List Nat) (x3:List Nat) (x4:Nat),motive (Ph.rep x0 x1 x2 x3 x4)) (sym:∀ (x0:List Nat) (x1:List Nat),motive (Ph.sym x0 x1)) (lrest:∀ (x0:List Nat) (x1:List Nat) (x2:Nat) (x3:Nat),motive (Ph.lrest x0 x1 x2 x3)) (dist:∀ (x0:List Nat) (x1:List Nat) (x2:Nat),motive (Ph.dist x0 x1 x2)) (drest:∀ (x0:List Nat) (x1:List Nat) (x2:Nat) (x3:Nat) (x4:Nat),motive (Ph.drest x0 x1 x2 x3 x4)) (sum:motive (Ph.sum)) (fin:motive (Ph.fin)) (x:Ph):motive x:=
 match x with
 | .inl _=>head
 | .inr (.inl _)=>block
 | .inr (.inr (.inl _))=>ssize
 | .inr (.inr (.inr (.inl x0)))=>stored x0
 | .inr (.inr (.inr (.inr (.inl _))))=>counts
 | .inr (.inr (.inr (.inr (.inr (.inl (x0,x1,x2,x3))))))=>short x0 x1 x2 x3
 | .inr (.inr (.inr (.inr (.inr (.inr (.inl (x0,x1,x2,x3)))))))=>clen x0 x1 x2 x3
 | .inr (.inr (.inr (.inr (.inr (.inr (.inr (.inl (x0,x1,x2,x3,x4))))))))=>rep x0 x1 x2 x3 x4
 | .inr (.inr (.inr (.inr (.inr (.inr (.inr (.inr (.inl (x0,x1)))))))))=>sym x0 x1
 | .inr (.inr (.inr (.inr (.inr (.inr (.inr (.inr (.inr (.inl (x0,x1,x2,x3))))))))))=>lrest x0 x1 x2 x3
 | .inr (.inr (.inr (.inr (.inr (.inr (.inr (.inr (.inr (.inr (.inl (x0,x1,x2)))))))))))=>dist x0 x1 x2
 | .inr (.inr (.inr (.inr (.inr (.inr (.inr (.inr (.inr (.inr (.inr (.inl (x0,x1,x2,x3,x4))))))))))))=>drest x0 x1 x2 x3 x4
 | .inr (.inr (.inr (.inr (.inr (.inr (.inr (.inr (.inr (.inr (.inr (.inr (.inl _))))))))))))=>sum
 | .inr (.inr (.inr (.inr (.inr (.inr (.inr (.inr (.inr (.inr (.inr (.inr (.inr _))))))))))))=>fin
structure St where
 ph:Ph
 window:Nat
 last:Bool
 out:List One
def St.start:St:=⟨.head,0,false,[]⟩
abbrev Item:Type:=Nat ⊕ (List Nat) ⊕ Unit
abbrev Item.num (x0:Nat):Item := .inl x0
abbrev Item.code (x0:List Nat):Item := .inr (.inl x0)
abbrev Item.none:Item := .inr (.inr ())
theorem Item.cs {motive:Item->Prop} (num:∀ (x0:Nat),motive (Item.num x0)) (code:∀ (x0:List Nat),motive (Item.code x0)) (none:motive (Item.none)) (x:Item):motive x:=
 match x with
 | .inl x0=>num x0
 | .inr (.inl x0)=>code x0
 | .inr (.inr _)=>none
def cF (s:Nat):Nat:=if s=16 then 2 else if s=17 then 3 else 7
def item:Ph->Item
 | .inl _ => .num 16
 | .inr (.inl _) => .num 3
 | .inr (.inr (.inl _)) => .num 32
 | .inr (.inr (.inr (.inl _))) => .num 8
 | .inr (.inr (.inr (.inr (.inl _)))) => .num 14
 | .inr (.inr (.inr (.inr (.inr (.inl (_,_,_,_)))))) => .num 3
 | .inr (.inr (.inr (.inr (.inr (.inr (.inl (_,_,sl,_))))))) => .code sl
 | .inr (.inr (.inr (.inr (.inr (.inr (.inr (.inl (_,_,_,_,s)))))))) => .num (cF s)
 | .inr (.inr (.inr (.inr (.inr (.inr (.inr (.inr (.inl (lit,_))))))))) => .code lit
 | .inr (.inr (.inr (.inr (.inr (.inr (.inr (.inr (.inr (.inl (_,_,_,bits)))))))))) => .num bits
 | .inr (.inr (.inr (.inr (.inr (.inr (.inr (.inr (.inr (.inr (.inl (_,dist,_))))))))))) => .code dist
 | .inr (.inr (.inr (.inr (.inr (.inr (.inr (.inr (.inr (.inr (.inr (.inl (_,_,_,_,bits)))))))))))) => .num bits
 | .inr (.inr (.inr (.inr (.inr (.inr (.inr (.inr (.inr (.inr (.inr (.inr (.inl _)))))))))))) => .num 32
 | .inr (.inr (.inr (.inr (.inr (.inr (.inr (.inr (.inr (.inr (.inr (.inr (.inr _)))))))))))) => .none
abbrev Res:Type:=Nat ⊕ (St × Bool)
abbrev Res.err (x0:Nat):Res := .inl x0
abbrev Res.ok (x0:St) (x1:Bool):Res := .inr (x0,x1)
theorem Res.cs {motive:Res->Prop} (err:∀ (x0:Nat),motive (Res.err x0)) (ok:∀ (x0:St) (x1:Bool),motive (Res.ok x0 x1)) (x:Res):motive x:=
 match x with
 | .inl x0=>err x0
 | .inr (x0,x1)=>ok x0 x1
def St.to (s:St) (p:Ph):Res := .ok { s with ph:=p } false
def St.endBlock (s:St):Res:=if s.last=true then .ok { s with ph := .sum } true else .ok { s with ph := .block } false
def St.give (s:St) (v p:Nat):St:={ s with out:=s.out++[(v,p)] }
def aT (p back:Nat):Nat->List One->List One
 | 0,o=>o
 | n+1,o=>aT p back n (o++[(vAt o (o.length - back),p)])
def St.copy (s:St) (lit dist:List Nat) (len back p:Nat):Res:=
 if s.out.length<back\/s.window<back then .err 14 else .ok { s with ph := .sym lit dist,out:=aT p back len s.out } false
def St.lens (s:St) (nl nd:Nat) (sl out:List Nat):Res:=
 if out.length<nl+nd then s.to (.clen nl nd sl out)
 else if db (out.take nl) true false=false\/db (out.drop nl) true true=false\/out.getD 256 0=0 then .err 12
 else s.to (.sym (out.take nl) (out.drop nl))
def bx (l:List One):Nat:=l.foldl (fun a x=>(a+x.1) % 65521) 1
def bJ (l:List One):Nat:=(l.foldl (fun (a:Nat × Nat) x=>((a.1+x.1) % 65521,(a.2+(a.1+x.1) % 65521) % 65521)) (1,0)).2
def gG (v:Nat):Nat:=v % 256*16777216+v / 256 % 256*65536+v / 65536 % 256*256+v / 16777216 % 256
def bF (s:St) (v p:Nat):Res:=
 match s.ph with
 | .inl _=>if v % 256 % 16≠8\/7<v % 256 / 16\/(256*(v % 256)+v / 256) % 31≠0\/v / 256 / 32 % 2=1 then .err 10 else .ok { s with ph := .block,window:=2^(8+v % 256 / 16) } false
 | .inr (.inl _)=>
  let s1:={ s with last:=decide (v % 2=1) }
  if v / 2=0 then .ok { s1 with ph := .ssize } true else if v / 2=1 then s1.to (.sym aO bW) else if v / 2=2 then s1.to .counts else .err 11
 | .inr (.inr (.inl _))=>if v % 65536+v / 65536≠65535 then .err 11 else if v % 65536=0 then s.endBlock else s.to (.stored (v % 65536))
 | .inr (.inr (.inr (.inl left)))=>if left<=1 then (s.give v p).endBlock else (s.give v p).to (.stored (left - 1))
 | .inr (.inr (.inr (.inr (.inl _))))=>if 286<v % 32+257\/30<v / 32 % 32+1 then .err 12 else s.to (.short (v % 32+257) (v / 32 % 32+1) (v / 1024+4) [])
 | .inr (.inr (.inr (.inr (.inr (.inl (nl,nd,ns,told))))))=>
  if told.length+1<ns then s.to (.short nl nd ns (told++[v]))
  else if db (aM (told++[v])) false false=false then .err 12 else s.to (.clen nl nd (aM (told++[v])) [])
 | .inr (.inr (.inr (.inr (.inr (.inr (.inr (.inl (nl,nd,sl,out,c))))))))=>
  let k:=if c=18 then v+11 else v+3
  if nl+nd<out.length+k then .err 12 else s.lens nl nd sl (out++List.replicate k (if c=16 then out.getD (out.length - 1) 0 else 0))
 | .inr (.inr (.inr (.inr (.inr (.inr (.inr (.inr (.inr (.inl (lit,dist,base,_))))))))))=>s.to (.dist lit dist (base+v))
 | .inr (.inr (.inr (.inr (.inr (.inr (.inr (.inr (.inr (.inr (.inr (.inl (lit,dist,len,base,_))))))))))))=>s.copy lit dist len (base+v) p
 | .inr (.inr (.inr (.inr (.inr (.inr (.inr (.inr (.inr (.inr (.inr (.inr (.inl _))))))))))))=>if gG v≠65536*bJ s.out+bx s.out then .err 19 else s.to .fin
 | _ => .err 0
def cZ (s:St) (c p:Nat):Res:=
 match s.ph with
 | .inr (.inr (.inr (.inr (.inr (.inr (.inl (nl,nd,sl,out)))))))=>if c<16 then s.lens nl nd sl (out++[c]) else if c=16/\out=[] then .err 12 else s.to (.rep nl nd sl out c)
 | .inr (.inr (.inr (.inr (.inr (.inr (.inr (.inr (.inl (lit,dist)))))))))=>
  if c<256 then (s.give c p).to (.sym lit dist) else if c=256 then s.endBlock else if 285<c then .err 13
  else if aG c=0 then s.to (.dist lit dist (bH c)) else s.to (.lrest lit dist (bH c) (aG c))
 | .inr (.inr (.inr (.inr (.inr (.inr (.inr (.inr (.inr (.inr (.inl (lit,dist,len)))))))))))=>
  if 29<c then .err 13 else if aE c=0 then s.copy lit dist len (bI c) p else s.to (.drest lit dist len (bI c) (aE c))
 | _ => .err 0
def ay (z:List One) (a:Nat):Nat:=pAt z ((a - 1) / 8)
def su (skip:Bool) (a:Nat):Nat:=if skip=true then up8 a else a
def bK (z:List One) (a:Nat) (l:List Nat) (c n:Nat):Prop:=
 1<=n/\a+n<=8*z.length/\cY z a l (n - 1)/\c<l.length/\fD l n (msb z a n) c/\kZ l n (msb z a n) c
def qD (z:List One) (a:Nat) (l:List Nat) (n:Nat):Prop:=
 1<=n/\a+n<=8*z.length/\cY z a l (n - 1)/\fD l n (msb z a n) l.length/\¬ fA l n (msb z a n) l.length
def Step (z:List One) (a:Nat) (s:St) (b:Nat) (t:St):Prop:=
 (∃ n k,item s.ph = .num n/\a+n<=8*z.length/\bF s (ab z a n) (ay z (a+n)) = .ok t k/\b=su k (a+n)) \/
 (∃ l c n k,item s.ph = .code l/\bK z a l c n/\cZ s c (ay z (a+n)) = .ok t k/\b=su k (a+n))
theorem Step.num {z:List One} {a:Nat} {s:St} {n:Nat} {s':St} {k:Bool} (hi:item s.ph = .num n) (hn:a+n<=8*z.length) (hr:bF s (ab z a n) (ay z (a+n)) = .ok s' k):Step z a s (su k (a+n)) s':=Or.inl ⟨n,k,hi,hn,hr,rfl⟩
theorem Step.sym {z:List One} {a:Nat} {s:St} {l:List Nat} {c n:Nat} {s':St} {k:Bool} (hi:item s.ph = .code l) (hg:bK z a l c n) (hr:cZ s c (ay z (a+n)) = .ok s' k):Step z a s (su k (a+n)) s':=Or.inr ⟨l,c,n,k,hi,hg,hr,rfl⟩
theorem Step.cs {z:List One} {a:Nat} {s:St} {motive:∀ b t,Step z a s b t->Prop}
  (num:∀ {n:Nat} {s':St} {k:Bool} (hi:item s.ph = .num n) (hn:a+n<=8*z.length) (hr:bF s (ab z a n) (ay z (a+n)) = .ok s' k),motive (su k (a+n)) s' (Step.num hi hn hr))
  (sym:∀ {l:List Nat} {c n:Nat} {s':St} {k:Bool} (hi:item s.ph = .code l) (hg:bK z a l c n) (hr:cZ s c (ay z (a+n)) = .ok s' k),motive (su k (a+n)) s' (Step.sym hi hg hr))
  {b:Nat} {t:St} (h:Step z a s b t):motive b t h:=by
 rcases h with ⟨n,k,hi,hn,hr,rfl⟩ | ⟨l,c,n,k,hi,hg,hr,rfl⟩
 ·exact num hi hn hr
 ·exact sym hi hg hr
def Nq (z:List One) (a:Nat) (s:St):Nat->Nat->St->Prop
 | 0,b,t=>b=a/\t=s
 | m+1,c,u=>∃ b t,Nq z a s m b t/\Step z b t c u
def Run (z:List One) (a:Nat) (s:St) (b:Nat) (t:St):Prop:=∃ m,Nq z a s m b t
theorem Run.refl {z:List One} (a:Nat) (s:St):Run z a s a s:=⟨0,rfl,rfl⟩
theorem Run.tail {z:List One} {a:Nat} {s:St} {b:Nat} {t:St} {c:Nat} {u:St} (h:Run z a s b t) (k:Step z b t c u):Run z a s c u:=by
 obtain ⟨m,h⟩:=h;exact ⟨m+1,b,t,h,k⟩
theorem Run.cs {z:List One} {a:Nat} {s:St} {motive:∀ b t,Run z a s b t->Prop} (refl:motive a s (Run.refl a s))
  (tail:∀ {b:Nat} {t:St} {c:Nat} {u:St} (h:Run z a s b t) (k:Step z b t c u),motive b t h->motive c u (Run.tail h k)) {b:Nat} {t:St} (h:Run z a s b t):motive b t h:=by
 obtain ⟨m,q⟩:=h
 induction m generalizing b t with
 | zero=>obtain ⟨rfl,rfl⟩:=q;exact refl
 | succ m ih=>
  obtain ⟨b',t',h1,h2⟩:=q;exact tail ⟨m,h1⟩ h2 (ih h1)
theorem Run.ind {z:List One} {a:Nat} {s:St} {P:Nat->St->Prop} (refl:P a s) (tail:∀ {b t c u},Run z a s b t->Step z b t c u->P b t->P c u) {b:Nat} {t:St} (h:Run z a s b t):P b t:=by
 obtain ⟨m,h⟩:=h
 induction m generalizing b t with
 | zero=>obtain ⟨rfl,rfl⟩:=h;exact refl
 | succ m ih=>
  obtain ⟨b',t',h1,h2⟩:=h;exact tail ⟨m,h1⟩ h2 (ih h1)
theorem Run.trans {z:List One} {a b c:Nat} {s t u:St} (h:Run z a s b t) (k:Run z b t c u):Run z a s c u:=
 Run.ind (P:=fun c u=>Run z a s c u) h (fun _ q ih=>ih.tail q) k
theorem Run.one {z:List One} {a b:Nat} {s t:St} (k:Step z a s b t):Run z a s b t := .tail (.refl _ _) k
def Fails (z:List One) (a:Nat) (s:St) (e b:Nat):Prop:=
 (∃ n,item s.ph = .num n/\a+n<=8*z.length/\bF s (ab z a n) (ay z (a+n)) = .err e/\b=a+n) \/
 (∃ l c n,item s.ph = .code l/\bK z a l c n/\cZ s c (ay z (a+n)) = .err e/\b=a+n) \/
 (∃ l n,item s.ph = .code l/\qD z a l n/\e=13/\b=a+n)
theorem Fails.num {z:List One} {a:Nat} {s:St} {n e:Nat} (hi:item s.ph = .num n) (hn:a+n<=8*z.length) (hr:bF s (ab z a n) (ay z (a+n)) = .err e):Fails z a s e (a+n):=Or.inl ⟨n,hi,hn,hr,rfl⟩
theorem Fails.sym {z:List One} {a:Nat} {s:St} {l:List Nat} {c n e:Nat} (hi:item s.ph = .code l) (hg:bK z a l c n) (hr:cZ s c (ay z (a+n)) = .err e):Fails z a s e (a+n):=Or.inr (Or.inl ⟨l,c,n,hi,hg,hr,rfl⟩)
theorem Fails.bad {z:List One} {a:Nat} {s:St} {l:List Nat} {n:Nat} (hi:item s.ph = .code l) (hg:qD z a l n):Fails z a s 13 (a+n):=Or.inr (Or.inr ⟨l,n,hi,hg,rfl,rfl⟩)
def lD (z:List One) (a:Nat) (s:St):Prop:=(∃ n,item s.ph = .num n/\8*z.length<a+n)\/(∃ l,item s.ph = .code l/\cY z a l (8*z.length - a))
theorem lD.num {z:List One} {a:Nat} {s:St} {n:Nat} (hi:item s.ph = .num n) (hn:8*z.length<a+n):lD z a s:=Or.inl ⟨n,hi,hn⟩
theorem lD.sym {z:List One} {a:Nat} {s:St} {l:List Nat} (hi:item s.ph = .code l) (hg:cY z a l (8*z.length - a)):lD z a s:=Or.inr ⟨l,hi,hg⟩
theorem Fails.cs {z:List One} {a:Nat} {s:St} {motive:∀ e b,Fails z a s e b->Prop}
  (num:∀ {n e:Nat} (hi:item s.ph = .num n) (hn:a+n<=8*z.length) (hr:bF s (ab z a n) (ay z (a+n)) = .err e),motive e (a+n) (Fails.num hi hn hr))
  (sym:∀ {l:List Nat} {c n e:Nat} (hi:item s.ph = .code l) (hg:bK z a l c n) (hr:cZ s c (ay z (a+n)) = .err e),motive e (a+n) (Fails.sym hi hg hr))
  (bad:∀ {l:List Nat} {n:Nat} (hi:item s.ph = .code l) (hg:qD z a l n),motive 13 (a+n) (Fails.bad hi hg))
  {e b:Nat} (h:Fails z a s e b):motive e b h:=by
 rcases h with ⟨n,hi,hn,hr,rfl⟩ | ⟨l,c,n,hi,hg,hr,rfl⟩ | ⟨l,n,hi,hg,rfl,rfl⟩
 ·exact num hi hn hr
 ·exact sym hi hg hr
 ·exact bad hi hg
theorem lD.cs {z:List One} {a:Nat} {s:St} {motive:lD z a s->Prop} (num:∀ {n:Nat} (hi:item s.ph = .num n) (hn:8*z.length<a+n),motive (lD.num hi hn))
  (sym:∀ {l:List Nat} (hi:item s.ph = .code l) (hg:cY z a l (8*z.length - a)),motive (lD.sym hi hg)) (h:lD z a s):motive h:=by
 rcases h with ⟨n,hi,hn⟩ | ⟨l,hi,hg⟩
 ·exact num hi hn
 ·exact sym hi hg
def Ends (z:List One) (a0:Nat) (s0:St) (a:Nat) (r:Res) (o:List One):Prop:=
 ∃ a1 s1,Run z a0 s0 a1 s1/\s1.out=o/\((∃ n,item s1.ph = .num n/\a1+n=a/\a<=8*z.length/\bF s1 (ab z a1 n) (ay z a)=r)\/(∃ l c n,item s1.ph = .code l/\bK z a1 l c n/\a1+n=a/\cZ s1 c (ay z a)=r))
theorem Ends.ok {z:List One} {a0 a:Nat} {s0 s:St} {k:Bool} {o:List One} (h:Ends z a0 s0 a (.ok s k) o):Run z a0 s0 (su k a) s:=by
 obtain ⟨a1,s1,hr,_,⟨n,hi,rfl,hl,he⟩ | ⟨l,c,n,hi,hg,rfl,he⟩⟩:=h
 ·exact .tail hr (.num hi hl he)
 ·exact .tail hr (.sym hi hg he)
def Stop (z:List One) (a0:Nat) (s0:St) (o:List One) (t:Bt):Prop:=
 (∃ a1 s1,Run z a0 s0 a1 s1/\lD z a1 s1/\s1.out=o/\t=⟨8*z.length,true,0⟩) \/
 (∃ a1 s1 e a,Run z a0 s0 a1 s1/\Fails z a1 s1 e a/\s1.out=o/\e≠0/\a<=8*z.length/\t=⟨a,false,e⟩)
theorem Stop.cut {z:List One} {a0:Nat} {s0:St} {o:List One} (a1:Nat) (s1:St) (h:Run z a0 s0 a1 s1) (c:lD z a1 s1) (ho:s1.out=o):Stop z a0 s0 o ⟨8*z.length,true,0⟩:=Or.inl ⟨a1,s1,h,c,ho,rfl⟩
theorem Stop.err {z:List One} {a0:Nat} {s0:St} {o:List One} (a1:Nat) (s1:St) (e a:Nat) (h:Run z a0 s0 a1 s1) (c:Fails z a1 s1 e a) (ho:s1.out=o) (he:e≠0) (ha:a<=8*z.length):Stop z a0 s0 o ⟨a,false,e⟩:=Or.inr ⟨a1,s1,e,a,h,c,ho,he,ha,rfl⟩
theorem Stop.cs {z:List One} {a0:Nat} {s0:St} {o:List One} {motive:∀ t,Stop z a0 s0 o t->Prop}
  (cut:∀ (a1:Nat) (s1:St) (h:Run z a0 s0 a1 s1) (c:lD z a1 s1) (ho:s1.out=o),motive ⟨8*z.length,true,0⟩ (Stop.cut a1 s1 h c ho))
  (err:∀ (a1:Nat) (s1:St) (e a:Nat) (h:Run z a0 s0 a1 s1) (c:Fails z a1 s1 e a) (ho:s1.out=o) (he:e≠0) (ha:a<=8*z.length),motive ⟨a,false,e⟩ (Stop.err a1 s1 e a h c ho he ha))
  {t:Bt} (h:Stop z a0 s0 o t):motive t h:=by
 rcases h with ⟨a1,s1,h,c,ho,rfl⟩ | ⟨a1,s1,e,a,h,c,ho,he,ha,rfl⟩
 ·exact cut a1 s1 h c ho
 ·exact err a1 s1 e a h c ho he ha
theorem Stop.off {z:List One} {a0:Nat} {s0:St} {o:List One} {t:Bt} (h:Stop z a0 s0 o t):t.on=false:=by
 rcases h with ⟨_,_,_,_,_,rfl⟩ | ⟨_,_,e,_,_,_,_,he,_,rfl⟩
 ·rfl
 ·unfold Bt.on;simp [he]
theorem Stop.after {z:List One} {a0 a:Nat} {s0 s:St} {o:List One} {t:Bt} (r:Run z a0 s0 a s) (h:Stop z a s o t):Stop z a0 s0 o t:=by
 rcases h with ⟨a1,s1,h,c,ho,rfl⟩ | ⟨a1,s1,e,a,h,c,ho,he,ha,rfl⟩
 ·exact .cut a1 s1 (r.trans h) c ho
 ·exact .err a1 s1 e a (r.trans h) c ho he ha
theorem Ends.stop {z:List One} {a0 a e:Nat} {s0:St} {o:List One} (h:Ends z a0 s0 a (.err e) o) (he:e≠0) (ha:a<=8*z.length):Stop z a0 s0 o ⟨a,false,e⟩:=by
 obtain ⟨a1,s1,hr,ho,⟨n,hi,rfl,hl,hx⟩ | ⟨l,c,n,hi,hg,rfl,hx⟩⟩:=h
 ·exact .err a1 s1 e _ hr (.num hi hl hx) ho he ha
 ·exact .err a1 s1 e _ hr (.sym hi hg hx) ho he ha
theorem Ends.after {z:List One} {a0 a1 a:Nat} {s0 s1:St} {r:Res} {o:List One} (h:Run z a0 s0 a1 s1) (k:Ends z a1 s1 a r o):Ends z a0 s0 a r o:=by
 obtain ⟨b,t,hr,ho,q⟩:=k;exact ⟨b,t,h.trans hr,ho,q⟩
theorem Cl (s:Nat) (h:s<=29):aE s<=13:=by unfold aE;split<;>omega
theorem LU (s:Nat) (h:s<=285):bH s<=258:=by
 unfold bH;split
 ·omega
 ·split
  ·omega
  ·have h1:(s - 257) / 4 - 1<=5:=by omega
   have h2:(4+(s - 257) % 4)*2^((s - 257) / 4 - 1)<=7*2^5:=Nat.mul_le_mul (by omega) (Nat.pow_le_pow_right (by omega) h1);omega
theorem Cn (s:Nat) (h:s<=29):bI s<=24577:=by
 unfold bI;split
 ·omega
 ·have h1:s / 2 - 1<=13:=by omega
  have h2:(2+s % 2)*2^(s / 2 - 1)<=3*2^13:=Nat.mul_le_mul (by omega) (Nat.pow_le_pow_right (by omega) h1);omega
end Px
namespace Go.Proofs.YtgooinallljbpaaGreatDoor
open Go.RowKit
set_option linter.unusedSimpArgs false
set_option linter.unusedVariables false
theorem Fs (w:World) (l:List Nat) (t:TypeId) (c:Nat):IAt (w.alloc (.cells ((l.map fun (n:Nat)=>Value.int .i64 (n:Int)).toArray) t)) (.slice (some ⟨w.heap.size,0,none⟩) l.length c) l:=by
 refine ⟨⟨_,_,rfl⟩,?_⟩;intro p c' hp i hi
 injection hp with hp _ _
 refine ⟨w.heap.size,0,hp.symm,?_⟩;rw[World.cell?_alloc_at _ _ _ _ rfl];simp [List.getElem?_map,List.getElem?_eq_getElem hi,List.getD_eq_getElem?_getD]
theorem pR (w:World) :
  Calls Tryz.prog 108 #[] w fun r w'=>r = .returned (.slice (some ⟨w.heap.size,0,none⟩) 19 19)/\IAt w' (.slice (some ⟨w.heap.size,0,none⟩) 19 19) Px.x9/\Kept w w':=by
 go_enter Tryz.func108,Tryz.ntmps108;go_wp2;go_ret;exact ⟨rfl,Fs w Px.x9 3 19,(Below.refl _ _).alloc (Nat.le_refl _) _⟩
def Lc (z:List Px.One) (t:Px.Bt) (n x:Nat):Prop:=x<2^n/\(t.a+n<=8*z.length->x=Px.ab z t.a n)
theorem Gt (b:Nat) (v:Value) (z:List Px.One) (t:Px.Bt) (c:Nat) (w:World) (h:BAt w b v t) (hz:ZAt w v z) (hv:∀ g,ae v=some g->g≠b) (hg:Px.good z) (ha:t.a<=8*z.length) (hc:t.cut=false) (h0:257<=c) (h1:c<=285) :
  Calls Tryz.prog 106 #[.pointer (some ⟨b,0,none⟩),.int .i64 (c:Int)] w fun r w'=>∃ x:Nat,r = .returned (.int .i64 ((Px.bH c+x:Nat):Int))/\Lc z t (Px.aG c) x/\BAt w' b v (t.num z (Px.aG c))/\Fr1 b w w':=by
 have hnum:Px.aG c=0->t.num z (Px.aG c)=t:=by
  intro e;rw[e];unfold Px.Bt.num;rw[if_neg (by rw[hc];decide),if_pos (by omega)];rfl
 obtain ⟨q,rfl⟩:∃ q,c=q+257:=⟨c - 257,by omega⟩;by_cases h28:q=28
 ·subst h28
  have e1:Px.aG (28+257)=0:=rfl;have e2:Px.bH (28+257)=258:=rfl;have HN:Hid (t.num z (Px.aG (28+257))=t):=hnum e1;go_enter Tryz.func106,Tryz.ntmps106;go_wp2;go_ret;exact ⟨0,rfl,⟨by rw[e1];decide,fun _=>by rw[e1];rfl⟩,by rw[HN.out];exact h,Fr.refl _ _⟩
 ·by_cases h8:q<8
  ·have e1:Px.aG (q+257)=0:=by unfold Px.aG;rw[if_neg (by omega),if_pos (by omega)]
   have e2:Px.bH (q+257)=3+q:=by unfold Px.bH;rw[if_neg (by omega),if_pos (by omega)];omega
   have HN:Hid (t.num z (Px.aG (q+257))=t):=hnum e1;have HE:Hid (Px.bH (q+257)=3+q/\Px.aG (q+257)=0):=⟨e2,e1⟩;have g28:((q:Int) == 28)=false:=beq_eq_false_iff_ne.2 (by omega);clear e1 e2 hnum h28;go_enter Tryz.func106,Tryz.ntmps106;go_wp2;go_ret;have e:=HE.out;exact ⟨0,ah (by rw[e.1];omega),⟨by rw[e.2];decide,fun _=>by rw[e.2];rfl⟩,by rw[HN.out];exact h,Fr.refl _ _⟩
  ·have e1:Px.aG (q+257)=q / 4 - 1:=by unfold Px.aG;rw[if_neg (by omega),if_neg (by omega)];congr 2
   have e2:Px.bH (q+257)=3+(4+q % 4)*2^(q / 4 - 1):=by unfold Px.bH;rw[if_neg (by omega),if_neg (by omega),Nat.add_sub_cancel]
   have hE5:q / 4 - 1<=5:=by omega
   obtain ⟨E,hE⟩:∃ E,E=q / 4 - 1:=⟨_,rfl⟩;have hEi:(q:Int) / 4 - 1=(E:Int):=by omega
   rw[<- hE] at e1 e2 hE5;rw[e1,e2];have F:Hid (Calls Tryz.prog 59 #[.pointer (some ⟨b,0,none⟩),.int .i64 ((q:Int) / 4 - 1)] w fun r w'=>∃ x:Nat,r = .returned (.int .i64 (x:Int))/\x<2^E/\(t.a+E<=8*z.length->x=Px.ab z t.a E)/\BAt w' b v (t.num z E)/\Fr1 b w w'):=by
    rw[hEi];exact oa b v z t E w h hz hv hg ha (by omega) hc
   have g28:((q:Int) == 28)=false:=beq_eq_false_iff_ne.2 (by omega);have hp:2^E<=32:=by have:=Nat.pow_le_pow_right (n:=2) (by omega) hE5;simpa using this
   have HEi:Hid ((q:Int) / 4 - 1=(E:Int)):=hEi;clear e1 e2 hnum h28 hE hEi;go_enter Tryz.func106,Tryz.ntmps106;go_wp2_with fail;refine F.out.mono ?_;rintro r w1 ⟨x,rfl,hx,hx2,hb1,hw1⟩;have hx32:x<32:=by omega
   have hE0:(0:Int)<=(q:Int) / 4 - 1:=by omega
   go_wp2;go_ret;refine ⟨x,ah ?_,⟨hx,hx2⟩,hb1,hw1⟩;have hq:q / 4 - 1=E:=by have:=HEi.out;omega
   rw[hq];have hM:(4+q % 4)*2^E<=7*32:=Nat.mul_le_mul (by omega) hp;have hMi:(4+(q:Int) % 4)*2^E=(((4+q % 4)*2^E:Nat):Int):=by simp
   generalize (4+q % 4)*2^E=M at *;rw[hMi,bB (M:Int) (by omega) (by omega),bB (3+(M:Int)) (by omega) (by omega),bB _ (by omega) (by omega)];omega
theorem Io (b:Nat) (v:Value) (z:List Px.One) (t:Px.Bt) (c:Nat) (w:World) (h:BAt w b v t) (hz:ZAt w v z) (hv:∀ g,ae v=some g->g≠b) (hg:Px.good z) (ha:t.a<=8*z.length) (hc:t.cut=false) (h1:c<=29) :
  Calls Tryz.prog 107 #[.pointer (some ⟨b,0,none⟩),.int .i64 (c:Int)] w fun r w'=>∃ x:Nat,r = .returned (.int .i64 ((Px.bI c+x:Nat):Int))/\Lc z t (Px.aE c) x/\BAt w' b v (t.num z (Px.aE c))/\Fr1 b w w':=by
 have hnum:Px.aE c=0->t.num z (Px.aE c)=t:=by
  intro e;rw[e];unfold Px.Bt.num;rw[if_neg (by rw[hc];decide),if_pos (by omega)];rfl
 by_cases h8:c<4
 ·have e1:Px.aE c=0:=by unfold Px.aE;rw[if_pos (by omega)]
  have e2:Px.bI c=1+c:=by unfold Px.bI;rw[if_pos (by omega)]
  have HN:Hid (t.num z (Px.aE c)=t):=hnum e1;have HE:Hid (Px.bI c=1+c/\Px.aE c=0):=⟨e2,e1⟩;clear e1 e2 hnum;go_enter Tryz.func107,Tryz.ntmps107;go_wp2;go_ret;have e:=HE.out;exact ⟨0,ah (by rw[e.1];omega),⟨by rw[e.2];decide,fun _=>by rw[e.2];rfl⟩,by rw[HN.out];exact h,Fr.refl _ _⟩
 ·have e1:Px.aE c=c / 2 - 1:=by unfold Px.aE;rw[if_neg (by omega)]
  have e2:Px.bI c=1+(2+c % 2)*2^(c / 2 - 1):=by unfold Px.bI;rw[if_neg (by omega)]
  have hE5:c / 2 - 1<=13:=by omega
  obtain ⟨E,hE⟩:∃ E,E=c / 2 - 1:=⟨_,rfl⟩;have hEi:(c:Int) / 2 - 1=(E:Int):=by omega
  rw[<- hE] at e1 e2 hE5;rw[e1,e2];have F:Hid (Calls Tryz.prog 59 #[.pointer (some ⟨b,0,none⟩),.int .i64 ((c:Int) / 2 - 1)] w fun r w'=>∃ x:Nat,r = .returned (.int .i64 (x:Int))/\x<2^E/\(t.a+E<=8*z.length->x=Px.ab z t.a E)/\BAt w' b v (t.num z E)/\Fr1 b w w'):=by
   rw[hEi];exact oa b v z t E w h hz hv hg ha (by omega) hc
  have hp:2^E<=8192:=by have:=Nat.pow_le_pow_right (n:=2) (by omega) hE5;simpa using this
  have HEi:Hid ((c:Int) / 2 - 1=(E:Int)):=hEi;clear e1 e2 hnum hE hEi;go_enter Tryz.func107,Tryz.ntmps107;go_wp2_with fail;refine F.out.mono ?_;rintro r w1 ⟨x,rfl,hx,hx2,hb1,hw1⟩;have hx32:x<8192:=by omega
  have hE0:(0:Int)<=(c:Int) / 2 - 1:=by omega
  go_wp2;go_ret;refine ⟨x,ah ?_,⟨hx,hx2⟩,hb1,hw1⟩;have hq:c / 2 - 1=E:=by have:=HEi.out;omega
  rw[hq];have hM:(2+c % 2)*2^E<=3*8192:=Nat.mul_le_mul (by omega) hp;have hMi:(2+(c:Int) % 2)*2^E=(((2+c % 2)*2^E:Nat):Int):=by simp
  generalize (2+c % 2)*2^E=M at *;rw[hMi,bB (M:Int) (by omega) (by omega),bB (1+(M:Int)) (by omega) (by omega),bB _ (by omega) (by omega)];omega
end Go.Proofs.YtgooinallljbpaaGreatDoor
namespace Px
abbrev clS (s:St) (nl nd:Nat) (sl out:List Nat):St:={ s with ph := .clen nl nd sl out }
def pU (z:List One) (a0:Nat) (s:St) (nl nd:Nat) (sl:List Nat) (a:Nat) (out:List Nat):Prop:=
 (out.length<nl+nd/\Run z a0 (clS s nl nd sl []) a (clS s nl nd sl out))\/(out.length=nl+nd/\Ends z a0 (clS s nl nd sl []) a (s.lens nl nd sl out) s.out)
theorem pU.of_ends {z:List One} {a0:Nat} {s:St} {nl nd:Nat} {sl:List Nat} {a:Nat} {out:List Nat} (h:Ends z a0 (clS s nl nd sl []) a (s.lens nl nd sl out) s.out) (hn:out.length<=nl+nd):pU z a0 s nl nd sl a out:=by
 by_cases e:out.length=nl+nd
 ·exact Or.inr ⟨e,h⟩
 ·have hlt:out.length<nl+nd:=by omega
  refine Or.inl ⟨hlt,?_⟩;have hq:s.lens nl nd sl out = .ok (clS s nl nd sl out) false:=by unfold St.lens;rw[if_pos hlt];rfl
  rw[hq] at h;exact h.ok
theorem pU.lit {z:List One} {a0:Nat} {s:St} {nl nd:Nat} {sl:List Nat} {a:Nat} {out:List Nat} {c n:Nat} (h:Run z a0 (clS s nl nd sl []) a (clS s nl nd sl out)) (hl:out.length<nl+nd) (hg:bK z a sl c n) (hc:c<16):pU z a0 s nl nd sl (a+n) (out++[c]):=by
 refine pU.of_ends ⟨a,_,h,rfl,Or.inr ⟨sl,c,n,rfl,hg,rfl,?_⟩⟩ (by simp;omega);show (if c<16 then _ else _)=_
 rw[if_pos hc];rfl
theorem vO {z:List One} {a:Nat} {s:St} {nl nd:Nat} {sl out:List Nat} {c n:Nat} (hg:bK z a sl c n) (hc:16<=c) (h0:¬ (c=16/\out=[])):Step z a (clS s nl nd sl out) (a+n) { s with ph := .rep nl nd sl out c }:=by
 refine Step.sym (k:=false) (s:=clS s nl nd sl out) (l:=sl) (c:=c) (n:=n) rfl hg ?_;show (if c<16 then _ else if c=16/\out=[] then _ else _)=_
 rw[if_neg (by omega),if_neg h0];rfl
def vP (c v:Nat):Nat:=if c=18 then v+11 else v+3
def GH (c:Nat) (out:List Nat):Nat:=if c=16 then out.getD (out.length - 1) 0 else 0
theorem pU.rep {z:List One} {a0:Nat} {s:St} {nl nd:Nat} {sl:List Nat} {a:Nat} {out:List Nat} {c:Nat} (h:Run z a0 (clS s nl nd sl []) a { s with ph := .rep nl nd sl out c }) (hb:a+cF c<=8*z.length) (hk:out.length+vP c (ab z a (cF c))<=nl+nd) :
  pU z a0 s nl nd sl (a+cF c) (out++List.replicate (vP c (ab z a (cF c))) (GH c out)):=by
 refine pU.of_ends ⟨a,_,h,rfl,Or.inl ⟨cF c,rfl,rfl,hb,?_⟩⟩ (by simp;exact hk);show (if nl+nd<out.length+vP c _ then _ else _)=_
 rw[if_neg (by omega)];rfl
theorem xY {z:List One} {a:Nat} {s:St} {nl nd:Nat} {sl out:List Nat} {c:Nat} (hb:a+cF c<=8*z.length) (hk:nl+nd<out.length+vP c (ab z a (cF c))):Fails z a { s with ph := .rep nl nd sl out c } 12 (a+cF c):=by
 refine Fails.num rfl hb ?_;show (if nl+nd<out.length+vP c _ then _ else _)=_
 rw[if_pos hk]
theorem EH {z:List One} {a:Nat} {s:St} {nl nd:Nat} {sl:List Nat} {n:Nat} (hg:bK z a sl 16 n):Fails z a (clS s nl nd sl []) 12 (a+n):=by
 refine Fails.sym rfl hg ?_;simp [cZ]
end Px
