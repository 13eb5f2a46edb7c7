import Derived.Test.YtgooinallljbpaaGreatDoorTd26
import Derived.Test.YtgooinallljbpaaGreatDoorTd02
import Derived.Test.YtgooinallljbpaaGreatDoorTd18
import Derived.Deep.OwnRows
import Derived.Deep.CutBlock
import Derived.Deep.LoopGhost
import Derived.Deep.RegionHeld3
import Derived.Test.YtgooinallljbpaaGreatDoorTd19
import Derived.Handy
set_option maxRecDepth 100000
set_option maxHeartbeats 6400000
namespace Go.Proofs.YtgooinallljbpaaGreatDoor
open Go.RowKit Px
set_option linter.unusedSimpArgs false
set_option linter.unusedVariables false
theorem Ir (b:Nat) (f:Fl) (e a:Nat) (pv cv zv iv:Value) (k d:ByteArray) (w:World) (h:ar w b f e a pv cv zv iv) (hk:k.size=4) (hd:d.size<=1048576) (h1:ty k=aY->d.size=13) (h3:ty k=bZ->f.hd.K≠3->d.size % 2=0/\f.hd.D<=16) :
  Calls Tryz.prog 101 #[.pointer (some ⟨b,0,none⟩),.string k,.string d] w fun r w'=>∃ pv' cv',r = .returned (.int .i64 ((f.ends (ty k) (af d)).2:Int))/\ar w' b (f.ends (ty k) (af d)).1 e a pv' cv' zv iv/\Below b w w':=by
 have t1:=xI k hk;have t2:=CY k hk;have t3:=CX k hk;have t5:=CZ k hk;by_cases e1:ty k=aY
 ·rw[decide_eq_true e1] at t1
  refine (EP b f e a pv cv zv iv k d w h t1 (h1 e1)).mono ?_;rintro r w' ⟨rfl,hf,hw⟩;have hq:f.ends (ty k) (af d)=if (aB (gb d)).1≠0 then (f,(aB (gb d)).1) else ({ f with on:=true,hd:=(aB (gb d)).2 },0):=by
   unfold Fl.ends;rw[if_pos e1];rfl
  by_cases hz:(aB (gb d)).1≠0
  ·rw[if_pos hz] at hq hf;rw[hq];exact ⟨_,_,rfl,hf,hw⟩
  ·rw[if_neg hz] at hq hf;rw[hq];refine ⟨_,_,?_,hf,hw⟩;rw[show (aB (gb d)).1=0 from by omega]
 ·rw[decide_eq_false e1] at t1
  by_cases e2:ty k=cq
  ·rw[decide_eq_true e2] at t2
   have hq:f.ends (ty k) (af d)=({ f with hasPal:=true,pal:=af d },0):=by
    unfold Fl.ends;rw[if_neg e1,if_pos e2]
   rw[hq];refine (EL b f e a pv cv zv iv k d w h hd t1 t2).mono ?_;rintro r w' ⟨pv',rfl,hf,hw⟩;exact ⟨_,_,rfl,hf,hw⟩
  ·rw[decide_eq_false e2] at t2
   by_cases e3:ty k=bZ
   ·rw[decide_eq_true e3] at t3
    have hq:f.ends (ty k) (af d)=if f.hd.K≠3/\cU f.hd.D (af d)=true then (f,9) else ({ f with hasClear:=true,clear:=af d },0):=by
     unfold Fl.ends;rw[if_neg e1,if_neg e2,if_pos e3]
    by_cases hK:f.hd.K=3
    ·rw[if_neg (fun h=>h.1 hK)] at hq
     rw[hq];refine (Cp b f e a pv cv zv iv k d w h hd hK t1 t2 t3).mono ?_;rintro r w' ⟨cv',rfl,hf,hw⟩;exact ⟨_,_,rfl,hf,hw⟩
    ·refine (Co b f e a pv cv zv iv k d w h hd (h3 e3 hK).1 hK (h3 e3 hK).2 t1 t2 t3).mono ?_
     rintro r w' (⟨rfl,hb,rfl⟩ | ⟨cv',rfl,hb,hf,hw⟩)
     ·rw[if_pos ⟨hK,hb⟩] at hq;rw[hq];exact ⟨_,_,rfl,h,Below.refl _ _⟩
     ·rw[if_neg (by rw[hb];simp)] at hq;rw[hq];exact ⟨_,_,rfl,hf,hw⟩
   ·rw[decide_eq_false e3] at t3
    by_cases e5:ty k=cS
    ·rw[decide_eq_true e5] at t5
     have hq:f.ends (ty k) (af d)=({ f with done:=true },0):=by unfold Fl.ends;rw[if_neg e1,if_neg e2,if_neg e3,if_pos e5]
     rw[hq];refine (ER b f e a pv cv zv iv k d w h t1 t2 t3 t5).mono ?_;rintro r w' ⟨rfl,hf,hw⟩;exact ⟨_,_,rfl,hf,hw⟩
    ·rw[decide_eq_false e5] at t5
     have hq:f.ends (ty k) (af d)=(f,0):=by unfold Fl.ends;rw[if_neg e1,if_neg e2,if_neg e3,if_neg e5]
     rw[hq];refine (ET b k d w t1 t2 t3 t5).mono ?_;rintro r w' ⟨rfl,rfl⟩;exact ⟨_,_,rfl,h,Below.refl _ _⟩
theorem Kf:(Tryz.prog.info? 146).map (fun i=>(i.zero,i.size,i.bytes))=some (some (.agg #[.int .i64 0,.int .i64 0,.int .i64 0,.int .i64 0,.int .i64 0]),5,40):=by kernel_rfl
theorem NF (x n d:Nat) (hx:x<=16) (hn:n<=4) (hd:d<=16):x*n<=64/\x*n*d<=1024:=⟨Nat.mul_le_mul hx hn,Nat.mul_le_mul (Nat.mul_le_mul hx hn) hd⟩
def kT (h:Hd):List (Nat × Nat)->Nat->List Value
 | [],_=>[]
 | x::rs,a=>[.int .i64 (x.1:Int),.int .i64 (x.2:Int),.int .i64 (a:Int),.int .i64 (bY h x.1:Int),.int .i64 (aL h x.1:Int)]++kT h rs (a+(1+aL h x.1))
theorem xa (h:Hd) (x:Nat × Nat):∀ (rs:List (Nat × Nat)) (a:Nat),kT h (rs++[x]) a=kT h rs a++[.int .i64 (x.1:Int),.int .i64 (x.2:Int),.int .i64 ((a+aH h rs:Nat):Int),.int .i64 (bY h x.1:Int),.int .i64 (aL h x.1:Int)]
 | [],a=>by simp [kT,aH]
 | y::rs,a=>by
  rw[List.cons_append,kT,kT,xa h x rs,aH,List.append_assoc];rw[show a+(1+aL h y.1)+aH h rs=a+(1+aL h y.1+aH h rs) by omega]
theorem vM (h:Hd):∀ (n p:Nat),az h (n+1) p=az h n p++(if 0<bY h (p+n) then fC h (p+n) 0 else [])
 | 0,p=>by simp [az]
 | n+1,p=>by
  rw[az,vM h n (p+1)]
  conv=>rhs;rw[az]
  rw[List.append_assoc,show p+1+n=p+(n+1) by omega]
def qI (p n:Nat):List (Nat × Nat):=(List.range' 0 n).map fun j=>(p,j)
theorem Ed (p n:Nat):qI p (n+1)=qI p n++[(p,n)]:=by
 unfold qI;rw[List.range'_concat];simp
structure vj (h:Hd) (w1:World) (B:Nat) (v:Value) (n:Nat) (rs:List (Nat × Nat)) (Wd:World):Prop where
 own:Wd.ownsRow (B+1) 146 5 v rs.length (kT h rs 0)
 tot:n=aH h rs
 big:n<=200*rs.length
 below:Below (B+1) w1 Wd
theorem vj.drewN {h:Hd} {w1:World} {B:Nat} {v:Value} {n:Nat} {rs:List (Nat × Nat)} {Wd:World} (k:vj h w1 B v n rs Wd) (q:Nat):vj h w1 B v n rs (Wd.drewN q) :=
 ⟨k.own,k.tot,k.big,below_drewN k.below q⟩
theorem vj.re {h:Hd} {w1:World} {B:Nat} {v:Value} {n:Nat} {rs rs':List (Nat × Nat)} {Wd:World} (k:vj h w1 B v n rs Wd) (e:rs=rs'):vj h w1 B v n rs' Wd:=e ▸ k
theorem GC (h:Hd) (w:World) (hW:h.W<=16) (hH:h.H<=16) (hD:h.D<=16) (hL:h.L<=1) (hK:kindOk h.K) :
  Calls Tryz.prog 70 #[.int .i64 (h.W:Int),.int .i64 (h.H:Int),.int .i64 (h.K:Int),.int .i64 (h.D:Int),.int .i64 (h.L:Int)] w fun r w'=>
   (∃ v,r = .returned (.tuple #[v,.int .i64 (aH h (az h (aF h.L) 0):Int)])/\w'.ownsRow w.heap.size 146 5 v (az h (aF h.L) 0).length (kT h (az h (aF h.L) 0) 0))/\Kept w w':=by
 obtain ⟨i0,hi,hz0,hz1,hz2⟩:=info_parts Kf;have HCL:Hid (∀ q,bY h q=bz (aK h.L q).cf (aK h.L q).cs h.W/\fL h q=bz (aK h.L q).rf (aK h.L q).rs h.H):=fun q=>⟨rfl,rfl⟩
 have HSZ:Hid (∀ q,aL h q=(bY h q*(uH h.K*h.D)+7) / 8):=fun q=>by rw[zQ hK];rfl
 go_enter Tryz.func70,Tryz.ntmps70;go_wp2_with fail;refine (vT h.L _ hL).mono ?_;rintro r w1 ⟨rfl,hps,hk1⟩;have hB:w.heap.size<w1.heap.size:=hps.lt;have hcb:=wD h.L;obtain ⟨NP,hNP⟩:∃ NP,NP=aF h.L:=⟨_,rfl⟩;rw[<- hNP] at hcb ⊢;have HNP:Hid (NP=aF h.L):=hNP;clear hNP;go_wp2;go_loopw [12,13,15] (fun v a p Wd=>∃ (n q:Nat),a = .int .i64 (n:Int)/\p = .int .i64 (q:Int)/\q<=NP/\(az h q 0).length<=16*q/\vj h w1 w.heap.size v n (az h q 0) Wd) (fun _ _ p _=>NP - (intOf p).toNat)
 case atStart=>exact ⟨0,0,rfl,rfl,by omega,by show 0<=_;omega,⟨World.ownsRow_nil _ _ _ _,rfl,by show 0<=_;omega,Below.refl _ _⟩⟩
 case round=>
  obtain ⟨n,q,rfl,rfl,hq,hk16,R⟩:=hrel;by_cases hlt:q<NP
  ·have tw:=LK h.L q (by rw[<- HNP.out];exact hlt)
   have cc:∀ j,j<6->wr.cell? ⟨w.heap.size,q*6+j,none⟩=some (.int .i64 (pv h.L q j:Int)):=fun j hj=>(R.below.cell (p:=⟨w.heap.size,q*6+j,none⟩) (by show w.heap.size<w.heap.size+1;omega)).trans (hps.cell q j (by rw[<- HNP.out];exact hlt) hj)
   have x0:=cc 0 (by omega);rw[Nat.add_zero] at x0;have x1:=cc 1 (by omega);have x2:=cc 2 (by omega);have x3:=cc 3 (by omega);have FX:Hid (∀ Wd,Calls Tryz.prog 111 #[.int .i64 (h.W:Int),.int .i64 (pv h.L q 0:Int),.int .i64 (pv h.L q 2:Int)] Wd fun r w'=>r = .returned (.int .i64 (bY h q:Int))/\w'=Wd):=fun Wd=>Aj h.W (aK h.L q).cf (aK h.L q).cs Wd hW tw.2.2.1 tw.1
   have FY:Hid (∀ Wd,Calls Tryz.prog 111 #[.int .i64 (h.H:Int),.int .i64 (pv h.L q 1:Int),.int .i64 (pv h.L q 3:Int)] Wd fun r w'=>r = .returned (.int .i64 (fL h q:Int))/\w'=Wd):=fun Wd=>Aj h.H (aK h.L q).rf (aK h.L q).rs Wd hH tw.2.2.2 tw.2.1
   have hX:bY h q<=16:=fT (fj _ _).2.1 hW;have hY:fL h q<=16:=fT (fj _ _).2.2.2.2.2.1 hH;have HSq:=HSZ.out q;have HRS:Hid (az h (q+1) 0=az h q 0++(if 0<bY h q then qI q (fL h q) else [])):=by
    have:=vM h q 0
    rw[Nat.zero_add] at this;exact this
   have hlt':(q:Int)<(NP:Int):=by omega
   obtain ⟨X,hXe⟩:∃ X,X=bY h q:=⟨_,rfl⟩;obtain ⟨Y,hYe⟩:∃ Y,Y=fL h q:=⟨_,rfl⟩;rw[<- hXe] at hX FX HRS HSq;rw[<- hYe] at hY FY HRS;have HXe:Hid (X=bY h q):=hXe;have HYe:Hid (Y=fL h q):=hYe;generalize pv h.L q 0=P0 at *;generalize pv h.L q 1=P1 at *;generalize pv h.L q 2=P2 at *;generalize pv h.L q 3=P3 at *;clear cc tw hXe hYe;go_wp2;go_quiet ((go_at_call 111;exact Calls.quiet_of_same (FX.out _)))
   have R2:vj h w1 w.heap.size _ n (az h q 0) (wr.drewN nq):=R.drewN nq;have y1:(wr.drewN nq).cell? ⟨w.heap.size,q*6+1,none⟩=some (.int .i64 (P1:Int)):=x1;have y3:(wr.drewN nq).cell? ⟨w.heap.size,q*6+3,none⟩=some (.int .i64 (P3:Int)):=x3;generalize wr.drewN nq=wr2 at *;clear x0 x1 x2 x3 R;go_wp2;go_quiet ((go_at_call 111;exact Calls.quiet_of_same (FY.out _)))
   have R3:vj h w1 w.heap.size _ n (az h q 0) (wr2.drewN nq):=R2.drewN nq;generalize wr2.drewN nq=wr3 at *;clear y1 y3 R2;have hS:=Da h.K;have Fd:Hid (∀ Wd,Calls Tryz.prog 80 #[.int .i64 (h.K:Int)] Wd fun r w'=>r = .returned (.int .i64 (uH h.K:Int))/\w'=Wd):=fun Wd=>lG h.K Wd
   obtain ⟨S,hSe⟩:∃ S,S=uH h.K:=⟨_,rfl⟩;rw[<- hSe] at hS Fd HSq;replace hSe:Hid _:=hSe;have hm:=NF X S h.D hX hS hD;obtain ⟨XS,hXS⟩:∃ XS,XS=X*S:=⟨_,rfl⟩;obtain ⟨XD,hXD⟩:∃ XD,XD=XS*h.D:=⟨_,rfl⟩;have m1:(X:Int)*(S:Int)=(XS:Int):=by rw[hXS,Int.natCast_mul]
   have m2:(XS:Int)*(h.D:Int)=(XD:Int):=by rw[hXD,Int.natCast_mul]
   rw[<- hXS,<- hXD] at hm;have HSB:Hid (aL h q=(XD+7) / 8):=by show aL h q=_;rw[HSq,<- Nat.mul_assoc,<- hXS,<- hXD]
   replace hXS:Hid _:=hXS;replace hXD:Hid _:=hXD;have hm1:=hm.1;have hm2:=hm.2;clear hm HSq;go_wp2_with (go_at_call 80;refine (Fd.out _).mono ?_;rintro r w' ⟨rfl,rfl⟩)
   obtain ⟨BB,hBB,hB128⟩:∃ BB:Nat,((XD:Int)+7) / 8=(BB:Int)/\BB<=128:=⟨(XD+7) / 8,by omega,by omega⟩;rw[hBB];have HBB:Hid (aL h q=BB):=by show aL h q=BB;rw[HSB.out];omega
   clear hBB;go_loopw [12,13,20] (fun v a j Wd=>∃ (n2 q2:Nat),a = .int .i64 (n2:Int)/\j = .int .i64 (q2:Int)/\q2<=Y/\(0<q2->0<X)/\vj h w1 w.heap.size v n2 (az h q 0++qI q q2) Wd) (fun _ _ j _=>Y - (intOf j).toNat)
   case atStart=>exact ⟨n,0,rfl,rfl,by omega,by omega,by show vj h w1 w.heap.size _ n (az h q 0++[]) _;rw[List.append_nil];exact R3⟩
   case round=>
    clear R3;obtain ⟨n2,q2,rfl,rfl,hq2,hqX,R⟩:=hrel;have hn2:=R.big;have hlen:(az h q 0++qI q q2).length=(az h q 0).length+q2:=by simp [qI]
    by_cases h2:q2<Y
    ·by_cases hX0:0<X
     ·have hX0':(0:Int)<(X:Int):=by omega
      have h2':(q2:Int)<(Y:Int):=by omega
      have hbel:=R.below;have hown:=R.own;have htot:=R.tot;have hsz:=hbel.size;have HSN:Hid (kT h ((az h q 0++qI q q2)++[(q,q2)]) 0=kT h (az h q 0++qI q q2) 0++[.int .i64 (q:Int),.int .i64 (q2:Int),.int .i64 (n2:Int),.int .i64 (X:Int),.int .i64 (BB:Int)]):=by
       show _=_
       rw[xa,Nat.zero_add,<- htot,<- HXe.out,HBB.out]
      have HTT:Hid (aH h ((az h q 0++qI q q2)++[(q,q2)])=n2+1+BB):=by
       show _=_
       rw[pN,<- htot];show n2+(1+aL h q+0)=_
       rw[HBB.out];omega
      have HPN:Hid (az h q 0++qI q (q2+1)=(az h q 0++qI q q2)++[(q,q2)]):=by
       show _=_
       rw[Ed,List.append_assoc]
      have hL2:(az h q 0++qI q q2).length<=200:=by omega
      generalize az h q 0++qI q q2=RS at *;have HTOT:Hid (n2=aH h RS):=htot;clear htot R;go_wp2_with (at_builtin;refine wpList_append_own _ rfl _ _ 102 rfl (w.heap.size+1) 146 i0 (.agg #[.int .i64 0,.int .i64 0,.int .i64 0,.int .i64 0,.int .i64 0]) 5 40 Tryz.underlying102 hi hz0 hz1 hz2 rfl (by decide) _ _ _ rfl (hown.alloc _) ⟨wr.heap.size,0,none⟩ 1 1 [.int .i64 (q:Int),.int .i64 (q2:Int),.int .i64 (n2:Int),.int .i64 (X:Int),.int .i64 (BB:Int)] rfl rfl ?c1 ?c2 ?c3 ?c4 ?c5 ?_)
      case c1=>
       intro j u hj
       match j,hj with
       | 0,hj=>simp at hj;subst hj;simp [Addr.add]
       | 1,hj=>simp at hj;subst hj;simp [Addr.add]
       | 2,hj=>simp at hj;subst hj;simp [Addr.add]
       | 3,hj=>simp at hj;subst hj;simp [Addr.add]
       | 4,hj=>simp at hj;subst hj;simp [Addr.add]
       | j+5,hj=>simp at hj
      case c2=>intro u hu;simp at hu;rcases hu with rfl | rfl | rfl | rfl | rfl<;>rfl
      case c3=>unfold maxLen;omega
      case c4=>omega
      case c5=>simp;omega
      intro v' w2 hown' hgrow hnil;have R':vj h w1 w.heap.size v' (n2+1+BB) (az h q 0++qI q (q2+1)) w2:=by
       rw[HPN.out];refine ⟨?_,HTT.out.symm,?_,(hbel.alloc (by omega) _).grown hgrow (by simp;omega) (fun j hj=>(hown.lt j hj).1)⟩
       ·rw[HSN.out,List.length_append,hlen];exact hown'
       ·rw[List.length_append];simp;omega
      clear hnil hgrow hown hbel hown';go_wp2;exact ⟨⟨n2+1+BB,q2+1,by go_num,by go_num,by omega,fun _=>hX0,R'⟩,by simp [intOf];omega⟩
     ·have hX0':¬ (0:Int)<(X:Int):=by omega
      have h2':(q2:Int)<(Y:Int):=by omega
      have hq0:q2=0:=by
       by_cases e:q2=0
       ·exact e
       ·exact absurd (hqX (by omega)) hX0
      have e:az h q 0++qI q q2=az h (q+1) 0:=by
       have e2:=HRS.out;rw[if_neg hX0] at e2;rw[e2,hq0];rfl
      have hl2:(az h (q+1) 0).length<=16*(q+1):=by rw[<- e];omega
      have RF:=R.re e;replace RF:Hid _:=RF;replace hl2:Hid _:=hl2;clear e;clear R;go_wp2;exact ⟨⟨n2,q+1,rfl,by go_num,by omega,hl2.out,RF.out⟩,by simp [intOf];omega⟩
    ·have h2':¬ (q2:Int)<(Y:Int):=by omega
     have hqY:q2=Y:=by omega
     have e:az h q 0++qI q q2=az h (q+1) 0:=by
      have e2:=HRS.out;by_cases hX0:0<X
      ·rw[if_pos hX0,<- hqY] at e2
       exact e2.symm
      ·have hq0:q2=0:=by
        by_cases e:q2=0
        ·exact e
        ·exact absurd (hqX (by omega)) hX0
       rw[if_neg hX0] at e2;rw[e2,hq0];rfl
     have hl2:(az h (q+1) 0).length<=16*(q+1):=by rw[<- e];omega
     have RF:=R.re e;replace RF:Hid _:=RF;replace hl2:Hid _:=hl2;clear e;clear R;go_wp2;exact ⟨⟨n2,q+1,rfl,by go_num,by omega,hl2.out,RF.out⟩,by simp [intOf];omega⟩
  ·have hqn:q=NP:=by omega
   go_wp2;go_ret2;have hN:q=aF h.L:=by rw[hqn];exact HNP.out
   clear hqn hlt;subst hN;have ht:=R.tot;subst ht;obtain ⟨h1,h2⟩:=R.own;refine ⟨⟨_,rfl,⟨h1,?_⟩⟩,?_⟩
   ·rcases h2 with h2 | ⟨g,cap,cur,hv,hg,r⟩
    ·exact Or.inl h2
    ·exact Or.inr ⟨g,cap,cur,hv,by omega,r⟩
   ·exact Below.trans hk1 (R.below.mono (by omega))
theorem wJ (n:Int) (w:World) (h1 : -100000<=n) (h2:n<=100000) :
  Calls Tryz.prog 134 #[.int .i64 n] w fun r w'=>r = .returned (.int .i64 (n.natAbs:Int))/\w'=w:=by
 by_cases h:n<0
 ·go_enter Tryz.func134,Tryz.ntmps134
  go_wp2;go_ret;exact ⟨ah (by omega),rfl⟩
 ·go_enter Tryz.func134,Tryz.ntmps134
  go_wp2;go_ret;exact ⟨ah (by omega),rfl⟩
theorem BN (a b c:Nat) (w:World) (ha:a<256) (hb:b<256) (hc:c<256) :
  Calls Tryz.prog 112 #[.int .i64 (a:Int),.int .i64 (b:Int),.int .i64 (c:Int)] w fun r w'=>r = .returned (.int .i64 (near a b c:Int))/\w'=w:=by
 obtain ⟨DA,hA⟩:∃ D,D=dst b c:=⟨_,rfl⟩;obtain ⟨DB,hB⟩:∃ D,D=dst a c:=⟨_,rfl⟩;obtain ⟨DC,hC⟩:∃ D,D=dst (a+b) (2*c):=⟨_,rfl⟩;have HN:Hid (near a b c=if DA<=DB/\DA<=DC then a else if DB<=DC then b else c):=by show near a b c=_;unfold near;rw[hA,hB,hC]
 obtain ⟨N,hN⟩:∃ N,N=near a b c:=⟨_,rfl⟩;rw[<- hN] at HN ⊢;obtain ⟨P,hP⟩:∃ P:Int,P=(a:Int)+(b:Int) - (c:Int):=⟨_,rfl⟩;have F1:Hid (∀ W,Calls Tryz.prog 134 #[.int .i64 (P - (a:Int))] W fun r w'=>r = .returned (.int .i64 (DA:Int))/\w'=W):=fun W=>by
  have:=wJ (P - (a:Int)) W (by omega) (by omega)
  have e:(((P - (a:Int)).natAbs:Nat):Int)=(DA:Int):=by rw[hA];unfold dst;split<;>omega
  rw[e] at this;exact this
 have F2:Hid (∀ W,Calls Tryz.prog 134 #[.int .i64 (P - (b:Int))] W fun r w'=>r = .returned (.int .i64 (DB:Int))/\w'=W):=fun W=>by
  have:=wJ (P - (b:Int)) W (by omega) (by omega)
  have e:(((P - (b:Int)).natAbs:Nat):Int)=(DB:Int):=by rw[hB];unfold dst;split<;>omega
  rw[e] at this;exact this
 have F3:Hid (∀ W,Calls Tryz.prog 134 #[.int .i64 (P - (c:Int))] W fun r w'=>r = .returned (.int .i64 (DC:Int))/\w'=W):=fun W=>by
  have:=wJ (P - (c:Int)) W (by omega) (by omega)
  have e:(((P - (c:Int)).natAbs:Nat):Int)=(DC:Int):=by rw[hC];unfold dst;split<;>omega
  rw[e] at this;exact this
 have hP1 : -1000<=P:=by omega
 have hP2:P<=1000:=by omega
 have eP:(a:Int)+(b:Int) - (c:Int)=P:=hP.symm;clear hN hA hB hC hP;go_enter Tryz.func112,Tryz.ntmps112;go_wp2_with fail;refine (F1.out _).mono ?_;rintro r w1 ⟨rfl,hw⟩;subst w1;go_wp2_with fail;refine (F2.out _).mono ?_;rintro r w1 ⟨rfl,hw⟩;subst w1;go_wp2_with fail;refine (F3.out _).mono ?_;rintro r w1 ⟨rfl,hw⟩;subst w1;clear F1 F2 F3 eP hP1 hP2;have H2:=HN.out;by_cases c1:DA<=DB
 ·have c1':(DA:Int)<=(DB:Int):=by omega
  by_cases c2:DA<=DC
  ·have c2':(DA:Int)<=(DC:Int):=by omega
   rw[if_pos ⟨c1,c2⟩] at H2;subst H2;clear c1 c2 HN;go_wp2;go_ret;exact ⟨rfl,rfl⟩
  ·have c2':¬ (DA:Int)<=(DC:Int):=by omega
   rw[if_neg (fun q=>c2 q.2)] at H2;by_cases c3:DB<=DC
   ·exfalso;omega
   ·have c3':¬ (DB:Int)<=(DC:Int):=by omega
    rw[if_neg c3] at H2;subst H2;clear c1 c2 c3 HN;go_wp2;go_ret;exact ⟨rfl,rfl⟩
 ·have c1':¬ (DA:Int)<=(DB:Int):=by omega
  rw[if_neg (fun q=>c1 q.1)] at H2;by_cases c3:DB<=DC
  ·have c3':(DB:Int)<=(DC:Int):=by omega
   rw[if_pos c3] at H2;subst H2;clear c1 c3 HN;go_wp2;go_ret;exact ⟨rfl,rfl⟩
  ·have c3':¬ (DB:Int)<=(DC:Int):=by omega
   rw[if_neg c3] at H2;subst H2;clear c1 c3 HN;go_wp2;go_ret;exact ⟨rfl,rfl⟩
structure fI (w:World) (g n:Nat) (x:Nat->Nat):Prop where
 cell:∀ j,j<n->w.cell? ⟨g,j,none⟩=some (.int .i64 (x j:Int))
 lt:∀ j,j<n->x j<256
theorem Ey (t gx gu n cx cu i st:Nat) (x up:Nat->Nat) (w:World) (hx:fI w gx n x) (hu:fI w gu n up) (hi:i<n) (hs:1<=st) (hs2:st<=100) (hn:n<=100000) (ht:t<=4) :
  Calls Tryz.prog 72 #[.int .i64 (t:Int),.slice (some ⟨gx,0,none⟩) n cx,.slice (some ⟨gu,0,none⟩) n cu,.int .i64 (i:Int),.int .i64 (st:Int)] w fun r w'=>r = .returned (.int .i64 (gss t (if st<=i then x (i - st) else 0) (up i) (if st<=i then up (i - st) else 0):Int))/\w'=w:=by
 obtain ⟨A,hA⟩:∃ A,A=(if st<=i then x (i - st) else 0):=⟨_,rfl⟩;obtain ⟨C,hC⟩:∃ C,C=(if st<=i then up (i - st) else 0):=⟨_,rfl⟩;obtain ⟨B,hB⟩:∃ B,B=up i:=⟨_,rfl⟩;rw[<- hA,<- hC,<- hB];have kb:w.cell? ⟨gu,i,none⟩=some (.int .i64 (B:Int)):=by rw[hB];exact hu.cell i hi
 have bb:B<256:=by rw[hB];exact hu.lt i hi
 have ba:A<256:=by rw[hA];split;exact hx.lt _ (by omega);omega
 have bc:C<256:=by rw[hC];split;exact hu.lt _ (by omega);omega
 have FP:Hid (∀ W,Calls Tryz.prog 112 #[.int .i64 (A:Int),.int .i64 (B:Int),.int .i64 (C:Int)] W fun r w'=>r = .returned (.int .i64 (near A B C:Int))/\w'=W):=fun W=>BN A B C W ba bb bc
 have HG:Hid (gss t A B C=if t=1 then A else if t=2 then B else if t=3 then (A+B) / 2 else if t=4 then near A B C else 0):=rfl;generalize near A B C=N at *;obtain ⟨G,hG⟩:∃ G,G=gss t A B C:=⟨_,rfl⟩;rw[<- hG] at HG ⊢;have i0:(0:Int)<=(i:Int):=by omega
 have i1:(i:Int)<(n:Int):=by omega
 by_cases c:st<=i
 ·have c':(st:Int)<=(i:Int):=by omega
  rw[if_pos c] at hA hC;have ka:w.cell? ⟨gx,i - st,none⟩=some (.int .i64 (A:Int)):=by rw[hA];exact hx.cell _ (by omega)
  have kc:w.cell? ⟨gu,i - st,none⟩=some (.int .i64 (C:Int)):=by rw[hC];exact hu.cell _ (by omega)
  obtain ⟨J,hJ⟩:∃ J,J=i - st:=⟨_,rfl⟩;rw[<- hJ] at ka kc;have eJ:(i:Int) - (st:Int)=(J:Int):=by omega
  have j0:(0:Int)<=(J:Int):=by omega
  have j1:(J:Int)<(n:Int):=by omega
  clear hA hB hC hG hx hu c hJ;have h5:t=0\/t=1\/t=2\/t=3\/t=4:=by omega
  have HG2:=HG.out;clear HG;rcases h5 with rfl | rfl | rfl | rfl | rfl
  ·rw[if_neg (by decide),if_neg (by decide),if_neg (by decide),if_neg (by decide)] at HG2
   subst HG2;go_enter Tryz.func72,Tryz.ntmps72;go_wp2;go_ret;exact ⟨rfl,rfl⟩
  ·rw[if_pos rfl] at HG2
   subst HG2;go_enter Tryz.func72,Tryz.ntmps72;go_wp2;go_ret;exact ⟨rfl,rfl⟩
  ·rw[if_neg (by decide),if_pos rfl] at HG2
   subst HG2;go_enter Tryz.func72,Tryz.ntmps72;go_wp2;go_ret;exact ⟨rfl,rfl⟩
  ·rw[if_neg (by decide),if_neg (by decide),if_pos rfl] at HG2
   go_enter Tryz.func72,Tryz.ntmps72;go_wp2;go_ret;exact ⟨ah (by omega),rfl⟩
  ·rw[if_neg (by decide),if_neg (by decide),if_neg (by decide),if_pos rfl] at HG2
   subst HG2;go_enter Tryz.func72,Tryz.ntmps72;go_wp2_with fail;refine (FP.out _).mono ?_;rintro r w1 ⟨rfl,hw⟩;subst w1;go_wp2;go_ret;exact ⟨rfl,rfl⟩
 ·have c':¬ (st:Int)<=(i:Int):=by omega
  rw[if_neg c] at hA hC;subst hA;subst hC;clear hB hG hx hu c;have h5:t=0\/t=1\/t=2\/t=3\/t=4:=by omega
  have HG2:=HG.out;clear HG;rcases h5 with rfl | rfl | rfl | rfl | rfl
  ·rw[if_neg (by decide),if_neg (by decide),if_neg (by decide),if_neg (by decide)] at HG2
   subst HG2;go_enter Tryz.func72,Tryz.ntmps72;go_wp2;go_ret;exact ⟨rfl,rfl⟩
  ·rw[if_pos rfl] at HG2
   subst HG2;go_enter Tryz.func72,Tryz.ntmps72;go_wp2;go_ret;exact ⟨rfl,rfl⟩
  ·rw[if_neg (by decide),if_pos rfl] at HG2
   subst HG2;go_enter Tryz.func72,Tryz.ntmps72;go_wp2;go_ret;exact ⟨rfl,rfl⟩
  ·rw[if_neg (by decide),if_neg (by decide),if_pos rfl] at HG2
   go_enter Tryz.func72,Tryz.ntmps72;go_wp2;go_ret;exact ⟨ah (by omega),rfl⟩
  ·rw[if_neg (by decide),if_neg (by decide),if_neg (by decide),if_pos rfl] at HG2
   subst HG2;go_enter Tryz.func72,Tryz.ntmps72;go_wp2_with fail;refine (FP.out _).mono ?_;rintro r w1 ⟨rfl,hw⟩;subst w1;go_wp2;go_ret;exact ⟨rfl,rfl⟩
theorem BH (g n c k D:Nat) (x:Nat->Nat) (w:World) (hx:fI w g n x) (hD:okD D) (hk:(k+1)*D<=8*n) (hn:n<=100000) :
  Calls Tryz.prog 73 #[.slice (some ⟨g,0,none⟩) n c,.int .i64 (k:Int),.int .i64 (D:Int)] w fun r w'=>r = .returned (.int .i64 (qE D x k:Int))/\Kept w w':=by
 rw[Nat.add_mul,Nat.one_mul] at hk;by_cases h16:D=16
 ·subst h16
  have e1:qE 16 x k=256*x (2*k)+x (2*k+1):=by
   unfold qE;rw[if_neg (by decide),show k*16 / 8=2*k by omega]
  have k1:=hx.cell (2*k) (by omega);have k2:=hx.cell (2*k+1) (by omega);have b1:=hx.lt (2*k) (by omega);have b2:=hx.lt (2*k+1) (by omega);rw[e1];generalize x (2*k)=X1 at *;generalize x (2*k+1)=X2 at *;obtain ⟨J,hJ⟩:∃ J,J=2*k:=⟨_,rfl⟩;obtain ⟨J2,hJ2⟩:∃ J2,J2=J+1:=⟨_,rfl⟩;rw[<- hJ] at k1 k2;rw[<- hJ2] at k2;have q1:(2:Int)*(k:Int)=(J:Int):=by omega
  have q2:(J:Int)+1=(J2:Int):=by omega
  have j0:(0:Int)<=(J:Int):=by omega
  have j1:(J:Int)<(n:Int):=by omega
  have j2:(0:Int)<=(J2:Int):=by omega
  have j3:(J2:Int)<(n:Int):=by omega
  clear hx e1 hJ hJ2;go_enter Tryz.func73,Tryz.ntmps73;go_wp2_with fail;go_quiet (fail);go_wp2;go_ret;exact ⟨ah (by omega),(Kept.refl _).drewN _⟩
 ·have hD8:D=1\/D=2\/D=4\/D=8:=by unfold okD at hD;omega
  have h16':((D:Int) == 16)=false:=by rw[beq_eq_false_iff_ne];omega
  have hlt16:D<16:=by omega
  have e1:qE D x k=rh (x (k*D / 8)) (k*D % 8) D:=by unfold qE;rw[if_pos hlt16]
  rw[e1];obtain ⟨KD,hKD⟩:∃ KD,KD=k*D:=⟨_,rfl⟩;rw[<- hKD] at hk ⊢;have hKn:KD<=800000:=by omega
  have k1:=hx.cell (KD / 8) (by omega);have b1:=hx.lt (KD / 8) (by omega);generalize x (KD / 8)=X1 at *;have hfit:KD % 8+D<=8:=by rcases hD8 with rfl | rfl | rfl | rfl<;>omega
  obtain ⟨J,hJ⟩:∃ J,J=KD / 8:=⟨_,rfl⟩;rw[<- hJ] at k1;obtain ⟨M,hM⟩:∃ M,M=KD % 8:=⟨_,rfl⟩;rw[<- hM] at hfit ⊢;have q0:(k:Int)*(D:Int)=(KD:Int):=by rw[hKD,Int.natCast_mul]
  have q1:(KD:Int) / 8=(J:Int):=by omega
  have q2:(KD:Int) % 8=(M:Int):=by omega
  have j0:(0:Int)<=(J:Int):=by omega
  have j1:(J:Int)<(n:Int):=by omega
  obtain ⟨S,hS⟩:∃ S,S=8 - M - D:=⟨_,rfl⟩;have HB:Hid (rh X1 M D=X1 / 2^S % 2^D):=by show rh X1 M D=_;unfold rh;rw[hS]
  generalize rh X1 M D=BO at *;have q3:(8:Int) - (D:Int) - (M:Int)=(S:Int):=by omega
  have hS7:S<=7:=by omega
  clear hx e1 hJ hM hS hKD;have d8:D<=8:=by omega
  have d1:1<=D:=by omega
  have hpp:2^D<=2^8:=Nat.pow_le_pow_right (by omega) d8;have hp1:1<=2^D:=Nat.one_le_two_pow;obtain ⟨PD,hPD⟩:∃ PD,PD=2^D:=⟨_,rfl⟩;have p2:(2:Int)^D=(PD:Int):=by rw[hPD];simp
  have hp3:1<=PD:=by rw[hPD];exact hp1
  have hp4:PD<=256:=by rw[hPD];exact hpp
  have p5:((PD:Int) == 0)=false:=by rw[beq_eq_false_iff_ne];omega
  replace hPD:Hid (PD=2^D):=hPD;clear hD8 hlt16 h16 hD hk hfit hpp hp1;go_enter Tryz.func73,Tryz.ntmps73;go_wp2;go_ret;refine ⟨ah ?_,(Kept.refl _)⟩;have e0:(X1:Int) / 2^S=((X1 / 2^S:Nat):Int):=by simp
  rw[e0,Int.tmod_eq_emod_of_nonneg (Int.natCast_nonneg _),HB.out,<- hPD.out];exact (Int.natCast_emod _ _).symm
theorem If:(Tryz.prog.info? 30).map (fun i=>(i.zero,i.size,i.bytes))=some (some (.slice none 0 0),1,24):=by kernel_rfl
theorem vN (h:Hd):∀ (rs:List (Nat × Nat)) (a k p n:Nat),rs[k]? = some (p,n)->(kT h rs a)[k*5]? = some (.int .i64 (p:Int))/\(kT h rs a)[k*5+1]? = some (.int .i64 (n:Int))/\(kT h rs a)[k*5+2]? = some (.int .i64 ((a+aH h (rs.take k):Nat):Int))/\(kT h rs a)[k*5+3]? = some (.int .i64 (bY h p:Int))/\(kT h rs a)[k*5+4]? = some (.int .i64 (aL h p:Int))
 | [],a,k,p,n,e=>by simp at e
 | x::rs,a,0,p,n,e=>by
  simp at e;subst e;exact ⟨rfl,rfl,by simp [kT,aH],rfl,rfl⟩
 | x::rs,a,k+1,p,n,e=>by
  have ih:=vN h rs (a+(1+aL h x.1)) k p n (by simpa using e);have e0:(k+1)*5=k*5+5:=by omega
  have et:aH h ((x::rs).take (k+1))=1+aL h x.1+aH h (rs.take k):=by rw[List.take_succ_cons,aH]
  have sh:∀ j,(kT h (x::rs) a)[k*5+5+j]? = (kT h rs (a+(1+aL h x.1)))[k*5+j]? := fun j=>by
   rw[kT,List.getElem?_append_right (by simp;omega)]
   congr 1
   simp;omega
  rw[e0,et];have s0:=sh 0;rw[Nat.add_zero,Nat.add_zero] at s0;rw[s0,sh 1,sh 2,sh 3,sh 4];refine ⟨ih.1,ih.2.1,?_,ih.2.2.2.1,ih.2.2.2.2⟩;rw[ih.2.2.1]
  congr 3
  omega
structure Ln where
 g:Nat
 n:Nat
 x:Nat->Nat
def lnV (a:Ln):Value := .slice (some ⟨a.g,0,none⟩) a.n a.n
structure gF (w3 W:World) (mb:Nat) (lv fv:Value) (ls:List Ln):Prop where
 c3:W.cell? ⟨mb,3,none⟩=some lv
 c4:W.cell? ⟨mb,4,none⟩=some fv
 c5:W.cell? ⟨mb,5,none⟩=some (.int .i64 0)
 c6:W.cell? ⟨mb,6,none⟩=some (.int .i64 0)
 c02:∀ j,j<3->W.cell? ⟨mb,j,none⟩=w3.cell? ⟨mb,j,none⟩
 fz:∀ j,W.frozen? ⟨mb,j,none⟩=false
 fr:Fr1 mb w3 W
 lt:mb<w3.heap.size
 own:W.ownsRow w3.heap.size 30 1 lv ls.length (ls.map lnV)
 fil:∃ fs,W.ownsRow w3.heap.size 3 1 fv ls.length fs
 ln:∀ a ∈ ls,fI W a.g a.n a.x/\w3.heap.size<=a.g/\a.g<W.heap.size/\lv.ownBlock≠some a.g/\fv.ownBlock≠some a.g
 dis:∀ g,lv.ownBlock=some g->fv.ownBlock≠some g
theorem fI.same {w w':World} {g n:Nat} {x:Nat->Nat} (h:fI w g n x) (e:w'.heap[g]? = w.heap[g]?):fI w' g n x:=⟨fun j hj=>(World.cell?_of_block (w:=w) e).trans (h.cell j hj),h.lt⟩
theorem fI.kept {w w':World} {g n:Nat} {x:Nat->Nat} (h:fI w g n x) (hn:0<n) (k:Kept w w'):fI w' g n x:=h.same (k.block g (World.block_lt_of_cell? _ _ (h.cell 0 hn)))
theorem gF.kept {w3 W W':World} {mb:Nat} {lv fv:Value} {ls:List Ln} (h:gF w3 W mb lv fv ls) (k:Kept W W'):gF w3 W' mb lv fv ls:=by
 have hm:mb<W.heap.size:=World.block_lt_of_cell? _ _ h.c3;obtain ⟨fs,hfs⟩:=h.fil;have c:∀ j,W'.cell? ⟨mb,j,none⟩=W.cell? ⟨mb,j,none⟩:=fun j=>k.cell (p:=⟨mb,j,none⟩) hm
 refine ⟨(c 3).trans h.c3,(c 4).trans h.c4,(c 5).trans h.c5,(c 6).trans h.c6,fun j hj=>(c j).trans (h.c02 j hj),fun j=>(k.frozen (p:=⟨mb,j,none⟩) hm).trans (h.fz j),h.fr.kept k,h.lt,cC h.own k,⟨fs,cC hfs k⟩,fun a ha => ?_,h.dis⟩;obtain ⟨a1,a2,a3,a4⟩:=h.ln a ha;exact ⟨a1.same (k.block a.g a3),a2,Nat.lt_of_lt_of_le a3 k.size,a4⟩
theorem gF.line {w3 W W':World} {mb:Nat} {lv lv' fv:Value} {ls:List Ln} {a:Ln} (h:gF w3 W mb lv fv ls) (hx:fI W a.g a.n a.x) (hx1:w3.heap.size<=a.g) (hx2:a.g<W.heap.size) (hx3:lv.ownBlock≠some a.g) (hx4:fv.ownBlock≠some a.g)
  (hg:W.grownBy W' lv.ownBlock) (hown:W'.ownsRow w3.heap.size 30 1 lv' (ls.length+1) (ls.map lnV++[lnV a])) (hn:∀ k,lv'.ownBlock=some k->lv.ownBlock=some k\/W.heap.size<=k) :
  ∃ fs,(W'.setCell ⟨mb,3,none⟩ lv').ownsRow w3.heap.size 3 1 fv ls.length fs/\(∀ g,lv'.ownBlock=some g->fv.ownBlock≠some g) /\
   (W'.setCell ⟨mb,3,none⟩ lv').ownsRow w3.heap.size 30 1 lv' (ls++[a]).length ((ls++[a]).map lnV)/\Fr1 mb w3 (W'.setCell ⟨mb,3,none⟩ lv') /\
   (∀ j,j≠3->(W'.setCell ⟨mb,3,none⟩ lv').cell? ⟨mb,j,none⟩=W.cell? ⟨mb,j,none⟩)/\(W'.setCell ⟨mb,3,none⟩ lv').cell? ⟨mb,3,none⟩=some lv'/\(∀ j,(W'.setCell ⟨mb,3,none⟩ lv').frozen? ⟨mb,j,none⟩=false) /\
   (∀ b ∈ ls++[a],fI (W'.setCell ⟨mb,3,none⟩ lv') b.g b.n b.x/\w3.heap.size<=b.g/\b.g<(W'.setCell ⟨mb,3,none⟩ lv').heap.size/\lv'.ownBlock≠some b.g/\fv.ownBlock≠some b.g):=by
 have hm:mb<W.heap.size:=World.block_lt_of_cell? _ _ h.c3;have hmo:some mb≠lv.ownBlock:=fun e=>by have:=(h.own.lt mb e.symm).1;have:=h.lt;omega
 obtain ⟨fs,hfs⟩:=h.fil;have blkm:W'.heap[mb]? = W.heap[mb]? := hg.block mb hm hmo;have c:∀ j,W'.cell? ⟨mb,j,none⟩=W.cell? ⟨mb,j,none⟩:=fun j=>World.cell?_of_block (w:=W) blkm
 have fz:∀ j,W'.frozen? ⟨mb,j,none⟩=W.frozen? ⟨mb,j,none⟩:=fun j=>World.frozen?_of_block (w:=W) blkm
 have F:Fr1 mb W' (W'.setCell ⟨mb,3,none⟩ lv'):=(Fr1.refl _ _).set _ _;have hlt:=h.lt;have own1:=aQ hown F (fun g hg e=>by have:=(hown.lt g hg).1;omega);have hfs':W'.ownsRow w3.heap.size 3 1 fv ls.length fs:=hfs.kept hg (by cases hv:fv.ownBlock;exact Or.inl rfl;exact Or.inr (fun e=>h.dis _ e.symm hv));have hfs2:=aQ hfs' F (fun g hg e=>by have:=(hfs'.lt g hg).1;omega);have hd:∀ g,lv'.ownBlock=some g->fv.ownBlock≠some g:=fun g e q=>by
  rcases hn g e with k | k
  ·exact h.dis g k q
  ·have:=(hfs.lt g q).2;omega
 refine ⟨fs,hfs2,hd,by rw[List.map_append,List.length_append];exact own1,?_,fun j hj => ?_,?_,fun j => ?_,fun b hb => ?_⟩
 ·exact Fr1.set (h.fr.grown hg (fun k hk=>Or.inr ((h.own.lt k hk).1))) _ _
 ·rw[aa _ _ _ _ _ (by omega)];exact c j
 ·exact aj ((c 3).trans h.c3) _
 ·exact (World.frozen?_setCell _ _ _ _).trans ((fz j).trans (h.fz j))
 ·have key:fI W b.g b.n b.x/\w3.heap.size<=b.g/\b.g<W.heap.size/\lv.ownBlock≠some b.g/\fv.ownBlock≠some b.g:=by
   rw[List.mem_append,List.mem_singleton] at hb;rcases hb with q | q
   ·exact h.ln b q
   ·subst q;exact ⟨hx,hx1,hx2,hx3,hx4⟩
  obtain ⟨b1,b2,b3,b4,b5⟩:=key;have e1:W'.heap[b.g]? = W.heap[b.g]? := hg.block b.g b3 (fun e=>b4 e.symm);have b3':b.g<W'.heap.size:=Nat.lt_of_lt_of_le b3 hg.size;refine ⟨(b1.same e1).same (F.block b.g b3' (by omega)),b2,by simpa [World.setCell] using b3',fun e => ?_,b5⟩;rcases hn b.g e with q | q
  ·exact b4 q
  ·omega
theorem gF.filt {w3 W W':World} {mb:Nat} {lv fv fv':Value} {ls ls':List Ln} {fs fs':List Value} (hlt:mb<w3.heap.size) (hls:ls'.length=ls.length+1)
  (hfs:W.ownsRow w3.heap.size 3 1 fv ls.length fs) (dis:∀ g,lv.ownBlock=some g->fv.ownBlock≠some g) (hlo:W.ownsRow w3.heap.size 30 1 lv ls'.length (ls'.map lnV)) (fr:Fr1 mb w3 W)
  (c3:W.cell? ⟨mb,3,none⟩=some lv) (c4:W.cell? ⟨mb,4,none⟩=some fv) (c5:W.cell? ⟨mb,5,none⟩=some (.int .i64 0)) (c6:W.cell? ⟨mb,6,none⟩=some (.int .i64 0)) (c02:∀ j,j<3->W.cell? ⟨mb,j,none⟩=w3.cell? ⟨mb,j,none⟩) (fz:∀ j,W.frozen? ⟨mb,j,none⟩=false)
  (ln:∀ b ∈ ls',fI W b.g b.n b.x/\w3.heap.size<=b.g/\b.g<W.heap.size/\lv.ownBlock≠some b.g/\fv.ownBlock≠some b.g)
  (hg:W.grownBy W' fv.ownBlock) (hown:W'.ownsRow w3.heap.size 3 1 fv' (ls.length+1) fs') (hn:∀ k,fv'.ownBlock=some k->fv.ownBlock=some k\/W.heap.size<=k) :
  gF w3 (W'.setCell ⟨mb,4,none⟩ fv') mb lv fv' ls':=by
 have hm:mb<W.heap.size:=World.block_lt_of_cell? _ _ c3;have hmo:some mb≠fv.ownBlock:=fun e=>by have:=(hfs.lt mb e.symm).1;omega
 have blkm:W'.heap[mb]? = W.heap[mb]? := hg.block mb hm hmo;have c:∀ j,W'.cell? ⟨mb,j,none⟩=W.cell? ⟨mb,j,none⟩:=fun j=>World.cell?_of_block (w:=W) blkm
 have fz':∀ j,W'.frozen? ⟨mb,j,none⟩=W.frozen? ⟨mb,j,none⟩:=fun j=>World.frozen?_of_block (w:=W) blkm
 have F:Fr1 mb W' (W'.setCell ⟨mb,4,none⟩ fv'):=(Fr1.refl _ _).set _ _;have o:∀ j,j≠4->(W'.setCell ⟨mb,4,none⟩ fv').cell? ⟨mb,j,none⟩=W.cell? ⟨mb,j,none⟩:=fun j hj=>by rw[aa _ _ _ _ _ (by omega)];exact c j
 have own1:=aQ hown F (fun g hg e=>by have:=(hown.lt g hg).1;omega);have hlo':W'.ownsRow w3.heap.size 30 1 lv ls'.length (ls'.map lnV):=hlo.kept hg (by cases hv:lv.ownBlock;exact Or.inl rfl;exact Or.inr (fun e=>dis _ hv e.symm));have hlo2:=aQ hlo' F (fun g hg e=>by have:=(hlo'.lt g hg).1;omega);refine ⟨(o 3 (by omega)).trans c3,aj ((c 4).trans c4) _,(o 5 (by omega)).trans c5,(o 6 (by omega)).trans c6,fun j hj=>(o j (by omega)).trans (c02 j hj),fun j=>(World.frozen?_setCell _ _ _ _).trans ((fz' j).trans (fz j)),Fr1.set (fr.grown hg (fun k hk=>Or.inr ((hfs.lt k hk).1))) _ _,hlt,hlo2,⟨fs',by rw[hls];exact own1⟩,fun b hb => ?_,fun g e q => ?_⟩
 ·obtain ⟨b1,b2,b3,b4,b5⟩:=ln b hb
  have e1:W'.heap[b.g]? = W.heap[b.g]? := hg.block b.g b3 (fun e=>b5 e.symm);have b3':b.g<W'.heap.size:=Nat.lt_of_lt_of_le b3 hg.size;refine ⟨(b1.same e1).same (F.block b.g b3' (by omega)),b2,by simpa [World.setCell] using b3',b4,fun e => ?_⟩;rcases hn b.g e with q | q
  ·exact b5 q
  ·omega
 ·rcases hn g q with k | k
  ·exact dis g e k
  ·have:=(hlo.lt g e).2;omega
def ImR.app (l:List (Nat->Nat)):ImR->ImR
 | .inl (ls,e,p) => .bad (l++ls) e p
 | .inr (.inl ls) => .part (l++ls)
 | .inr (.inr ls) => .full (l++ls)
theorem ImR.app_nil (q:ImR):q.app []=q:=by cases q using ImR.cs<;>rfl
theorem ImR.app_cons (l:List (Nat->Nat)) (x:Nat->Nat) (q:ImR):(q.cons x).app l=q.app (l++[x]):=by
 cases q using ImR.cs<;>simp [ImR.app,ImR.cons]
def ImR.lines:ImR->List (Nat->Nat)
 | .inl (ls,_,_)=>ls
 | .inr (.inl ls)=>ls
 | .inr (.inr ls)=>ls
def ofE (im:ImR) (dn sm:Bool) (en:Nat):Nat × Nat:=
 match im with
 | .inl (_,e,p)=>(e,p)
 | .inr (.inl _)=>if (dn && sm)=true then (18,en) else (0,0)
 | .inr (.inr _)=>(0,0)
theorem sD (h:Hd):∀ (n p:Nat),az h n p=[]\/∃ q m,q+m+1=p+n/\0<bY h q/\0<fL h q/\az h n p=fC h q 0++az h m (q+1)
 | 0,p=>Or.inl rfl
 | n+1,p=>by
  rw[az];by_cases c:0<bY h p/\0<fL h p
  ·right
   exact ⟨p,n,by omega,c.1,c.2,by rw[if_pos c.1]⟩
  ·have e:(if 0<bY h p then fC h p 0 else [])=[]:=by
    by_cases d:0<bY h p
    ·rw[if_pos d]
     unfold fC;rw[show fL h p - 0=0 by omega];rfl
    ·rw[if_neg d]
   rw[e,List.nil_append];rcases sD h n (p+1) with q | ⟨q,m,h1,h2⟩
   ·exact Or.inl q
   ·exact Or.inr ⟨q,m,by omega,h2⟩
def DU (h:Hd) (rs:List (Nat × Nat)) (prev:Nat):Prop:=rs=[]\/∃ p k n,p+n+1=aF h.L/\k<fL h p/\0<bY h p/\rs=fC h p k++az h n (p+1)/\(0<k->prev=aL h p)
theorem zW (h:Hd):DU h (az h (aF h.L) 0) 0:=by
 rcases sD h (aF h.L) 0 with q | ⟨q,m,h1,h2,h3,h4⟩
 ·exact Or.inl q
 ·exact Or.inr ⟨q,0,m,by omega,h3,h2,h4,fun k=>absurd k (by omega)⟩
theorem vL {h:Hd} {rs:List (Nat × Nat)} {p k prev:Nat} (hp:DU h ((p,k)::rs) prev):DU h rs (aL h p)/\p<aF h.L/\0<bY h p/\k<fL h p/\(0<k->prev=aL h p):=by
 rcases hp with q | ⟨p',k',n,h1,h2,h3,h4,h5⟩
 ·cases q
 ·have e:fC h p' k'=(p',k')::fC h p' (k'+1):=by
   unfold fC;rw[show fL h p' - k'=fL h p' - (k'+1)+1 by omega,List.range'_succ];rfl
  rw[e,List.cons_append] at h4
  injection h4 with e1 e2
  injection e1 with e3 e4
  subst e3;subst e4;refine ⟨?_,by omega,h3,h2,h5⟩;by_cases c:k+1<fL h p
  ·exact Or.inr ⟨p,k+1,n,h1,c,h3,e2,fun _=>rfl⟩
  ·have e0:fC h p (k+1)=[]:=by
    unfold fC;rw[show fL h p - (k+1)=0 by omega];rfl
   rw[e0,List.nil_append] at e2;rw[e2];rcases sD h n (p+1) with q | ⟨q,m,g1,g2,g3,g4⟩
   ·exact Or.inl q
   ·exact Or.inr ⟨q,0,m,by omega,g3,g2,g4,fun k=>absurd k (by omega)⟩
structure mJ (w3 W:World) (mb er at':Nat) (ls:List Ln):Prop where
 c3:∃ lv,W.cell? ⟨mb,3,none⟩=some lv/\W.ownsRow w3.heap.size 30 1 lv ls.length (ls.map lnV)
 c5:W.cell? ⟨mb,5,none⟩=some (.int .i64 (er:Int))
 c6:W.cell? ⟨mb,6,none⟩=some (.int .i64 (at':Int))
 c02:∀ j,j<3->W.cell? ⟨mb,j,none⟩=w3.cell? ⟨mb,j,none⟩
 fz:∀ j,W.frozen? ⟨mb,j,none⟩=false
 fr:Fr1 mb w3 W
 lt:mb<w3.heap.size
 ln:∀ a ∈ ls,fI W a.g a.n a.x/\w3.heap.size<=a.g/\a.g<W.heap.size
theorem gF.fin {w3 W:World} {mb:Nat} {lv fv:Value} {ls:List Ln} (h:gF w3 W mb lv fv ls):mJ w3 W mb 0 0 ls:=
 ⟨⟨lv,h.c3,h.own⟩,h.c5,h.c6,h.c02,h.fz,h.fr,h.lt,fun a ha=>⟨(h.ln a ha).1,(h.ln a ha).2.1,(h.ln a ha).2.2.1⟩⟩
theorem mJ.set5 {w3 W:World} {mb er at':Nat} {ls:List Ln} (h:mJ w3 W mb er at' ls) (e:Nat):mJ w3 (W.setCell ⟨mb,5,none⟩ (.int .i64 (e:Int))) mb e at' ls:=by
 have F:Fr1 mb W (W.setCell ⟨mb,5,none⟩ (.int .i64 (e:Int))):=(Fr1.refl _ _).set _ _;obtain ⟨lv,h1,h2⟩:=h.c3;have hlt:=h.lt;have o:∀ j,j≠5->(W.setCell ⟨mb,5,none⟩ (.int .i64 (e:Int))).cell? ⟨mb,j,none⟩=W.cell? ⟨mb,j,none⟩:=fun j hj=>aa _ _ _ _ _ (by omega)
 refine ⟨⟨lv,(o 3 (by omega)).trans h1,aQ h2 F (fun g hg q=>by have:=(h2.lt g hg).1;omega)⟩,aj h.c5 _,(o 6 (by omega)).trans h.c6,fun j hj=>(o j (by omega)).trans (h.c02 j hj),fun j=>(World.frozen?_setCell _ _ _ _).trans (h.fz j),Fr1.set h.fr _ _,h.lt,fun a ha => ?_⟩;obtain ⟨a1,a2,a3⟩:=h.ln a ha;exact ⟨a1.same (F.block a.g a3 (by omega)),a2,by simpa [World.setCell] using a3⟩
theorem mJ.set6 {w3 W:World} {mb er at':Nat} {ls:List Ln} (h:mJ w3 W mb er at' ls) (e:Nat):mJ w3 (W.setCell ⟨mb,6,none⟩ (.int .i64 (e:Int))) mb er e ls:=by
 have F:Fr1 mb W (W.setCell ⟨mb,6,none⟩ (.int .i64 (e:Int))):=(Fr1.refl _ _).set _ _;obtain ⟨lv,h1,h2⟩:=h.c3;have hlt:=h.lt;have o:∀ j,j≠6->(W.setCell ⟨mb,6,none⟩ (.int .i64 (e:Int))).cell? ⟨mb,j,none⟩=W.cell? ⟨mb,j,none⟩:=fun j hj=>aa _ _ _ _ _ (by omega)
 refine ⟨⟨lv,(o 3 (by omega)).trans h1,aQ h2 F (fun g hg q=>by have:=(h2.lt g hg).1;omega)⟩,(o 5 (by omega)).trans h.c5,aj h.c6 _,fun j hj=>(o j (by omega)).trans (h.c02 j hj),fun j=>(World.frozen?_setCell _ _ _ _).trans (h.fz j),Fr1.set h.fr _ _,h.lt,fun a ha => ?_⟩;obtain ⟨a1,a2,a3⟩:=h.ln a ha;exact ⟨a1.same (F.block a.g a3 (by omega)),a2,by simpa [World.setCell] using a3⟩
theorem mJ.kept {w3 W W':World} {mb er at':Nat} {ls:List Ln} (h:mJ w3 W mb er at' ls) (k:Kept W W'):mJ w3 W' mb er at' ls:=by
 obtain ⟨lv,h1,h2⟩:=h.c3;have hm:mb<W.heap.size:=World.block_lt_of_cell? _ _ h1;have c:∀ j,W'.cell? ⟨mb,j,none⟩=W.cell? ⟨mb,j,none⟩:=fun j=>k.cell (p:=⟨mb,j,none⟩) hm
 refine ⟨⟨lv,(c 3).trans h1,cC h2 k⟩,(c 5).trans h.c5,(c 6).trans h.c6,fun j hj=>(c j).trans (h.c02 j hj),fun j=>(k.frozen (p:=⟨mb,j,none⟩) hm).trans (h.fz j),h.fr.kept k,h.lt,fun a ha => ?_⟩;obtain ⟨a1,a2,a3⟩:=h.ln a ha;exact ⟨a1.same (k.block a.g a3),a2,Nat.lt_of_lt_of_le a3 k.size⟩
def Jg (h:Hd) (rows:List (Nat × Nat)) (ls:List Ln):Prop:=∀ (j:Nat) (a:Ln),ls[j]? = some a->∃ p n,rows[j]? = some (p,n)/\a.n=aL h p
structure OfL (h:Hd) (C:Nat) (out:List One) (rows:List (Nat × Nat)) (w3 W:World) (mb k:Nat) (lv fv:Value) (ls:List Ln) (pre rs:List (Nat × Nat)) (prev:Nat) (up:Nat->Nat):Prop where
 img:gF w3 W mb lv fv ls
 split:rows=pre++rs
 len:pre.length=k
 lenl:ls.length=k
 pos:DU h rs prev
 last:prev≠0->∃ a,ls[k - 1]? = some a/\0<k/\a.n=prev/\a.x=up
 eq:aN h C rows (fun _=>0) out=(aN h C rs up (out.drop (aH h pre))).app (ls.map Ln.x)
 sz:Jg h rows ls
structure OfZ (h:Hd) (C:Nat) (out:List One) (rows:List (Nat × Nat)) (w3 W:World) (mb:Nat) (ls:List Ln) (im:ImR):Prop where
 img:mJ w3 W mb 0 0 ls
 eq:aN h C rows (fun _=>0) out=im
 lines:ls.map Ln.x=im.lines
 sz:Jg h rows ls
 kind:(∃ l,im = .part l/\out.length<aH h rows)\/(∃ l,im = .full l/\out.length=aH h rows)\/(∃ l,im = .bad l 17 (pAt out (aH h rows))/\aH h rows<out.length)
theorem ve {A:Type} {l:List A} {n:Nat} (h:l.length<=n):l.drop n=[]:=List.drop_eq_nil_iff.2 h
theorem ga (l:List One) (n:Nat) (h:n<l.length):l.drop n=(vAt l n,pAt l n)::l.drop (n+1):=by
 rw[List.drop_eq_getElem_cons h]
 congr 1
 unfold vAt pAt;rw[List.getD_eq_getElem?_getD,List.getElem?_eq_getElem h];rfl
theorem OfL.stop {h:Hd} {C:Nat} {out:List One} {rows:List (Nat × Nat)} {w3 W:World} {mb k:Nat} {lv fv:Value} {ls:List Ln} {pre:List (Nat × Nat)} {prev:Nat} {up:Nat->Nat} (s:OfL h C out rows w3 W mb k lv fv ls pre [] prev up):∃ im,OfZ h C out rows w3 W mb ls im:=by
 have e:rows=pre:=by rw[s.split,List.append_nil]
 have q:=s.eq;by_cases c:out.length<=aH h pre
 ·rw[ve c,aN] at q
  by_cases d:out.length=aH h pre
  ·exact ⟨_,s.img.fin,q,by simp [ImR.app,ImR.lines],s.sz,Or.inr (Or.inl ⟨_,rfl,by rw[e];exact d⟩)⟩
  ·
   exfalso
   have il:=Ar h C pre (fun _=>0) out;rw[e] at q;rw[q] at il;rcases il with ⟨l,e1,e2⟩ | ⟨l,e1,e2⟩ | ⟨l,x,y,e1⟩
   ·simp [ImR.app] at e1
   ·omega
   ·simp [ImR.app] at e1
 ·rw[ga out _ (by omega),aN] at q
  refine ⟨_,s.img.fin,q,by simp [ImR.app,ImR.lines],s.sz,Or.inr (Or.inr ⟨ls.map Ln.x++[],?_,by rw[e];omega⟩)⟩;rw[e];rfl
theorem OfL.cut {h:Hd} {C:Nat} {out:List One} {rows:List (Nat × Nat)} {w3 W:World} {mb k p n:Nat} {lv fv:Value} {ls:List Ln} {pre rs:List (Nat × Nat)} {prev:Nat} {up:Nat->Nat} (s:OfL h C out rows w3 W mb k lv fv ls pre ((p,n)::rs) prev up) (W':World) (im:mJ w3 W' mb 0 0 ls)
  (hc:out.length<=aH h pre\/(aH h pre<out.length/\vAt out (aH h pre)<=4/\out.length<=aH h pre+aL h p)):∃ im,OfZ h C out rows w3 W' mb ls im:=by
 have q:=s.eq;have e:aH h rows=aH h pre+(1+aL h p+aH h rs):=by rw[s.split,pN,aH]
 rcases hc with c | ⟨c1,c2,c3⟩
 ·rw[ve c,aN] at q
  exact ⟨_,im,q,by simp [ImR.app,ImR.lines],s.sz,Or.inl ⟨_,rfl,by omega⟩⟩
 ·rw[ga out _ c1,aN,if_neg (by show ¬ 4<vAt out (aH h pre);omega),if_pos (by simp;omega)] at q
  exact ⟨_,im,q,by simp [ImR.app,ImR.lines],s.sz,Or.inl ⟨_,rfl,by omega⟩⟩
structure sf (w:World) (fb:Nat) (h:Hd) (palN:Nat):Prop where
 c1:w.cell? ⟨fb,1,none⟩=some (.int .i64 (h.W:Int))
 c2:w.cell? ⟨fb,2,none⟩=some (.int .i64 (h.H:Int))
 c3:w.cell? ⟨fb,3,none⟩=some (.int .i64 (h.D:Int))
 c4:w.cell? ⟨fb,4,none⟩=some (.int .i64 (h.K:Int))
 c5:w.cell? ⟨fb,5,none⟩=some (.int .i64 (h.L:Int))
 c8:∃ a c,w.cell? ⟨fb,8,none⟩=some (.slice a palN c)
theorem sf.lt {w:World} {fb palN:Nat} {h:Hd} (k:sf w fb h palN):fb<w.heap.size:=World.block_lt_of_cell? _ _ k.c1
theorem sf.same {w w':World} {fb palN:Nat} {h:Hd} (k:sf w fb h palN) (q:w'.heap[fb]? = w.heap[fb]?):sf w' fb h palN:=by
 have hc:∀ j,w'.cell? ⟨fb,j,none⟩=w.cell? ⟨fb,j,none⟩:=fun j=>World.cell?_of_block (w:=w) q
 obtain ⟨a,c,h8⟩:=k.c8;exact ⟨(hc 1).trans k.c1,(hc 2).trans k.c2,(hc 3).trans k.c3,(hc 4).trans k.c4,(hc 5).trans k.c5,a,c,(hc 8).trans h8⟩
theorem sf.kept {w w':World} {fb palN:Nat} {h:Hd} (k:sf w fb h palN) (q:Kept w w'):sf w' fb h palN:=k.same (q.block fb k.lt)
structure wT (w:World) (sb:Nat) (ov:Value) (out:List One) (dn sm:Bool) (en:Nat):Prop where
 c0:w.cell? ⟨sb,0,none⟩=some ov
 c3:w.cell? ⟨sb,3,none⟩=some (.bool dn)
 c4:w.cell? ⟨sb,4,none⟩=some (.bool sm)
 c7:w.cell? ⟨sb,7,none⟩=some (.int .i64 (en:Int))
 z:ZAt w ov out
theorem wT.lt {w:World} {sb en:Nat} {ov:Value} {out:List One} {dn sm:Bool} (k:wT w sb ov out dn sm en):sb<w.heap.size:=World.block_lt_of_cell? _ _ k.c0
theorem wT.kept {w w':World} {sb en:Nat} {ov:Value} {out:List One} {dn sm:Bool} (k:wT w sb ov out dn sm en) (q:Kept w w'):wT w' sb ov out dn sm en:=by
 have hc:∀ j,w'.cell? ⟨sb,j,none⟩=w.cell? ⟨sb,j,none⟩:=fun j=>q.cell (p:=⟨sb,j,none⟩) k.lt
 exact ⟨(hc 0).trans k.c0,(hc 3).trans k.c3,(hc 4).trans k.c4,(hc 7).trans k.c7,k.z.fr (S:=fun _=>False) (Fr.of_kept q) (fun _ _ e=>e)⟩
theorem D7 (h:Hd) (hH:h.H<=16):∀ n p,n<=7->(az h n p).length<=200:=by
 have key:∀ n p,(az h n p).length<=16*n:=by
  intro n
  induction n with
  | zero=>intro p;exact Nat.le_refl _
  | succ n ih=>
   intro p;rw[az,List.length_append]
   have:=ih (p+1)
   have hl:fL h p<=16:=fT (fj _ _).2.2.2.2.2.1 hH
   have:(if 0<bY h p then fC h p 0 else []).length<=16:=by
    split
    ·simp [fC];omega
    ·exact Nat.zero_le _
   omega
 intro n p hn
 have:=key n p
 omega
theorem zJ (h:Hd) (hW:h.W<=16) (hD:h.D<=16):∀ rs:List (Nat × Nat),aH h rs<=200*rs.length
 | []=>Nat.le_refl _
 | x::l=>by
  have ih:=zJ h hW hD l;have hc:bY h x.1<=16:=fT (fj _ _).2.1 hW;have h1:bY h x.1*bG h<=16*64:=Nat.mul_le_mul hc (Nat.mul_le_mul (ob _) hD)
  have:aL h x.1<=130:=by unfold aL;omega
  rw[aH,List.length_cons];omega
structure OfP (h:Hd) (C:Nat) (w w':World) (fb mb:Nat) (out:List One) (dn sm:Bool) (en:Nat) (ls:List Ln) (im:ImR):Prop where
 iq:aN h C (az h (aF h.L) 0) (fun _=>0) out=im
 lines:ls.map Ln.x=im.lines
 sz:Jg h (az h (aF h.L) 0) ls
 fin:∃ w3 g rv,mJ w3 w' mb (ofE im dn sm en).1 (ofE im dn sm en).2 ls/\w'.cell? ⟨mb,0,none⟩=some (.pointer (some ⟨fb,0,none⟩))/\w'.cell? ⟨mb,1,none⟩=some (.slice (some ⟨g,0,none⟩) (aF h.L) (aF h.L))/\qe w' g h.L/\w.heap.size<=g/\w'.cell? ⟨mb,2,none⟩=some rv/\w'.ownsRow w.heap.size 146 5 rv (az h (aF h.L) 0).length (kT h (az h (aF h.L) 0) 0)
 lo:w.heap.size<=mb
 kept:Kept w w'
def fJ (n:Nat):Code->Option Code
 | .block k b=>if k=n then some (.block k b) else fJ n b
 | .seq a b=>match fJ n a with
  | some c=>some c
  | none=>fJ n b
 | .loop b=>fJ n b
 | .cond _ a b=>match fJ n a with
  | some c=>some c
  | none=>fJ n b
 | _=>none
theorem ax {b c:Nat} (w:World) (k j:Nat) (v:Value) (h:c≠b):(w.setCell ⟨b,k,none⟩ v).cell? ⟨c,j,none⟩=w.cell? ⟨c,j,none⟩ :=
 World.cell?_setCell_other _ _ _ _ (by intro e;apply h;injection e with e1 _ _;exact e1.symm)
theorem Nk {Q:Exit->Act->World->Prop} {u0 u2 u3 u4 u5 u6 u7 u8 rY u16 sx rX o6 o5 o4 o3 o0 oZ oY oX oW oV oU oT oS u32 oR oQ oP oO oN oM oL oK oJ oI oH oG oF oE oD oC oB oA oz oy ox ow ou ot oq oo om oj oi oh og u64 pW pV qu qt qq qp qo qn qm ql qk qj qi qh qg qf qz qy qx rK rJ rI rH rG rF rE rD rC rB rA rz ry ru rq rp fh eE eB ez ey ew ev eu ej eh ed dZ dY dX dW dV dU dT dS dR dQ dP dO dN dM dL dK dJ dI dH dG dF dE dD dC dB dA dz dy dx fy fx gB iB iA iz iy ix iw iu ir ik ij ig ie ib gZ gY gX gW gV gU gT gS gR gQ gP gO gN gM gK gJ gI kR kQ kP kO kN kM kL kK kJ kI kG kF kE kD kC kB ky kv ku kj kf ke j9 j8 j7 j6 j5 j4 jZ jY jX jW jV jU jT jS jR jQ jP jO jN jM jL jK jJ jI jH gA gy gw gv gp gm gj gi gh gg tW tV tU tT tS tR tQ tP tO tN nZ nY nX nW nV nU nT nR nQ nP nO nM nL nJ nI nH nG nF nE nD nB nA nz ny nv nu nt nr np nk nj ni nh ng nc na m9 m8 m7 mZ mY mX mW mV mU mT mS mR mQ mP mO mN:Value} (sb rb gx gu SZ FR ST t cu cx co gz:Nat) (out:List One) (up O:Nat->Nat) (w:World)
  (hs0:w.cell? ⟨sb,0,none⟩=some (.slice (some ⟨gz,0,none⟩) out.length co)) (hz:Hid (ZAt w (.slice (some ⟨gz,0,none⟩) out.length co) out)) (r2:w.cell? ⟨rb,2,none⟩=some (.int .i64 (FR:Int))) (r4:w.cell? ⟨rb,4,none⟩=some (.int .i64 (SZ:Int)))
  (hu:Hid (fI w gu SZ up)) (hx:Hid (fI w gx SZ (fun _=>0))) (hfz:∀ k,w.frozen? ⟨gx,k,none⟩=false) (n1:sb≠gx) (n2:rb≠gx) (n3:gu≠gx) (n4:gz≠gx) (hfr:FR+SZ<out.length) (b1:SZ<=1000) (b2:FR<=100000) (b3:1<=ST) (b4:ST<=8) (b5:t<=4) (b6:out.length<=4294967296)
  (hO:Hid (∀ i,i<SZ->O i=vAt out (FR+1+i)/\O i<256))
  (hQ:Hid (∀ vh vC mC mB mA mz my mx mw mv mu mr mq mo mn mm ml mj mi mh mg lZ lY lX lW lV lU lT lS lR lQ lP W',fI W' gx SZ (fV ST t up O SZ)->Fr1 gx w W'->Q .normal ⟨#[u0,.pointer (some ⟨sb,0,none⟩),u2,u3,u4,u5,u6,u7,u8,.int .i64 (ST:Int),rY,.pointer (some ⟨rb,0,none⟩),.int .i64 (t:Int),.slice (some ⟨gu,0,none⟩) SZ cu,.slice (some ⟨gx,0,none⟩) SZ cx,vh,vC,sx,rX,o6,o5,o4,o3,o0,oZ,oY,oX,oW,oV,oU,oT,oS,u32,oR,oQ,oP,oO,oN,oM,oL,oK,oJ,oI,oH,oG,oF,oE,oD,oC,oB,oA,oz,oy,ox,ow,ou,ot,oq,oo,om,oj,oi,oh,og,u64,pW,pV,qu,qt,qq,qp,qo,qn,qm,ql,qk,qj,qi,qh,qg,qf,qz,qy,qx,rK,rJ,rI,rH,rG,rF,rE,rD,rC,rB,rA,rz,ry,ru,rq,rp,fh,eE,eB,ez,ey,ew,ev,eu,ej,eh,ed,dZ,dY,dX,dW,dV,dU,dT,dS,dR,dQ,dP,dO,dN,dM,dL,dK,dJ,dI,dH,dG,dF,dE,dD,dC,dB,dA,dz,dy,dx,fy,fx,gB,mC,mB,mA,mz,my,mx,mw,mv,mu,mr,mq,mo,mn,mm,ml,mj,mi,mh,mg,lZ,lY,lX,lW,lV,lU,lT,lS,lR,lQ,lP,kR,kQ,kP,kO,kN,kM,kL,kK,kJ,kI,kG,kF,kE,kD,kC,kB,ky,kv,ku,kj,kf,ke,j9,j8,j7,j6,j5,j4,jZ,jY,jX,jW,jV,jU,jT,jS,jR,jQ,jP,jO,jN,jM,jL,jK,jJ,jI,jH,gA,gy,gw,gv,gp,gm,gj,gi,gh,gg,tW,tV,tU,tT,tS,tR,tQ,tP,tO,tN,nZ,nY,nX,nW,nV,nU,nT,nR,nQ,nP,nO,nM,nL,nJ,nI,nH,nG,nF,nE,nD,nB,nA,nz,ny,nv,nu,nt,nr,np,nk,nj,ni,nh,ng,nc,na,m9,m8,m7,mZ,mY,mX,mW,mV,mU,mT,mS,mR,mQ,mP,mO,mN],[]⟩ W')) :
  Code.wp Tryz.prog ((Tryz.f42.body.bind (fJ 2)).getD .skip) Q ⟨#[u0,.pointer (some ⟨sb,0,none⟩),u2,u3,u4,u5,u6,u7,u8,.int .i64 (ST:Int),rY,.pointer (some ⟨rb,0,none⟩),.int .i64 (t:Int),.slice (some ⟨gu,0,none⟩) SZ cu,.slice (some ⟨gx,0,none⟩) SZ cx,.int .i64 0,u16,sx,rX,o6,o5,o4,o3,o0,oZ,oY,oX,oW,oV,oU,oT,oS,u32,oR,oQ,oP,oO,oN,oM,oL,oK,oJ,oI,oH,oG,oF,oE,oD,oC,oB,oA,oz,oy,ox,ow,ou,ot,oq,oo,om,oj,oi,oh,og,u64,pW,pV,qu,qt,qq,qp,qo,qn,qm,ql,qk,qj,qi,qh,qg,qf,qz,qy,qx,rK,rJ,rI,rH,rG,rF,rE,rD,rC,rB,rA,rz,ry,ru,rq,rp,fh,eE,eB,ez,ey,ew,ev,eu,ej,eh,ed,dZ,dY,dX,dW,dV,dU,dT,dS,dR,dQ,dP,dO,dN,dM,dL,dK,dJ,dI,dH,dG,dF,dE,dD,dC,dB,dA,dz,dy,dx,fy,fx,gB,iB,iA,iz,iy,ix,iw,iu,ir,ik,ij,ig,ie,ib,gZ,gY,gX,gW,gV,gU,gT,gS,gR,gQ,gP,gO,gN,gM,gK,gJ,gI,kR,kQ,kP,kO,kN,kM,kL,kK,kJ,kI,kG,kF,kE,kD,kC,kB,ky,kv,ku,kj,kf,ke,j9,j8,j7,j6,j5,j4,jZ,jY,jX,jW,jV,jU,jT,jS,jR,jQ,jP,jO,jN,jM,jL,jK,jJ,jI,jH,gA,gy,gw,gv,gp,gm,gj,gi,gh,gg,tW,tV,tU,tT,tS,tR,tQ,tP,tO,tN,nZ,nY,nX,nW,nV,nU,nT,nR,nQ,nP,nO,nM,nL,nJ,nI,nH,nG,nF,nE,nD,nB,nA,nz,ny,nv,nu,nt,nr,np,nk,nj,ni,nh,ng,nc,na,m9,m8,m7,mZ,mY,mX,mW,mV,mU,mT,mS,mR,mQ,mP,mO,mN],[]⟩ w:=by
 conv=>arg 2;whnf
 have hgx:gx<w.heap.size\/SZ=0:=by
  by_cases c:SZ=0
  ·exact Or.inr c
  ·exact Or.inl (World.block_lt_of_cell? _ _ (hx.out.cell 0 (by omega)))
 go_wp2_with fail;go_loopg [15] SZ (fun m vh W=>∃ k:Nat,k<=SZ/\vh = .int .i64 (k:Int)/\m=SZ - k/\fI W gx SZ (fV ST t up O k)/\Fr1 gx w W/\(∀ j,W.frozen? ⟨gx,j,none⟩=false))
 case atStart=>exact ⟨0,by omega,rfl,by omega,hx.out,Fr1.refl _ _,hfz⟩
 case round=>
  obtain ⟨k,hk,rfl,hm,hl,hF,hf⟩:=hrel;have HM:Hid _:=hm;have HL:Hid _:=hl;have HF:Hid _:=hF;have hsb:sb<w.heap.size:=World.block_lt_of_cell? _ _ hs0;have hrb:rb<w.heap.size:=World.block_lt_of_cell? _ _ r2;have s0:=(hF.cell hsb n1).trans hs0;have q2:=(hF.cell hrb n2).trans r2;have q4:=(hF.cell hrb n2).trans r4;clear hs0 r2 r4 hm hl hF;by_cases c:k<SZ
  ·have hgx':gx<w.heap.size:=by omega
   have HU:Hid (fI wr gu SZ up):=by
    have:gu<w.heap.size:=World.block_lt_of_cell? _ _ (hu.out.cell 0 (by omega))
    exact hu.out.same (HF.out.block gu this n3)
   have HZ:=hz.out.fr HF.out (fun g hg e=>by injection hg with hg;simp at hg;omega);obtain ⟨g,hg,z0,z1⟩:=HZ.cells _ _ rfl (FR+1+k) (by omega)
   injection hg with hg
   injection hg with hg
   subst hg;have hOk:=hO.out k c;rw[<- hOk.1] at z0;have c0:wr.cell? ⟨gx,k,none⟩=some (.int .i64 ((fV ST t up O k k:Nat):Int)):=HL.out.cell k c;have hci:(k:Int)<(SZ:Int):=by omega
   obtain ⟨G,hG⟩:∃ G,G=gss t (if ST<=k then fV ST t up O k (k - ST) else 0) (up k) (if ST<=k then up (k - ST) else 0):=⟨_,rfl⟩;have hG256:G<256:=by
    rw[hG];refine Ik ?_ (HU.out.lt k c) ?_
    ·split
     ·exact HL.out.lt _ (by omega)
     ·omega
    ·split
     ·exact HU.out.lt _ (by omega)
     ·omega
   have FG:Hid (Calls Tryz.prog 72 #[.int .i64 (t:Int),.slice (some ⟨gx,0,none⟩) SZ cx,.slice (some ⟨gu,0,none⟩) SZ cu,.int .i64 (k:Int),.int .i64 (ST:Int)] wr fun r w'=>r = .returned (.int .i64 (G:Int))/\w'=wr):=by
    have:=Ey t gx gu SZ cx cu k ST _ up wr HL.out HU.out c b3 (by omega) (by omega) b5
    rw[<- hG] at this;exact this
   have HG:Hid _:=hG;obtain ⟨Y,hY⟩:∃ Y,Y=O k:=⟨_,rfl⟩;rw[<- hY] at z0 hOk;have hY256:=hOk.2;have HY:Hid _:=hY;obtain ⟨P,hP⟩:∃ P,P=FR+1+k:=⟨_,rfl⟩;rw[<- hP] at z0;obtain ⟨F1,hF1⟩:∃ F1,F1=FR+1:=⟨_,rfl⟩;obtain ⟨SM,hSM⟩:∃ SM,SM=Y+G:=⟨_,rfl⟩;obtain ⟨M,hM⟩:∃ M,M=SM % 256:=⟨_,rfl⟩;have w1':IntKind.i64.wrap ((FR:Int)+1)=(F1:Int):=by rw[IntKind.wrap_i64];omega
   have w2':IntKind.i64.wrap (F1:Int)=(F1:Int):=by rw[IntKind.wrap_i64];omega
   have w3':IntKind.i64.wrap ((F1:Int)+(k:Int))=(P:Int):=by rw[IntKind.wrap_i64];omega
   have w4':IntKind.i64.wrap (P:Int)=(P:Int):=by rw[IntKind.wrap_i64];omega
   have w5':IntKind.i64.wrap ((Y:Int)+(G:Int))=(SM:Int):=by rw[IntKind.wrap_i64];omega
   have w6':IntKind.i64.wrap (SM:Int)=(SM:Int):=by rw[IntKind.wrap_i64];omega
   have w7':Int.tmod (SM:Int) 256=(M:Int):=by rw[hM];rfl
   have w8':IntKind.i64.wrap (M:Int)=(M:Int):=by rw[IntKind.wrap_i64];omega
   have HSM:Hid _:=hSM;have HMM:Hid _:=hM;have hPl:(P:Int)<(out.length:Int):=by omega
   have hPn:(0:Int)<=(P:Int):=by omega
   have hkn:(0:Int)<=(k:Int):=by omega
   clear hOk hY hG z1 HZ hP hSM hM hF1;generalize fV ST t up O k k=X at c0;go_wp2_with fail;refine FG.out.mono ?_;rintro r w1 ⟨rfl,hw⟩;subst w1;go_wp2_with fail;go_region_held3 (fun W=>W.cell? ⟨sb,0,none⟩=some (.slice (some ⟨gz,0,none⟩) out.length co)/\W.cell? ⟨rb,2,none⟩=some (.int .i64 (FR:Int))/\W.cell? ⟨gz,P*2,none⟩=some (.int .i64 (Y:Int))) (first | exact ⟨s0,q2,z0⟩ | exact ⟨(ax _ _ _ _ (by omega)).trans s0,(ax _ _ _ _ (by omega)).trans q2,(ax _ _ _ _ (by omega)).trans z0⟩ | go_keep) (fail)
   go_wp2_with fail;go_roundg (SZ - (k+1))
   case measure=>have:=HM.out;omega
   refine ⟨k+1,by omega,by go_num,rfl,⟨fun j hj => ?_,fun j hj => ?_⟩,?_,fun j => ?_⟩
   ·show (World.setCell _ _ _).cell? _=_
    rw[fV];by_cases e:j=k
    ·subst e
     rw[upd_same,aj c0,HMM.out,HSM.out,HG.out,HY.out]
    ·rw[upd_ne _ _ _ e,aa _ _ _ _ _ (fun q=>e q.symm)]
     exact HL.out.cell j hj
   ·rw[fV]
    by_cases e:j=k
    ·subst e
     rw[upd_same];exact Nat.mod_lt _ (by omega)
    ·rw[upd_ne _ _ _ e];exact HL.out.lt j hj
   ·exact ((Fr1.set HF.out _ _).drewN 1)
   ·exact (World.frozen?_setCell _ _ _ _).trans (hf j)
  ·have e:k=SZ:=by omega
   subst e;go_wp2_with fail;exact hQ.out _ _ _ _ _ _ _ _ _ _ _ _ _ _ _ _ _ _ _ _ _ _ _ _ _ _ _ _ _ _ _ _ _ HL.out HF.out
